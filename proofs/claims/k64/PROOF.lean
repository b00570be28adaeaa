import PyProof.Rows.All
import Wide.All
import OpenK.AllK
import Wide.FinOn
import Lean
import PyProof.EqAt
import PyProof.EqKinds
import PyProof.TupleCall
import PyProof.Rows.SumAny
import PyProof.EnumMake
import PyProof.Draws
import PyProof.ZipIter
import KE.KNestM
import PyProof.StrBlockH
import KE.KUnpack
import KE.KxIndex
import PyProof.SetRoads
import PyProof.SetNew
import PyProof.AutoSeq1
import KE.KRevSl
import PyProof.SeqI3
import PyProof.Rows.SortWalk
import PyProof.Rows.Range3
import KE.KSortTup
import KE.KLam
import PyProof.Rows.SetFrom
import PyProof.FactsAll.list_2
import PyProof.Rows.SortStr
import PyProof.Rows.StrRules
import PyProof.StrOps
import KE.KIntText
import PyProof.CallStr
import PyProof.StrWalks
import PyProof.Rows.StrNews2
import PySem.Challenge.RW_weightrooms_k64_whole_held_against_one_a
local macro_rules|`(tactic|trivial)=>`(tactic|first|exact Or.inl rfl|exact Or.inr rfl)
local macro_rules|`(tactic|decide)=>`(tactic|decide +kernel)
set_option genSizeOf false
set_option genInjectivity false
set_option bootstrap.genMatcherCode false
noncomputable section
set_option Elab.async false
set_option linter.all false
def o_:=@PySem.wpAny_bind
def p_:=@List.length_map
def q_:=@PySem.Heap.get?_push_of_some
def r_:=@List.mem_cons_of_mem
def s_:=@Nat.le_refl
def t_:=@List.mem_cons_self
def u_:=@Bool.and_eq_true
def v_:=@List.map_cons
def w_:=@decide_eq_false
def x_:=@Bool.false_ne_true
def y_:=@List.getElem?_eq_getElem
def z_:=@List.size_toArray
def A_:=@PySem.Heap.lt_size
def B_:=@PySem.wpAny_pure
def C_:=@List.length_range
def D_:=@List.getElem?_eq_some_iff
def Em:=@decide_eq_true
def E_:=@PySem.Heap.get?_push_size
def F_:=@List.length_cons
def G_:=@List.mem_cons
def H_:=@List.getD_eq_getElem?_getD
def I_:=@Nat.lt_of_lt_of_le
def J_:=@List.length_append
def K_:=@Option.some.inj
def L_:=@Nat.ne_of_lt
def M_:=@beq_eq_false_iff_ne
def Nd:=@Option.map_eq_some_iff
def Nf:=@List.getElem?_map
def Ng:=@List.length_take
def Nh:=@List.mem_range
def Ni:=@List.all_eq_true
def Nj:=@List.length_drop
def Nk:=@List.mem_singleton
def Nl:=@Nat.le_trans
def Nm:=@Option.bind_eq_some_iff
def Nn:=@List.mem_append_right
def Np:=@PyProof.Rows.callWith_type1
def Nq:=@List.sum_cons
def Nr:=@beq_iff_eq
def Nt:=@List.length_nil
def Nu:=@PySem.wpAny_mono
def Nv:=@List.append_nil
def Nw:=@List.mem_map
def Ny:=@List.nil_append
def Nz:=@List.map_nil
def NA:=@congrArg
def NB:=@Int.toNat_natCast
def NC:=@List.map_append
def ND:=@List.replicate_succ
def NF:=@List.getElem?_append_left
def NG:=@Nat.pow_le_pow_right
def NH:=@Nat.mul_le_mul
def NI:=@List.length_set
def NJ:=@Array.length_toList
def NK:=@List.contains_iff_mem
def NL:=@List.take_append_drop
def NM:=@Nat.zero_le
def NN:=@List.map_take
def NO:=@List.find?_cons
def NP:=@List.mem_of_mem_take
def NQ:=@Rat.intCast_mul
def NR:=@PySem.wpAny_Call_Name_kw
def NS:=@List.take_of_length_le
def NT:=@Nat.lt_irrefl
def NU:=@List.length_replicate
def NV:=@List.map_map
def NW:=@PySem.wpAny_field
def NX:=@List.getElem_mem
def NY:=@List.map_drop
def NZ:=@Int.natAbs_mul
def N2:=@List.find?_cons_of_neg
def N3:=@List.find?_cons_of_pos
def N4:=@PySem.wpAny_newObj_type
def N5:=@PySem.Calls.spliced_cons
def N6:=@Int.mul_assoc
def N7:=@List.any_cons
def N8:=@List.mem_of_mem_drop
def N9:=@List.getElem?_replicate
def N_:=@List.flatten_cons
def Oa:=@of_decide_eq_true
def Od:=@Nat.mul_le_mul_left
def Oe:=@PySem.mem_of_lookup
def Of:=@PySem.wpAny_holding
def Og:=@List.lookup_cons
def Oh:=@decide_eq_decide
def Oi:=@decide_eq_true_iff
def Oj:=@List.pairwise_iff_getElem
def Ol:=@Nat.mul_pos
def Om:=@List.mem_append
def Oo:=@Nat.mul_le_mul_right
def Oq:=@Nat.not_lt_zero
def Ot:=@Option.isSome_iff_exists
def Ou:=@decide_eq_true_eq
def Ov:=@PySem.wpAny_truthy_bool
def Ow:=@decide_eq_false_iff_not
def Ox:=@PySem.wpAny_callSpecial?_slot
def Oy:=@PySem.Heap.SameBut.update
def Oz:=@List.filterMap_cons
def OA:=@List.length_zipWith
def OB:=@PySem.wpAny_seqItems
def OC:=@Nat.pow_add
def OD:=@Nat.lt_of_le_of_lt
def OE:=@PySem.wpAny_setField_rec
def OF:=@Bool.or_eq_true
def OG:=@Int.natCast_mul
def OH:=@List.getElem?_zipWith
def OI:=@PySem.wpAny_passesOwn
def OJ:=@PySem.F.slot_tuple_iterator_next
def OK:=@List.getElem?_append_right
def OL:=@Rat.mul_assoc
def OM:=@PySem.Calls.spliced_nil
def ON:=@PySem.wpAny_getItem_str_slice
def OO:=@if_true
def OP:=@Bool.false_eq_true
def OQ:=@Int.mul_ne_zero
def OR:=@List.nodup_cons
def OS:=@List.sum_append
def OT:=@List.drop_of_length_le
def OU:=@List.length_eq_one_iff
def OV:=@Bool.not_eq_true'
def OW:=@Int.mul_left_comm
def OX:=@List.append_assoc
def OY:=@PySem.Heap.size_push
def OZ:=@Nat.le_of_lt
def O0:=@Nat.ne_of_gt
def O1:=@List.mem_of_getElem?
def O2:=@List.not_mem_nil
def O3:=@PySem.wpAny_call_entry
def O4:=@Int.eq_of_mul_eq_mul_right
def O5:=@PySem.wpAny_standAt
def O6:=@Array.getElem?_eq_getElem
def O7:=@List.drop_eq_getElem_cons
def O8:=@List.foldl_cons
def O9:=@List.getElem?_eq_none_iff
def O_:=@Int.mul_comm
def Pa:=@Int.mul_right_comm
def Pb:=@List.idxOf_lt_length_iff
def Pc:=@PySem.F.args_tuple_add_2
def Pd:=@if_false
def Pe:=@PySem.call_meets
def Pf:=@PySem.F.entry_tuple_add
def Pg:=@PySem.F.plainAttrs_list
def Ph:=@PySem.Calls.callWith_builtin
def Pj:=@PySem.F.slot_tuple_add
def Pk:=@Rat.div_def
def Pl:=@List.take_nil
def Pm:=@Nat.mul_assoc
def Pn:=@PySem.wpAny_attempt
def Po:=@List.cons_append
def Pp:=@List.nodup_range
def Pq:=@Nat.le_add_right
def Pt:=@List.length_singleton
def Pu:=@PySem.F.slot_dict_get
def Pw:=@Bool.eq_iff_iff
def Px:=@PySem.Calls.evalArgs_plain
def Py:=@PySem.F.slot_zip_next
def Pz:=@PySem.Heap.get?_none_of_le
def PC:=@List.getElem?_append
def PD:=@List.getElem?_set_ne
def PF:=@List.mem_append_left
def PH:=@Nat.lt_trans
def PJ:=@Nat.zero_add
def PK:=@Rat.not_lt
def PL:=@Rat.num_eq_zero
def PM:=@PySem.codeAny_builtin
def PN:=@PySem.codeAny_mono
def PQ:=@PySem.post_val_or_str
def PR:=@PySem.wpAny_execs_nil
def PU:=@PySem.wpAny_loadName_local
def PV:=@PySem.wpAny_updateSeq_pair
def PX:=@List.map_congr_left
def PY:=@List.map_eq_nil_iff
def PZ:=@List.mem_map_of_mem
def P0:=@List.drop_zero
def P4:=@PySem.IsRange.new
def P5:=@List.all_cons
def P6:=@List.drop_nil
def P7:=@PySem.Paired.length
def P8:=@Rat.lt_irrefl
def P9:=@PyProof.Rows.listUpdate_at
def P_:=@PySem.rangeSize_one
def Qa:=@PySem.wpAny_onRaise
set_option maxRecDepth 100000
namespace L2
open PySem PySem.Spec PyProof.Rows
abbrev _root_.Qb:=Str->Option Value
abbrev _root_.Qc:=List (Addr×Obj)
abbrev _root_.Qd:=Value->Shared->Prop
abbrev _root_.Qe:=List (Option Nat)
abbrev Key:=Sum Int Str
noncomputable def kr:Key->Value->Bool
 |.inl k,v=>Value.isInt k v
 |.inr x,v=>Value.isStrOf x v
noncomputable def keyH (w:World):Key->Int
 |.inl k=>hashInt k
 |.inr x=>hashStr w x
theorem bR:∀{k:Key}{v:Value},kr k v=true->(∃i t,k=Sum.inl i/\v=Value.int i t)\/(∃x t,k=Sum.inr x/\v=Value.str x t)
 |
  .inl i,v,h=>by
  obtain⟨t,e⟩:=Value.isInt_shape (k:=i) (v:=v) h;exact .inl ⟨i,t,rfl,e⟩
 |
  .inr x,v,h=>by
  obtain⟨t,e⟩:=Value.isStrOf_shape (x:=x) (v:=v) h;exact .inr ⟨x,t,rfl,e⟩
def yI(i:Int)(t:Tok):kr (.inl i) (.int i t)=true:=by simp [kr,Value.isInt]
def Ar(x:Str)(t:Tok):kr (.inr x) (.str x t)=true:=by simp [kr,Value.isStrOf]
def Hm(a b:Int):decide ((Sum.inl a:Key)=Sum.inl b)=(a==b):=by
 by_cases e:a=b
 .subst e;simp
 .have h:¬ (Sum.inl a:Key)=Sum.inl b:=λq=>e (Sum.inl.inj q);rw[w_ h];exact (M_.mpr e).symm
def GP(a b:Str):decide ((Sum.inr a:Key)=Sum.inr b)=decide (a=b):=by
 by_cases e:a=b
 .subst e;simp
 .have h:¬ (Sum.inr a:Key)=Sum.inr b:=λq=>e (Sum.inr.inj q);rw[w_ h,w_ e]
def IV(a:Int)(b:Str):decide ((Sum.inl a:Key)=Sum.inr b)=false:=w_ (λq=>nomatch q)
def Hc(a:Str)(b:Int):decide ((Sum.inr a:Key)=Sum.inl b)=false:=w_ (λq=>nomatch q)
noncomputable def bu (prog:Program) (w:World):PySem.KeyKind prog w Key where
 is:=kr
 hash:=keyH w
 inj
  := λv a b ha hb=>by
  rcases bR ha with ⟨i,t,rfl,rfl⟩ |⟨x,t,rfl,rfl⟩
  .rcases bR hb with ⟨j,u,rfl,e⟩ |⟨y,u,rfl,e⟩
   .injection e with e1 _;rw[e1]
   .exact nomatch e
  .rcases bR hb with ⟨j,u,rfl,e⟩ |⟨y,u,rfl,e⟩
   .exact nomatch e
   .injection e with e1 _;rw[e1]
 byValue:=λk v h=>by rcases bR h with ⟨i,t,rfl,rfl⟩ |⟨x,t,rfl,rfl⟩ <;> rfl
 pyHash:=λhv h=>by
  rcases bR hv with ⟨i,t,rfl,rfl⟩ |⟨x,t,rfl,rfl⟩
  .exact wpAny_pyHash_int h
  .exact wpAny_pyHash_str h
 eqBool:=λhu hv h=>by
  rcases bR hu with ⟨i,t,rfl,rfl⟩ |⟨x,t,rfl,rfl⟩
  .rcases bR hv with ⟨j,u,rfl,rfl⟩ |⟨y,u,rfl,rfl⟩
   .rw[Hm] at h;exact wpAny_eqBool_int h
   .rw[IV] at h;exact SeqAt.EqAt.int_str i t y u _ _ _ _ h
  .rcases bR hv with ⟨j,u,rfl,rfl⟩ |⟨y,u,rfl,rfl⟩
   .rw[Hc] at h;exact SeqAt.EqAt.str_int x t j u _ _ _ _ h
   .rw[GP] at h;exact wpAny_eqBool_str h
 «strs»:=λk x t v h=>by
  rcases bR h with ⟨i,u,rfl,e⟩ |⟨y,u,rfl,e⟩
  .exact nomatch e
  .injection e with e1 _;subst e1;cases v <;> rfl
def u4(prog:Program)(w:World)(i:Int)(t:Tok):(bu prog w).is (.inl i) (.int i t)=true:=yI i t
def uN(prog:Program)(w:World)(x:Str)(t:Tok):(bu prog w).is (.inr x) (.str x t)=true:=Ar x t
inductive V where
 |non |bl (b:Bool) |int (i:Int) |str (x:Str) |byt (b:Array UInt8) |flt (b:UInt64) |ref (a:Addr) |ty (n:String)
 deriving DecidableEq
def RelV:V->Value->Prop
 |.non,u=>u=Value.none
 |.bl b,u=>u=Value.bool b
 |.int i,u=>∃t,u=Value.int i t
 |.str x,u=>∃t,u=Value.str x t
 |.byt b,u=>∃t,u=Value.bytes b t
 |.flt b,u=>∃t,u=Value.float b t
 |.ref a,u=>u=Value.ref a
 |.ty n,u=>u=Value.type n
abbrev Vals:List V->List Value->Prop:=Paired RelV
def Vals.length(r:Vals xs us):xs.length=us.length:=P7 r
def Vals.get{xs:List V}{us:List Value}{i:Nat}{x:V}(r:Vals xs us)(e:xs[i]?=some x):∃u,us[i]?=some u/\RelV x u:=by
 induction r generalizing i with
 |nil=>rw[List.getElem?_nil] at e;cases e
 |
  cons r t ih=>
  cases i with
  |zero=>cases e;exact⟨_,rfl,r⟩
  |succ i=>exact ih (i:=i) e
def Vals.append(r:Vals xs us)(s:Vals ys ws):Vals (xs++ys) (us++ws):=by
 induction r with
 |nil=>exact s
 |cons r t ih=>exact .cons r ih
def Vals.take(n:Nat)(r:Vals xs us):Vals (xs.take n) (us.take n):=by
 induction r generalizing n with
 |nil=>rw[Pl,Pl];exact .nil
 |
  cons r t ih=>
  cases n with
  |zero=>exact .nil
  |succ n=>exact .cons r (ih n)
def Vals.drop(n:Nat)(r:Vals xs us):Vals (xs.drop n) (us.drop n):=by
 induction r generalizing n with
 |nil=>rw[P6,P6];exact .nil
 |
  cons r t ih=>
  cases n with
  |zero=>exact .cons r t
  |succ n=>exact ih n
def RelO:Option V->Option Value->Prop
 |some v,some u=>RelV v u
 |none,none=>True
 |_,_=>False
def KV{κ:Type}:List (κ×V)->List (κ×Value)->Prop:=Paired λ(p:κ×V) (q:κ×Value)=>p.1=q.1/\RelV p.2 q.2
noncomputable def kV:Key->V
 |.inl i=>.int i
 |.inr x=>.str x
inductive HO where
 |lst (xs:List V)
 |tup (xs:List V)
 |dK (kvs:List (Key×V)) |dT (kvs:List (List Key×V))
 |set (S:Int->Bool) (n:Nat)
 |ins (C dx:Addr) (fs:List (Str×V))
 |own (x:Addr)
 |xd (fs:List (Str×V))
 |met (f x:Addr)
 |rng (lo hi:Int)
 |frz (o:Obj) (u:HO)
 |tbl (ps:Array Value)
 |ext (φ:Heap->Prop)
abbrev Hp:=Addr->Option HO
noncomputable def upd (H:Hp) (a:Addr) (o:HO):Hp:=λb=>if b=a then some o else H b
def aF:upd H a o a=some o:=by unfold upd;rw[if_pos rfl]
def aA(h:b≠a):upd H a o b=H b:=by unfold upd;rw[if_neg h]
def LY{H:Hp}{a b:Addr}{o u:HO}(h:H a=some o)(h':H b=some u)(d:o≠u):a≠b:=by intro e;subst e;rw[h] at h';exact d (K_ h')
def bS{H:Hp}{a b:Addr}{o:HO}(h:H a=some o)(h':H b=none):a≠b:=by intro e;subst e;rw[h] at h';cases h'
section
variable(P:Program)(w:World)
def ObjOk(H:Hp)(h:Heap)(a:Addr):HO->Prop
 |.lst xs=>xs.length<=sizeLine/\∃(its:List Value) (n:Nat),Vals xs its/\h.get? a=some { cls:=.type "list",data:=.seq its.toArray n }
 |.tup xs=>xs.length<=sizeLine/\∃its:List Value,Vals xs its/\IsTup h a its.toArray
 |.dK kvs=>kvs.length<=sizeLine/\(a==sysModules)=false/\∃vs,KV kvs vs/\h.DictOf (bu P w) a vs
 |.dT kvs=>kvs.length<=sizeLine/\(a==sysModules)=false/\∃xs:List (List Key×Addr×Value),
  Paired (λ(p:List Key×V) (q:List Key×Addr×Value)=>p.1=q.1/\H q.2.1=some (.tup (p.1.map kV))/\RelV p.2 q.2.2) kvs xs/\
  ∃o es ep,h.get? a=some o/\o.ExactDict/\o.data=.dict es ep/\es.toList=xs.map (entryOfKey (tupleKind (bu P w)))/\(xs.map (·.1)).Nodup
 |.set S n=>h.SetOf (intKind P w) a S n
 |.ins C dx fs=>H dx=some (.own a)/\fs.length<=1000/\dx≠a/\h.get? a=some (W.instObj C dx)/\
  ∃mA,h.Ns1 dx mA/\(∀f,RelO (fs.lookup f) (mA f))/\PySem.Within mA (fs.map (·.1))
 |.own _=>∃o,h.get? a=some o
 |.xd fs=>∃mA,h.Ns1 a mA/\∀f,RelO (fs.lookup f) (mA f)
 |.rng lo hi=>∃t u v,h.get? a=some { cls:=.type "range",data:=.fields #[.int lo t,.int hi u,.int 1 v] }
 |.frz o u=>h.get? a=some o/\ObjOk H h a u
 |.tbl ps=>h.get? a=some { cls:=.none,data:=.fields ps }
 |.met f x=>h.get? a=some (W.methodObj (.ref f) (.ref x))
 |.ext φ=>φ h/\(∃o,h.get? a=some o)/\∀h1 h2:Heap,φ h1->(∀o,h1.get? a=some o->h2.get? a=some o)->φ h2
def HOk(H:Hp)(h:Heap):Prop:=∀a o,H a=some o->ObjOk P w H h a o
end
section
variable{P:Program}{w:World}{H H':Hp}{h h':Heap}{a:Addr}{o:HO}
def ObjOk.lt(x:ObjOk P w H h a o):a<h.objs.size:=by
 cases o with
 |lst xs=>obtain⟨_,_,_,_,e⟩:=x;exact A_ e
 |tup xs=>obtain⟨_,_,_,p⟩:=x;exact p.lt
 |dK kvs=>obtain⟨_,_,_,_,o,_,_,e,_⟩:=x;exact A_ e
 |dT kvs=>obtain⟨_,_,_,_,o,_,_,e,_⟩:=x;exact A_ e
 |set S n=>obtain⟨o,_,_,_,e,_⟩:=x;exact A_ e
 |ins C dx fs=>obtain⟨_,_,_,e,_⟩:=x;exact A_ e
 |own y=>obtain⟨_,e⟩:=x;exact A_ e
 |xd fs=>obtain⟨_,⟨_,_,_,e,_⟩,_⟩:=x;exact A_ e
 |rng lo hi=>obtain⟨_,_,_,e⟩:=x;exact A_ e
 |frz ob u=>obtain⟨e,_⟩:=x;exact A_ e
 |tbl ps=>exact A_ (show h.get? a=some _ from x)
 |met f y=>exact A_ (show h.get? a=some _ from x)
 |ext φ=>obtain⟨_,⟨_,e⟩,_⟩:=x;exact A_ e
def Paired.mapP(r:Paired F l₁ l₂)(f:∀a b,F a b->G a b):Paired G l₁ l₂:=by
 induction r with
 |nil=>exact .nil
 |cons r t ih=>exact .cons (f _ _ r) ih
def ObjOk.stay(x:ObjOk P w H h a o)(k:∀b u,(b=a\/H b=some (.own a))->h.get? b=some u->h'.get? b=some u)
 (ho:∀b,H b=some (.own a)->H' b=some (.own a)) (ht:∀b xs,H b=some (.tup xs)->H' b=some (.tup xs)):ObjOk P w H' h' a o:=by
 induction o with
 |lst xs=>obtain⟨z,its,n,r,e⟩:=x;exact⟨z,its,n,r,k _ _ (.inl rfl) e⟩
 |tup xs=>obtain⟨z,its,r,ob,e,c⟩:=x;exact⟨z,its,r,ob,k _ _ (.inl rfl) e,c⟩
 |dK kvs=>obtain⟨z,y,vs,r,ob,es,ep,e,c⟩:=x;exact⟨z,y,vs,r,ob,es,ep,k _ _ (.inl rfl) e,c⟩
 |dT kvs=>obtain⟨z,y,xs,r,ob,es,ep,e,c⟩:=x;exact⟨z,y,xs,Paired.mapP r λp q z=>⟨z.1,ht _ _ z.2.1,z.2.2⟩,ob,es,ep,k _ _ (.inl rfl) e,c⟩
 |set S n=>obtain⟨ob,es,ep,t,e,c⟩:=x;exact⟨ob,es,ep,t,k _ _ (.inl rfl) e,c⟩
 |ins C dx fs=>obtain⟨d,z,ne,e,mA,⟨od,es,ep,e2,c⟩,r⟩:=x;exact⟨ho _ d,z,ne,k _ _ (.inl rfl) e,mA,⟨od,es,ep,k _ _ (.inr d) e2,c⟩,r⟩
 |own y=>obtain⟨ob,e⟩:=x;exact⟨ob,k _ _ (.inl rfl) e⟩
 |xd fs=>obtain⟨mA,⟨od,es,ep,e,c⟩,r⟩:=x;exact⟨mA,⟨od,es,ep,k _ _ (.inl rfl) e,c⟩,r⟩
 |rng lo hi=>obtain⟨t,u,v,e⟩:=x;exact⟨t,u,v,k _ _ (.inl rfl) e⟩
 |frz ob u ih=>obtain⟨e,q⟩:=x;exact⟨k _ _ (.inl rfl) e,ih q⟩
 |tbl ps=>have e:h.get? a=some { cls:=.none,data:=.fields ps }:=x;show h'.get? a=some { cls:=.none,data:=.fields ps };exact k a _ (.inl rfl) e
 |met f y=>have e:h.get? a=some (W.methodObj (.ref f) (.ref y)):=x;show h'.get? a=some (W.methodObj (.ref f) (.ref y));exact k a _ (.inl rfl) e
 |ext φ=>obtain⟨p,⟨o,e⟩,st⟩:=x;exact⟨st _ _ p λo q=>k _ _ (.inl rfl) q,⟨o,k _ _ (.inl rfl) e⟩,st⟩
def HOk.lt(x:HOk P w H h)(e:H a=some o):a<h.objs.size:=(x a o e).lt
def HOk.fresh(x:HOk P w H h)(e:h.objs.size<=a):H a=none:=by
 cases q:H a with
 |none=>rfl
 |some u=>exact absurd (I_ (x.lt q) e) (NT _)
def HOk.kept(x:HOk P w H h)(k:∀b u,h.get? b=some u->h'.get? b=some u):HOk P w H h':=λa o e=>
 (x a o e).stay (λb u _ q=>k b u q) (λ_ q=>q) λ_ _ q=>q
def HOk.laid(x:HOk P w H h)(k:∀b u,h.get? b=some u->h'.get? b=some u)(hp:h.objs.size<=a)(new:ObjOk P w (upd H a o) h' a o):HOk P w (upd H a o) h':=λb u e=>by
 have hn:=x.fresh hp;by_cases hb:b=a
 .subst hb;rw[aF] at e;cases e;exact new
 .rw[aA hb] at e;exact (x b u e).stay (λc v _ q=>k c v q) (λc q=>by rw[aA (bS q hn)];exact q) λc xs q=>by rw[aA (bS q hn)];exact q
end
def Rd(H:Hp)(a:Addr)(u:HO):Prop:=H a=some u\/∃o,H a=some (.frz o u)
def Rd.ok(r:Rd H a u)(x:HOk P w H h):ObjOk P w H h a u:=by
 rcases r with r |⟨o,r⟩
 .exact x a u r
 .obtain⟨_,q⟩:=x a _ r;exact q
def Mut:Option HO->Prop
 |some (.lst _)=>True
 |some (.dK _)=>True
 |some (.dT _)=>True
 |some (.set _ _)=>True
 |some (.ins _ _ _)=>True
 |some (.ext _)=>True
 |_=>False
section
variable{P:Program}{w:World}{H:Hp}{h h':Heap}{x e:Addr}{o':HO}
def HOk.write(ok:HOk P w H h)(mu:Mut (H x))(he:e=x\/H e=some (.own x))(k:∀b u,b≠e->h.get? b=some u->h'.get? b=some u)(heo:∃u,h'.get? e=some u)
 (new:ObjOk P w (upd H x o') h' x o'):HOk P w (upd H x o') h':=λb u q=>by
 have nown:∀c y,H c=some (.own y)->c≠x:=λc y r z=>by subst z;rw[r] at mu;exact mu
 have ntup:∀c xs,H c=some (.tup xs)->c≠x:=λc xs r z=>by subst z;rw[r] at mu;exact mu
 by_cases hb:b=x
 .subst hb;rw[aF] at q;cases q;exact new
 .rw[aA hb] at q;by_cases hbe:b=e
  .have q':H b=some (.own x):=by
    rcases he with z |z
    .exact absurd (hbe.trans z) hb
    .rw[hbe];exact z
   rw[q] at q';cases q';obtain⟨v,hv⟩:=heo;exact⟨v,by rw[hbe];exact hv⟩
  .refine (ok b u q).stay (λc v hc r=>k c v ?_ r) (λc r=>by rw[aA (nown c b r)];exact r) λc xs r=>by rw[aA (ntup c xs r)];exact r
   rcases hc with rfl |hc
   .exact hbe
   .rintro rfl;rcases he with z |z
    .exact nown c b hc z
    .rw[hc] at z;cases z;exact hb rfl
end
structure Un(fs ex:List Addr)(H H':Hp)(h h':Heap):Prop where
 keep:∀b o,h.get? b=some o->H b=none->b∉fs->b∉ex->h'.get? b=some o
 slot:∀b o,h.get? b=some o->H b=none->b∈fs->b∉ex->∃sl,h'.get? b=some { o with slots:=sl }
 free:∀b o,h.get? b=some o->H b=none->b∉ex->H' b=none
 there:∀b o,h.get? b=some o->b∉ex->∃o',h'.get? b=some o'
 tups:∀b xs,H b=some (.tup xs)->H' b=some (.tup xs)
 frzs:∀b o u,H b=some (.frz o u)->H' b=some (.frz o u)
 tbls:∀b ps,H b=some (.tbl ps)->∃more,H' b=some (.tbl (ps++more))
section
variable{fs ex:List Addr}{H H1:Hp}{h h1 h':Heap}{a x e:Addr}{o:HO}
def Un.any(u:Un fs ex H H1 h h1)(q:h.get? b=some ob)(n:H b=none)(hx:b∉ex):∃sl,h1.get? b=some { ob with slots:=sl }:=by
 by_cases hb:b∈fs
 .exact u.slot b ob q n hb hx
 .exact⟨ob.slots,u.keep b ob q n hb hx⟩
def Un.kept(k:∀b u,h.get? b=some u->h'.get? b=some u):Un fs ex H H h h':=
 ⟨λb ob q _ _ _=>k b ob q,λb ob q _ _ _=>⟨ob.slots,k b ob q⟩,λ_ _ _ n _=>n,λb ob q _=>⟨ob,k b ob q⟩,λ_ _ q=>q,λ_ _ _ q=>q,λ_ ps q=>⟨#[],by rw[q];simp⟩⟩
def Un.refl:Un fs ex H H h h:=Un.kept λ_ _ q=>q
def Un.laid(k:∀b u,h.get? b=some u->h'.get? b=some u)(hp:h.objs.size<=a)(hn:H a=none):Un fs ex H (upd H a o) h h' where
 keep:=λb u q _ _ _=>k b u q
 slot:=λb u q _ _ _=>⟨u.slots,k b u q⟩
 free:=λb u q n _=>by rw[aA (L_ (I_ (A_ q) hp))];exact n
 there:=λb u q _=>⟨u,k b u q⟩
 tups:=λb xs q=>by rw[aA (bS q hn)];exact q
 frzs:=λb u xs q=>by rw[aA (bS q hn)];exact q
 tbls:=λb ps q=>⟨#[],by rw[aA (bS q hn),q];simp⟩
def Un.write(mu:Mut (H x))(he:e=x\/H e=some (.own x))(k:∀b u,b≠e->h.get? b=some u->h'.get? b=some u)(heo:∃u,h'.get? e=some u):Un fs ex H (upd H x o) h h':=by
 have hx:∀b,H b=none->b≠x:=λb n z=>by subst z;rw[n] at mu;exact mu
 have hb:∀b,H b=none->b≠e:=λb n z=>by
  subst z;rcases he with r |r
  .exact hx b n r
  .rw[n] at r;cases r
 have hm:∀b u,H b=some u->¬ Mut (some u)->b≠x:=λb u q nm z=>by subst z;rw[q] at mu;exact nm mu
 refine⟨λb u q n _ _=>k b u (hb b n) q,λb u q n _ _=>⟨u.slots,k b u (hb b n) q⟩,λb u q n _=>by rw[aA (hx b n)];exact n,λb u q _=>?_,
  λb xs q=>by rw[aA (hm b _ q λz=>z)];exact q,λb u xs q=>by rw[aA (hm b _ q λz=>z)];exact q,λb ps q=>⟨#[],by rw[aA (hm b _ q λz=>z),q];simp⟩⟩
 by_cases hbe:b=e
 .subst hbe;exact heo
 .exact⟨u,k b u hbe q⟩
end
noncomputable def trk (h:Heap) (H:Hp):List Addr:=(List.range h.objs.size).filter λa=>(H a).isSome
noncomputable def fh (h:Heap) (H:Hp):Heap:=W.hideAll h (trk h H)
def pz(h:Heap)(H:Hp):(fh h H).objs.size=h.objs.size:=W.hideAll_size _ _
def uB(e:h.get? b=some o)(n:H b=none):(fh h H).get? b=some o:=
 W.hideAll_get _ e λhm=>by have q:(H b).isSome=true:=(List.mem_filter.mp hm).2;rw[n] at q;simp at q
def wI(e:(fh h H).get? b=some o):h.get? b=some o/\H b=none:=by
 have e':h.get? b=some o:=W.of_hideAll (trk h H) e;refine⟨e',?_⟩;cases q:H b with
 |none=>rfl
 |some x=>have hm:b∈trk h H:=List.mem_filter.mpr ⟨Nh.mpr (A_ e'),by simp [q]⟩;have z:(fh h H).get? b=none:=W.hideAll_none (trk h H) hm;rw[z] at e;cases e
noncomputable def EV (g h:Heap) (L:Addr):List (Addr×Obj):=(List.range h.objs.size).filterMap λa=>if a=L\/(g.get? a).isSome=true then none else (h.get? a).map λo=>(a,o)
noncomputable def fu (g h:Heap) (L d:Addr):List (Addr×Obj):=(EV g h L).filter λp=>decide (p.1≠d)
structure Mod(K:W.Frag)(mg:Qb)(base:Heap):Prop where
 kin:K.In base
 glob:base.Ns mainGlobals mg
 blt:∃mb,base.Ns builtinsNs mb/\∀x:Str,x ≠ "__name__"->mb x=bootBuiltins x
 nolimit:base.NoLimit
structure Cx where
 prog:Program
 w:World
 K:W.Frag
 mg:Str->Option Value
 base:Heap
 A:Around
 N:List Str
 s₀:Shared
 H₀:Hp
 env:Env
 outer:List Env
 stack:List Env
 ex:List Addr
 fn:Str->Bool
 calm:Bool
 pn:List (Addr×Obj)
 xe:Value->Shared->Prop
noncomputable def frs (l:List Env):List Addr:=l.filterMap (·.frame)
abbrev Cx.fs(X:Cx):List Addr:=frs X.outer
def Vis(sc:Scope)(x:Str):Prop:=sc.names.lookup x=some .local\/sc.names.lookup x=some .cell\/sc.names.lookup x=some .free
def Loc(sc:Scope)(x:Str):Prop:=sc.names.lookup x=some .local\/sc.names.lookup x=some .cell
def Look(env:Env)(h:Heap)(m:Qb)(x:Str)(u:Value):Prop:=
 (env.kindOf x=some .local/\m x=some u)\/((env.kindOf x=some .cell\/env.kindOf x=some .free)/\∃c,env.cells.lookup x=some c/\h.IsCell c (some u))
structure Cx.Ok(X:Cx):Prop where
 mod:Mod X.K X.mg X.base
 kind:X.env.scope.kind=.function
 glob:X.env.globals=mainGlobals
 blt:X.env.builtins=builtinsNs
 above:X.s₀.heap.objs.size<=X.env.locals
 inj:∀x y c,X.env.cells.lookup x=some c->X.env.cells.lookup y=some c->x=y
 has:∀x,(X.env.kindOf x=some .cell\/X.env.kindOf x=some .free)->∃c,X.env.cells.lookup x=some c
 cab:∀x c,X.fn x=true->X.env.cells.lookup x=some c->X.s₀.heap.objs.size<=c
 hd:X.calm=true->X.A.handled=none
 frames:X.A.frames=some X.stack
 stk:X.stack=X.outer\/(X.stack=X.env::X.outer/\X.env.frame=some X.env.locals)
 exf:∀b∈X.ex,b≠X.env.locals/\∀x c,X.env.cells.lookup x=some c->c≠b
 bs:∀b o,X.base.get? b=some o->X.s₀.heap.get? b=some o/\X.H₀ b=none
 bsz:X.base.objs.size<=X.s₀.heap.objs.size
 noex:∀b o,X.base.get? b=some o->b∉X.ex
 exfs:∀b∈X.ex,b∉X.fs
 funs:X.s₀.heap.FunFrames X.base X.outer
 frf:∀b∈X.fs,X.H₀ b=none
structure Inv(X:Cx)(pins:Qc)(σ:List (Option V))(H:Hp)(s:Shared):Prop where
 ok:X.Ok
 os:s.os=X.s₀.os
 bare:AllBare s.gens
 base:Un X.fs X.ex X.H₀ H X.s₀.heap s.heap
 loc:∃m,s.heap.Ns X.env.locals m/\∀(i:Nat) (x:Str) (v:V),X.N[i]?=some x->σ[i]?=some (some v)->Vis X.env.scope x->∃u,RelV v u/\Look X.env s.heap m x u
 cell:∀x c,X.env.cells.lookup x=some c->∃v,s.heap.IsCell c v
 free:H X.env.locals=none
 freeC:∀x c,X.env.cells.lookup x=some c->H c=none
 pin:∀p∈X.pn++pins,s.heap.get? p.1=some p.2/\H p.1=none/\p.1≠X.env.locals/\p.1∉X.fs/\∀v,p.2.data ≠ .cell v
 hok:HOk X.prog X.w H s.heap
 len:σ.length=X.N.length
section
variable{X:Cx}{pins:Qc}{σ:List (Option V)}{H H':Hp}{s:Shared}{h':Heap}
def Cx.Ok.nofr(ok:X.Ok)(e:X.base.get? b=some o):b∉X.fs:=λhb=>by
 have:=(ok.funs.mem hb).1
 rw[e] at this;cases this
def Inv.bs(I:Inv X pins σ H s):∀b o,X.base.get? b=some o->s.heap.get? b=some o/\H b=none:=λb o e=>
 ⟨I.base.keep b o (I.ok.bs b o e).1 (I.ok.bs b o e).2 (I.ok.nofr e) (I.ok.noex b o e),I.base.free b o (I.ok.bs b o e).1 (I.ok.bs b o e).2 (I.ok.noex b o e)⟩
def Inv.bk(I:Inv X pins σ H s):∀b o,X.base.get? b=some o->s.heap.get? b=some o:=λb o e=>(I.bs b o e).1
def Inv.mod(I:Inv X pins σ H s):Mod X.K X.mg X.base:=I.ok.mod
def Inv.kIn(I:Inv X pins σ H s):X.K.In s.heap:=I.ok.mod.kin.keeps I.bk
def Inv.nolimit(I:Inv X pins σ H s):s.heap.NoLimit:=I.ok.mod.nolimit.keeps I.bk
def Inv.lt(I:Inv X pins σ H s):X.env.locals<s.heap.objs.size:=let ⟨_,hn,_⟩:=I.loc;hn.lt
def Inv.sz(I:Inv X pins σ H s):X.s₀.heap.objs.size<=s.heap.objs.size:=Nl I.ok.above (OZ I.lt)
def Inv.nofs(I:Inv X pins σ H s)(h:s.heap.objs.size<=a):a∉X.fs:=λhb=>by obtain⟨_,o,ho,_⟩:=I.ok.funs.mem hb;exact absurd (I_ (A_ ho) (Nl I.sz h)) (NT _)
def Inv.cne(I:Inv X pins σ H s):∀x c,X.env.cells.lookup x=some c->c≠X.env.locals:=λx c e z=>by obtain⟨v,o,ho,hd⟩:=I.cell x c e;obtain⟨m,⟨o',es,ep,ho',hd',_⟩,_⟩:=I.loc;rw[z,ho'] at ho;cases ho;rw[hd'] at hd;cases hd
def Inv.funs(I:Inv X pins σ H s):s.heap.FunFrames X.base X.outer:=by
 have all:∀(l:List Env),(∀b∈frs l,b∈X.fs)->X.s₀.heap.FunFrames X.base l->s.heap.FunFrames X.base l:=by
  intro l;induction l with
  |nil=>intro _ _;trivial
  |cons env r ih=>intro hs hl;obtain⟨hk,⟨L,o,hf,hn,ho,hd⟩,hr⟩:=hl;have hL:L∈X.fs:=hs L (by unfold frs;rw[Oz,hf];exact t_);obtain⟨sl,e⟩:=I.base.slot L o ho (I.ok.frf L hL) hL λz=>I.ok.exfs L z hL;exact⟨hk,⟨L,_,hf,hn,e,hd⟩,ih (λb hb=>hs b (by unfold frs;rw[Oz,hf];exact r_ _ hb)) hr⟩
 exact all X.outer (λ_ hb=>hb) I.ok.funs
def Inv.stack(I:Inv X pins σ H s):s.heap.FunFrames X.base X.stack:=by
 rcases I.ok.stk with e |⟨e,hf⟩
 .rw[e];exact I.funs
 .rw[e];obtain⟨m,hn,_⟩:=I.loc;refine .cons (by rw[I.ok.kind];decide) hf hn ?_ I.funs;exact Pz (Nl I.ok.bsz I.ok.above)
def Inv.stkSub(I:Inv X pins σ H s):∀b∈frs X.stack,b∈X.env.locals::X.fs:=λb hb=>by
 rcases I.ok.stk with e |⟨e,hf⟩
 .rw[e] at hb;exact r_ _ hb
 .rw[e] at hb;unfold frs at hb;rw[Oz,hf] at hb;exact hb
def Inv.stkFree(I:Inv X pins σ H s):∀b∈frs X.stack,H b=none:=λb hb=>by
 rcases G_.mp (I.stkSub b hb) with e |hb
 .rw[e];exact I.free
 .obtain⟨_,o,ho,_⟩:=I.ok.funs.mem hb;exact I.base.free b o ho (I.ok.frf b hb) λz=>I.ok.exfs b z hb
def Inv.step{g':Array GenState}{t':Nat}{d':Drawn}{ch:List Addr}(I:Inv X pins σ H s)
 (hch:∀b∈ch,(b∈X.ex\/X.s₀.heap.objs.size<=b)/\b≠X.env.locals/\(∀x c,X.env.cells.lookup x=some c->c≠b)/\∀p∈X.pn++pins,p.1≠b)
 (keep:∀b o,b≠X.env.locals->b∉X.fs->b∉ch->s.heap.get? b=some o->H b=none->h'.get? b=some o)
 (slot:∀b o,b≠X.env.locals->b∈X.fs->b∉ch->s.heap.get? b=some o->H b=none->∃sl,h'.get? b=some { o with slots:=sl }) (free:∀b o,b∉ch->s.heap.get? b=some o->H b=none->H' b=none)
 (there:∀b o,b∉ch->s.heap.get? b=some o->∃o',h'.get? b=some o')
 (tups:∀b xs,H b=some (.tup xs)->H' b=some (.tup xs)) (frzs:∀b o u,H b=some (.frz o u)->H' b=some (.frz o u)) (tbls:∀b ps,H b=some (.tbl ps)->∃more,H' b=some (.tbl (ps++more)))
 (ns:∀m,s.heap.Ns X.env.locals m->h'.Ns X.env.locals m) (hok:HOk X.prog X.w H' h') (hg:AllBare g'):
 Inv X pins σ H' { s with heap:=h',gens:=g',drawn:=d',toks:=t' }:=by
 have neL:∀b o,X.s₀.heap.get? b=some o->b≠X.env.locals:=λb o e=>L_ (I_ (A_ e) I.ok.above);have neC:∀b o,X.s₀.heap.get? b=some o->b∉X.ex->b∉ch:=λb o e hx hb=>by
  rcases (hch b hb).1 with z |z
  .exact hx z
  .exact absurd (I_ (A_ e) z) (NT _)
 have cellK:∀x c,X.env.cells.lookup x=some c->∀v,s.heap.IsCell c v->h'.IsCell c v:=λx c e v ⟨o,ho,hd⟩=>by
  have nch:c∉ch:=λz=>(hch c z).2.2.1 x c e rfl;by_cases hc:c∈X.fs
  .obtain⟨sl,q⟩:=slot c o (I.cne x c e) hc nch ho (I.freeC x c e);exact⟨_,q,hd⟩
  .exact⟨o,keep c o (I.cne x c e) hc nch ho (I.freeC x c e),hd⟩
 refine⟨I.ok,I.os,hg,⟨λb o e n hb hx=>?_,λb o e n hb hx=>?_,λb o e n hx=>?_,λb o e hx=>?_,λb xs e=>tups b xs (I.base.tups b xs e),λb o xs e=>frzs b o xs (I.base.frzs b o xs e),λb ps e=>?_⟩,?_,λx c e=>?_,?_,λx c e=>?_,λp hp=>?_,hok,I.len⟩
 .exact keep b o (neL b o e) hb (neC b o e hx) (I.base.keep b o e n hb hx) (I.base.free b o e n hx)
 .obtain⟨sl,e1⟩:=I.base.slot b o e n hb hx;obtain⟨sl',e2⟩:=slot b _ (neL b o e) hb (neC b o e hx) e1 (I.base.free b o e n hx);exact⟨sl',e2⟩
 .obtain⟨o',e1⟩:=I.base.there b o e hx;exact free b o' (neC b o e hx) e1 (I.base.free b o e n hx)
 .obtain⟨o',e1⟩:=I.base.there b o e hx;exact there b o' (neC b o e hx) e1
 .obtain⟨m1,e1⟩:=I.base.tbls b ps e;obtain⟨m2,e2⟩:=tbls b _ e1;exact⟨m1++m2,by rw[e2,Array.append_assoc]⟩
 .obtain⟨m,hn,hl⟩:=I.loc;refine⟨m,ns m hn,λi x v e1 e2 e3=>?_⟩;obtain⟨u,r,l⟩:=hl i x v e1 e2 e3;refine⟨u,r,?_⟩;rcases l with l |⟨k,c,e,z⟩
  .exact .inl l
  .exact .inr ⟨k,c,e,cellK x c e _ z⟩
 .obtain⟨v,z⟩:=I.cell x c e;exact⟨v,cellK x c e v z⟩
 .obtain⟨m,⟨o,_,_,ho,_⟩,_⟩:=I.loc;exact free _ o (λz=>(hch _ z).2.1 rfl) ho I.free
 .obtain⟨v,o,ho,hd⟩:=I.cell x c e;exact free c o (λz=>(hch c z).2.2.1 x c e rfl) ho (I.freeC x c e)
 .obtain⟨e,n,ne,nf,d⟩:=I.pin p hp;have nch:p.1∉ch:=λz=>(hch p.1 z).2.2.2 p hp rfl;exact⟨keep p.1 p.2 ne nf nch e n,free p.1 p.2 nch e n,ne,nf,d⟩
def Inv.un{t':Nat}(I:Inv X pins σ H s)(u:Un X.fs [] H H' s.heap h')(hok:HOk X.prog X.w H' h'):Inv X pins σ H' { s with heap:=h',toks:=t' }:=by obtain⟨m,⟨o,es,ep,ho,r⟩,_⟩:=id I.loc;obtain⟨sl,hL⟩:=u.any ho I.free (by simp);exact I.step (g':=s.gens) (d':=s.drawn) (ch:=[]) (λ_ z=>nomatch z) (λb o _ hb _ e n=>u.keep b o e n hb (by simp)) (λb o _ hb _ e n=>u.slot b o e n hb (by simp)) (λb o _ e n=>u.free b o e n (by simp)) (λb o _ e=>u.there b o e (by simp)) u.tups u.frzs u.tbls (λm' hm=>by obtain⟨o',es',ep',ho',r'⟩:=hm;rw[ho] at ho';cases ho';exact⟨_,es',ep',hL,r'⟩) hok I.bare
def Inv.call{g':Array GenState}{t':Nat}{d':Drawn}{ch:List Addr}(I:Inv X pins σ H s)(u:Un (frs X.stack) ch H H' s.heap h')(hok:HOk X.prog X.w H' h')(hg:AllBare g')
 (hch:∀b∈ch,(b∈X.ex\/X.s₀.heap.objs.size<=b)/\b≠X.env.locals/\(∀x c,X.env.cells.lookup x=some c->c≠b)/\∀p∈X.pn++pins,p.1≠b):
 Inv X pins σ H' { s with heap:=h',gens:=g',drawn:=d',toks:=t' }:=by
 obtain⟨m,⟨o,es,ep,ho,r⟩,_⟩:=id I.loc;obtain⟨sl,hL⟩:=u.any ho I.free λz=>(hch _ z).2.1 rfl;exact I.step (ch:=ch) hch (λb o hL hb hc e n=>u.keep b o e n (λz=>(G_.mp (I.stkSub b z)).elim hL hb) hc) (λb o _ _ hc e n=>u.any e n hc) (λb o hc e n=>u.free b o e n hc) (λb o hc e=>u.there b o e hc) u.tups u.frzs u.tbls (λm' hm=>by obtain⟨o',es',ep',ho',r'⟩:=hm;rw[ho] at ho';cases ho';exact⟨_,es',ep',hL,r'⟩) hok hg
def Inv.turned{t':Nat}{it:Addr}(I:Inv X pins σ H s)(k:∀b o,b≠it->s.heap.get? b=some o->h'.get? b=some o)(hn:H it=none)(hL:it≠X.env.locals)
 (h1:it∈X.ex\/X.s₀.heap.objs.size<=it) (h2:∀x c,X.env.cells.lookup x=some c->c≠it) (h3:∀p∈X.pn++pins,p.1≠it):Inv X pins σ H { s with heap:=h',toks:=t' }:=by
 have nit:∀b u,H b=some u->b≠it:=λb u e z=>by rw[z,hn] at e;cases e
 refine I.step (g':=s.gens) (d':=s.drawn) (ch:=[it]) (λb hb=>?_) (λb o _ _ hc e _=>k b o (λz=>hc (by simp [z])) e) (λb o _ _ hc e _=>⟨o.slots,k b o (λz=>hc (by simp [z])) e⟩) (λ_ _ _ _ n=>n)
  (λb o hc e=>⟨o,k b o (λz=>hc (by simp [z])) e⟩) (λ_ _ e=>e) (λ_ _ _ e=>e) (λb ps e=>⟨#[],by rw[e];simp⟩) (λm hm=>?_) (λb u e=>?_) I.bare
 .have e:b=it:=by simpa using hb
  subst e;exact⟨h1,hL,h2,h3⟩
 .obtain⟨o,es,ep,ho,r⟩:=hm;exact⟨o,es,ep,k _ o (Ne.symm hL) ho,r⟩
 .refine (I.hok b u e).stay (λc v hc q=>k c v ?_ q) (λ_ q=>q) λ_ _ q=>q;rcases hc with z |z
  .rw[z];exact nit b u e
  .exact nit c _ z
def Inv.tok(I:Inv X pins σ H s)(t:Nat):Inv X pins σ H { s with toks:=t }:=I.un (h':=s.heap) (t':=t) Un.refl I.hok
def Inv.kept(I:Inv X pins σ H s)(k:∀b u,s.heap.get? b=some u->h'.get? b=some u):Inv X pins σ H { s with heap:=h',toks:=t' }:=I.un (Un.kept k) (I.hok.kept k)
def Inv.laid(I:Inv X pins σ H s)(k:∀b u,s.heap.get? b=some u->h'.get? b=some u)(hp:s.heap.objs.size<=a)(new:ObjOk X.prog X.w (upd H a o) h' a o):
 Inv X pins σ (upd H a o) { s with heap:=h',toks:=t' }:=I.un (Un.laid k hp (I.hok.fresh hp)) (I.hok.laid k hp new)
def Inv.write(I:Inv X pins σ H s)(mu:Mut (H x))(he:e=x\/H e=some (.own x))(k:∀b u,b≠e->s.heap.get? b=some u->h'.get? b=some u)(heo:∃u,h'.get? e=some u)
 (new:ObjOk X.prog X.w (upd H x o) h' x o):Inv X pins σ (upd H x o) { s with heap:=h',toks:=t' }:=I.un (Un.write mu he k heo) (I.hok.write mu he k heo new)
def Inv.pins_of(I:Inv X pins σ H s)(h:∀p∈pins',s.heap.get? p.1=some p.2/\H p.1=none/\p.1≠X.env.locals/\p.1∉X.fs/\∀v,p.2.data ≠ .cell v):Inv X pins' σ H s:=
 ⟨I.ok,I.os,I.bare,I.base,I.loc,I.cell,I.free,I.freeC,λp hp=>(Om.mp hp).elim (λz=>I.pin p (PF _ z)) (h p),I.hok,I.len⟩
def sA{N:List Str}(hN:N.Nodup){i j:Nat}{x:Str}(a:N[i]?=some x)(b:N[j]?=some x):i=j:=by obtain⟨h1,e1⟩:=D_.mp a;obtain⟨h2,e2⟩:=D_.mp b;exact (List.getElem_inj hN).mp (e1.trans e2.symm)
def o8(I:Inv X pins σ H s)(hN:X.N.Nodup)(hi:X.N[i]?=some x)(hx:Loc X.env.scope x)(r:RelV v u)
 (h:∀s',Inv X pins (σ.set i (some v)) H s'->(∃a,Heap.SameBut a s.heap s'.heap/\(a=X.env.locals\/X.env.cells.lookup x=some a))->Q () s') (hf:X.fn x=true\/X.env.scope.names.lookup x=some .local):wpAny M A (storeName X.env x u) Q E s:=by
 obtain⟨m,hn,hl⟩:=id I.loc;have hcls:(X.env.scope.kind == .class || (X.env.scope.kind == .module&&X.env.locals != X.env.globals))=false:=by rw[I.ok.kind];rfl
 have hiσ:i<σ.length:=by rw[I.len];exact (D_.mp hi).1
 have cne:=I.cne;have tracked:∀{a:Addr}{h':Heap},(∃o,s.heap.get? a=some o/\H a=none)->Heap.SameBut a s.heap h'->HOk X.prog X.w H h':=λ{a h'} ha hs b ob e=>by
  obtain⟨_,_,hfree⟩:=ha;refine (I.hok b ob e).stay (λc w' hc q=>(hs.2 c ?_).trans q) (λ_ q=>q) λ_ _ q=>q;rintro rfl;rcases hc with rfl |hc
  .rw[hfree] at e;cases e
  .rw[hfree] at hc;cases hc
 rcases hx with hk |hk
 .refine wpAny_storeName_local hk hn (λh' hn' hs=>?_) hcls;obtain⟨oL,_,_,hoL,_⟩:=id hn;refine h _ ⟨I.ok,I.os,I.bare,⟨λb o e n hb hx=>?_,λb o e n hb hx=>?_,I.base.free,λb o e hx=>?_,I.base.tups,I.base.frzs,I.base.tbls⟩,⟨_,hn',λj y v' e1 e2 e3=>?_⟩,λy c e=>?_,I.free,I.freeC,λp hp=>?_,tracked ⟨oL,hoL,I.free⟩ hs,by simpa using I.len⟩ ⟨_,hs,.inl rfl⟩
  .exact (hs.2 b (L_ (I_ (A_ e) I.ok.above))).trans (I.base.keep b o e n hb hx)
  .obtain⟨sl,e1⟩:=I.base.slot b o e n hb hx;exact⟨sl,(hs.2 b (L_ (I_ (A_ e) I.ok.above))).trans e1⟩
  .obtain⟨o',e1⟩:=I.base.there b o e hx;exact⟨o',(hs.2 b (L_ (I_ (A_ e) I.ok.above))).trans e1⟩
  .by_cases hj:j=i
   .subst hj;rw[hi] at e1;cases e1;rw[List.getElem?_set_self hiσ] at e2;cases e2;exact⟨u,r,.inl ⟨hk,by simp⟩⟩
   .rw[PD (Ne.symm hj)] at e2;obtain⟨u',r',q⟩:=hl j y v' e1 e2 e3;refine⟨u',r',?_⟩;rcases q with ⟨k,e⟩ |⟨k,c,e,z⟩
    .refine .inl ⟨k,?_⟩;have:y≠x:=λe=>hj (sA hN e1 (e ▸ hi));simp [this,e]
    .exact .inr ⟨k,c,e,z.sameBut hs (cne y c e)⟩
  .obtain⟨w',z⟩:=I.cell y c e;exact⟨w',z.sameBut hs (cne y c e)⟩
  .obtain⟨e,n,ne,nf,d⟩:=I.pin p hp;exact⟨(hs.2 p.1 ne).trans e,n,ne,nf,d⟩
 .have hfn:X.fn x=true:=by
   rcases hf with z |z
   .exact z
   .rw[z] at hk;cases hk
  obtain⟨c,hc⟩:=I.ok.has x (.inl hk);obtain⟨w',z⟩:=I.cell x c hc;refine wpAny_storeName_cell I.ok.kind hk hc z (λh' hc' hs=>?_);obtain⟨oc,hoc,hocd⟩:=id z;refine h { s with heap:=h' } ⟨I.ok,I.os,I.bare,⟨λb o e n hb hx=>?_,λb o e n hb hx=>?_,I.base.free,λb o e hx=>?_,I.base.tups,I.base.frzs,I.base.tbls⟩,⟨m,hn.sameBut hs (Ne.symm (cne x c hc)),λj y v' e1 e2 e3=>?_⟩,λy c' e=>?_,I.free,I.freeC,λp hp=>?_,tracked ⟨oc,hoc,I.freeC x c hc⟩ hs,by simpa using I.len⟩ ⟨c,hs,.inr hc⟩
  .exact (hs.2 b (L_ (I_ (A_ e) (I.ok.cab x c hfn hc)))).trans (I.base.keep b o e n hb hx)
  .obtain⟨sl,e1⟩:=I.base.slot b o e n hb hx;exact⟨sl,(hs.2 b (L_ (I_ (A_ e) (I.ok.cab x c hfn hc)))).trans e1⟩
  .obtain⟨o',e1⟩:=I.base.there b o e hx;exact⟨o',(hs.2 b (L_ (I_ (A_ e) (I.ok.cab x c hfn hc)))).trans e1⟩
  .by_cases hj:j=i
   .subst hj;rw[hi] at e1;cases e1;rw[List.getElem?_set_self hiσ] at e2;cases e2;exact⟨u,r,.inr ⟨.inl hk,c,hc,hc'⟩⟩
   .rw[PD (Ne.symm hj)] at e2;obtain⟨u',r',q⟩:=hl j y v' e1 e2 e3;refine⟨u',r',?_⟩;rcases q with q |⟨k,c',e,z'⟩
    .exact .inl q
    .refine .inr ⟨k,c',e,z'.sameBut hs ?_⟩;rintro rfl;exact hj (sA hN e1 (I.ok.inj _ _ _ e hc ▸ hi))
  .by_cases hcc:c'=c
   .subst hcc;exact⟨_,hc'⟩
   .obtain⟨w2,z2⟩:=I.cell y c' e;exact⟨w2,z2.sameBut hs hcc⟩
  .obtain⟨e,n,ne,nf,d⟩:=I.pin p hp;refine⟨(hs.2 p.1 ?_).trans e,n,ne,nf,d⟩;intro q;rw[q,hoc] at e;have q':oc=p.2:=K_ e;exact d w' (by rw[<- q'];exact hocd)
def gS(I:Inv X pins σ H s)(hN:X.N.Nodup)(hi:X.N[i]?=some x)(hx:Loc X.env.scope x)(r:RelV v u)
 (h:∀s',Inv X pins (σ.set i (some v)) H s'->Q () s') (hf:X.fn x=true\/X.env.scope.names.lookup x=some .local):wpAny M A (storeName X.env x u) Q E s:=
 o8 I hN hi hx r (λs' I' _=>h s' I') hf
def Inv.call'(I:Inv X pins σ H s)(ho:s'.os=s.os)(u:Un (frs X.stack) ch H H' s.heap s'.heap)(hok:HOk X.prog X.w H' s'.heap)(hg:AllBare s'.gens)
 (hch:∀b∈ch,(b∈X.ex\/X.s₀.heap.objs.size<=b)/\b≠X.env.locals/\(∀x c,X.env.cells.lookup x=some c->c≠b)/\∀p∈X.pn++pins,p.1≠b):Inv X pins σ H' s':=by
 obtain⟨h',g',d',t',o'⟩:=s';have e:o'=s.os:=ho;subst e;exact I.call (g':=g') (t':=t') (d':=d') u hok hg hch
end
abbrev XK:=Value->Option Addr->Hp->Prop
abbrev St:=List (Option V)
abbrev VK:=V->Hp->Prop
abbrev TE:=St->Hp->VK->Prop
abbrev TT:=St->Hp->(Bool->Hp->Prop)->Prop
abbrev TA:=St->Hp->(List V->Hp->Prop)->Prop
structure Ends where
 nx:St->Hp->Prop
 rt:VK
 bk:St->Hp->Prop:=λ_ _=>False
 ct:St->Hp->Prop:=λ_ _=>False
abbrev TS:=Ends->St->Hp->Prop
def EP(X:Cx)(pins:Qc)(σ:St)(Q:VK)(u:Value)(s':Shared):Prop:=∃v H',Inv X pins σ H' s'/\RelV v u/\Q v H'
def TP(X:Cx)(pins:Qc)(σ:St)(Q:Bool->Hp->Prop)(b:Bool)(s':Shared):Prop:=∃H',Inv X pins σ H' s'/\Q b H'
def AP(X:Cx)(pins:Qc)(σ:St)(Q:List V->Hp->Prop)(us:List Value)(s':Shared):Prop:=∃vs H',Inv X pins σ H' s'/\Vals vs us/\Q vs H'
def SP(X:Cx)(pins:Qc)(D:Ends)(f:Flow)(s':Shared):Prop:=
 match f with
 |.next=>∃σ' H',Inv X pins σ' H' s'/\D.nx σ' H'
 |.brk=>∃σ' H',Inv X pins σ' H' s'/\D.bk σ' H'
 |.cont=>∃σ' H',Inv X pins σ' H' s'/\D.ct σ' H'
 |.ret u=>∃v σ' H',Inv X pins σ' H' s'/\RelV v u/\D.rt v H'
def exA{α:Type}{A B C:α->Hp->Prop}{Z:Prop}(h:∃v H',A v H'/\B v H'/\C v H')(k:∀v H',A v H'->B v H'->C v H'->Z):Z:=by obtain⟨v,H',a,b,c⟩:=h;exact k v H' a b c
def PE(X:Cx)(e:Expr)(t:TE):Prop:=
 ∀(pins:Qc) (s:Shared) (σ:St) (H:Hp) (Q:VK),Inv X pins σ H s->t σ H Q->wpAny (model X.prog X.w) X.A (eval e X.env) (EP X pins σ Q) X.xe s
def PT(X:Cx)(e:Expr)(t:TT):Prop:=
 ∀(pins:Qc) (s:Shared) (σ:St) (H:Hp) (Q:Bool->Hp->Prop),Inv X pins σ H s->t σ H Q->wpAny (model X.prog X.w) X.A (isTrue e X.env (eval e X.env)) (TP X pins σ Q) X.xe s
def PW(X:Cx)(e:Expr)(t:TT):Prop:=
 ∀(g_:Sem Value) (pins:Qc) (s:Shared) (σ:St) (H:Hp) (Q:Bool->Hp->Prop),Inv X pins σ H s->t σ H Q->wpAny (model X.prog X.w) X.A (isTrue e X.env g_) (TP X pins σ Q) X.xe s
def PW.pt(h:PW X e t):PT X e t:=h _
def PA(X:Cx)(es:List Expr)(t:TA):Prop:=
 ∀(pos:Pos) (pins:Qc) (s:Shared) (σ:St) (H:Hp) (Q:List V->Hp->Prop),Inv X pins σ H s->t σ H Q->wpAny (model X.prog X.w) X.A (spliced (backTo pos (starEach es X.env))) (AP X pins σ Q) X.xe s
def PS(X:Cx)(st:Stmt)(t:TS):Prop:=
 ∀(pins:Qc) (s:Shared) (σ:St) (H:Hp) (D:Ends),Inv X pins σ H s->t D σ H->wpAny (model X.prog X.w) X.A (exec st X.env) (SP X pins D) X.xe s
def PSs(X:Cx)(st:List Stmt)(t:TS):Prop:=
 ∀(pins:Qc) (s:Shared) (σ:St) (H:Hp) (D:Ends),Inv X pins σ H s->t D σ H->wpAny (model X.prog X.w) X.A (execs st X.env) (SP X pins D) X.xe s
def thn(h:wpAny M A t Q E s)(hQ:∀a s,Q a s->Q' a s):wpAny M A t Q' E s:=Nu h hQ λ_ _ x=>x
section
variable{X:Cx}
def tVar(i:Nat):TE:=λσ H Q=>∃v,σ[i]?=some (some v)/\Q v H
def tC(v:V):TE:=λ_ H Q=>Q v H
def JK(hN:X.N[i]?=some x)(hv:Vis X.env.scope x)(hd:(x==("__debug__" : Str))=false)(n_:(x==("__classdict__" : Str))=false):PE X (.Name x pos) (tVar i):=by
 intro pins s σ H Q I h;obtain⟨v,e,h⟩:=h;obtain⟨m,hn,hl⟩:=I.loc;obtain⟨u,r,l⟩:=hl i x v hN e hv;have f_:EP X pins σ Q u s:=⟨v,H,I,r,h⟩;rcases l with ⟨hk,hm⟩ |⟨hk,c,hc,m_⟩
 .exact wpAny_Name (PU I.ok.kind hk hn hm f_) hd
 .rcases hk with hk |hk
  .exact wpAny_Name (wpAny_loadName_cell I.ok.kind hk hc m_ f_) hd
  .exact wpAny_Name (wpAny_loadName_free I.ok.kind hk hc m_ f_ n_) hd
def Ia{i j pos}:PE X (.Constant (.int i) j pos) (tC (.int i)):=λ_ _ _ H _ I h=>wpAny_Constant_int ⟨.int i,H,I.tok _,⟨_,rfl⟩,h⟩
def Nb{b j pos}:PE X (.Constant (.bool b) j pos) (tC (.bl b)):=λ_ _ _ H _ I h=>Constant_bool ⟨.bl b,H,I,rfl,h⟩
def Gy{j pos}:PE X (.Constant .none j pos) (tC .non):=λ_ _ _ H _ I h=>Constant_none ⟨.non,H,I,rfl,h⟩
def AW{x j pos}:PE X (.Constant (.str x) j pos) (tC (.str x)):=λ_ _ _ H _ I h=>Calls.Constant_str ⟨.str x,H,I.tok _,⟨_,rfl⟩,h⟩
def Gl(X:Cx)(x:Str):Prop:=X.env.kindOf x=some .globalImplicit
def nT(I:Inv X pins σ H s)(hg:Gl X x)(hm:X.mg x=some u)(h:Q u s)
 (hd:(x==("__debug__" : Str))=false):wpAny (model X.prog X.w) X.A (eval (.Name x pos) X.env) Q E s:=
 Calls.Name_function_global I.ok.kind hg (Calls.loadGlobal_global (by rw[I.ok.glob];exact I.mod.glob.keeps I.bk) hm h) hd
def cL(I:Inv X pins σ H s)(hg:Gl X x)(hm:X.mg x=none)(hv:bootBuiltins x=some u)(h:Q u s)
 (hn:x ≠ "__name__":=by decide) (hd:(x==("__debug__" : Str))=false:=by decide):wpAny (model X.prog X.w) X.A (eval (.Name x pos) X.env) Q E s:=by
 obtain⟨mb,h1,h2⟩:=I.mod.blt;exact Calls.Name_function_global I.ok.kind hg (Calls.loadGlobal_builtin (by rw[I.ok.glob];exact I.mod.glob.keeps I.bk) hm (by rw[I.ok.blt];exact h1.keeps I.bk) ((h2 x hn).trans hv) h) hd
def vQ(hg:Gl X x)(hm:X.mg x=some u)(r:RelV v u)(hd:(x==("__debug__" : Str))=false):PE X (.Name x pos) (tC v):=
 λ_ _ _ H _ I h=>nT I hg hm ⟨v,H,I,r,h⟩ hd
def Fc(hg:Gl X x)(hm:X.mg x=none)(hv:bootBuiltins x=some u)(r:RelV v u)(hn:x ≠ "__name__")(hd:(x==("__debug__" : Str))=false):PE X (.Name x pos) (tC v):=
 λ_ _ _ H _ I h=>cL I hg hm hv ⟨v,H,I,r,h⟩ hn hd
variable{a b:Expr}{ta tb:TE}{pos:Pos}
def tB(t:TE):TT:=λσ H Q=>t σ H λx H1=>∃c,x=.bl c/\Q c H1
def Iq(h:PE X e t)(he:∀g_,isTrue e X.env g_=(do let v <- g_;standAt e.pos;holding [v] (truthy v))):PT X e (tB t):=by intro pins s σ H Q I hw;refine isTrue_plain (thn (h pins s σ H _ I hw) λv s1 zz=>exA zz λx H1 I1 r1 q1=>?_) (he _);obtain⟨d,rfl,q⟩:=q1;cases r1;exact Ov ⟨H1,I1,q⟩
variable{tA tB':TT}{fu:List Expr}
def tAnd(t u:TT):TT:=λσ H Q=>t σ H λc H1=>if c=true then u σ H1 Q else Q false H1
def tOr(t u:TT):TT:=λσ H Q=>t σ H λc H1=>if c=true then Q true H1 else u σ H1 Q
def tNot(t:TT):TT:=λσ H Q=>t σ H λc H1=>Q (!c) H1
def Fo(ha:PT X a tA):PW X (.BoolOp .And [a] pos) tA:=by
 intro wh pins s σ H Q I h;refine isTrue_and (thn (ha pins s σ H Q I h) λc s1 e=>?_);cases c with
 |true=>exact isTrue_and_nil e
 |false=>exact e
def JL(ha:PT X a tA):PW X (.BoolOp .Or [a] pos) tA:=by
 intro wh pins s σ H Q I h;refine isTrue_or (thn (ha pins s σ H Q I h) λc s1 e=>?_);cases c with
 |false=>exact isTrue_or_nil e
 |true=>exact e
def Jv(ha:PT X a tA)(hb:PW X (.BoolOp .And (b::fu) pos) tB'):PW X (.BoolOp .And (a::b::fu) pos) (tAnd tA tB'):=by
 intro wh pins s σ H Q I h;refine isTrue_and (thn (ha pins s σ H _ I h) λc s1 ⟨H1,I1,q1⟩=>?_);cases c with
 |true=>exact hb wh pins s1 σ H1 Q I1 q1
 |false=>exact⟨H1,I1,q1⟩
def LJ(ha:PT X a tA)(hb:PW X (.BoolOp .Or (b::fu) pos) tB'):PW X (.BoolOp .Or (a::b::fu) pos) (tOr tA tB'):=by
 intro wh pins s σ H Q I h;refine isTrue_or (thn (ha pins s σ H _ I h) λc s1 ⟨H1,I1,q1⟩=>?_);cases c with
 |true=>exact⟨H1,I1,q1⟩
 |false=>exact hb wh pins s1 σ H1 Q I1 q1
def Jo(ha:PT X a tA):PT X (.UnaryOp .Not a pos) (tNot tA):=by intro pins s σ H Q I h;exact isTrue_not (ha pins s σ H (λc H1=>Q (!c) H1) I h)
def M7(ta tb:TE):TE:=λσ H Q=>ta σ H λx H1=>∃c,x=.bl c/\if c=true then tb σ H1 Q else Q (.bl false) H1
def tOrV(ta tb:TE):TE:=λσ H Q=>ta σ H λx H1=>∃c,x=.bl c/\if c=true then Q (.bl true) H1 else tb σ H1 Q
def Lg(ta:TE):TE:=λσ H Q=>ta σ H λx H1=>∃c,x=.bl c/\Q (.bl (!c)) H1
def JU{op}(h:PE X a t):PE X (.BoolOp op [a] pos) t:=λpins s σ H Q I hw=>BoolOp_one (h pins s σ H Q I hw)
def JG(ha:PE X a ta)(hb:PE X (.BoolOp .And (b::fu) pos) tb):PE X (.BoolOp .And (a::b::fu) pos) (M7 ta tb):=by
 intro pins s σ H Q I h;refine BoolOp_and (thn (ha pins s σ H _ I h) λv s1 zz=>exA zz λx H1 I1 r1 q1=>?_);obtain⟨c,rfl,q1⟩:=q1;cases r1;refine Ov ?_;cases c with
 |true=>exact hb pins s1 σ H1 Q I1 q1
 |false=>exact⟨.bl false,H1,I1,rfl,q1⟩
def K6(ha:PE X a ta)(hb:PE X (.BoolOp .Or (b::fu) pos) tb):PE X (.BoolOp .Or (a::b::fu) pos) (tOrV ta tb):=by
 intro pins s σ H Q I h;refine BoolOp_or (thn (ha pins s σ H _ I h) λv s1 zz=>exA zz λx H1 I1 r1 q1=>?_);obtain⟨c,rfl,q1⟩:=q1;cases r1;refine Ov ?_;cases c with
 |false=>exact hb pins s1 σ H1 Q I1 q1
 |true=>exact⟨.bl true,H1,I1,rfl,q1⟩
def HQ(ha:PE X a ta):PE X (.UnaryOp .Not a pos) (Lg ta):=by intro pins s σ H Q I h;refine UnaryOp_ (thn (ha pins s σ H _ I h) λv s1 zz=>exA zz λx H1 I1 r1 q1=>?_);obtain⟨c,rfl,q1⟩:=q1;cases r1;exact not_of (Ov ⟨.bl (!c),H1,I1,rfl,q1⟩)
end
def SqL(K:W.Frag)(H:Hp)(a:Addr)(xs:List V):Prop:=
 Rd H a (.lst xs)\/
  ∃(o:Obj) (its:Array Value) (n:Nat),K.lookup a=some o/\o.cls=.type "list" /\ o.dict=none/\o.data=.seq its n/\its.size<=sizeLine/\Vals xs its.toList
def SqT(K:W.Frag)(H:Hp)(a:Addr)(xs:List V):Prop:=
 Rd H a (.tup xs)\/
  ∃(o:Obj) (its:Array Value) (n:Nat),K.lookup a=some o/\o.cls=.type "tuple" /\ o.data=.seq its n/\its.size<=sizeLine/\Vals xs its.toList
noncomputable def absV:Value->Option V
 |.none=>some .non
 |.bool b=>some (.bl b)
 |.int i _=>some (.int i)
 |.str x _=>some (.str x)
 |.bytes b _=>some (.byt b)
 |.float b _=>some (.flt b)
 |.ref a=>some (.ref a)
 |.type n=>some (.ty n)
 |_=>none
def RelV.abs(r:RelV x u):absV u=some x:=by
 cases x with
 |non=>cases r;rfl
 |bl _=>cases r;rfl
 |int _=>obtain⟨t,rfl⟩:=r;rfl
 |str _=>obtain⟨t,rfl⟩:=r;rfl
 |byt _=>obtain⟨t,rfl⟩:=r;rfl
 |flt _=>obtain⟨t,rfl⟩:=r;rfl
 |ref _=>cases r;rfl
 |ty _=>cases r;rfl
def RelV.inj(r:RelV x u)(q:RelV y u):x=y:=K_ (r.abs.symm.trans q.abs)
def Vals.inj(r:Vals xs us)(q:Vals ys us):xs=ys:=by
 induction r generalizing ys with
 |nil=>cases q;rfl
 |
  cons r t ih=>
  cases q with
  |cons q t'=>rw[r.inj q,ih t']
section
variable{X:Cx}{pins:Qc}{σ:St}{H:Hp}{s:Shared}{a:Addr}{xs ys:List V}
def SqL.of{K:W.Frag}(h:H a=some (.lst xs)):SqL K H a xs:=.inl (.inl h)
def SqT.of{K:W.Frag}(h:H a=some (.tup xs)):SqT K H a xs:=.inl (.inl h)
def Inv.list(I:Inv X pins σ H s)(h:SqL X.K H a xs):∃its:List Value,Vals xs its/\PlainL s.heap a its.toArray/\xs.length<=sizeLine:=by
 rcases h with h |⟨o,its,n,hk,hc,hd,hs,hz,r⟩
 .obtain⟨z,its,n,r,e⟩:=h.ok I.hok;exact⟨its,r,⟨_,n,e,rfl,rfl,rfl⟩,z⟩
 .refine⟨its.toList,r,⟨o,n,I.kIn a o hk,hc,hd,by simpa using hs⟩,?_⟩;have e:=r.length;simp only[NJ] at e;omega
def Inv.tuple(I:Inv X pins σ H s)(h:SqT X.K H a xs):∃its:List Value,Vals xs its/\IsTup s.heap a its.toArray/\xs.length<=sizeLine:=by
 rcases h with h |⟨o,its,n,hk,hc,hs,hz,r⟩
 .obtain⟨z,its,r,p⟩:=h.ok I.hok;exact⟨its,r,p,z⟩
 .refine⟨its.toList,r,⟨o,I.kIn a o hk,hc,n,by simpa using hs⟩,?_⟩;have e:=r.length;simp only[NJ] at e;omega
def Inv.list_inj(I:Inv X pins σ H s)(h:SqL X.K H a xs)(h':SqL X.K H a ys):xs=ys:=by
 obtain⟨its,r,⟨o,n,e,_,_,d⟩,_⟩:=I.list h;obtain⟨its',r',⟨o',n',e',_,_,d'⟩,_⟩:=I.list h';rw[e] at e';cases e';rw[d] at d';injection d' with d1 _;have:its=its':=by simpa using NA Array.toList d1
 subst this;exact r.inj r'
def Inv.tuple_inj(I:Inv X pins σ H s)(h:SqT X.K H a xs)(h':SqT X.K H a ys):xs=ys:=by
 obtain⟨its,r,⟨o,e,_,n,d⟩,_⟩:=I.tuple h;obtain⟨its',r',⟨o',e',_,n',d'⟩,_⟩:=I.tuple h';rw[e] at e';cases e';rw[d] at d';injection d' with d1 _;have:its=its':=by simpa using NA Array.toList d1
 subst this;exact r.inj r'
end
section
variable{X:Cx}{st:Stmt}{fu:List Stmt}{t u:TS}{e:Expr}{te:TE}{pos:Pos}
def Mr:TS:=λD σ H=>D.nx σ H
def tSeq(t u:TS):TS:=λD σ H=>t { D with nx:=u D } σ H
def Fs:PSs X [] Mr:=λ_ _ σ H _ I h=>PR ⟨σ,H,I,h⟩
def CT(h1:PS X st t)(h2:PSs X fu u):PSs X (st::fu) (tSeq t u):=by
 intro pins s σ H D I h;refine wpAny_execs_cons (thn (h1 pins s σ H { D with nx:=u D } I h) λf s1 q=>?_);cases f with
 |next=>obtain⟨σ',H',I',q⟩:=q;exact h2 pins s1 σ' H' D I' q
 |ret v=>exact q
 |brk=>exact q
 |cont=>exact q
def FI(h1:PS X st t):PSs X [st] t:=by
 intro pins s σ H D I h;refine wpAny_execs_cons (thn (h1 pins s σ H D I h) λf s1 q=>?_);cases f with
 |next=>exact PR q
 |ret v=>exact q
 |brk=>exact q
 |cont=>exact q
def HD:TS:=λD σ H=>D.bk σ H
def C8:PS X (.Break pos) HD:=λ_ _ σ H _ I h=>wpAny_Break ⟨σ,H,I,h⟩
def Inv.quiet(I:Inv X pins σ H s):interactive X.env=false:=by simp [interactive,I.ok.kind]
def LH(te:TE):TS:=λD σ H=>te σ H λ_ H1=>D.nx σ H1
def F2(he:PE X e te)(hs:swapsWith e none pos.line X.env=pure false):PS X (.Expr e pos) (LH te):=by intro pins s σ H D I h;exact wpAny_Expr_any (thn (he pins s σ H _ I h) λv s1 zz=>exA zz λx H1 I1 r1 q1=>⟨σ,H1,I1,q1⟩) I.quiet hs
def tRet(te:TE):TS:=λD σ H=>te σ H D.rt
def Hy(he:PE X e te):PS X (.Return (some e) pos) (tRet te):=by intro pins s σ H D I h;exact wpAny_Return_some (thn (he pins s σ H _ I h) λv s1 zz=>exA zz λx H1 I1 r1 q1=>⟨x,σ,H1,I1,r1,q1⟩)
def LS:TS:=λD _ H=>D.rt .non H
def Fm:PS X (.Return none pos) LS:=λ_ _ σ H _ I h=>wpAny_Return_none ⟨.non,σ,H,I,rfl,h⟩
def tIfS(c:TT)(t u:TS):TS:=λD σ H=>c σ H λb H1=>if b=true then t D σ H1 else u D σ H1
def KU(hc:PT X c tc)(ha:PSs X a t)(hb:PSs X b u):PS X (.If c a b pos) (tIfS tc t u):=by
 intro pins s σ H D I h;refine wpAny_If (thn (hc pins s σ H _ I h) λd s1 ⟨H1,I1,q1⟩=>?_);cases d with
 |true=>exact ha pins s1 σ H1 D I1 q1
 |false=>exact hb pins s1 σ H1 D I1 q1
end
abbrev TG:=V->St->Hp->(St->Hp->Prop)->Prop
abbrev TGs:=List V->St->Hp->(St->Hp->Prop)->Prop
def PG(X:Cx)(target:Expr)(t:TG):Prop:=
 ∀
  (pins:Qc) (s:Shared) (σ:St) (H:Hp) (v:V) (u:Value) (Q:St->Hp->Prop),Inv X pins σ H s->RelV v u->t v σ H Q->
  wpAny (model X.prog X.w) X.A (assign target X.env u) (λ_ s'=>∃σ' H',Inv X pins σ' H' s'/\Q σ' H') X.xe s
def PGs(X:Cx)(ts:List Expr)(t:TGs):Prop:=
 ∀
  (pins:Qc) (s:Shared) (σ:St) (H:Hp) (vs:List V) (us:List Value) (Q:St->Hp->Prop),Inv X pins σ H s->Vals vs us->t vs σ H Q->
  wpAny (model X.prog X.w) X.A (assignInOrder ((assignEach ts X.env).map (·.2)) us) (λ_ s'=>∃σ' H',Inv X pins σ' H' s'/\Q σ' H') X.xe s
abbrev tF:=V->V->V->Hp->(Hp->Prop)->Prop
def Cu(X:Cx)(t:tF):Prop:=
 ∀
  (pins:Qc) (s:Shared) (σ:St) (H:Hp) (o i v:V) (ov iv u:Value) (Q:Hp->Prop),Inv X pins σ H s->RelV o ov->RelV i iv->RelV v u->t o i v H Q->
  wpAny (model X.prog X.w) X.A (setItem ov iv u) (λ_ s'=>∃H',Inv X pins σ H' s'/\Q H') X.xe s
abbrev TIp:=V->V->Hp->VK->Prop
def PIp(X:Cx)(op:Operator)(t:TIp):Prop:=
 ∀
  (pins:Qc) (s:Shared) (σ:St) (H:Hp) (x y:V) (v u:Value) (Q:VK),Inv X pins σ H s->RelV x v->RelV y u->t x y H Q->
  wpAny (model X.prog X.w) X.A (inplaceOp op v u) (EP X pins σ Q) X.xe s
section
variable{X:Cx}{pos:Pos}
def qV(i:Nat):TG:=λv σ H Q=>Q (σ.set i (some v)) H
def Ge(hN:X.N.Nodup)(hi:X.N[i]?=some x)(hx:Loc X.env.scope x)(hf:X.fn x=true\/X.env.scope.names.lookup x=some .local):PG X (.Name x pos) (qV i):=by intro pins s σ H v u Q I r h;exact wpAny_assign_Name (gS I hN hi hx r (λs' I'=>⟨_,H,I',h⟩) hf)
def gNil:TGs:=λvs σ H Q=>vs=[]/\Q σ H
def LO(t:TG)(u:TGs):TGs:=λvs σ H Q=>∃v r,vs=v::r/\t v σ H λσ' H'=>u r σ' H' Q
def EG:PGs X [] gNil:=by intro pins s σ H vs us Q I r h;obtain⟨e,h⟩:=h;subst e;cases r;exact assignInOrder_nil ⟨σ,H,I,h⟩
def Bm(h1:PG X e t)(h2:PGs X es u)
 (hs:(assignEach (e::es) X.env).map (·.2)=assign e X.env::(assignEach es X.env).map (·.2)):PGs X (e::es) (LO t u):=by
 intro pins s σ H vs us Q I r h;obtain⟨v,vr,e1,h⟩:=h;subst e1;cases r with
 |cons r rr=>rw[hs];refine assignInOrder_cons (thn (h1 pins s σ H _ _ _ I r h) λ_ s1 ⟨σ1,H1,I1,q1⟩=>?_);exact h2 pins s1 σ1 H1 _ _ Q I1 rr q1
def gTup(K:W.Frag)(n:Nat)(t:TGs):TG:=λv σ H Q=>∃a xs,v=.ref a/\SqT K H a xs/\xs.length=n/\t xs σ H Q
def yX(hc:X.calm=true)(h:PGs X es t)
 (hn:(assignEach es X.env).length=n) (hst:(assignEach es X.env).findIdx? (·.1)=none):PG X (.Tuple es k pos) (gTup X.K n t):=by
 intro pins s σ H v u Q I r hw;obtain⟨a,xs,e1,hq,hl,hw⟩:=hw;subst e1;cases r;obtain⟨its,rv,ht,hz⟩:=I.tuple hq;refine assign_Tuple_tuple (I.ok.hd hc) ht (by simp [hn,<- hl,rv.length]) hst λh' hx=>?_;have I1:Inv X pins σ H { s with heap:=h' }:=I.kept (t':=s.toks) λb o e=>hx b o (L_ (A_ e)) e;exact h pins _ σ H xs _ Q I1 (by simpa using rv) hw
def gSub(to ti:TE)(t:tF):TG:=λv σ H Q=>to σ H λo H1=>ti σ H1 λi H2=>t o i v H2 λH3=>Q σ H3
def Hf(ho:PE X o to)(hi:PE X i ti)(hs:Cu X t)
 (ha:∀v,assign (.Subscript o i pos) X.env v=(do
  let ov <- holding [v] (eval o X.env)
  let iv <- holding [v,ov] (eval i X.env)
  standAt pos
  holding [v,ov,iv] (setItem ov iv v)
  release [v,ov,iv] [])):PG X (.Subscript o i pos) (gSub to ti t):=by
 intro pins s σ H v u Q I r h;rw[ha];refine o_ (Of (thn (ho pins s σ H _ I h) λov s1 zz=>exA zz λx H1 I1 r1 q1=>?_));refine o_ (Of (thn (hi pins s1 σ H1 _ I1 q1) λiv s2 zz=>exA zz λy H2 I2 r2 q2=>?_));refine o_ (O5 (o_ (Of (thn (hs pins s2 σ H2 x y v ov iv u _ I2 r1 r2 r q2) λ_ s3 ⟨H3,I3,q3⟩=>?_))));exact wpAny_release ⟨σ,H3,I3,q3⟩
def wX(te:TE)(g:TG):TS:=λD σ H=>te σ H λx H1=>g x σ H1 D.nx
def An(he:PE X e te)(hg:PG X tg g)(hs:swapsWithSole [tg] e pos.line X.env=pure false)(hw:swappedStores [tg] e X.env=pure none)
 (h1:(assignEach [tg] X.env).map (·.2)=[assign tg X.env]):PS X (.Assign [tg] e pos) (wX te g):=by
 intro pins s σ H D I h;refine wpAny_Assign_stores (thn (he pins s σ H _ I h) λv s1 zz=>exA zz λx H1 I1 r1 q1=>?_) hs hw;rw[h1];exact thn (hg pins s1 σ H1 x v _ I1 r1 q1) λ_ s2 q=>q
def J4(hN:X.N.Nodup)(hi:X.N[i]?=some x)(hx:Loc X.env.scope x)(he:PE X e te)(hs:swapsWith e (some (.Name x l_)) pos.line X.env=pure false)(hf:X.fn x=true\/X.env.scope.names.lookup x=some .local):
 PS X (.Assign [.Name x l_] e pos) (wX te (qV i)):=by
 intro pins s σ H D I h;refine wpAny_Assign_Name (thn (he pins s σ H _ I h) λv s1 zz=>exA zz λy H1 I1 r1 q1=>?_) hs;exact gS I1 hN hi hx r1 (λs2 I2=>⟨_,H1,I2,q1⟩) hf
def tPar(i j:Nat)(ta:TA):TS:=λD σ H=>ta σ H λvs H1=>∃v w,vs=[v,w]/\D.nx ((σ.set i (some v)).set j (some w)) H1
def HN{kt k2 pt2}(hc:X.calm=true)(hN:X.N.Nodup)(hi:X.N[i]?=some x)(hj:X.N[j]?=some y)(hij:i≠j)
 (hx:X.env.scope.names.lookup x=some .local) (hy:X.env.scope.names.lookup y=some .local) (ha:PA X [a,b] ta)
 (hw:swappedStores [.Tuple [.Name x px,.Name y py] kt pt] (.Tuple [a,b] k2 pt2) X.env=pure (some [x,y]))
 (hs:swapsWithSole [.Tuple [.Name x px,.Name y py] kt pt] (.Tuple [a,b] k2 pt2) pos.line X.env=pure false):
 PS X (.Assign [.Tuple [.Name x px,.Name y py] kt pt] (.Tuple [a,b] k2 pt2) pos) (tPar i j ta):=by
 intro pins s σ H D I h;rw[exec_Assign_arm];refine o_ (O5 ?_);rw[hs];refine o_ (B_ ?_);rw[if_neg (by decide)];refine o_ (Tuple_ (thn (ha _ pins s σ H _ I h) λus s1 zz=>exA zz λvs H1 I1 r1 q1=>?_));obtain⟨v,w,e1,q1⟩:=q1;subst e1;obtain⟨u1,u2,rfl,rv,rw'⟩:∃u1 u2,us=[u1,u2]/\RelV v u1/\RelV w u2:=by
  cases r1 with
  |
   cons p q=>
   cases q with
   |cons p' q'=>cases q';exact⟨_,_,rfl,p,p'⟩
 refine N4 ?_ (by show 2<=sizeLine;decide);have I2:Inv X pins σ H1 { s1 with heap:=s1.heap.push { cls:=.type "tuple",data:=.seq [u1,u2].toArray } }:=I1.kept (t':=s1.toks) λb o e=>q_ _ e;rw[hw];refine o_ (B_ ?_);show wpAny (model X.prog X.w) X.A (do rule "assign.swapped-stores";let items <- unpackItems (.ref s1.heap.objs.size) 2 none;assignInOrder [λv=>bindName X.env y v,λv=>bindName X.env x v] items.reverse;pure Flow.next) _ _ _;refine o_ (wpAny_rule (o_ (unpackItems_tuple (items:=#[u1,u2]) (I.ok.hd hc) (IsTup.new s1.heap _) λh' hx'=>?_)));have I3:=I2.kept (h':=h') (t':=s1.toks) λb o e=>hx' b o (L_ (A_ e)) e;show wpAny _ _ (assignInOrder [λv=>bindName X.env y v,λv=>bindName X.env x v] [u2,u1] >>= λ_=>pure Flow.next) _ _ _;refine o_ (assignInOrder_cons (wpAny_bindName (gS I3 hN hj (.inl hy) rw' (λs2 I4=>?_) (.inr hy))));refine assignInOrder_cons (wpAny_bindName (gS I4 hN hi (.inl hx) rv (λs3 I5=>assignInOrder_nil (B_ ?_)) (.inr hx)));rw[List.set_comm _ _ (Ne.symm hij)] at I5;exact⟨_,H1,I5,q1⟩
def tAug(i:Nat)(te:TE)(ti:TIp):TS:=λD σ H=>∃x,σ[i]?=some (some x)/\te σ H λy H1=>ti x y H1 λz H2=>D.nx (σ.set i (some z)) H2
def HF(hN:X.N.Nodup)(hi:X.N[i]?=some x)(hx:Loc X.env.scope x)(he:PE X e te)(ho:PIp X op ti)(hf:X.fn x=true\/X.env.scope.names.lookup x=some .local):
 PS X (.AugAssign (.Name x l_) op e pos) (tAug i te ti):=by
 intro pins s σ H D I h;obtain⟨v,e1,h⟩:=h;obtain⟨m,hn,hl⟩:=I.loc;have vis:Vis X.env.scope x:=by rcases hx with k |k;exact .inl k;exact .inr (.inl k)
 obtain⟨u,r,l⟩:=hl i x v hi e1 vis;refine wpAny_AugAssign_Name ?_;have go:wpAny (model X.prog X.w) X.A (eval e X.env) (λw s₂=>wpAny (model X.prog X.w) X.A (inplaceOp op u w) (λr s₃=>wpAny (model X.prog X.w) X.A (storeName X.env x r) (λ_=>SP X pins D .next) X.xe s₃) X.xe s₂) X.xe s:=by refine thn (he pins s σ H _ I h) λw s1 zz=>exA zz λy H1 I1 r1 q1=>?_;refine thn (ho pins s1 σ H1 v y u w _ I1 r r1 q1) λz s2 zz=>exA zz λzv H2 I2 r2 q2=>?_;exact gS I2 hN hi hx r2 (λs3 I3=>⟨_,H2,I3,q2⟩) hf
 rcases l with ⟨hk,hm⟩ |⟨hk,c,hc,m_⟩
 .exact PU I.ok.kind hk hn hm go
 .rcases hk with hk |hk
  .exact wpAny_loadName_cell I.ok.kind hk hc m_ go
  .rcases hx with k |k
   .have:X.env.scope.names.lookup x=some .free:=hk;rw[k] at this;cases this
   .have:X.env.scope.names.lookup x=some .free:=hk;rw[k] at this;cases this
def ipI(f:Int->Int->Int):TIp:=λx y H Q=>∃i j,x=.int i/\y=.int j/\Q (.int (f i j)) H
def JY:PIp X .Add (ipI λi j=>i+j):=by intro pins s σ H x y v u Q I r1 r2 h;obtain⟨i,j,e1,e2,q⟩:=h;subst e1;subst e2;obtain⟨t,rfl⟩:=r1;obtain⟨t',rfl⟩:=r2;exact iadd_int ⟨.int _,H,I.tok _,⟨_,rfl⟩,q⟩
def JZ(c:TT)(tb:TS):TS:=λD σ H=>∃W:Nat->St->Hp->Prop,(∃m,W m σ H)/\∀m σ H,W m σ H->
 c σ H λb H1=>if b=true then ∃N:St->Hp->Prop,(∀σ' H',N σ' H'->∃m',m'<m/\W m' σ' H')/\tb { D with nx:=N,ct:=N,bk:=D.nx } σ H1 else D.nx σ H1
def Cs(hp:PassesOwn (model X.prog X.w) X.A X.env X.xe)(hc:PT X c tc)(hb:PSs X body tb):PS X (.While c body [] pos) (JZ tc tb):=by
 intro pins s σ H D I h;obtain⟨W,⟨m0,w0⟩,turn⟩:=h;refine wpAny_While (codeAny_whileLoop (λn s'=>∃σ' H',Inv X pins σ' H' s'/\W n σ' H') ?_ m0 ⟨σ,H,I,w0⟩);rintro n s1 ⟨σ1,H1,I1,w1⟩;refine OI hp (thn (hc pins s1 σ1 H1 _ I1 (turn n σ1 H1 w1)) λb s2 ⟨H2,I2,q2⟩=>?_);cases b with
 |
  true=>
  obtain⟨N,hN,q2⟩:=q2;rw[if_pos rfl];refine OI hp (thn (hb pins s2 σ1 H2 _ I2 q2) λf s3 q3=>?_);cases f with
  |next=>obtain⟨σ3,H3,I3,n3⟩:=q3;obtain⟨m',hm,w3⟩:=hN σ3 H3 n3;exact⟨m',hm,σ3,H3,I3,w3⟩
  |cont=>obtain⟨σ3,H3,I3,n3⟩:=q3;obtain⟨m',hm,w3⟩:=hN σ3 H3 n3;exact⟨m',hm,σ3,H3,I3,w3⟩
  |brk=>exact q3
  |ret v=>exact q3
 |false=>rw[if_neg x_];exact PR ⟨σ1,H2,I2,q2⟩
end
structure It where
 go:Nat->Hp->Prop
 yld:Nat->Hp->V->Hp->Prop
 stop:Nat->Hp->Prop
def FpOk(X:Cx)(pins:Qc)(H:Hp)(b:Addr):Prop:=
 H b=none/\b≠X.env.locals/\b∉X.fs/\(b∈X.ex\/X.s₀.heap.objs.size<=b)/\(∀x c,X.env.cells.lookup x=some c->c≠b)/\∀p∈X.pn++pins,p.1≠b
def Inv.fpOk(I:Inv X pins σ H s)(hb:s.heap.objs.size<=b)(hn:H' b=none):FpOk X pins H' b:=by
 refine⟨hn,O0 (I_ I.lt hb),I.nofs hb,.inr (Nl I.sz hb),λx c e z=>?_,λp hp z=>?_⟩
 .obtain⟨v,q⟩:=I.cell x c e;exact absurd (I_ q.lt (by rw[z];exact hb)) (NT _)
 .exact absurd (I_ (A_ (I.pin p hp).1) (by rw[z];exact hb)) (NT _)
structure Turn(P:Program)(w:World)(K:W.Frag)(tg:Expr)(J:It)(fp:List Addr)(it:Addr)(tn:Nat->Heap->Prop):Prop where
 mem:it∈fp
 obj:∀i h,tn i h->∀b∈fp,∃o,h.get? b=some o/\∀v,o.data ≠ .cell v
 keep:∀i h h',tn i h->(∀b∈fp,∀o,h.get? b=some o->h'.get? b=some o)->tn i h'
 item:∀(X:Cx),X.prog=P->X.w=w->X.K=K->X.calm=true->∀(i:Nat) (pins:Qc) (s:Shared) (σ:St) (H:Hp) (E:Qd),Inv X pins σ H s->(∀b∈fp,FpOk X pins H b)->tn i s.heap->J.go i H->
  wpAny (model P w) X.A (pyNext (.ref it)) (λr s1=>∃u,r=some u/\
   wpAny (model P w) X.A (letOwnedTupleGo tg (.ref it) u) (λ_ s2=>∃x H',Inv X pins σ H' s2/\RelV x u/\J.yld i H x H'/\tn (i+1) s2.heap/\∀b∈fp,H' b=none) E s1) E s
 done:∀(X:Cx),X.prog=P->X.w=w->X.K=K->X.calm=true->∀(i:Nat) (pins:Qc) (s:Shared) (σ:St) (H:Hp) (E:Qd),Inv X pins σ H s->(∀b∈fp,FpOk X pins H b)->tn i s.heap->J.stop i H->
  wpAny (model P w) X.A (pyNext (.ref it)) (λr s1=>r=none/\Inv X pins σ H s1) E s
 self:∀(A:Around) (i:Nat) (s:Shared) (Q:Qd) (E:Qd),tn i s.heap->Q (.ref it) s->wpAny (model P w) A (pyIter (.ref it)) Q E s
abbrev TI:=St->Hp->(It->Hp->Prop)->Prop
def PIE(X:Cx)(pins:Qc)(σ:St)(tg:Expr)(R:It->Hp->Prop)(itv:Value)(s2:Shared):Prop:=
 ∃(it:Addr) (fp:List Addr) (tn:Nat->Heap->Prop) (J:It) (H':Hp),itv=.ref it/\Inv X pins σ H' s2/\Turn X.prog X.w X.K tg J fp it tn/\tn 0 s2.heap/\(∀b∈fp,FpOk X pins H' b)/\R J H'
def PI(X:Cx)(tg iter:Expr)(wi:TI):Prop:=
 ∀
  (pins:Qc) (s:Shared) (σ:St) (H:Hp) (R:It->Hp->Prop),Inv X pins σ H s->wi σ H R->
  wpAny (model X.prog X.w) X.A (eval iter X.env) (λv s1=>wpAny (model X.prog X.w) X.A (pyIter v) (PIE X pins σ tg R) X.xe s1) X.xe s
def qI(ho:s.heap.get? it=some o)(hc:o.cls=.type n)(hd:o.data=.fields vs)
 (hn:["enumerate", "zip", "dict_itemiterator", "dict_reverseitemiterator", "odict_iterator", "itertools.zip_longest", "itertools.pairwise"].contains n=false) (hQ:Q () s):wpAny M A (letOwnedTupleGo tg (.ref it) u) Q E s:=by
 unfold letOwnedTupleGo;cases tg
  <;> first
  |exact B_ hQ
  |(cases u <;> first
   |exact B_ hQ
   |(
    refine o_ (wpAny_load ho ?_);rw[hc,hd];show wpAny M A (if (["enumerate", "zip", "dict_itemiterator", "dict_reverseitemiterator", "odict_iterator", "itertools.zip_longest", "itertools.pairwise"].contains n&&vs[0]?==some (rawInt _))=true then _ else _) Q E s;rw[if_neg (by intro h;rw[hn,Bool.false_and] at h;cases h)];exact B_ hQ))
noncomputable def Itl (K:W.Frag) (a:Addr):It:=
 ⟨λi H=>∃xs x,SqL K H a xs/\xs[i]?=some x,λi H x H'=>H'=H/\∀xs,SqL K H a xs->xs[i]?=some x,λi H=>∃xs,SqL K H a xs/\xs.length<=i⟩
noncomputable def Itt (K:W.Frag) (a:Addr):It:=
 ⟨λi H=>∃xs x,SqT K H a xs/\xs[i]?=some x,λi H x H'=>H'=H/\∀xs,SqT K H a xs->xs[i]?=some x,λi H=>∃xs,SqT K H a xs/\xs.length<=i⟩
noncomputable def Itr (lo:Int) (n:Nat):It:=⟨λi _=>i<n,λi H x H'=>H'=H/\x=.int (lo+i),λi _=>n<=i⟩
def AQ{P:Program}{w:World}{K:W.Frag}{tg:Expr}(a it:Addr):Turn P w K tg (Itl K a) [it] it (λi h=>h.IsListIter it a i) where
 mem:=by simp
 obj:=λi h st b hb=>by
  have e:b=it:=by simpa using hb
  subst e;obtain⟨o,e,c,d⟩:=st;exact⟨o,e,λv z=>by rw[d] at z;cases z⟩
 keep:=λi h h' st k=>st.at λo e=>k it (by simp) o e
 item:=by intro X hP hw hK hc i pins s σ H E I hf st hg;subst hP hw hK;obtain⟨xs,x,hq,hx⟩:=hg;obtain⟨its,rv,p,hz⟩:=I.list hq;obtain⟨u,hu,ru⟩:=rv.get hx;obtain⟨f0,f1,f2,f3,f4,f5⟩:=hf it (by simp);refine wpAny_pyNext_list_item st p.isList (x:=u) (by simpa using hu) λh' st' sb=>?_;have I1:Inv X pins σ H { s with heap:=h' }:=I.turned (t':=s.toks) (λb o hb e=>(sb.2 b hb).trans e) f0 f1 f3 f4 f5;obtain⟨o,e,c,d⟩:=id st';exact⟨u,rfl,qI (s:={ s with heap:=h' }) e c d (by decide) ⟨x,H,I1,ru,⟨rfl,λys hy=>by rw[I.list_inj hy hq];exact hx⟩,st',λb hb=>(hf b hb).1⟩⟩
 done:=by intro X hP hw hK hc i pins s σ H E I hf st hg;subst hP hw hK;obtain⟨xs,hq,hx⟩:=hg;obtain⟨its,rv,p,hz⟩:=I.list hq;obtain⟨f0,f1,f2,f3,f4,f5⟩:=hf it (by simp);have hl:=rv.length;exact wpAny_pyNext_list_end (I.ok.hd hc) st p.isList (by simp;omega) λh' eb=>⟨rfl,I.turned (t':=s.toks) (λb o hb e=>eb b o hb e) f0 f1 f3 f4 f5⟩
 self:=λ_ _ _ _ _ st h=>wpAny_pyIter_listiter st h
def yr{P:Program}{w:World}{K:W.Frag}{tg:Expr}(a it:Addr):Turn P w K tg (Itt K a) [it] it (λi h=>h.IsTupleIter it a i) where
 mem:=by simp
 obj:=λi h st b hb=>by
  have e:b=it:=by simpa using hb
  subst e;obtain⟨o,e,c,d⟩:=st;exact⟨o,e,λv z=>by rw[d] at z;cases z⟩
 keep:=λi h h' st k=>st.at λo e=>k it (by simp) o e
 item:=by intro X hP hw hK hc i pins s σ H E I hf st hg;subst hP hw hK;obtain⟨xs,x,hq,hx⟩:=hg;obtain⟨its,rv,p,hz⟩:=I.tuple hq;obtain⟨u,hu,ru⟩:=rv.get hx;obtain⟨f0,f1,f2,f3,f4,f5⟩:=hf it (by simp);refine wpAny_pyNext_tuple_item st (show s.heap.IsTuple a its.toArray from p) (x:=u) (by simpa using hu) λh' st' sb=>?_;have I1:Inv X pins σ H { s with heap:=h' }:=I.turned (t':=s.toks) (λb o hb e=>(sb.2 b hb).trans e) f0 f1 f3 f4 f5;obtain⟨o,e,c,d⟩:=id st';exact⟨u,rfl,qI (s:={ s with heap:=h' }) e c d (by decide) ⟨x,H,I1,ru,⟨rfl,λys hy=>by rw[I.tuple_inj hy hq];exact hx⟩,st',λb hb=>(hf b hb).1⟩⟩
 done:=by intro X hP hw hK hc i pins s σ H E I hf st hg;subst hP hw hK;obtain⟨xs,hq,hx⟩:=hg;obtain⟨its,rv,p,hz⟩:=I.tuple hq;obtain⟨f0,f1,f2,f3,f4,f5⟩:=hf it (by simp);have hl:=rv.length;exact wpAny_pyNext_tuple_end (I.ok.hd hc) st (show s.heap.IsTuple a its.toArray from p) (by simp;omega) λh' eb=>⟨rfl,I.turned (t':=s.toks) (λb o hb e=>eb b o hb e) f0 f1 f3 f4 f5⟩
 self:=λ_ _ _ _ _ st h=>wpAny_pyIter_tupleiter st h
def xS{P:Program}{w:World}{K:W.Frag}{tg:Expr}(it:Addr)(lo:Int)(n:Nat):Turn P w K tg (Itr lo n) [it] it (λi h=>IsRangeIter h it (lo+(i:Nat)*1) ((n:Int)-(i:Nat)) 1) where
 mem:=by simp
 obj
  := λi h st b hb=>by
  have e:b=it:=by simpa using hb
  subst e;exact⟨_,st,λv z=>by have z':Data.fields _=Data.cell v:=z;cases z'⟩
 keep:=λi h h' st k=>k it (by simp) _ st
 item:=by intro X hP hw hK hc i pins s σ H E I hf st hg;subst hP hw hK;obtain⟨f0,f1,f2,f3,f4,f5⟩:=hf it (by simp);have W:=Walks.range (prog:=X.prog) (w:=X.w) (I.ok.hd hc) it lo 1 n;refine W.item i s _ _ hg st λv h' tk hv st' kk=>?_;obtain⟨t,rfl⟩:=hv;have I1:Inv X pins σ H { s with heap:=h',toks:=tk }:=I.turned (λb o hb e=>kk b o (by simpa using hb) e) f0 f1 f3 f4 f5;refine⟨_,rfl,qI (s:={ s with heap:=h',toks:=tk }) (n:="range_iterator") st' rfl rfl (by decide) ⟨.int (lo+i),H,I1,⟨t,?_⟩,⟨rfl,rfl⟩,st',λb hb=>(hf b hb).1⟩⟩;rw[Int.mul_one]
 done:=by intro X hP hw hK hc i pins s σ H E I hf st hg;subst hP hw hK;obtain⟨f0,f1,f2,f3,f4,f5⟩:=hf it (by simp);exact wpAny_pyNext_range_end (I.ok.hd hc) st (by have:n<=i:=hg;omega) λh' eb=>⟨rfl,I.turned (t':=s.toks) (λb o hb e=>eb b o hb e) f0 f1 f3 f4 f5⟩
 self:=λ_ _ _ _ _ st h=>wpAny_pyIter_rangeiter st h
section
variable{X:Cx}{tg:Expr}
def sZ{pins:Qc}{σ:St}{H:Hp}{s:Shared}{R:It->Hp->Prop}{E:Qd}{lo hi:Int}{t u v:Tok}{tk:Nat}(I:Inv X pins σ H s)(h1:-(2^62)<=lo)(h2:lo<2^62)(h3:-(2^62)<=hi)(h4:hi<2^62)
 (q:R (Itr lo (hi-lo).toNat) H):wpAny (model X.prog X.w) X.A (pyIter (.ref s.heap.objs.size)) (PIE X pins σ tg R) E { s with heap:=s.heap.push { cls:=.type "range",data:=.fields #[.int lo t,.int hi u,.int 1 v] },toks:=tk }:=by
 refine wpAny_pyIter_range (P4 ..) (small_one h1 h2 h3 h4) ?_;have I1:Inv X pins σ H { s with heap:=s.heap.push { cls:=.type "range",data:=.fields #[.int lo t,.int hi u,.int 1 v] },toks:=tk }:=I.kept λb o e=>q_ _ e;refine⟨(s.heap.push { cls:=.type "range",data:=.fields #[.int lo t,.int hi u,.int 1 v] }).objs.size,[(s.heap.push { cls:=.type "range",data:=.fields #[.int lo t,.int hi u,.int 1 v] }).objs.size],_,_,H,rfl,
  I1.kept (t':=tk) λb o e=>q_ _ e,xS _ lo (hi-lo).toNat,?_,λb hb=>?_,q⟩
 .have e1:lo+((0:Nat):Int)*1=lo:=by simp
  have e2:(((hi-lo).toNat:Nat):Int)-((0:Nat):Int)=Builtin.Range.rangeSize lo hi 1:=by rw[P_];split <;> omega
  show IsRangeIter _ _ (lo+((0:Nat):Int)*1) ((((hi-lo).toNat:Nat):Int)-((0:Nat):Int)) 1;rw[e1,e2];exact E_ _ rfl
 .have e:b=(s.heap.push { cls:=.type "range",data:=.fields #[.int lo t,.int hi u,.int 1 v] }).objs.size:=by simpa using hb
  subst e;exact I1.fpOk (s_ _) (I1.hok.fresh (s_ _))
def Md(ta:TA):TI:=λσ H R=>ta σ H λvs H1=>∃j:Int,vs=[.int j]/\-(2^62)<=j/\j<2^62/\R (Itr 0 j.toNat) H1
def LP(ta:TA):TI:=λσ H R=>ta σ H λvs H1=>∃i j:Int,vs=[.int i,.int j]/\(-(2^62)<=i/\i<2^62/\-(2^62)<=j/\j<2^62)/\R (Itr i (j-i).toNat) H1
def As(hg:Gl X "range")(hm:X.mg "range"=none)(ha:PA X [a] ta)(hs:starEach [a] X.env=[(false,eval a X.env)]):PI X tg (.Call (.Name "range" p) [a] [] pos) (Md ta):=by
 intro pins s σ H R I h;refine Call_ (cL I hg hm boot_range (Np (thn (ha pos pins s σ H _ I h) λus s1 zz=>exA zz λvs H1 I1 r1 q1=>?_) hs rfl));obtain⟨j,e,q1,q2,q⟩:=q1;subst e;cases r1 with
 |cons r rr=>cases rr;obtain⟨t,rfl⟩:=r;exact call_range_1 (sZ I1 (by omega) (by omega) q1 q2 (by simpa using q))
def zx(hg:Gl X "range")(hm:X.mg "range"=none)(ha:PA X [a,b] ta)(hs:starEach [a,b] X.env=[(false,eval a X.env),(false,eval b X.env)])(hs2:starEach [b] X.env=[(false,eval b X.env)]):
 PI X tg (.Call (.Name "range" p) [a,b] [] pos) (LP ta):=by
 intro pins s σ H R I h;refine Call_ (cL I hg hm boot_range (Np (thn (ha pos pins s σ H _ I h) λus s1 zz=>exA zz λvs H1 I1 r1 q1=>?_) (by rw[hs,hs2]) (by rw[hs2];rfl)));obtain⟨i,j,e,⟨q1,q2,q3,q4⟩,q⟩:=q1;subst e;cases r1 with
 |
  cons r rr=>
  cases rr with
  |cons r' rr=>cases rr;obtain⟨t,rfl⟩:=r;obtain⟨t',rfl⟩:=r';exact call_range_2 (sZ I1 q1 q2 q3 q4 q)
def tFor(wi:TI)(g:TG)(tb:TS):TS:=λD σ H=>wi σ H λJ H1=>∃W:Nat->Nat->St->Hp->Prop,(∃m,W 0 m σ H1)/\∀i m σ H,W i m σ H->
 (J.stop i H/\D.nx σ H)\/(J.go i H/\∃N:St->Hp->Prop,(∀σ' H',N σ' H'->∃m',m'<m/\W (i+1) m' σ' H')/\∀x H',J.yld i H x H'->g x σ H' λσ2 H2=>tb { D with nx:=N,ct:=N,bk:=D.nx } σ2 H2)
noncomputable def jN (fp:List Addr) (h:Heap):List (Addr×Obj):=fp.filterMap λb=>(h.get? b).map λo=>(b,o)
def gq(hb:b∈fp)(e:h.get? b=some o):(b,o)∈jN fp h:=List.mem_filterMap.mpr ⟨b,hb,by rw[e];rfl⟩
def AI(hp:p∈jN fp h):p.1∈fp/\h.get? p.1=some p.2:=by
 obtain⟨b,hb,e⟩:=List.mem_filterMap.mp hp;cases q:h.get? b with
 |none=>rw[q] at e;cases e
 |some o=>rw[q] at e;have e':(b,o)=p:=K_ e;subst e';exact⟨hb,q⟩
def Inv.pinned(I:Inv X pins σ H s)(hf:∀b∈fp,FpOk X pins H b)(ho:∀b∈fp,∃o,s.heap.get? b=some o/\∀v,o.data ≠ .cell v):Inv X (pins++jN fp s.heap) σ H s:=
 I.pins_of λp hp=>(Om.mp hp).elim (λz=>I.pin p (Nn _ z)) λz=>by obtain⟨hb,e⟩:=AI z;obtain⟨f0,f1,f2,_⟩:=hf p.1 hb;obtain⟨o,e',d⟩:=ho p.1 hb;rw[e] at e';cases e';exact⟨e,f0,f1,f2,d⟩
def Inv.unpinned(I:Inv X (pins++pl) σ H s):Inv X pins σ H s:=I.pins_of λp hp=>I.pin p (Nn _ (PF _ hp))
def IU(hp:PassesOwn (model X.prog X.w) X.A X.env X.xe)(hc:X.calm=true)(hi:PI X tg iter wi)(hg:PG X tg g)(hb:PSs X body tb)
 (hs:∀x,foldedSetIterable iter X.env x=pure x):PS X (.For tg iter body [] pos) (tFor wi g tb):=by
 intro pins s σ H D I h;refine wpAny_For (thn (hi pins s σ H _ I h) λv s1 h1=>thn h1 λitv s2 h2=>?_) hs;obtain⟨it,fp,tn,J,H2,e,I2,T,st2,f2,W,⟨m0,w0⟩,turn⟩:=h2;subst e;have stat:∀{H':Hp},(∀b∈fp,H' b=none)->∀b∈fp,FpOk X pins H' b:=λhn b hb=>⟨hn b hb,(f2 b hb).2⟩;refine codeAny_forLoop_any (λn s'=>∃i σ' H',Inv X pins σ' H' s'/\tn i s'.heap/\(∀b∈fp,H' b=none)/\W i n σ' H') ?_ m0 ⟨0,σ,H2,I2,st2,λb hb=>(f2 b hb).1,w0⟩;rintro n s3 ⟨i,σ3,H3,I3,st3,fr3,w3⟩;rcases turn i n σ3 H3 w3 with ⟨stop,qn⟩ |⟨go,N,hN,step⟩
 .refine OI hp (thn (T.done X rfl rfl rfl hc i pins s3 σ3 H3 X.xe I3 (stat fr3) st3 stop) λr s4 ⟨hr,I4⟩=>?_);subst hr;exact PR ⟨σ3,H3,I4,qn⟩
 .refine OI hp (thn (T.item X rfl rfl rfl hc i pins s3 σ3 H3 X.xe I3 (stat fr3) st3 go) λr s4 ⟨u,hr,h4⟩=>?_);subst hr;refine OI hp (thn h4 λ_ s5 ⟨x,H5,I5,r5,y5,st5,fr5⟩=>?_);have I5':=I5.pinned (stat fr5) (T.obj _ _ st5);refine OI hp (thn (hg _ s5 σ3 H5 x u _ I5' r5 (step x H5 y5)) λ_ s6 ⟨σ6,H6,I6,q6⟩=>?_);refine OI hp (thn (hb _ s6 σ6 H6 _ I6 q6) λf s7 q7=>?_);have again:∀{σ7:St}{H7:Hp},Inv X (pins++jN fp s5.heap) σ7 H7 s7->N σ7 H7->∃m,m<n/\∃i σ' H',Inv X pins σ' H' s7/\tn i s7.heap/\(∀b∈fp,H' b=none)/\W i m σ' H':=λ{σ7 H7} I7 n7=>by obtain⟨m',hm,w7⟩:=hN σ7 H7 n7;refine⟨m',hm,i+1,σ7,H7,I7.unpinned,T.keep _ _ _ st5 λb hb o e=>(I7.pin (b,o) (Nn _ (Nn _ (gq hb e)))).1,λb hb=>?_,w7⟩;obtain⟨o,e,d⟩:=T.obj _ _ st5 b hb;exact (I7.pin (b,o) (Nn _ (Nn _ (gq hb e)))).2.1
  cases f with
  |next=>obtain⟨σ7,H7,I7,n7⟩:=q7;exact again I7 n7
  |cont=>obtain⟨σ7,H7,I7,n7⟩:=q7;exact again I7 n7
  |brk=>obtain⟨σ7,H7,I7,q7⟩:=q7;exact⟨σ7,H7,I7.unpinned,q7⟩
  |ret v=>obtain⟨x7,σ7,H7,I7,r7,q7⟩:=q7;exact⟨x7,σ7,H7,I7.unpinned,r7,q7⟩
end
abbrev R2:=V->V->Hp->VK->Prop
def OpR(X:Cx)(f:Value->Value->Sem Value)(r:R2):Prop:=
 ∀
  (pins:Qc) (s:Shared) (σ:St) (H:Hp) (x y:V) (v u:Value) (Q:VK),Inv X pins σ H s->RelV x v->RelV y u->r x y H Q->
  wpAny (model X.prog X.w) X.A (f v u) (EP X pins σ Q) X.xe s
def UnR(X:Cx)(f:Value->Sem Value)(r:V->Hp->VK->Prop):Prop:=
 ∀
  (pins:Qc) (s:Shared) (σ:St) (H:Hp) (x:V) (v:Value) (Q:VK),Inv X pins σ H s->RelV x v->r x H Q->
  wpAny (model X.prog X.w) X.A (f v) (EP X pins σ Q) X.xe s
def CallR(X:Cx)(f:Value)(r:List V->Hp->VK->Prop):Prop:=
 ∀
  (pins:Qc) (s:Shared) (σ:St) (H:Hp) (xs:List V) (us:List Value) (Q:VK),Inv X pins σ H s->Vals xs us->r xs H Q->
  wpAny (model X.prog X.w) X.A (call f us) (EP X pins σ Q) X.xe s
def TruR(X:Cx)(r:V->Hp->(Bool->Hp->Prop)->Prop):Prop:=
 ∀
  (pins:Qc) (s:Shared) (σ:St) (H:Hp) (x:V) (v:Value) (Q:Bool->Hp->Prop),Inv X pins σ H s->RelV x v->r x H Q->
  wpAny (model X.prog X.w) X.A (truthy v) (TP X pins σ Q) X.xe s
def tOp(r:R2)(ta tb:TE):TE:=λσ H Q=>ta σ H λx H1=>tb σ H1 λy H2=>r x y H2 Q
def tUn(r:V->Hp->VK->Prop)(ta:TE):TE:=λσ H Q=>ta σ H λx H1=>r x H1 Q
def rI(C:Int->Int->Prop)(g:Int->Int->V):R2:=λx y H Q=>∃i j,x=.int i/\y=.int j/\C i j/\Q (g i j) H
def rI0(g:Int->Int->V):R2:=λx y H Q=>∃i j,x=.int i/\y=.int j/\Q (g i j) H
def rU(g:Int->V):V->Hp->VK->Prop:=λx H Q=>∃i,x=.int i/\Q (g i) H
section
variable{X:Cx}{a b:Expr}{ta tb:TE}{pos:Pos}
def Dj(ha:PE X a ta)(hb:PE X b tb){pins:Qc}{s:Shared}{σ:St}{H:Hp}{R:V->V->Hp->Prop}(I:Inv X pins σ H s)
 (h:ta σ H λx H1=>tb σ H1 λy H2=>R x y H2) {Q:Qd}{f:Value->Value->Sem Value}
 (hf:∀v u s2 x y H2,Inv X pins σ H2 s2->RelV x v->RelV y u->R x y H2->wpAny (model X.prog X.w) X.A (f v u) Q X.xe s2):
 wpAny (model X.prog X.w) X.A (eval a X.env) (λv s₁=>wpAny (model X.prog X.w) X.A (eval b X.env) (λu s₂=>wpAny (model X.prog X.w) X.A (f v u) Q X.xe s₂) X.xe s₁) X.xe s:=by
 refine thn (ha pins s σ H _ I h) λv s1 zz=>exA zz λx H1 I1 r1 q1=>?_;refine thn (hb pins s1 σ H1 _ I1 q1) λu s2 zz=>exA zz λy H2 I2 r2 q2=>?_;exact hf v u s2 x y H2 I2 r1 r2 q2
def Lj(ho:OpR X (binaryOp op) r)(ha:PE X a ta)(hb:PE X b tb):PE X (.BinOp a op b pos) (tOp r ta tb):=by intro pins s σ H Q I h;exact wpAny_BinOp (Dj ha hb I h λv u s2 x y H2 I2 rx ry q=>ho pins s2 σ H2 x y v u Q I2 rx ry q)
def Ly(ho:UnR X (unaryOp op) r)(ha:PE X a ta):PE X (.UnaryOp op a pos) (tUn r ta):=by intro pins s σ H Q I h;exact UnaryOp_ (thn (ha pins s σ H _ I h) λv s1 zz=>exA zz λx H1 I1 r1 q1=>ho pins s1 σ H1 x v Q I1 r1 q1)
def opI{f:Value->Value->Sem Value}{C:Int->Int->Prop}{g:Int->Int->Int}
 (rule:∀(i j:Int) (t u:Tok) (s:Shared) (Q:Qd) (E:Qd),C i j->Q (.int (g i j) s.toks) { s with toks:=s.toks+1 }->wpAny (model X.prog X.w) X.A (f (.int i t) (.int j u)) Q E s):
 OpR X f (rI C λi j=>.int (g i j)):=by
 intro pins s σ H x y v u Q I rx ry h;obtain⟨i,j,rfl,rfl,hc,q⟩:=h;obtain⟨t,rfl⟩:=rx;obtain⟨t',rfl⟩:=ry;exact rule i j t t' s _ _ hc ⟨.int (g i j),H,I.tok _,⟨_,rfl⟩,q⟩
def opI0{f:Value->Value->Sem Value}{g:Int->Int->Int}
 (rule:∀(i j:Int) (t u:Tok) (s:Shared) (Q:Qd) (E:Qd),Q (.int (g i j) s.toks) { s with toks:=s.toks+1 }->wpAny (model X.prog X.w) X.A (f (.int i t) (.int j u)) Q E s):
 OpR X f (rI0 λi j=>.int (g i j)):=by
 intro pins s σ H x y v u Q I rx ry h;obtain⟨i,j,rfl,rfl,q⟩:=h;obtain⟨t,rfl⟩:=rx;obtain⟨t',rfl⟩:=ry;exact rule i j t t' s _ _ ⟨.int (g i j),H,I.tok _,⟨_,rfl⟩,q⟩
def xa{f:Value->Value->Sem Value}{g:Int->Int->Bool}
 (rule:∀(i j:Int) (t u:Tok) (s:Shared) (Q:Qd) (E:Qd),Q (.bool (g i j)) s->wpAny (model X.prog X.w) X.A (f (.int i t) (.int j u)) Q E s):
 OpR X f (rI0 λi j=>.bl (g i j)):=by
 intro pins s σ H x y v u Q I rx ry h;obtain⟨i,j,rfl,rfl,q⟩:=h;obtain⟨t,rfl⟩:=rx;obtain⟨t',rfl⟩:=ry;exact rule i j t t' s _ _ ⟨.bl (g i j),H,I,rfl,q⟩
def xi(i j:Int):Prop:=0<=j/\j<=1000000/\i.natAbs<2^64
def CMul(i j:Int):Prop:=(-(2^64)<i/\i<2^64)\/(-(2^64)<j/\j<2^64)
def CMul.ok(h:CMul i j):IntMulOk i j:=by
 rcases h with ⟨h1,h2⟩ |⟨h1,h2⟩
 .exact .of_left (intBits_le_64 h1 h2)
 .exact .of_right (intBits_le_64 h1 h2)
def Im:OpR X (binaryOp .Add) (rI0 λi j=>.int (i+j)):=opI0 λ_ _ _ _ _ _ _ q=>add_int q
def Jy:OpR X (binaryOp .Sub) (rI0 λi j=>.int (i-j)):=opI0 λ_ _ _ _ _ _ _ q=>sub_int q
def GJ:OpR X (binaryOp .Mult) (rI CMul λi j=>.int (i*j)):=opI λ_ _ _ _ _ _ _ hc q=>mul_int q hc.ok
def ET:OpR X (binaryOp .Mod) (rI (λ_ j=>j≠0) λi j=>.int (i.fmod j)):=opI λ_ _ _ _ _ _ _ hc q=>mod_int' hc q
def HR:OpR X (binaryOp .Pow) (rI xi λi j=>.int (i^j.toNat)):=opI λ_ _ _ _ _ _ _ hc q=>pow_int_small hc.1 hc.2.1 hc.2.2 q
def unI{f:Value->Sem Value}{g:Int->Int}
 (rule:∀(i:Int) (t:Tok) (s:Shared) (Q:Qd) (E:Qd),Q (.int (g i) s.toks) { s with toks:=s.toks+1 }->wpAny (model X.prog X.w) X.A (f (.int i t)) Q E s):
 UnR X f (rU λi=>.int (g i)):=by
 intro pins s σ H x v Q I rx h;obtain⟨i,rfl,q⟩:=h;obtain⟨t,rfl⟩:=rx;exact rule i t s _ _ ⟨.int (g i),H,I.tok _,⟨_,rfl⟩,q⟩
def IT:UnR X (unaryOp .USub) (rU λi=>.int (-i)):=unI λ_ _ _ _ _ q=>neg_int q
end
section
variable{X:Cx}{a b c:Expr}{ta tb:TE}{pos:Pos}
def mG(I:Inv X pins σ H s)(q:Q (.bl k) H)(e:k=k'):EP X pins σ Q (.bool k') s:=by subst e;exact⟨.bl k,H,I,rfl,q⟩
def DJ:OpR X (compareOp .Lt) (rI0 λi j=>.bl (decide (i<j))):=xa λ_ _ _ _ _ _ _ q=>lt_int q
def MZ:OpR X (compareOp .LtE) (rI0 λi j=>.bl (decide (i<=j))):=xa λ_ _ _ _ _ _ _ q=>le_int q
def DP:OpR X (compareOp .Gt) (rI0 λi j=>.bl (decide (j<i))):=xa λ_ _ _ _ _ _ _ q=>gt_int q
def Ew:OpR X (compareOp .GtE) (rI0 λi j=>.bl (decide (j<=i))):=xa λ_ _ _ _ _ _ _ q=>ge_int q
def zQ:OpR X (compareOp .Is) (λx y H Q=>y=.non/\Q (.bl (decide (x=.non))) H):=by
 intro pins s σ H x y v u Q I rx ry h;obtain⟨rfl,q⟩:=h;cases ry;refine is_none_gen (mG I q ?_);cases x <;> first
  |(cases rx;rfl)
  |(obtain⟨t,rfl⟩:=rx;rfl)
def F1:OpR X (compareOp .IsNot) (λx y H Q=>y=.non/\Q (.bl (!decide (x=.non))) H):=by
 intro pins s σ H x y v u Q I rx ry h;obtain⟨rfl,q⟩:=h;cases ry;refine isnot_none_gen (mG I q ?_);cases x <;> first
  |(cases rx;rfl)
  |(obtain⟨t,rfl⟩:=rx;rfl)
def OpR.or(h:OpR X f r)(h':OpR X f r'):OpR X f (λx y H Q=>r x y H Q\/r' x y H Q):=by
 intro pins s σ H x y v u Q I rx ry q;rcases q with q |q
 .exact h pins s σ H x y v u Q I rx ry q
 .exact h' pins s σ H x y v u Q I rx ry q
def yC(b:Expr)(h:op ≠ .In:=by decide)(h2:op ≠ .NotIn:=by decide):behindInMarks op b=false:=by
 have e1:(op==CmpOp.In)=false:=by cases op <;> first |rfl |exact absurd rfl h
 have e2:(op==CmpOp.NotIn)=false:=by cases op <;> first |rfl |exact absurd rfl h2
 cases b <;> simp [behindInMarks,e1,e2]
def Fu(ho:OpR X (compareOp op) r)(ha:PE X a ta)(hb:PE X b tb)(hm:behindInMarks op b=false):PE X (.Compare a [op] [b] pos) (tOp r ta tb):=by intro pins s σ H Q I h;exact wpAny_Compare1 (Dj ha hb I h λv u s2 x y H2 I2 rx ry q=>ho pins s2 σ H2 x y v u Q I2 rx ry q) hm
def LN(t:TE):TT:=λσ H Q=>t σ H λx H'=>∃k,x=.bl k/\Q k H'
def EI(ho:OpR X (compareOp op) r)(ha:PE X a ta)(hb:PE X b tb)(hm:behindInMarks op b=false):PT X (.Compare a [op] [b] pos) (LN (tOp r ta tb)):=by
 intro pins s σ H Q I h;refine wpAny_isTrue_Compare1 (thn (ha pins s σ H _ I h) λv s1 zz=>exA zz λx H1 I1 r1 q1=>thn (hb pins s1 σ H1 _ I1 q1) λu s2 zz=>exA zz λy H2 I2 r2 q2=>
  thn (ho pins s2 σ H2 x y v u _ I2 r1 r2 q2) λc s3 ⟨z,H3,I3,r3,k,e,q3⟩=>?_) hm
 subst e;cases r3;exact Ov ⟨H3,I3,q3⟩
def BM(K:W.Frag)(x:V)(H:Hp)(k:Bool):Prop:=
 match x with
 |.non=>k=false
 |.bl b=>k=b
 |.int i=>k=(i != 0)
 |.str y=>y.length<=sizeLine/\k=((y.length:Int) != 0)
 |.byt y=>y.size<=sizeLine/\k=((y.size:Int) != 0)
 |.ref p=>(∃xs,SqL K H p xs/\k=!xs.isEmpty)\/(∃xs,SqT K H p xs/\k=!xs.isEmpty)\/∃kvs,H p=some (.dK kvs)/\k=!kvs.isEmpty
 |_=>False
def xK(r:KV kvs vs):(!vs.isEmpty)=!kvs.isEmpty:=by cases r <;> rfl
def mF(r:Vals xs its):(!its.toArray.isEmpty)=!xs.isEmpty:=by cases r <;> simp
def iX:(sizeLine:Nat)<2^63:=by rw[sizeLine_eq];decide
def HL:TruR X (λx H Q=>∃k,BM X.K x H k/\Q k H):=by
 intro pins s σ H x v Q I rx h;obtain⟨k,e,q⟩:=h;have hl:=iX;have hs:sizeLine=16777216:=sizeLine_eq;cases x with
 |non=>cases rx;have e':k=false:=e;subst e';exact truthy_none ⟨H,I,q⟩
 |bl b=>cases rx;have e':k=b:=e;subst e';exact Ov ⟨H,I,q⟩
 |int i=>obtain⟨t,rfl⟩:=rx;have e':k=(i != 0):=e;subst e';exact PySem.P.truthy_int ⟨H,I,q⟩
 |str y=>obtain⟨t,rfl⟩:=rx;obtain⟨hy,e'⟩:y.length<=sizeLine/\k=((y.length:Int) != 0):=e;subst e';exact PySem.P.truthy_str (by omega) ⟨H,I.tok _,q⟩
 |byt y=>obtain⟨t,rfl⟩:=rx;obtain⟨hy,e'⟩:y.size<=sizeLine/\k=((y.size:Int) != 0):=e;subst e';exact W.truthy_bytes (by omega) ⟨H,I.tok _,q⟩
 |
  ref p=>
  cases rx;have e':(∃xs,SqL X.K H p xs/\k=!xs.isEmpty)\/(∃xs,SqT X.K H p xs/\k=!xs.isEmpty)\/∃kvs,H p=some (.dK kvs)/\k=!kvs.isEmpty:=e;rcases e' with ⟨xs,hx,e'⟩ |⟨xs,hx,e'⟩ |⟨kvs,hx,e'⟩
  .subst e';obtain⟨its,r,pl,hz⟩:=I.list hx;have a_:=r.length;exact wpAny_truthy_list pl.isList (by simp only[z_];omega) ⟨H,I.tok _,by rw[mF r];exact q⟩
  .subst e';obtain⟨its,r,pl,hz⟩:=I.tuple hx;have a_:=r.length;exact truthy_tuple pl (by simp only[z_];omega) ⟨H,I.tok _,by rw[mF r];exact q⟩
  .subst e';obtain⟨hz,hS,vs,r,m⟩:kvs.length<=sizeLine/\(p==sysModules)=false/\∃vs,KV kvs vs/\s.heap.DictOf (bu X.prog X.w) p vs:=I.hok p _ hx;have a_:kvs.length=vs.length:=P7 r;exact wpAny_truthy_dict hS m (by omega) ⟨H,I.tok _,by rw[xK r];exact q⟩
 |_=>exact (show False from e).elim
def BH(ha:PE X a ta)(he:∀g_,isTrue a X.env g_=(do let v <- g_;standAt a.pos;holding [v] (truthy v))):
 PT X a (λσ H Q=>ta σ H λx H'=>∃k,BM X.K x H' k/\Q k H'):=by
 intro pins s σ H Q I h;exact isTrue_plain (thn (ha pins s σ H _ I h) λv s1 zz=>exA zz λx H1 I1 r1 q1=>HL pins s1 σ H1 x v Q I1 r1 q1) (he _)
def eR(r:Vals [x] us):∃u,us=[u]/\RelV x u:=by
 cases r with
 |cons r1 r2=>cases r2;exact⟨_,rfl,r1⟩
def xu(r:Vals [x,y] us):∃u w',us=[u,w']/\RelV x u/\RelV y w':=by
 cases r with
 |
  cons r1 r2=>
  cases r2 with
  |cons r3 r4=>cases r4;exact⟨_,_,rfl,r1,r3⟩
def BJ:CallR X (.builtin "abs") (λxs H Q=>∃i,xs=[.int i]/\Q (.int (if i<0 then -i else i)) H):=by intro pins s σ H xs us Q I r h;obtain⟨i,rfl,q⟩:=h;obtain⟨u,rfl,t,rfl⟩:=eR r;exact call_abs_int λu tk=>⟨.int (if i<0 then -i else i),H,I.tok _,⟨_,rfl⟩,q⟩
def AJ(hc:X.calm=true):CallR X (.builtin "min") (λxs H Q=>∃i j,xs=[.int i,.int j]/\Q (.int (if j<i then j else i)) H):=by
 intro pins s σ H xs us Q I r h;obtain⟨i,j,rfl,q⟩:=h;obtain⟨u,w',rfl,⟨t,rfl⟩,⟨t',rfl⟩⟩:=xu r;refine min_two_ints (I.ok.hd hc) λh' tk k=>⟨_,H,I.kept k,?_,q⟩;by_cases hj:j<i
 .rw[if_pos hj,if_pos hj];exact⟨_,rfl⟩
 .rw[if_neg hj,if_neg hj];exact⟨_,rfl⟩
def AA:CallR X (.type "int") (λxs H Q=>(∃i,xs=[.int i]/\Q (.int i) H)\/∃k,xs=[.bl k]/\Q (.int (if k then 1 else 0)) H):=by
 intro pins s σ H xs us Q I r h;rcases h with ⟨i,rfl,q⟩ |⟨k,rfl,q⟩
 .obtain⟨u,rfl,t,rfl⟩:=eR r;exact call_int_int ⟨.int i,H,I,⟨_,rfl⟩,q⟩
 .obtain⟨u,rfl,r1⟩:=eR r;cases r1;exact call_int_bool ⟨.int (if k then 1 else 0),H,I.tok _,⟨_,rfl⟩,q⟩
end
structure ObjM(h:Heap)(x dx C:Addr)(mA:Qb):Prop where
 obj:h.get? x=some (W.instObj C dx)
 ns:h.Ns1 dx mA
 ne:dx≠x
def yU{h:Heap}{dx:Addr}{mA:Qb}(n:h.Ns1 dx mA):∃od,h.get? dx=some od/\∀name,W.lookIn name od=some (mA name):=by
 obtain⟨o,es,ep,ho,hd,hk,_,hm⟩:=n;refine⟨o,ho,λname=>?_⟩;have e:=hm name;unfold nsFind findBy at e;rw[<- Array.find?_toList] at e;unfold W.lookIn;rw[hd];dsimp only;split
 .rename_i y q;rw[q] at e;exact NA some e
 .rename_i q;rw[q] at e;have a:es.toList.any (·.refKey)=false:=by rw[List.any_eq_false];intro y hy;obtain⟨z,t,hkey⟩:=hk y (Array.mem_toList_iff.mp hy);simp [DictEntry.refKey,hkey]
  have a':¬ es.toList.any (·.refKey)=true:=by rw[a];exact x_
  rw[if_neg a'];exact NA some e
def ObjM.look(I:ObjM h x dx C mA):∃od,W.InstAt h x (W.instObj C dx) C (some od)/\∀name,W.lookIn name od=some (mA name):=
 let ⟨od,ho,hl⟩:=yU I.ns
 ⟨od,⟨I.obj,rfl,rfl,ho⟩,hl⟩
def RelO.some_of(r:RelO (some v) o):∃u,o=some u/\RelV v u:=by
 cases o with
 |none=>exact (show False from r).elim
 |some u=>exact⟨u,rfl,r⟩
section
variable{P:Program}{w:World}{H:Hp}{h:Heap}{a C dx:Addr}{fs:List (Str×V)}
def EO(hok:HOk P w H h)(e:H a=some (.ins C dx fs)):∃mA,ObjM h a dx C mA/\(∀f,RelO (fs.lookup f) (mA f))/\PySem.Within mA (fs.map (·.1))/\fs.length<=1000/\H dx=some (.own a):=by obtain⟨d,z,ne,ob,mA,n,r,q⟩:=(show ObjOk P w H h a (.ins C dx fs) from hok a _ e);exact⟨mA,⟨ob,n,ne⟩,r,q,z,d⟩
end
structure Cls(K:W.Frag)(C:Addr):Prop where
 pg:W.plainGet K C Str.empty=true
 hd:W.hasDictIn K C=true
 po:W.plainOver K C=true
 sa:W.findIn K (.ref C) "__setattr__"=some (some (.builtin "object.__setattr__"))
def Cls.get{K:W.Frag}{C:Addr}(c:Cls K C)(f:Str):W.plainGet K C f=true:=c.pg
section
variable{H:Hp}
inductive TyOf(K:W.Frag)(H:Hp):V->Value->Prop where
 |non:TyOf K H .non (.type "NoneType")
 |bl (x:Bool):TyOf K H (.bl x) (.type "bool")
 |int (i:Int):TyOf K H (.int i) (.type "int")
 |str (x:Str):TyOf K H (.str x) (.type "str")
 |flt (x:UInt64):TyOf K H (.flt x) (.type "float")
 |lst {a:Addr}{xs:List V} (e:H a=some (.lst xs)):TyOf K H (.ref a) (.type "list")
 |frz {a:Addr}{o:Obj}{xs:List V} (e:H a=some (.frz o (.lst xs))):TyOf K H (.ref a) (.type "list")
 |tup {a:Addr}{xs:List V} (e:H a=some (.tup xs)):TyOf K H (.ref a) (.type "tuple")
 |dK {a:Addr}{kvs:List (Key×V)} (e:H a=some (.dK kvs)):TyOf K H (.ref a) (.type "dict")
 |dT {a:Addr}{kvs:List (List Key×V)} (e:H a=some (.dT kvs)):TyOf K H (.ref a) (.type "dict")
 |ins {a C dx:Addr}{fs:List (Str×V)} (e:H a=some (.ins C dx fs)) (cl:Cls K C) (ha:W.findIn K (.ref C) "__class__"=some (some (.builtin "object.__class__")))
  (hn:W.specialIn K (.builtin "object.__class__") "__get__"=some (some (.builtin "getset_descriptor.__get__"))) (htk:W.takesIn K (.builtin "object.__class__")=some true)
  (hm:W.mroIn K C (.type "object")=some true):TyOf K H (.ref a) (.ref C)
end
structure Room(k:Nat)(A:Around):Prop where
 hd:A.handled=none
 dp:A.depth+3*k+5<recursionLimit
 un:A.units+16*k+200<cLine
def Room.mono(r:Room k A)(h:j<=k):Room j A:=⟨r.hd,by have:=r.dp;omega,by have:=r.un;omega⟩
def Room.deeper(r:Room (k+1) A)(env:Env):Room k (A.deeper env):=
 ⟨r.hd,by have:=r.dp;show A.depth+1+3*k+5<_;omega,by have:=r.un;show A.units+3+16*k+200<_;omega⟩
def Room.depth(r:Room k A):A.depth<recursionLimit:=by have:=r.dp;omega
def Room.units(r:Room k A):A.units+64<cLine:=by have:=r.un;omega
def tNil:TA:=λ_ H Q=>Q [] H
def Ln(ta:TE)(tr:TA):TA:=λσ H Q=>ta σ H λx H1=>tr σ H1 λxs H2=>Q (x::xs) H2
section
variable{X:Cx}{e:Expr}{es:List Expr}{te:TE}{t:TA}{pos:Pos}
def H9:PA X [] tNil:=λ_ _ _ _ H Q I h=>OM ⟨[],H,I,.nil,h⟩
def EY(ha:PE X e te)(hr:PA X es t)(hs:starEach (e::es) X.env=(false,eval e X.env)::starEach es X.env):PA X (e::es) (Ln te t):=by intro pos pins s σ H Q I h;rw[hs];show wpAny _ _ (spliced ((false,eval e X.env)::backTo pos (starEach es X.env))) _ _ s;refine N5 (thn (ha pins s σ H _ I h) λu s1 zz=>exA zz λx H1 I1 r1 q1=>?_);exact thn (hr pos pins s1 σ H1 _ I1 q1) λus s2 zz=>exA zz λxs H2 I2 r2 q2=>⟨x::xs,H2,I2,.cons r1 r2,q2⟩
def tTup(t:TA):TE:=λσ H Q=>t σ H λxs H1=>xs.length<=sizeLine/\∀p,H1 p=none->Q (.ref p) (upd H1 p (.tup xs))
def tLst(t:TA):TE:=λσ H Q=>t σ H λxs H1=>xs.length<=sizeLine/\∀p,H1 p=none->Q (.ref p) (upd H1 p (.lst xs))
def GR{x1}(h:PA X es t):PE X (.Tuple es x1 pos) (tTup t):=by intro pins s σ H Q I hq;refine wpAny_Tuple_spliced (thn (h pos pins s σ H _ I hq) λus s1 ⟨xs,H1,I1,r,z,q⟩=>⟨by rw[<- r.length];exact z,?_⟩);have hf:H1 s1.heap.objs.size=none:=I1.hok.fresh (s_ _);refine⟨.ref s1.heap.objs.size,upd H1 s1.heap.objs.size (.tup xs),I1.laid (t':=s1.toks) (λb u e=>q_ _ e) (s_ _) ?_,rfl,q _ hf⟩;exact⟨z,us,r,⟨_,E_ _ rfl,rfl,_,rfl⟩⟩
def JW(h:PA X es t):PE X (.List es pos) (tLst t):=by intro pins s σ H Q I hq;refine wpAny_List_spliced (thn (h pos pins s σ H _ I hq) λus s1 ⟨xs,H1,I1,r,z,q⟩=>⟨by rw[<- r.length];exact z,?_⟩);have hf:H1 s1.heap.objs.size=none:=I1.hok.fresh (s_ _);refine⟨.ref s1.heap.objs.size,upd H1 s1.heap.objs.size (.lst xs),I1.laid (t':=s1.toks) (λb u e=>q_ _ e) (s_ _) ?_,rfl,q _ hf⟩;exact⟨z,us,0,r,E_ _ rfl⟩
end
abbrev Sp:=List V->Hp->VK->XK->Prop
abbrev CXT:=List Env->Hp->Shared->XK->Value->Shared->Prop
structure Env0(P:Program)(w:World)(K:W.Frag)(mg:Qb)(base:Heap)(A:Around)(outer:List Env)(s:Shared)(H:Hp):Prop where
 frames:A.frames=some outer
 mod:Mod K mg base
 bs:∀b o,base.get? b=some o->s.heap.get? b=some o/\H b=none
 bsz:base.objs.size<=s.heap.objs.size
 funs:s.heap.FunFrames base outer
 frf:∀b∈frs outer,H b=none
 hok:HOk P w H s.heap
 bare:AllBare s.gens
def CE(outer:List Env)(P:Program)(w:World)(H:Hp)(s:Shared)(Q:VK)(u:Value)(s':Shared):Prop:=
 ∃v H',s'.os=s.os/\AllBare s'.gens/\Un (frs outer) [] H H' s.heap s'.heap/\HOk P w H' s'.heap/\RelV v u/\Q v H'
def CR(CX:CXT)(outer:List Env)(P:Program)(w:World)(H:Hp)(s:Shared)(Q:VK)(E:XK)(r:Result)(s':Shared):Prop:=
 match r with
 |.ok (.ret u)=>CE outer P w H s Q u s'
 |.ok _=>False
 |.error e=>CX outer H s E e s'
structure FnOk(P:Program)(w:World)(K:W.Frag)(mg:Qb)(base:Heap)(CX:CXT)(k:Nat)(f:Addr)(fd:FuncData)(ps:List Str)(sp:Sp):Prop where
 len:∀vs H Q E,sp vs H Q E->vs.length=ps.length
 run:∀(A:Around) (outer:List Env) (s:Shared) (H:Hp) (args:Args) (us:List Value) (vs:List V) (Q:VK) (E:XK),Room k A->Env0 P w K mg base A outer s H->BindsTo s fd args (ps.zip us)->Vals vs us->sp vs H Q E->
  codeAny (model P w) A (.call (.ref f) args) (CR CX outer P w H s Q E) s
def FnOk.imp{P:Program}{w:World}{K:W.Frag}{mg:Qb}{base:Heap}{CX:CXT}{k:Nat}{f:Addr}{fd:FuncData}{ps:List Str}{sp sp':Sp}(F:FnOk P w K mg base CX k f fd ps sp)
 (h:∀vs H Q E,sp' vs H Q E->sp vs H Q E):FnOk P w K mg base CX k f fd ps sp':=
 ⟨λvs H Q E q=>F.len vs H Q E (h _ _ _ _ q),λA outer s H args us vs Q E hr he hb hv hs=>F.run A outer s H args us vs Q E hr he hb hv (h _ _ _ _ hs)⟩
section
variable{X:Cx}{pins:Qc}{σ:St}{H:Hp}{s s':Shared}
def Inv.env0(I:Inv X pins σ H s):Env0 X.prog X.w X.K X.mg X.base X.A X.stack s H:=
 ⟨I.ok.frames,I.ok.mod,I.bs,Nl I.ok.bsz I.sz,I.stack,I.stkFree,I.hok,I.bare⟩
def Inv.after(I:Inv X pins σ H s)(h:CE X.stack X.prog X.w H s Q u s'):EP X pins σ Q u s':=by obtain⟨v,H',os,bare,un,hok,r,q⟩:=h;obtain⟨hh,g,d,t,os'⟩:=s';obtain rfl:os'=s.os:=os;exact⟨v,H',I.call (h':=hh) (g':=g) (d':=d) (t':=t) (ch:=[]) un hok bare (λb z=>absurd z (by simp)),r,q⟩
end
def Binds(K:W.Frag)(fd:FuncData)(ps:List Str)(ds:List Value):Prop:=
 ∀(s:Shared) (us:List Value),K.In s.heap->(us++ds).length=ps.length->BindsTo s fd ⟨us,[]⟩ (ps.zip (us++ds))
def Binds.all{K:W.Frag}{fd:FuncData}{ps:List Str}(h:∀us:List Value,us.length=ps.length->bindArgs fd ⟨us,[]⟩=pure (ps.zip us)):Binds K fd ps []:=λs us _ hl=>by rw[Nv] at hl ⊢;exact .of_eq (h us hl)
def so(CX:CXT)(X:Cx)(E:XK):Prop:=∀(pins:Qc) (σ:St) (H:Hp) (s:Shared) (e:Value) (s':Shared),Inv X pins σ H s->CX X.stack H s E e s'->X.xe e s'
structure FnScope(N P:List Str)(sc:Scope):Prop where
 kind:sc.kind=.function
 co:sc.isCoroutine=false
 gen:sc.isGenerator=false
 nd:N.Nodup
 pre:N.take P.length=P
 par:∀x∈P,sc.names.lookup x=some .local\/sc.names.lookup x=some .cell
 nofree:∀y∈sc.names,y.2 ≠ .free
theorem pD{kindOf:Str->Option NameKind}{x:Str}:∀{binds:List (Str×Value)}{m:Qb},(∀v,(x,v)∉binds)->bindL kindOf binds m x=m x
 | [],_,_=>rfl
 |
  (n,v)::r,m,h=>by
  unfold bindL;rw[pD λw hw=>h w (r_ _ hw)];split
  .have:x≠n:=by rintro rfl;exact h v t_
   simp [this]
  .rfl
theorem oY{kindOf:Str->Option NameKind}{x:Str}:∀{binds:List (Str×Value)}{m:Qb},(∀v,(x,v)∉binds)->bindC kindOf binds m x=m x
 | [],_,_=>rfl
 |
  (n,v)::r,m,h=>by
  unfold bindC;rw[oY λw hw=>h w (r_ _ hw)];split
  .rfl
  .have:x≠n:=by rintro rfl;exact h v t_
   simp [this]
theorem pC{kindOf:Str->Option NameKind}{x:Str}{v:Value}:∀{P:List Str}{vs:List Value}{i:Nat}{m:Qb},P.Nodup->P[i]?=some x->vs[i]?=some v->kindOf x=some .local->
 bindL kindOf (P.zip vs) m x=some v
 | [],_,_,_,_,h,_,_=>by simp at h
 |_::_,[],_,_,_,_,h,_=>by simp at h
 |
  p::P,w::vs,0,m,nd,h1,h2,hk=>by
  simp at h1 h2;subst h1;subst h2;show bindL kindOf ((p,w)::P.zip vs) m p=_;unfold bindL;rw[pD λv hv=>(OR.mp nd).1 (List.of_mem_zip hv).1,if_pos hk];simp
 |
  p::P,w::vs,i+1,m,nd,h1,h2,hk=>by
  show bindL kindOf ((p,w)::P.zip vs) m x=_;unfold bindL;exact pC (i:=i) (OR.mp nd).2 (by simpa using h1) (by simpa using h2) hk
theorem oP{kindOf:Str->Option NameKind}{x:Str}{v:Value}:∀{P:List Str}{vs:List Value}{i:Nat}{m:Qb},P.Nodup->P[i]?=some x->vs[i]?=some v->kindOf x≠some .local->
 bindC kindOf (P.zip vs) m x=some v
 | [],_,_,_,_,h,_,_=>by simp at h
 |_::_,[],_,_,_,_,h,_=>by simp at h
 |
  p::P,w::vs,0,m,nd,h1,h2,hk=>by
  simp at h1 h2;subst h1;subst h2;show bindC kindOf ((p,w)::P.zip vs) m p=_;unfold bindC;rw[oY λv hv=>(OR.mp nd).1 (List.of_mem_zip hv).1,if_neg hk];simp
 |
  p::P,w::vs,i+1,m,nd,h1,h2,hk=>by
  show bindC kindOf ((p,w)::P.zip vs) m x=_;unfold bindC;exact oP (i:=i) (OR.mp nd).2 (by simpa using h1) (by simpa using h2) hk
noncomputable def fZ (N:List Str) (vs:List V):St:=vs.map some++List.replicate (N.length-vs.length) none
noncomputable def eE (CX:CXT) (P:Program) (w:World) (K:W.Frag) (mg:Qb) (base:Heap) (N:List Str) (qual:Str) (scope:Scope) (f:Addr) (cd:Value) (A:Around) (outer:List Env) (s:Shared) (H:Hp) (E:XK):Cx where
 prog:=P
 w:=w
 K:=K
 mg:=mg
 base:=base
 A:=A.deeper (envOfC qual scope s.heap.objs.size f cd)
 N:=N
 s₀:=s
 H₀:=H
 env:=envOfC qual scope s.heap.objs.size f cd
 outer:=outer
 stack:=envOfC qual scope s.heap.objs.size f cd::outer
 ex:=[]
 calm:=true
 fn:=λ_=>true
 pn:=[]
 xe:=λe s'=>wpAny (model P w) (A.deeper (envOfC qual scope s.heap.objs.size f cd)) (leaving (envOfC qual scope s.heap.objs.size f cd) e) (λ_ s''=>CX outer H s E e s'') (λe' s''=>CX outer H s E e' s'') s'
def rm{sc:Scope}{n:Nat}{x:Str}(h:sc.names.lookup x=some .cell):∃c,(cellsFrom n sc.names []).lookup x=some c:=by have q:=W.cellsFrom_some sc.names n [] (.inl h);exact Ot.mp q
def yZ{CX:CXT}{P:Program}{w:World}{K:W.Frag}{mg:Qb}{base:Heap}{N ps:List Str}{qual:Str}{scope:Scope}{f:Addr}{cd:Value}{A:Around}{outer:List Env}{s s1:Shared}{H:Hp}{E:XK}{us:List Value}{vs:List V}
 (S:FnScope N ps scope) (hd:A.handled=none) (e0:Env0 P w K mg base A outer s H) (hl:vs.length=ps.length) (r:Vals vs us)
 (x:InCallC s s.heap.objs.size (bindL (envOfC qual scope s.heap.objs.size f cd).kindOf (ps.zip us) λ_=>none) (cellsFrom (s.heap.objs.size+1) scope.names []) (bindC (envOfC qual scope s.heap.objs.size f cd).kindOf (ps.zip us) λ_=>none) s1):
 Inv (eE CX P w K mg base N qual scope f cd A outer s H E) [] (fZ N vs) H s1:=by
 have hpl:ps.length<=N.length:=by have:=NA List.length S.pre;rw[Ng] at this;omega
 obtain⟨h1,tk,rfl,hk⟩:=x.done;have noA:∀b:Addr,b∉(eE CX P w K mg base N qual scope f cd A outer s H E).ex:=λb z=>absurd (show b∈([]:List Addr) from z) (by simp);refine⟨⟨e0.mod,S.kind,rfl,rfl,s_ _,λy z c h1 h2=>?_,λy hy=>?_,λy c _ h=>?_,λ_=>hd,Around.frames_deeper e0.frames,.inr ⟨rfl,rfl⟩,λb z=>absurd z (noA b),e0.bs,e0.bsz,λb _ _=>noA b,λb z=>absurd z (noA b),e0.funs,e0.frf⟩,
  rfl,e0.bare,Un.kept hk,⟨_,x.toInCall.ns,λi y v h1 h2 h3=>?_⟩,λy c h=>⟨_,x.cell y c h⟩,e0.hok.fresh (s_ _),λy c h=>?_,λp hp=>absurd (show p∈([]:Qc) from hp) (by simp),e0.hok.kept hk,?_⟩
 .exact name_of_addr x.apart (Oe h1) (Oe h2)
 .have hy:scope.names.lookup y=some .cell\/scope.names.lookup y=some .free:=hy;rcases hy with hy |hy
  .exact rm hy
  .exact absurd rfl (S.nofree _ (Oe hy))
 .exact OZ (x.above y c (Oe h))
 .have hi:i<vs.length:=by
   unfold fZ at h2;by_cases hi:i<vs.length
   .exact hi
   .rw[OK (by simpa using hi)] at h2;rw[N9] at h2;split at h2 <;> cases h2
  have ha:vs[i]?=some v:=by
   unfold fZ at h2;rw[NF (by simpa using hi),Nf] at h2;cases e:vs[i]? with
   |none=>rw[e] at h2;cases h2
   |some a=>rw[e] at h2;cases h2;rfl
  obtain⟨u,hu,rv⟩:=r.get ha;have hp:ps[i]?=some y:=by rw[<- S.pre,List.getElem?_take_of_lt (by omega)];exact h1
  have ndP:ps.Nodup:=by rw[<- S.pre];exact S.nd.sublist (List.take_sublist _ _)
  refine⟨u,rv,?_⟩;rcases S.par y (O1 hp) with k |k
  .exact .inl ⟨k,pC ndP hp hu k⟩
  .obtain⟨c,e⟩:=rm (n:=s.heap.objs.size+1) k;refine .inr ⟨.inl k,c,e,?_⟩;have q:=x.cell y c e;rw[oP ndP hp hu (by show scope.names.lookup y≠_;rw[k];decide)] at q;exact q
 .exact e0.hok.fresh (OZ (x.above y c (Oe h)))
 .unfold fZ;show _=N.length;rw[J_,p_,NU];omega
def D6{CX:CXT}{P:Program}{w:World}{K:W.Frag}{mg:Qb}{base:Heap}{k:Nat}{f:Addr}{name qual:Str}{params:Arguments}{body:List Stmt}{scope:Scope}{dV kV doc pm cdv ct oc:Value}{an od:Option Addr}
 {osl:Array (Option Value)}{N ps:List Str}{sp:Sp} (lk:K.lookup f=some ⟨oc,od,.func (W.fnOf name qual params body scope dV kV doc pm an cdv ct),osl⟩) (n_:W.codeIn K cdv qual=true) (S:FnScope N ps scope)
 (len:∀vs H Q E,sp vs H Q E->vs.length=ps.length)
 (j':∀(A:Around) (outer:List Env) (s:Shared) (H:Hp) (vs:List V) (Q:VK) (E:XK),Room k (A.deeper (envOfC qual scope s.heap.objs.size f cdv))->sp vs H Q E->
  ∃t,PSs (eE CX P w K mg base N qual scope f cdv A outer s H E) body t/\t { nx:=λ_ H'=>Q .non H',rt:=Q } (fZ N vs) H):
 FnOk P w K mg base CX (k+1) f (W.fnOf name qual params body scope dV kV doc pm an cdv ct) ps sp:=by
 refine⟨len,λA outer s H args us vs Q E hr e0 hb r hsp=>?_⟩;have hl:=len _ _ _ _ hsp;have KX:K.In s.heap:=e0.mod.kin.keeps λb o e=>(e0.bs b o e).1;have lim:s.heap.NoLimit:=e0.mod.nolimit.keeps λb o e=>(e0.bs b o e).1;have hkind:∀y∈ps.zip us,scope.names.lookup y.1=some .local\/(scope.names.lookup y.1=some .cell/\((cellsFrom (s.heap.objs.size+1) scope.names []).lookup y.1).isSome=true):=λ⟨n,v⟩ hy=>by
  rcases S.par n (List.of_mem_zip hy).1 with q |q
  .exact .inl q
  .exact .inr ⟨q,W.cellsFrom_some _ _ _ (.inl q)⟩
 refine codeAny_call_function hr.depth (KX _ _ lk) rfl S.co S.gen rfl (W.codeRec_of KX n_) (hb _ _ _ _ ?_);refine wpAny_newFunctionEnv_cells S.kind hkind λenv he s1 x=>?_;subst he;refine⟨lim.keeps x.toInCall.keep,codeAny_func ?_⟩;obtain⟨t,ht,hq⟩:=j' A outer s H vs Q E (hr.deeper _) hsp;have I:Inv (eE CX P w K mg base N qual scope f cdv A outer s H E) [] (fZ N vs) H s1:=yZ S hr.hd e0 hl r x;refine Nu (ht [] s1 (fZ N vs) H _ I hq) (λfl s' hs=>?_) λe s' hs=>hs;have f_:∀{σ':St}{H':Hp}{v:V}{u:Value},Inv (eE CX P w K mg base N qual scope f cdv A outer s H E) [] σ' H' s'->RelV v u->Q v H'->CE outer P w H s Q u s':=
  λ{σ' H' v u} J rv q=>⟨v,H',J.os,J.bare,J.base,J.hok,rv,q⟩
 cases fl with
 |ret u=>obtain⟨v,σ',H',J,rv,q⟩:=hs;exact f_ J rv q
 |next=>obtain⟨σ',H',J,q⟩:=hs;exact f_ (v:=V.non) (u:=Value.none) J rfl q
 |brk=>obtain⟨_,_,_,q⟩:=hs;exact False.elim q
 |cont=>obtain⟨_,_,_,q⟩:=hs;exact False.elim q
section
variable{X:Cx}{x:Str}{p pos:Pos}{e:Expr}{es:List Expr}{t:TA}{id T:String}{r:List V->Hp->VK->Prop}
def tCB(r:List V->Hp->VK->Prop)(t:TA):TE:=λσ H Q=>t σ H λvs H1=>r vs H1 Q
def Bb(hc:CallR X (.builtin id) r)(hg:Gl X x)(hm:X.mg x=none)(hv:bootBuiltins x=some (.builtin id))(ha:PA X (e::es) t)(hn:x ≠ "__name__")(hdb:(x==("__debug__" : Str))=false)
 (he:starEach (e::es) X.env=(false,eval e X.env)::starEach es X.env) (hpl:(backTo pos (starEach es X.env)).any (·.1)=false):PE X (.Call (.Name x p) (e::es) [] pos) (tCB r t):=by
 intro pins s σ H Q I h;refine NR (cL I hg hm hv ?_ hn hdb);exact PyProof.Rows.callWith_builtin1 (thn (ha pos pins s σ H _ I h) λus s1 zz=>exA zz λvs H1 I1 r1 q1=>hc pins s1 σ H1 vs us Q I1 r1 q1) he hpl
def zD(hc:CallR X (.type T) r)(hg:Gl X x)(hm:X.mg x=none)(hv:bootBuiltins x=some (.type T))(ha:PA X (e::es) t)(hn:x ≠ "__name__")(hdb:(x==("__debug__" : Str))=false)
 (he:starEach (e::es) X.env=(false,eval e X.env)::starEach es X.env) (hpl:(backTo pos (starEach es X.env)).any (·.1)=false):PE X (.Call (.Name x p) (e::es) [] pos) (tCB r t):=by
 intro pins s σ H Q I h;refine NR (cL I hg hm hv ?_ hn hdb);exact Np (thn (ha pos pins s σ H _ I h) λus s1 zz=>exA zz λvs H1 I1 r1 q1=>hc pins s1 σ H1 vs us Q I1 r1 q1) he hpl
def yf(hc:CallR X (.type T) r)(hg:Gl X x)(hm:X.mg x=none)(hv:bootBuiltins x=some (.type T))(hn:x ≠ "__name__")(hdb:(x==("__debug__" : Str))=false):
 PE X (.Call (.Name x p) [] [] pos) (tCB r tNil):=by
 intro pins s σ H Q I h;refine NR (cL I hg hm hv ?_ hn hdb);exact PyProof.Rows.callWith_type0 (hc pins s σ H [] [] Q I .nil h)
end
end L2
namespace HT
open PySem PyProof.Rows
section
variable{prog:Program}{w:World}{A:Around}{E:Qd}{s:Shared}
def cat_tup(ht:IsTup s.heap t vs.toArray)(hb:IsTup s.heap b ws.toArray)(hv:vs≠[])
 (h1:ws=[]->Q (.ref t) s) (h2:ws≠[]->Q (.ref s.heap.objs.size) { s with heap:=s.heap.push { cls:=.type "tuple",data:=.seq (vs++ws).toArray } })
 (hsz:vs.length+ws.length<=sizeLine):wpAny (model prog w) A (binaryOp .Add (.ref t) (.ref b)) Q E s:=by
 obtain⟨⟨cls,dd,data,sl⟩,ho,hc,n,hd⟩:=id ht;obtain⟨⟨cls2,dd2,data2,sl2⟩,ho2,hc2,n2,hd2⟩:=id hb;simp only at hc hd hc2 hd2;subst hc hd hc2 hd2;have e:vs.toArray++ws.toArray=(vs++ws).toArray:=by simp
 by_cases hw:ws=[]
 .exact concat_meets ⟨_,ho,rfl⟩ ⟨_,ho2,rfl⟩ noFill_tuple_add seq_tuple_add Pj Pf (Pc _ _)
   (tuple_addW1 t b vs.toArray ws.toArray n n2 dd dd2 sl sl2 (by simpa using hv) (by simp [hw])) ⟨ho,ho2,h1 hw⟩
 .refine concat_meets ⟨_,ho,rfl⟩ ⟨_,ho2,rfl⟩ noFill_tuple_add seq_tuple_add Pj Pf (Pc _ _)
   (tuple_addW2 t b vs.toArray ws.toArray n n2 dd dd2 sl sl2 (by simpa using hv) (by simpa using hw) (by rw[z_,z_];exact hsz)) ⟨ho,ho2,?_⟩
  rw[e];exact h2 hw
noncomputable def sIx (n d:Nat):Option Int->Nat
 |none=>d
 |some v=>if v<0 then (v+(n:Int)).toNat else min v.toNat n
def sIx_none(n d:Nat):sIx n d none=d:=rfl
def sIx_nat(n d k:Nat):sIx n d (some (k:Int))=min k n:=by show (if (k:Int)<0 then ((k:Int)+(n:Int)).toNat else min (k:Int).toNat n)=min k n;rw[if_neg (by omega),NB]
def J6(n d:Nat)(hd:d<=n)(o:Option Int):sIx n d o<=n:=by
 cases o with
 |none=>exact hd
 |
  some v=>
  show (if v<0 then (v+(n:Int)).toNat else min v.toNat n)<=n;by_cases hv:v<0
  .rw[if_pos hv];omega
  .rw[if_neg hv];exact Nat.min_le_right _ _
def vM(v:Int)(n d:Nat):(if v<0 then max (v+(n:Int)) 0 else min v (n:Int))=((sIx n d (some v):Nat):Int):=by
 show (if v<0 then max (v+(n:Int)) 0 else min v (n:Int))=(((if v<0 then (v+(n:Int)).toNat else min v.toNat n):Nat):Int);by_cases hv:v<0
 .simp only[if_pos hv];omega
 .simp only[if_neg hv];omega
def xO(lo hi:Option Int)(n:Nat):Builtin.Slice.sliceAdjust lo hi 1 (n:Int)=(((sIx n 0 lo:Nat):Int),((sIx n n hi:Nat):Int)):=by
 have h1:¬ ((1:Int)<0):=by omega
 unfold Builtin.Slice.sliceAdjust;simp only[h1,Pd];refine Prod.ext ?_ ?_
 .cases lo with
  |none=>rfl
  |some v=>exact vM v n 0
 .cases hi with
  |none=>rfl
  |some v=>exact vM v n n
def ym(i j:Nat):Builtin.Slice.slicePlaces (i:Int) (j:Int) 1=j-i:=by
 unfold Builtin.Slice.slicePlaces;have h1:(1:Int)>0:=by omega
 simp only[h1,OO,Int.ediv_one];split <;> omega
def nz(p:IsPart v o)(h:Q o s):wpAny (model prog w) A (Builtin.Slice.slicePartIndex v) Q E s:=by
 cases p with
 |none=>exact slicePart_none h
 |int i t=>exact slicePart_int h
def kT{sl:Addr}{vl vu:Value}{lo hi:Option Int}{n:Nat}{Q:Int×Int×Nat->Shared->Prop}(hs:s.heap.IsSliceOf sl vl vu .none)(pl:IsPart vl lo)(pu:IsPart vu hi)
 (h:Q (((sIx n 0 lo:Nat):Int),1,sIx n n hi-sIx n 0 lo) s):wpAny (model prog w) A (Builtin.Slice.sliceApplied (.ref sl) (pure (n:Int))) Q E s:=by
 obtain⟨os,hos,hcs,hds⟩:=id hs;unfold Builtin.Slice.sliceApplied Builtin.Slice.sliceFields;refine o_ (o_ (NW hos hds (x:=vl) rfl (o_ (NW hos hds (x:=vu) rfl (o_ (NW hos hds (x:=.none) rfl (B_ ?_)))))));refine o_ (slicePart_none ?_);show wpAny _ _ (if ((1:Int)==0)=true then _ else _) _ _ s;rw[if_neg (by decide)];refine o_ (nz pl (o_ (nz pu (o_ (B_ ?_)))));show wpAny _ _ (match Builtin.Slice.sliceAdjust lo hi 1 (n:Int) with |(lo,hi)=>pure (lo,(1:Int),Builtin.Slice.slicePlaces lo hi 1)) _ _ s;rw[xO lo hi n];show wpAny _ _ (pure (((sIx n 0 lo:Nat):Int),(1:Int),Builtin.Slice.slicePlaces ((sIx n 0 lo:Nat):Int) ((sIx n n hi:Nat):Int) 1)) _ _ s;rw[ym];exact B_ h
def Cn(xs:Array Value)(i k:Nat):((List.range k).filterMap λ(m:Nat)=>xs[((i:Int)+(m:Int)*1).toNat]?).toArray=((xs.toList.drop i).take k).toArray:=by
 have e:(λ(m:Nat)=>xs[((i:Int)+(m:Int)*1).toNat]?)=λm=>xs[i+m]?:=by
  funext m;have:((i:Int)+(m:Int)*1).toNat=i+m:=by omega
  rw[this]
 rw[e]
 have:=pick_run xs i k
 rw[List.filterMap_map] at this;have e2:((λx=>xs[x]?) ∘ λx=>i+x)=λm=>xs[i+m]?:=rfl;rw[e2] at this;rw[this]
def getItem_tuple_cut{t sl:Addr}{items:Array Value}{vl vu:Value}{lo hi:Option Int}{Q:Qd}(ht:IsTup s.heap t items)(hs:s.heap.IsSliceOf sl vl vu .none)(pl:IsPart vl lo)(pu:IsPart vu hi)
 (hw:¬ (sIx items.size 0 lo=0/\sIx items.size items.size hi=items.size))
 (h:Q (.ref s.heap.objs.size) { s with heap:=s.heap.push { cls:=.type "tuple",data:=.seq ((items.toList.drop (sIx items.size 0 lo)).take (sIx items.size items.size hi-sIx items.size 0 lo)).toArray } })
 (hsz:items.size<=sizeLine):wpAny (model prog w) A (getItem (.ref t) (.ref sl)) Q E s:=by
 have htake:sizeOk (.seq ((items.toList.drop (sIx items.size 0 lo)).take (sIx items.size items.size hi-sIx items.size 0 lo)).toArray):=by show ((items.toList.drop (sIx items.size 0 lo)).take (sIx items.size items.size hi-sIx items.size 0 lo)).toArray.size<=sizeLine;rw[z_,Ng,Nj,NJ];omega
 have hj:sIx items.size items.size hi<=items.size:=J6 _ _ (s_ _) hi;obtain⟨os,hos,hcs,hds⟩:=id hs;have hTs:s.TypeIs (.ref sl) "slice":=⟨os,hos,hcs⟩;unfold getItem;try with_reducible refine Of ?_
 first |refine o_ (B_ ?_) |skip
 refine o_ (wpAny_sequenceKey ht.typeIs (by decide) ?_);refine o_ (Ox (name:=Str.ofString "__getitem__") ht.typeIs PyProof.Rows.slot_tuple_getitem
  (O3 PyProof.Rows.slot_tuple_getitem ht.typeIs entry_tuple_getitem ?_ (args_tuple_getitem _ _)))
 show wpAny _ _ (Builtin.Tuple.tupleItemsOf (.ref t) >>= _) _ _ s;refine o_ (tupleItemsOf_ ht ?_);refine o_ (wpAny_typeOf hTs ?_);rw[if_pos (by decide)];refine o_ (kT hs pl pu ?_);have hno:¬ ((((sIx items.size 0 lo:Nat):Int)==0&&(1:Int)==1&&(sIx items.size items.size hi-sIx items.size 0 lo)==items.size)=true):=by intro q;rw[u_,u_] at q;have q1:((sIx items.size 0 lo:Nat):Int)=0:=eq_of_beq q.1.1;have q2:sIx items.size items.size hi-sIx items.size 0 lo=items.size:=eq_of_beq q.2;exact hw ⟨by omega,by omega⟩
 show wpAny _ _ (if (((sIx items.size 0 lo:Nat):Int)==0&&(1:Int)==1&&(sIx items.size items.size hi-sIx items.size 0 lo)==items.size)=true then _ else _) _ _ s;rw[if_neg hno,Cn];first
  |exact o_ (m:=Builtin.Tuple.tupleExact _) (N4 (B_ ⟨_,rfl,B_ h⟩) htake)
  |exact o_ (m:=Builtin.Tuple.tupleExact _) (N4 (o_ (B_ (B_ ⟨_,rfl,B_ h⟩))) htake)
  |exact o_ (o_ (m:=Builtin.Tuple.tupleExact _) (N4 (B_ (B_ ⟨_,rfl,B_ h⟩)) htake))
  |exact o_ (o_ (m:=Builtin.Tuple.tupleExact _) (N4 (B_ ⟨_,rfl,B_ h⟩) htake))
end
end HT
namespace L2
open PySem PySem.Spec PyProof.Rows
abbrev TO:=St->Hp->(Option Int->Hp->Prop)->Prop
def PO(X:Cx)(e:Option Expr)(t:TO):Prop:=
 ∀
  (pins:Qc) (s:Shared) (σ:St) (H:Hp) (Q:Option Int->Hp->Prop),Inv X pins σ H s->t σ H Q->
  wpAny (model X.prog X.w) X.A (evalPart e X.env) (λu s'=>∃o H',Inv X pins σ H' s'/\IsPart u o/\Q o H') X.xe s
def E1:TO:=λ_ H Q=>Q none H
def M6(t:TE):TO:=λσ H Q=>t σ H λx H1=>∃i,x=.int i/\Q (some i) H1
section
variable{X:Cx}{e:Expr}{te:TE}{lo hi:Option Expr}{tl th:TO}{pos p2:Pos}
def EN:PO X none E1:=by intro pins s σ H Q I h;rw[evalPart_none];exact B_ ⟨none,H,I,.none,h⟩
def FZ(h:PE X e te):PO X (some e) (M6 te):=by intro pins s σ H Q I hw;rw[evalPart_some];refine thn (h pins s σ H _ I hw) λu s1 zz=>exA zz λx H1 I1 r1 q1=>?_;obtain⟨i,rfl,q⟩:=q1;obtain⟨t,rfl⟩:=r1;exact⟨some i,H1,I1,.int i t,q⟩
def SlR(X:Cx)(r:V->Option Int->Option Int->Hp->VK->Prop):Prop:=
 ∀
  (pins:Qc) (s:Shared) (σ:St) (H:Hp) (x:V) (v vl vu:Value) (lo hi:Option Int) (sl:Addr) (Q:VK),Inv X pins σ H s->RelV x v->s.heap.IsSliceOf sl vl vu .none->IsPart vl lo->IsPart vu hi->r x lo hi H Q->
  ∃T id,typeLookup (.type T) "__getitem__"=pure (some (.builtin id))/\s.TypeIs v T/\wpAny (model X.prog X.w) X.A (getItem v (.ref sl)) (EP X pins σ Q) X.xe s
def SlR.or(h:SlR X r)(h':SlR X r'):SlR X (λx lo hi H Q=>r x lo hi H Q\/r' x lo hi H Q):=by
 intro pins s σ H x v vl vu lo hi sl Q I rx hs pl pu q;rcases q with q |q
 .exact h pins s σ H x v vl vu lo hi sl Q I rx hs pl pu q
 .exact h' pins s σ H x v vl vu lo hi sl Q I rx hs pl pu q
def tSl(r:V->Option Int->Option Int->Hp->VK->Prop)(te:TE)(tl th:TO):TE:=λσ H Q=>te σ H λx H1=>tl σ H1 λl H2=>th σ H2 λu H3=>r x l u H3 Q
def Dp(hr:SlR X r)(he:PE X e te)(hl:PO X lo tl)(hu:PO X hi th):PE X (.Subscript e (.Slice lo hi none p2) pos) (tSl r te tl th):=by intro pins s σ H Q I h;refine Subscript_ (thn (he pins s σ H _ I h) λv s1 zz=>exA zz λx H1 I1 r1 q1=>?_);refine wpAny_Slice (thn (hl pins s1 σ H1 _ I1 q1) λvl s2 ⟨l,H2,I2,pl,q2⟩=>thn (hu pins s2 σ H2 _ I2 q2) λvu s3 ⟨u,H3,I3,pu,q3⟩=>?_);rw[evalPart_none];refine B_ ?_;have I4:Inv X pins σ H3 { s3 with heap:=s3.heap.push { cls:=.type "slice",data:=.fields #[vl,vu,.none] } }:=I3.kept (t':=s3.toks) λb ob q=>q_ _ q;obtain⟨T,id,hT,ht,hg⟩:=hr pins { s3 with heap:=s3.heap.push { cls:=.type "slice",data:=.fields #[vl,vu,.none] } } σ H3 x v vl vu l u s3.heap.objs.size Q I4 r1 (Heap.IsSliceOf.new ..) pl pu q3;show wpAny (model X.prog X.w) X.A (subscriptTail e (.Slice lo hi none p2) v (.ref s3.heap.objs.size)) (EP X pins σ Q) X.xe { s3 with heap:=s3.heap.push { cls:=.type "slice",data:=.fields #[vl,vu,.none] } };exact tail_any (ops:=[.ref s3.heap.objs.size,v]) ht hT hg (by with_unfolding_all rfl)
noncomputable def jM (xs:List V) (lo hi:Option Int):List V:=(xs.drop (HT.sIx xs.length 0 lo)).take (HT.sIx xs.length xs.length hi-HT.sIx xs.length 0 lo)
def kF(xs:List V)(lo hi:Option Int):(jM xs lo hi).length<=xs.length:=by unfold jM;rw[Ng,Nj];omega
def Dc(K:W.Frag):V->Option Int->Option Int->Hp->VK->Prop:=λx lo hi H Q=>∃a xs,x=.ref a/\SqT K H a xs/\
 ¬ (HT.sIx xs.length 0 lo=0/\HT.sIx xs.length xs.length hi=xs.length)/\∀p,H p=none->Q (.ref p) (upd H p (.tup (jM xs lo hi)))
def Ip:SlR X (Dc X.K):=by
 intro pins s σ H x v vl vu lo hi sl Q I rx hs pl pu h;obtain⟨a,xs,rfl,hx,hw,q⟩:=h;cases rx;obtain⟨its,r,ht,hz⟩:=I.tuple hx;have a_:its.toArray.size=xs.length:=by rw[z_];exact r.length.symm
 refine⟨"tuple",_,PyProof.Rows.slot_tuple_getitem.lookup,ht.typeIs,?_⟩;refine HT.getItem_tuple_cut ht hs pl pu (by rw[a_];exact hw) ?_ (by rw[a_];exact hz);rw[a_];refine⟨.ref s.heap.objs.size,_,I.laid (t':=s.toks) (o:=.tup (jM xs lo hi)) (λb ob q=>q_ _ q) (s_ _) ?_,rfl,q _ (I.hok.fresh (s_ _))⟩;exact⟨Nl (kF xs lo hi) hz,_,(r.drop (HT.sIx xs.length 0 lo)).take (HT.sIx xs.length xs.length hi-HT.sIx xs.length 0 lo),IsTup.new _ _⟩
def qL(K:W.Frag):R2:=λx y H Q=>∃a b xs ys,x=.ref a/\y=.ref b/\SqT K H a xs/\SqT K H b ys/\xs≠[]/\xs.length+ys.length<=sizeLine/\
 (ys=[]->Q (.ref a) H)/\(ys≠[]->∀p,H p=none->Q (.ref p) (upd H p (.tup (xs++ys))))
def Vals.nil_iff(r:Vals xs us):us=[] ↔ xs=[]:=by
 cases r with
 |nil=>simp
 |cons _ _=>simp
def EM:OpR X (binaryOp .Add) (qL X.K):=by intro pins s σ H x y v u Q I rx ry h;obtain⟨a,b,xs,ys,rfl,rfl,ha,hb,hx,hz,q1,q2⟩:=h;cases rx;cases ry;obtain⟨its,r1,p1,_⟩:=I.tuple ha;obtain⟨its2,r2,p2,_⟩:=I.tuple hb;refine HT.cat_tup p1 p2 (λz=>hx (r1.nil_iff.mp z)) (λz=>⟨.ref a,H,I,rfl,q1 (r2.nil_iff.mp z)⟩) (λz=>?_) (by rw[<- r1.length,<- r2.length];exact hz);refine⟨.ref s.heap.objs.size,_,I.laid (t':=s.toks) (o:=.tup (xs++ys)) (λb ob q=>q_ _ q) (s_ _) ?_,rfl,q2 (λw=>z (r2.nil_iff.mpr w)) _ (I.hok.fresh (s_ _))⟩;exact⟨by rw[J_];exact hz,_,r1.append r2,IsTup.new _ _⟩
end
noncomputable def ixN (n:Nat) (i:Int):Option Nat:=if 0<=i then (if i<n then some i.toNat else none) else if -(n:Int)<=i then some (i+n).toNat else none
noncomputable def atI {α:Type} (xs:List α) (i:Int):Option α:=(ixN xs.length i).bind λj=>xs[j]?
def F7(h:ixN n i=some j):seqIndex? i n=some j/\j<n/\-(n:Int)<=i/\i<n:=by
 unfold ixN at h;by_cases h0:0<=i
 .rw[if_pos h0] at h;by_cases h1:i<n
  .rw[if_pos h1] at h;have e:i.toNat=j:=K_ h;exact⟨by rw[seqIndex_of h0 h1,e],by omega,by omega,h1⟩
  .rw[if_neg h1] at h;cases h
 .rw[if_neg h0] at h;by_cases h1:-(n:Int)<=i
  .rw[if_pos h1] at h;have e:(i+n).toNat=j:=K_ h;exact⟨by rw[seqIndex_neg (by omega) h1,e],by omega,h1,by omega⟩
  .rw[if_neg h1] at h;cases h
def wj(h:atI xs i=some v):∃j,seqIndex? i xs.length=some j/\xs[j]?=some v/\j<xs.length/\-(xs.length:Int)<=i/\i<xs.length:=by
 unfold atI at h;cases e:ixN xs.length i with
 |none=>rw[e] at h;cases h
 |some j=>rw[e] at h;obtain⟨h1,h2,h3,h4⟩:=F7 e;exact⟨j,h1,h,h2,h3,h4⟩
def wL(b:Expr):Prop:=∀o i,subscripted b false o i=operate [o,i] (getItem o i)
def IxR(X:Cx)(r:R2):Prop:=
 ∀
  (value slice:Expr) (pins:Qc) (s:Shared) (σ:St) (H:Hp) (x y:V) (v u:Value) (Q:VK),Inv X pins σ H s->RelV x v->RelV y u->r x y H Q->
  subscripted slice false v u=operate [v,u] (getItem v u)->wpAny (model X.prog X.w) X.A (subscriptTail value slice v u) (EP X pins σ Q) X.xe s
def MtR(X:Cx)(id:String)(r:V->List V->Hp->VK->Prop):Prop:=
 ∀
  (pins:Qc) (s:Shared) (σ:St) (H:Hp) (x:V) (xs:List V) (v:Value) (us:List Value) (Q:VK),Inv X pins σ H s->RelV x v->Vals xs us->r x xs H Q->
  wpAny (model X.prog X.w) X.A (call (.builtin id) (v::us)) (EP X pins σ Q) X.xe s
section
variable{X:Cx}{a b:Expr}{ta tb:TE}{pos:Pos}
def IxR.or(h:IxR X r)(h':IxR X r'):IxR X (λx y H Q=>r x y H Q\/r' x y H Q):=by
 intro value slice pins s σ H x y v u Q I rx ry q hs;rcases q with q |q
 .exact h value slice pins s σ H x y v u Q I rx ry q hs
 .exact h' value slice pins s σ H x y v u Q I rx ry q hs
def Kw(hr:IxR X r)(ha:PE X a ta)(hb:PE X b tb)(hs:wL b):PE X (.Subscript a b pos) (tOp r ta tb):=by intro pins s σ H Q I h;exact Subscript_ (Dj ha hb I h λv u s2 x y H2 I2 rx ry q=>hr a b pins s2 σ H2 x y v u Q I2 rx ry q (hs _ _))
def BU(K:W.Frag):R2:=λx y H Q=>∃p xs i v,x=.ref p/\y=.int i/\SqL K H p xs/\atI xs i=some v/\Q v H
def BI(K:W.Frag):R2:=λx y H Q=>∃p xs i v,x=.ref p/\y=.int i/\SqT K H p xs/\atI xs i=some v/\Q v H
def Fh:IxR X (BU X.K):=by
 intro value slice pins s σ H x y v u Q I rx ry h hs;obtain⟨p,xs,i,z,rfl,rfl,hq,he,q⟩:=h;cases rx;obtain⟨t,rfl⟩:=ry;obtain⟨its,r,pl,hz⟩:=I.list hq;obtain⟨j,h1,h2,h3,h4,h5⟩:=wj he;obtain⟨w,ew,rw'⟩:=r.get h2;have hl:=r.length;have hn:=iX;have f_:EP X pins σ Q w s:=⟨z,H,I,rw',q⟩;by_cases h0:0<=i
 .have hj:i.toNat=j:=by rw[seqIndex_of h0 h5] at h1;exact K_ h1
  exact item_listR pl.isList h0 (by omega) (by rw[hj];simpa using ew) f_ hs
 .have hj:(i+(its.toArray.size:Int)).toNat=j:=by rw[seqIndex_neg (by omega) h4] at h1;rw[z_,<- hl];exact K_ h1
  exact subscriptTail_builtinR (x:=w) pl.isList.typeIs slot_list_getitem.lookup
   (wpAny_getItem_list_neg (Q:=λr s'=>r=w/\EP X pins σ Q r s') pl.isList (by omega) (by rw[z_] <;> omega) (by omega) (by rw[hj];simpa using ew) ⟨rfl,f_⟩) hs
def Ib:IxR X (BI X.K):=by
 intro value slice pins s σ H x y v u Q I rx ry h hs;obtain⟨p,xs,i,z,rfl,rfl,hq,he,q⟩:=h;cases rx;obtain⟨t,rfl⟩:=ry;obtain⟨its,r,pl,hz⟩:=I.tuple hq;obtain⟨j,h1,h2,h3,h4,h5⟩:=wj he;obtain⟨w,ew,rw'⟩:=r.get h2;have hl:=r.length;have hn:=iX;have f_:EP X pins σ Q w s:=⟨z,H,I,rw',q⟩;exact subscriptTail_builtinR (x:=w) pl.typeIs slot_tuple_getitem.lookup
  (getItem_tuple (j:=j) (Q:=λr s'=>r=w/\EP X pins σ Q r s') pl (by omega) (by omega) (by rw[z_,<- hl];exact h1) (by simpa using ew) ⟨rfl,f_⟩) hs
def rX(lo hi:Option Int)(n:Nat):(sliceBounds lo hi none n).1=((HT.sIx n 0 lo:Nat):Int)/\(sliceBounds lo hi none n).2.1=((HT.sIx n n hi:Nat):Int)/\(sliceBounds lo hi none n).2.2=1:=by
 refine⟨?_,?_,rfl⟩
 .cases lo with
  |none=>simp [sliceBounds,HT.sIx]
  |
   some i=>
   simp only[sliceBounds,HT.sIx,Option.getD_none,show (1:Int)>0 by decide,OO];by_cases h:i<0
   .simp only[h,OO] <;> omega
   .simp only[h,Pd] <;> omega
 .cases hi with
  |none=>simp [sliceBounds,HT.sIx]
  |
   some i=>
   simp only[sliceBounds,HT.sIx,Option.getD_none,show (1:Int)>0 by decide,OO];by_cases h:i<0
   .simp only[h,OO] <;> omega
   .simp only[h,Pd] <;> omega
def qb(its:List Value)(lo hi:Option Int):slicePick its.toArray lo hi none=((its.drop (HT.sIx its.length 0 lo)).take (HT.sIx its.length its.length hi-HT.sIx its.length 0 lo)).toArray:=by obtain⟨h1,h2,h3⟩:=rX lo hi its.toArray.size;unfold slicePick;rw[h1,h2,h3];simp only[sliceRange_one,pick_run,z_] <;> rfl
def Cm(K:W.Frag):V->Option Int->Option Int->Hp->VK->Prop:=λx lo hi H Q=>∃a xs,x=.ref a/\SqL K H a xs/\∀p,H p=none->Q (.ref p) (upd H p (.lst (jM xs lo hi)))
def EX:SlR X (Cm X.K):=by intro pins s σ H x v vl vu lo hi sl Q I rx hs pl pu h;obtain⟨a,xs,rfl,hx,q⟩:=h;cases rx;obtain⟨its,r,ht,hz⟩:=I.list hx;have a_:=r.length;refine⟨"list",_,slot_list_getitem.lookup,ht.isList.typeIs,?_⟩;refine wpAny_getItem_list_slice ht.isList hs pl pu .none (by simp) ?_ (by rw[z_] <;> omega);rw[qb,<- a_];refine⟨.ref s.heap.objs.size,_,I.laid (t':=s.toks) (o:=.lst (jM xs lo hi)) (λb ob q=>q_ _ q) (s_ _) ?_,rfl,q _ (I.hok.fresh (s_ _))⟩;exact⟨Nl (kF xs lo hi) hz,_,0,(r.drop (HT.sIx xs.length 0 lo)).take (HT.sIx xs.length xs.length hi-HT.sIx xs.length 0 lo),E_ _ rfl⟩
noncomputable def flatV:V->Bool
 |.non=>true
 |.bl _=>true
 |.int _=>true
 |.str _=>true
 |_=>false
noncomputable def eqV:V->V->Bool
 |.non,.non=>true
 |.bl a,.bl b=>a==b
 |.bl a,.int b=>(if a then 1 else 0)==b
 |.int a,.bl b=>a==(if b then 1 else 0)
 |.int a,.int b=>a==b
 |.str a,.str b=>a==b
 |_,_=>false
def Hu(ry:RelV y u)(rx:RelV x v)(fy:flatV y=true)(fx:flatV x=true):SeqAt.EqAt A s u v (eqV y x):=by
 cases y with
 |
  non=>
  cases ry;cases x with
  |non=>cases rx;exact SeqAt.EqAt.same _
  |bl b=>cases rx;exact SeqAt.EqAt.none_bool b
  |int b=>obtain⟨t,rfl⟩:=rx;exact SeqAt.EqAt.none_int b t
  |str b=>obtain⟨t,rfl⟩:=rx;exact SeqAt.EqAt.none_str b t
  |_=>exact absurd (show false=true from fx) x_
 |
  bl a=>
  cases ry;cases x with
  |non=>cases rx;exact SeqAt.EqAt.bool_none a
  |bl b=>cases rx;exact SeqAt.EqAt.bool_bool a b
  |int b=>obtain⟨t,rfl⟩:=rx;exact SeqAt.EqAt.bool_int a b t
  |str b=>obtain⟨t,rfl⟩:=rx;exact SeqAt.EqAt.bool_str a b t
  |_=>exact absurd (show false=true from fx) x_
 |
  int a=>
  obtain⟨t',rfl⟩:=ry;cases x with
  |non=>cases rx;exact SeqAt.EqAt.int_none a t'
  |bl b=>cases rx;exact SeqAt.EqAt.int_bool a t' b
  |int b=>obtain⟨t,rfl⟩:=rx;exact SeqAt.EqAt.int_int a t' b t
  |str b=>obtain⟨t,rfl⟩:=rx;exact SeqAt.EqAt.int_str a t' b t
  |_=>exact absurd (show false=true from fx) x_
 |
  str a=>
  obtain⟨t',rfl⟩:=ry;cases x with
  |non=>cases rx;exact SeqAt.EqAt.str_none a t'
  |bl b=>cases rx;exact SeqAt.EqAt.str_bool a t' b
  |int b=>obtain⟨t,rfl⟩:=rx;exact SeqAt.EqAt.str_int a t' b t
  |str b=>obtain⟨t,rfl⟩:=rx;exact SeqAt.EqAt.str_str a t' b t
  |_=>exact absurd (show false=true from fx) x_
 |_=>exact absurd (show false=true from fy) x_
noncomputable def eqU (x:V) (u:Value):Bool:=match u with
 |.none=>eqV .non x
 |.bool b=>eqV (.bl b) x
 |.int i _=>eqV (.int i) x
 |.str z _=>eqV (.str z) x
 |_=>false
def zg(r:RelV y u)(f:flatV y=true):eqU x u=eqV y x:=by
 cases y with
 |non=>cases r;rfl
 |bl b=>cases r;rfl
 |int i=>obtain⟨t,rfl⟩:=r;rfl
 |str z=>obtain⟨t,rfl⟩:=r;rfl
 |_=>exact absurd (show false=true from f) x_
theorem iF:∀{xs:List V}{us:List Value},Vals xs us->xs.all flatV=true->us.any (eqU x)=xs.any λy=>eqV y x
 |_,_,.nil,_=>rfl
 |
  y::xs,u::us,.cons r t,f=>by
  rw[P5,u_] at f;rw[N7,N7,zg r f.1,iF t f.2]
theorem gJ(rx:RelV x v)(fx:flatV x=true):∀{xs:List V}{us:List Value},Vals xs us->xs.all flatV=true->∀u∈us,SeqAt.EqAt A s u v (eqU x u)
 |_,_,.nil,_=>λu hu=>by cases hu
 |
  y::xs,u::us,.cons r t,f=>λu' hu=>by
  rw[P5,u_] at f;rcases G_.mp hu with rfl |hu
  .rw[zg r f.1];exact Hu r rx f.1 fx
  .exact gJ rx fx t f.2 u' hu
noncomputable def inV (x:V) (xs:List V):Bool:=xs.any λy=>eqV y x
def rIn(K:W.Frag)(neg:Bool):R2:=λx y H Q=>∃p xs,y=.ref p/\(SqL K H p xs\/SqT K H p xs)/\flatV x=true/\xs.all flatV=true/\Q (.bl (if neg then !inV x xs else inV x xs)) H
def zr:OpR X (compareOp .In) (rIn X.K false):=by
 intro pins s σ H x y v u Q I rx ry h;obtain⟨p,xs,rfl,hq,fx,fs,q⟩:=h;cases ry;rcases hq with hq |hq
 .obtain⟨its,r,pl,hz⟩:=I.list hq;refine SeqAt.in_listAt (eqU x) pl.isList (λw hw=>gJ rx fx r fs w (by simpa using hw)) ⟨.bl _,H,I,rfl,?_⟩;rw[show its.toArray.any (eqU x)=its.any (eqU x) by simp,iF r fs];exact q
 .obtain⟨its,r,pl,hz⟩:=I.tuple hq;refine SeqAt.in_tupleAt (eqU x) pl (λw hw=>gJ rx fx r fs w (by simpa using hw)) ⟨.bl _,H,I,rfl,?_⟩;rw[show its.toArray.any (eqU x)=its.any (eqU x) by simp,iF r fs];exact q
def tK:OpR X (compareOp .NotIn) (rIn X.K true):=by
 intro pins s σ H x y v u Q I rx ry h;obtain⟨p,xs,rfl,hq,fx,fs,q⟩:=h;cases ry;rcases hq with hq |hq
 .obtain⟨its,r,pl,hz⟩:=I.list hq;refine SeqAt.notIn_listAt (eqU x) pl.isList (λw hw=>gJ rx fx r fs w (by simpa using hw)) ⟨.bl _,H,I,rfl,?_⟩;rw[show its.toArray.any (eqU x)=its.any (eqU x) by simp,iF r fs];exact q
 .obtain⟨its,r,pl,hz⟩:=I.tuple hq;refine SeqAt.notIn_tupleAt (eqU x) pl (λw hw=>gJ rx fx r fs w (by simpa using hw)) ⟨.bl _,H,I,rfl,?_⟩;rw[show its.toArray.any (eqU x)=its.any (eqU x) by simp,iF r fs];exact q
def sS:CallR X (.builtin "len") (λxs H Q=>∃p ys,xs=[.ref p]/\(SqL X.K H p ys\/SqT X.K H p ys)/\Q (.int ys.length) H):=by
 intro pins s σ H xs us Q I r h;obtain⟨p,ys,rfl,hq,q⟩:=h;obtain⟨u,rfl,rx⟩:=eR r;cases rx;have hn:=iX;rcases hq with hq |hq
 .obtain⟨its,r',pl,hz⟩:=I.list hq;have a_:=r'.length;exact Calls.call_len_list pl.isList (by simp only[z_] <;> omega) ⟨.int ys.length,H,I.tok _,⟨s.toks+1,by rw[z_,a_]⟩,q⟩
 .obtain⟨its,r',pl,hz⟩:=I.tuple hq;have a_:=r'.length;exact len_tuple pl (by simp only[z_] <;> omega) ⟨.int ys.length,H,I.tok _,⟨s.toks+1,by rw[z_,a_]⟩,q⟩
def uL:CallR X (.builtin "len") (λxs H Q=>∃z,xs=[.str z]/\z.length<=sizeLine/\Q (.int z.length) H):=by intro pins s σ H xs us Q I r h;obtain⟨z,rfl,hz,q⟩:=h;obtain⟨u,rfl,t,rfl⟩:=eR r;have hn:=iX;exact len_str (by omega) ⟨.int z.length,H,I.tok _,⟨_,rfl⟩,q⟩
def CallR.or(h:CallR X f r)(h':CallR X f r'):CallR X f (λxs H Q=>r xs H Q\/r' xs H Q):=by
 intro pins s σ H xs us Q I rs q;rcases q with q |q
 .exact h pins s σ H xs us Q I rs q
 .exact h' pins s σ H xs us Q I rs q
def rB:CallR X (.type "list") (λxs H Q=>∃p ys,xs=[.ref p]/\(SqL X.K H p ys\/SqT X.K H p ys)/\∀l,H l=none->Q (.ref l) (upd H l (.lst ys))):=by
 intro pins s σ H xs us Q I r h;obtain⟨p,ys,rfl,hq,q⟩:=h;obtain⟨u,rfl,rx⟩:=eR r;cases rx;have f_:∀(its:List Value),Vals ys its->ys.length<=sizeLine->∀(h':Heap) (c':Nat),(∀b o',s.heap.get? b=some o'->h'.get? b=some o')->
  h'.get? s.heap.objs.size=some { cls:=.type "list",dict:=none,data:=.seq its.toArray c',slots:=#[] }->EP X pins σ Q (.ref s.heap.objs.size) { s with heap:=h' }:=λits r' hz h' c' kp e=>
  ⟨.ref s.heap.objs.size,_,I.laid (t':=s.toks) kp (s_ _) (show ObjOk X.prog X.w _ h' _ (.lst ys) from ⟨hz,its,c',r',e⟩),rfl,q _ (I.hok.fresh (s_ _))⟩
 rcases hq with hq |hq
 .obtain⟨its,r',pl,hz⟩:=I.list hq;have a_:=r'.length;obtain⟨o,ho,hc,n,hd⟩:=pl.isList;exact call_list_seq p (.inl rfl) ho hc hd (λh' c' kp e=>f_ its r' hz h' c' kp e) (by simp only[z_] <;> omega)
 .obtain⟨its,r',pl,hz⟩:=I.tuple hq;have a_:=r'.length;obtain⟨o,ho,hc,n,hd⟩:=pl;exact call_list_seq p (.inr rfl) ho hc hd (λh' c' kp e=>f_ its r' hz h' c' kp e) (by simp only[z_] <;> omega)
def pJ:CallR X (.type "tuple") (λxs H Q=>∃p ys,xs=[.ref p]/\((SqL X.K H p ys/\∀l,H l=none->Q (.ref l) (upd H l (.tup ys)))\/(SqT X.K H p ys/\Q (.ref p) H))):=by
 intro pins s σ H xs us Q I r h;obtain⟨p,ys,rfl,h⟩:=h;obtain⟨u,rfl,rx⟩:=eR r;cases rx;rcases h with ⟨hq,q⟩ |⟨hq,q⟩
 .obtain⟨its,r',pl,hz⟩:=I.list hq;have a_:=r'.length;refine call_tuple_list pl.isList (λh' kp=>?_) (by simp only[z_] <;> omega);have I1:Inv X pins σ H { s with heap:=h' }:=I.kept (t':=s.toks) kp;have I2:Inv X pins σ (upd H h'.objs.size (.tup ys)) { s with heap:=h'.push { cls:=.type "tuple",data:=.seq its.toArray } }:=
   I1.laid (t':=s.toks) (λb o e=>q_ _ e) (s_ _) (show ObjOk X.prog X.w _ _ _ (.tup ys) from ⟨hz,its,r',IsTup.new _ _⟩)
  exact⟨.ref h'.objs.size,_,I2,rfl,q _ (I1.hok.fresh (s_ _))⟩
 .obtain⟨its,r',pl,hz⟩:=I.tuple hq;exact call_tuple_same pl ⟨.ref p,H,I,rfl,q⟩
def tyV(K:W.Frag)(T:String)(x:V)(H:Hp):Prop:=match x with
 |.str _=>T="str"
 |.int _=>T="int"
 |.ref p=>(T="list" /\ ∃xs,SqL K H p xs)\/(T="tuple" /\ ∃o,K.lookup p=some o/\o.cls=.type "tuple" /\ o.dict=none)\/
  (T="dict" /\ ((∃kvs,H p=some (.dK kvs))\/∃kvs,H p=some (.dT kvs)))\/(T="set" /\ ∃S n,H p=some (.set S n))
 |_=>False
def zm(I:Inv X pins σ H s)(r:RelV x v)(ty:tyV X.K T x H):
 s.TypeIs v T/\∀a,v=.ref a->∃ob,s.heap.get? a=some ob/\ob.dict=none:=by
 cases x with
 |str z=>obtain⟨t,rfl⟩:=r;cases (show T="str" from ty);exact⟨typeIs_str s z t,λ_ e=>nomatch e⟩
 |int i=>obtain⟨t,rfl⟩:=r;cases (show T="int" from ty);exact⟨typeIs_int s i t,λ_ e=>nomatch e⟩
 |
  ref p=>
  cases r;rcases ty with ⟨rfl,xs,hq⟩ |⟨rfl,o,hk,hc,hd⟩ |⟨rfl,hk⟩ |⟨rfl,S,n,hk⟩
  .obtain⟨its,_,pl,_⟩:=I.list hq;refine⟨pl.isList.typeIs,λa e=>?_⟩;cases e;obtain⟨o,n,e,c,hd,_⟩:=pl;exact⟨o,e,hd⟩
  .refine⟨⟨o,I.kIn p o hk,hc⟩,λa e=>?_⟩;cases e;exact⟨o,I.kIn _ o hk,hd⟩
  .have z:∃o,s.heap.get? p=some o/\o.ExactDict:=by
    rcases hk with ⟨kvs,hk⟩ |⟨kvs,hk⟩
    .obtain⟨_,_,_,_,o,_,_,e,ex,_⟩:=I.hok p _ hk;exact⟨o,e,ex⟩
    .obtain⟨_,_,_,_,o,_,_,e,ex,_⟩:=I.hok p _ hk;exact⟨o,e,ex⟩
   obtain⟨o,e,ex⟩:=z;refine⟨⟨o,e,ex.1⟩,λa e2=>?_⟩;cases e2;exact⟨o,e,ex.2.1⟩
  .obtain⟨o,_,_,_,e,ex,_⟩:=I.hok p _ hk;refine⟨⟨o,e,ex.1⟩,λa e2=>?_⟩;cases e2;exact⟨o,e,ex.2.1⟩
 |_=>exact False.elim ty
def tBM0(K:W.Frag)(T:String)(r:V->List V->Hp->VK->Prop)(to:TE):TE:=λσ H Q=>to σ H λx H1=>tyV K T x H1/\r x [] H1 Q
def tBM(K:W.Frag)(T:String)(r:V->List V->Hp->VK->Prop)(to:TE)(t:TA):TE:=λσ H Q=>to σ H λx H1=>tyV K T x H1/\t σ H1 λxs H2=>r x xs H2 Q
variable{o e:Expr}{es:List Expr}{to:TE}{t:TA}{name:Str}{apos cpos:Pos}{T id:String}{r:V->List V->Hp->VK->Prop}
def JR(pa:PlainAttrs T)(slot:Slot T name id)(hty:typeOf (.builtin id)=pure (.type "method_descriptor"))(hm:MtR X id r)(ho:PE X o to)
 (j_:attributeBase o name X.env (eval o X.env)=eval o X.env) (k_:(apos.endLine==cpos.line)=true):PE X (.Call (.Attribute o name apos) [] [] cpos) (tBM0 X.K T r to):=by
 intro pins s σ H Q I h;refine wpAny_Call_method0_late j_ k_ (thn (ho pins s σ H _ I h) λv s1 ⟨x,H1,I1,r1,ty,q1⟩=>?_);obtain⟨h1,h2⟩:=zm I1 r1 ty;exact⟨T,id,pa,slot,hty,h1,h2,Ph rfl (PySem.evalArgs_none (hm pins s1 σ H1 x [] v [] Q I1 r1 .nil q1))⟩
def yc(pa:PlainAttrs T)(slot:Slot T name id)(hty:typeOf (.builtin id)=pure (.type "method_descriptor"))(hm:MtR X id r)(ho:PE X o to)(ha:PA X (e::es) t)
 (j_:attributeBase o name X.env (eval o X.env)=eval o X.env)
 (hfew:((backTo cpos (starEach (e::es) X.env)).all (λx=>!x.1)&&(backToKw cpos (keywordEach [] X.env)).all (λx=>x.1.isSome)
  && decide ((e::es).length+([]:List Keyword).length+(if ([]:List Keyword).isEmpty then 0 else 1)<30))=true)
 (k_:(apos.endLine==cpos.line)=true) (hs:starEach (e::es) X.env=(false,eval e X.env)::starEach es X.env) (d_:(backTo cpos (starEach es X.env)).any (·.1)=false):
 PE X (.Call (.Attribute o name apos) (e::es) [] cpos) (tBM X.K T r to t):=by
 intro pins s σ H Q I h;refine wpAny_Call_method_late j_ hfew k_ rfl (thn (ho pins s σ H _ I h) λv s1 ⟨x,H1,I1,r1,ty,q1⟩=>?_);obtain⟨h1,h2⟩:=zm I1 r1 ty;refine⟨T,id,pa,slot,hty,h1,h2,?_⟩;have hA:=ha cpos pins s1 σ H1 _ I1 q1;rw[hs] at hA ⊢;refine Ph (by show (false || (backTo cpos (starEach es X.env)).any (·.1))=false;rw[d_] <;> rfl) (Px ?_);exact thn hA λus s2 zz=>exA zz λvs H2 I2 r2 q2=>hm pins s2 σ H2 x vs v us Q I2 r1 r2 q2
end
def MtM(X:Cx)(id:String)(r:V->List V->Hp->VK->Prop):Prop:=
 ∀
  (pins:Qc) (s:Shared) (σ:St) (H:Hp) (x:V) (xs:List V) (v:Value) (us:List Value) (Q:VK),Inv X pins σ H s->RelV x v->Vals xs us->r x xs H Q->
  wpAny (model X.prog X.w) X.A (call (.builtin id) (v::us)) (EP X pins σ Q) X.xe s
def Vals.one(r:Vals [x] us):∃u,us=[u]/\RelV x u:=by
 cases r with
 |cons r t=>cases t;exact⟨_,rfl,r⟩
theorem Vals.zero:∀{us:List Value},Vals [] us->us=[]
 |_,.nil=>rfl
def Vals.dropLast(h:Vals xs us):Vals xs.dropLast us.dropLast:=by
 induction h with
 |nil=>exact .nil
 |
  cons r t ih=>
  cases t with
  |nil=>exact .nil
  |cons q t'=>exact .cons r ih
theorem Vals.rep(h:Vals xs us):∀k:Nat,Vals (List.replicate k xs).flatten (List.replicate k us).flatten
 |0=>.nil
 |
  k+1=>by
  rw[ND,ND,N_,N_];exact Vals.append h (Vals.rep h k)
def xG{α:Type}(l:List α):l.eraseIdx (l.length-1)=l.dropLast:=by
 induction l with
 |nil=>rfl
 |
  cons a r ih=>
  cases r with
  |nil=>rfl
  |
   cons b r=>
   have e:(a::b::r).length-1=((b::r).length-1)+1:=by have h1:(a::b::r).length=r.length+2:=rfl;have h2:(b::r).length=r.length+1:=rfl;omega
   rw[e,List.eraseIdx_cons_succ,ih];all_goals rfl
theorem oZ(its:List Value):∀(k:Nat) (acc:List Value),
 List.foldl (λx1 x2=>x1++x2) acc.toArray (List.replicate k its.toArray)=(acc++(List.replicate k its).flatten).toArray
 |0,acc=>by simp
 |
  k+1,acc=>by
  have e:acc.toArray++its.toArray=(acc++its).toArray:=by simp
  have e2:(acc++its)++(List.replicate k its).flatten=acc++(List.replicate (k+1) its).flatten:=by rw[ND,N_,OX]
  rw[<- e2,<- oZ its k (acc++its),<- e,ND,O8]
section
variable{X:Cx}{pins:Qc}{σ:St}{H:Hp}{s:Shared}{l:Addr}{xs ys:List V}
def Inv.lset{its its':List Value}{n:Nat}{f:Array Value->Array Value}{t':Nat}(I:Inv X pins σ H s)(hH:H l=some (.lst xs))
 (e:s.heap.get? l=some { cls:=.type "list",data:=.seq its.toArray n }) (hf:f its.toArray=its'.toArray) (hv:Vals ys its') (hz:ys.length<=sizeLine):
 Inv X pins σ (upd H l (.lst ys)) { s with heap:=s.heap.update l (Obj.mapSeq f),toks:=t' }:=by
 have q:=PySem.IsL.update e f;rw[hf] at q;refine I.write (x:=l) (e:=l) (by rw[hH];exact trivial) (.inl rfl) (λb' u hb hu=>(Heap.get?_update_other s.heap (Obj.mapSeq f) (Ne.symm hb)).trans hu) ⟨_,q⟩ ?_;exact⟨hz,its',_,hv,q⟩
def Inv.lnew(I:Inv X pins σ H s)(hv:Vals ys its)(hz:ys.length<=sizeLine):
 Inv X pins σ (upd H s.heap.objs.size (.lst ys)) { s with heap:=s.heap.push { cls:=.type "list",data:=.seq its.toArray },toks:=t' }:=
 I.laid (λ_ _ q=>q_ _ q) (s_ _) ⟨hz,its,0,hv,E_ _ rfl⟩
def Inv.fresh(I:Inv X pins σ H s):H s.heap.objs.size=none:=I.hok.fresh (s_ _)
def Inv.lstM(I:Inv X pins σ H s)(hH:H l=some (.lst xs)):xs.length<=sizeLine/\∃(its:List Value) (n:Nat),Vals xs its/\xs.length=its.length/\s.heap.get? l=some { cls:=.type "list",data:=.seq its.toArray n }:=by obtain⟨z,its,n,r,e⟩:=I.hok l _ hH;exact⟨z,its,n,r,r.length,e⟩
def uF{n:Nat}(h:n<=sizeLine):Builtin.List.listTooLong n=false:=by unfold Builtin.List.listTooLong;exact w_ (by omega)
end
section
variable{X:Cx}
def wO:V->List V->Hp->VK->Prop:=λx vs H Q=>∃l xs y,x=.ref l/\vs=[y]/\H l=some (.lst xs)/\xs.length<sizeLine/\Q .non (upd H l (.lst (xs++[y])))
def zU:MtM X "list.append" wO:=by intro pins s σ H x vs v us Q I rx rv h;obtain⟨l,xs,y,rfl,rfl,hH,hz,q⟩:=h;cases rx;obtain⟨u,rfl,ru⟩:=rv.one;obtain⟨z,its,n,r,hl,e⟩:=I.lstM hH;refine Pe F.slot_list_append ⟨_,e,rfl⟩ F.entry_list_append (F.args_list_append_2 _ _) (PySem.list_append l its.toArray n u (by rw[z_];omega)) ⟨e,?_⟩;refine⟨.non,_,I.lset (its':=its++[u]) hH e (by simp) (r.append (.cons ru .nil)) ?_,rfl,q⟩;rw[J_,Pt];omega
def rPop:V->List V->Hp->VK->Prop:=λx vs H Q=>∃l xs y,x=.ref l/\vs=[]/\H l=some (.lst xs)/\xs[xs.length-1]?=some y/\Q y (upd H l (.lst xs.dropLast))
def Kh:MtM X "list.pop" rPop:=by
 intro pins s σ H x vs v us Q I rx rv h;obtain⟨l,xs,y,rfl,rfl,hH,hy,q⟩:=h;cases rx;have hus:=rv.zero;subst hus;obtain⟨z,its,n,r,hl,e⟩:=I.lstM hH;obtain⟨u,hu,ru⟩:=r.get hy;have hy':its.toArray[its.toArray.size-1]?=some u:=by show its.toArray[its.length-1]?=some u;rw[<- Array.getElem?_toList,<- hl];exact hu
 refine Pe F.slot_list_pop ⟨_,e,rfl⟩ F.entry_list_pop (F.args_list_pop_1 _) (MeetsSeq.list_pop_last l its.toArray n u hy' (by rw[z_];omega)) ⟨e,?_⟩;refine⟨y,_,I.lset (its':=its.dropLast) hH e ?_ r.dropLast ?_,ru,q⟩
 .show its.toArray.eraseIdxIfInBounds (its.toArray.size-1)=its.dropLast.toArray;rw[z_,List.eraseIdxIfInBounds_toArray,xG]
 .rw[List.length_dropLast];omega
def yb:R2:=λx y H Q=>∃l b xs zs,x=.ref l/\y=.ref b/\H l=some (.lst xs)/\H b=some (.lst zs)/\xs.length+zs.length<=sizeLine/\∀p,H p=none->Q (.ref p) (upd H p (.lst (xs++zs)))
def IK:OpR X (binaryOp .Add) yb:=by
 intro pins s σ H x y v u Q I rx ry h;obtain⟨l,b,xs,zs,rfl,rfl,hH,hB,hz,q⟩:=h;cases rx;cases ry;obtain⟨z,its,n,r,hl,e⟩:=I.lstM hH;obtain⟨z2,its2,n2,r2,hl2,e2⟩:=I.lstM hB;refine PySem.P.add_list e e2 ?_ (by rw[z_,z_];omega);have ea:its.toArray++its2.toArray=(its++its2).toArray:=by simp
 rw[ea];exact⟨.ref _,_,I.lnew (t':=s.toks) (r.append r2) (by rw[J_];omega),rfl,q _ I.fresh⟩
def rRep:R2:=λx y H Q=>∃l k xs,x=.ref l/\y=.int k/\H l=some (.lst xs)/\-(2^63)<=k/\k<2^63/\xs.length*k.toNat<=sizeLine/\
 ∀p,H p=none->Q (.ref p) (upd H p (.lst (List.replicate k.toNat xs).flatten))
def E7(xs:List α)(k:Nat):(List.replicate k xs).flatten.length=k*xs.length:=by
 induction k with
 |zero=>simp
 |succ k ih=>rw[ND,N_,J_,ih,Nat.succ_mul,Nat.add_comm]
def HY:OpR X (binaryOp .Mult) rRep:=by
 intro pins s σ H x y v u Q I rx ry h;obtain⟨l,k,xs,rfl,rfl,hH,h1,h2,hz,q⟩:=h;cases rx;obtain⟨t,rfl⟩:=ry;obtain⟨z,its,n,r,hl,e⟩:=I.lstM hH;have a_:its.toArray.size*k.toNat<=sizeLine:=by rw[z_,<- hl];exact hz
 have hcap:¬ its.toArray.size*k.toNat>(2^63-1)/8:=by
  have:(sizeLine:Nat)<=(2^63-1)/8:=by decide
  omega
 have hfit:¬ (!Builtin.List.listFitsIndex k)=true:=by rw[fitsIndex_both h1 h2];exact x_
 have hlong:¬ Builtin.List.listTooLong (its.toArray.size*k.toNat)=true:=by rw[uF a_];exact x_
 have hnew:List.foldl (λx1 x2=>x1++x2) #[] (List.replicate (if its.toArray.isEmpty=true then 0 else k.toNat) its.toArray)=(List.replicate k.toNat its).flatten.toArray:=by
  have f0:∀m:Nat,List.foldl (λx1 x2=>x1++x2) #[] (List.replicate m its.toArray)=(List.replicate m its).flatten.toArray:=λm=>by
   have:=oZ its m []
   rw[Ny] at this;exact this
  rw[f0];cases its with
  |nil=>simp
  |cons a r'=>rw[if_neg (by simp)]
 refine wpAny_binaryOp_repeat_ref (T:="list") (U:="int") (by decide) ⟨_,e,rfl⟩ (λs'=>typeIs_int s' k t) noFill_list_mul F.fills_int_mul F.slot_int_rmul repeat_list F.slot_int_index.lookup
  (Pe F.slot_int_rmul (typeIs_int s k t) F.entry_int_rmul (F.args_int_rmul_2 _ _) (int___rmul___int_list k t l its.toArray n)
   ⟨e,rfl,⟨_,e,rfl⟩,Pe F.slot_list_mul ⟨_,e,rfl⟩ F.entry_list_mul (F.args_list_mul_2 _ _) (AutoListH.list___mul___list_int_3 l its.toArray n k t hfit hcap hlong) ⟨e,?_⟩⟩)
 rw[hnew];exact⟨.ref _,_,I.lnew (t':=s.toks) (r.rep k.toNat) (by rw[E7,Nat.mul_comm];exact hz),rfl,q _ I.fresh⟩
end
section
set_option maxRecDepth 100000 in
end
end L2
namespace Att
open PySem PySem.W PySem.Calls PyProof.Rows
def mT:∀(ns:List Int) (vs:List Value),WellAll P h vs (ns.map WData.int)->IntsAre vs ns:=by
 intro ns;induction ns with
 |nil=>intro vs w;rw[Nz] at w;cases w;exact .nil
 |
  cons n ns ih=>
  intro vs w;rw[v_] at w;cases w with
  |cons a b=>cases a;exact .cons _ _ (ih _ b)
def Av{l:OpenLaw}{n:Nat}(hn:l.most=some n){P:Params}{h:Heap}{args:List WData}{vals:List Value}
 (hpre:l.row.toRowW.claim.pre args=true) (hwl:WellAll P h vals args):
 ∃a vs ns,vals=[Value.ref a]/\args=[WData.list (ns.map WData.int)]/\h.get? a=some { cls:=.type "list",data:=.seq vs.toArray }/\IntsAre vs ns/\ns.length<=n:=by
 have hsh:WShape.hasAll [] args [.list .int]=true:=(pre_splitW hpre).1;have hc:l.pre.holds [] { args:=args }=true:=(pre_splitW hpre).2;obtain⟨d,r,rfl,h1,h2⟩:=hasAllW_cons hsh;obtain rfl:=hasAllW_nil h2;obtain⟨xs,rfl,h3⟩:=hasW_list h1;obtain⟨ns,rfl⟩:=items_int h3;have a_:ns.length<=n:=by
  unfold OpenLaw.pre at hc;have h4:(WTm.not (.lt (.lit (.int (n:Int))) (.len (.arg 0)))).holds [] { args:=[.list (ns.map .int)] }=true:=by have h4:=(holds_andW hc).1;rw[hn] at h4;exact h4
  have h5:=condW_of h4 (w_not (w_lt w_lit (w_len_list (w_arg rfl))));rw[p_] at h5;refine Nat.le_of_not_lt λq=>?_;have q':(n:Int)<((ns.length:Nat):Int):=by omega
  first
   |(rw[Em q'] at h5;exact absurd h5 (by decide))
   |(simp at h5;omega)
 cases hwl with
 |
  cons w1 w2=>
  cases w2;cases w1 with
  |list ho hall=>exact⟨_,_,ns,rfl,rfl,ho,mT ns _ hall,a_⟩
def zF(l:OpenLaw)(args:List WData):l.row.toRowW.claim.post args (.bool true) args=true:=
 postW_of (r:=l.row.toRowW) (X:=(true==true))
  (show WShape.has [] (.bool true) .bool=true by first |rfl |decide |simp [WShape.has,WShape.arms,WShape.armsAll])
  (show (WTm.eq .res (.lit (.bool true))).value [] { args:=args,res:=some (.bool true),after:=args }=some (.bool (true==true)) from w_eq_bool (w_res rfl) w_lit) rfl
def attach_call{l:OpenLaw}{n:Nat}{q:Program}{loose:List Str}{XP:(Str->Option Value)->Heap->Prop}{YP:World->Heap->Prop}{d:DefRec}
 (hn:l.most=some n) (hdf:d.params.defaults=[])
 (call:∀(w:World) (s₀ s₁:Shared) (mg mb:Qb) (fa:Addr) (o:Obj) (pm cd doc:Value) (a:Addr) (vs:List Value) (ns:List Int),
  Ground q loose [] XP w s₀ mg mb s₁.heap->YP w s₁.heap->
  s₁.heap.get? fa=some o->o.data=.func (docDef d.name d.params d.body d.scope pm cd doc)->s₁.heap.CodeRec cd d.name->mg d.name=some (.ref fa)->
  s₁.heap.get? a=some { cls:=.type "list",data:=.seq vs.toArray }->IntsAre vs ns->ns.length<=n->s₁.gens=#[]->
  codeAny (model l.prog w) callerA (.call (.ref fa) ⟨[.ref a],[]⟩) (λr s'=>r=.ok (.ret (.bool true))/\OldK s₁.heap s'.heap/\s'.os=s₁.os/\AllBare s'.gens) s₁):
 WalkO q loose XP YP l.row.toRowW d [] (λf vs=>PySem.call f vs):=by
 intro w s₀ s₁ mg mb G Y fa o pm cd doc dV kV ho hd n_ hD hmg hg args vals as hpre hlay hrd hwl hlo;obtain rfl:dV=.none:=Dflts.none hD hdf;obtain rfl:kV=.none:=Dflts.noKw hD;obtain⟨a,vs,ns,rfl,rfl,hobj,hints,a_⟩:=Av hn hpre hwl;refine enter_call (PN (call w s₀ s₁ mg mb fa o pm cd doc a vs ns G Y ho (fd_plain hd) n_ hmg hobj hints a_ hg) λr s' hq=>?_);obtain⟨rfl,h2,h3,h4⟩:=hq;exact⟨.inl ⟨.bool true,.bool true,[],rfl,λ_=>rfl,.bool true,zF l _,λ_=>⟨List.Pairwise.nil,λ_ hm=>(nomatch hm)⟩⟩,h2,h3,h4⟩
section
def rY(h:Heap):Heap:={ h with objs:=#[] }
def xm(h:Heap)(b:Addr):(rY h).get? b=none:=by
 cases e:(rY h).get? b with
 |none=>rfl
 |some o=>exact absurd (A_ e) (Oq _)
def ledger(h:Heap)(L d:Addr):List (Addr×Obj):=(List.range h.objs.size).filterMap λa=>if a=L\/a=d then none else (h.get? a).map λo=>(a,o)
def fr_all(n:h.Ns L m):Fr (rY h) L h m:=
 ⟨n,λb o e=>(by rw[xm] at e;cases e),NM _⟩
end
end Att
namespace L2
open PySem PySem.Spec PyProof.Rows
theorem jW:∀{vs:List Value}{ns:List Int},IntsAre vs ns->Vals (ns.map V.int) vs
 |_,_,.nil=>.nil
 |_,_,.cons n t h=>.cons ⟨t,rfl⟩ (jW h)
def BB(H:Hp):Prop:=∀b,H b=none\/∃o xs,H b=some (.frz o (.lst xs))
def Bu{P:Program}{w:World}{K:W.Frag}{mg mb:Qb}{CX:CXT}{k:Nat}{fa a:Addr}{fd:FuncData}{x:Str}{sp:Sp}{s₁:Shared}{vs:List Value}{ns:List Int}
 (KX:K.In s₁.heap) (hns:s₁.heap.Ns mainGlobals mg) (hb:s₁.heap.Ns builtinsNs mb) (hbb:∀x:Str,x ≠ "__name__"->mb x=bootBuiltins x) (hlim:s₁.heap.NoLimit) (hg:s₁.gens=#[])
 (ha:s₁.heap.get? a=some { cls:=.type "list",data:=.seq vs.toArray }) (hi:IntsAre vs ns) (hl:ns.length<=sizeLine) (hr:Room k callerA)
 (F:∀base:Heap,K.In base->base.Ns mainGlobals mg->FnOk P w K mg base CX k fa fd [x] sp) (hbind:∀(s:Shared) (u:Value),BindsTo s fd ⟨[u],[]⟩ [(x,u)])
 (hsp:∀H:Hp,BB H->SqL K H a (ns.map V.int)->sp [.ref a] H (λv _=>v=.bl true) λ_ _ _=>False)
 (hCX:∀H e s',CX [] H s₁ (λ_ _ _=>False) e s'->False):
 codeAny (model P w) callerA (.call (.ref fa) ⟨[.ref a],[]⟩) (λr s'=>r=.ok (.ret (.bool true))/\OldK s₁.heap s'.heap/\s'.os=s₁.os/\AllBare s'.gens) s₁:=by
 have rv:=jW hi;have lenV:=hi.length;have core
  : ∀H:Hp,BB H->SqL K H a (ns.map V.int)->HOk P w H s₁.heap->(∀b,H b≠none->b=a)->(H a≠none->K.lookup a=none)->
  codeAny (model P w) callerA (.call (.ref fa) ⟨[.ref a],[]⟩) (λr s'=>r=.ok (.ret (.bool true))/\OldK s₁.heap s'.heap/\s'.os=s₁.os/\AllBare s'.gens) s₁:=by
  intro H hO hS hok hA hK;have base_of:∀{b:Addr}{o:Obj},s₁.heap.get? b=some o->H b=none->(fh s₁.heap H).get? b=some o:=λe n=>uB e n;have noA:∀{b:Addr}{o:Obj}{es:Array DictEntry}{ep:Nat},s₁.heap.get? b=some o->o.data=.dict es ep->H b=none:=λ{b o es ep} e d=>by
   cases q:H b with
   |none=>rfl
   |some u=>have e':b=a:=hA b (by rw[q];simp);subst e';rw[ha] at e;cases e;have d':Data.seq vs.toArray _=Data.dict es ep:=d;cases d'
  have nsK:∀{b:Addr}{m:Qb},s₁.heap.Ns b m->(fh s₁.heap H).Ns b m:=λ{b m} ⟨o,es,ep,e,d,r⟩=>⟨o,es,ep,base_of e (noA e d),d,r⟩;have hKb:K.In (fh s₁.heap H):=λb o e=>base_of (KX b o e) (by
   cases q:H b with
   |none=>rfl
   |some u=>have e':b=a:=hA b (by rw[q];simp);subst e';rw[hK (by rw[q];simp)] at e;cases e)
  have hM:Mod K mg (fh s₁.heap H):=⟨hKb,nsK hns,⟨mb,nsK hb,hbb⟩,let ⟨mc,h1,h2⟩:=hlim;⟨mc,nsK h1,h2⟩⟩;have e0:Env0 P w K mg (fh s₁.heap H) callerA [] s₁ H:=⟨rfl,hM,λb o e=>wI e,Nat.le_of_eq (pz _ _),trivial,λb hb=>absurd (show b∈([]:List Addr) from hb) (by simp),hok,.of_eq hg⟩;refine PN ((F _ hKb (nsK hns)).run callerA [] s₁ H ⟨[.ref a],[]⟩ [.ref a] [.ref a] _ _ hr e0 (hbind s₁ (.ref a)) (.cons rfl .nil) (hsp H hO hS)) λr s' h=>?_;cases r with
  |error e=>exact (hCX H e s' h).elim
  |
   ok fl=>
   cases fl with
   |next=>exact False.elim h
   |brk=>exact False.elim h
   |cont=>exact False.elim h
   |
    ret u=>
    obtain⟨v,H',os,bare,un,hok',r',q⟩:=h;have q':v=.bl true:=q;subst q';obtain rfl:u=Value.bool true:=r';refine⟨rfl,OldK.of_keep λb o e=>?_,os,bare⟩;cases q:H b with
    |none=>exact un.keep b o e q (by intro z;exact absurd (show b∈([]:List Addr) from z) (by simp)) (by simp)
    |
     some u=>
     rcases hO b with z |⟨ob,xs,z⟩
     .rw[q] at z;cases z
     .have z2:=un.frzs b ob _ z;obtain⟨e1,_⟩:=hok b _ z;obtain⟨e2,_⟩:=hok' b _ z2;rw[e] at e1;cases e1;exact e2
 cases hk:K.lookup a with
 |some o=>have e:=KX a o hk;rw[ha] at e;cases e;refine core (λ_=>none) (λ_=>.inl rfl) (.inr ⟨_,vs.toArray,_,hk,rfl,rfl,rfl,by rw[z_,lenV];exact hl,by simpa using rv⟩) (λb u z=>by have z':(none:Option HO)=some u:=z;cases z') (λb z=>absurd rfl z) λz=>absurd rfl z
 |
  none=>
  refine core (λb=>if b=a then some (.frz { cls:=.type "list",data:=.seq vs.toArray } (.lst (ns.map V.int))) else none) (λb=>?_) (.inl (.inr ⟨{ cls:=.type "list",data:=.seq vs.toArray },if_pos rfl⟩)) (λb u z=>?_) (λb z=>?_) λ_=>hk
  .by_cases hb:b=a
   .exact .inr ⟨_,_,if_pos hb⟩
   .exact .inl (if_neg hb)
  .by_cases hb:b=a
   .have z':=(if_pos hb).symm.trans z;cases z';subst hb;exact⟨ha,by rw[p_];exact hl,vs,_,rv,ha⟩
   .have z':=(if_neg hb).symm.trans z;cases z'
  .by_cases hb:b=a
   .exact hb
   .exact absurd (if_neg hb) z
abbrev KOf{K:W.Frag}{h:Heap}(_:K.In h):W.Frag:=K
def Nc{l:W.OpenLaw}{n k:Nat}{q:Program}{loose:List Str}{XP:(Str->Option Value)->Heap->Prop}{YP:World->Heap->Prop}{d:DefRec}{K:Params->W.Frag}{CX:World->CXT}{sp:World->Sp}{x:Str}
 (hn:l.most=some n) (hn2:n<=sizeLine) (hdf:d.params.defaults=[]) (hr:Room k callerA)
 (hY:∀(w:World) (h:Heap),YP w h->(K w.params).In h)
 (F:∀(w:World) (mg:Qb) (fa:Addr) (h:Heap),(K w.params).In h->h.Ns mainGlobals mg->mg d.name=some (.ref fa)->
  ∃
   fd:FuncData,(∀(s:Shared) (u:Value),BindsTo s fd ⟨[u],[]⟩ [(x,u)])/\
   ∀base:Heap,(K w.params).In base->base.Ns mainGlobals mg->FnOk l.prog w (K w.params) mg base (CX w) k fa fd [x] (sp w))
 (hsp:∀(w:World) (H:Hp) (a:Addr) (ns:List Int),ns.length<=n->BB H->SqL (K w.params) H a (ns.map V.int)->sp w [.ref a] H (λv _=>v=.bl true) λ_ _ _=>False)
 (hCX:∀(w:World) (H:Hp) (s:Shared) (e:Value) (s':Shared),CX w [] H s (λ_ _ _=>False) e s'->False):
 W.WalkO q loose XP YP l.row.toRowW d [] (λf vs=>PySem.call f vs):=by
 refine Att.attach_call hn hdf λw s₀ s₁ mg mb fa o pm cd doc a vs ns G Y ho hd n_ hmg hobj hints a_ hg=>?_;have KX:=hY w _ Y;obtain⟨fd,hb,hF⟩:=F w mg fa _ KX G.T.g hmg;exact Bu KX G.T.g G.T.b G.T.builtins G.T.nolimit hg hobj hints (Nl a_ hn2) hr hF hb (λH hO hS=>hsp w H a ns a_ hO hS) λH e s'=>hCX w H s₁ e s'
noncomputable def c5 (s:Stmt):Arguments:=match s with
 |.FunctionDef _ a _ _ _ _ _ _ _ _=>a
 |_=>{ posonlyargs:=[],args:=[],vararg:=none,kwonlyargs:=[],kw_defaults:=[],kwarg:=none,defaults:=[] }
noncomputable def bH (s:Stmt):List Stmt:=match s with
 |.FunctionDef _ _ b _ _ _ _ _ _ _=>b
 |_=>[]
noncomputable def ar (s:Stmt):Scope:=match s with
 |.FunctionDef _ _ _ _ _ _ sc _ _ _=>sc
 |_=>{ kind:=.function,names:=[],isGenerator:=false,isCoroutine:=false }
abbrev E0:XK:=λ_ _ _=>False
structure Fun(K:W.Frag)(x qual:Str)(st:Stmt)(f:Addr)(fd:FuncData):Prop where
 ex:∃(oc:Value) (od:Option Addr) (kV doc pm:Value) (an:Option Addr) (cdv ct:Value) (osl:Array (Option Value)),
  fd=W.fnOf x qual (c5 st) (bH st) (ar st) .none kV doc pm an cdv ct/\K.lookup f=some ⟨oc,od,.func fd,osl⟩/\W.codeIn K cdv qual=true
 kp:W.keepIn K (.ref f)=true
section
variable{K:W.Frag}
def Fun.binds{x qual:Str}{st:Stmt}{f:Addr}{fd:FuncData}{ps:List Str}(F:Fun K x qual st f fd)
 (h:∀(kV doc pm:Value) (an:Option Addr) (cdv ct:Value) (us:List Value),us.length=ps.length->bindArgs (W.fnOf x qual (c5 st) (bH st) (ar st) .none kV doc pm an cdv ct) ⟨us,[]⟩=pure (ps.zip us)):Binds K fd ps []:=by
 obtain⟨oc,od,kV,doc,pm,an,cdv,ct,osl,rfl,lk,n_⟩:=F.ex;exact .all (h kV doc pm an cdv ct)
def HV{x qual:Str}{st:Stmt}{f:Addr}{oc:Value}{od an:Option Addr}{osl:Array (Option Value)}{kV doc pm cdv ct:Value}(l:K.lookup f=some ⟨oc,od,.func (W.fnOf x qual (c5 st) (bH st) (ar st) .none kV doc pm an cdv ct),osl⟩)
 (c:W.codeIn K cdv qual=true) (k:W.keepIn K (.ref f)=true):Fun K x qual st f (W.fnOf x qual (c5 st) (bH st) (ar st) .none kV doc pm an cdv ct):=⟨⟨oc,od,kV,doc,pm,an,cdv,ct,osl,rfl,l,c⟩,k⟩
end
def Ei(hr:Room k A):A.units+1<cLine:=OD (Nat.add_le_add_left (by decide:1<=64) _) hr.units
section
variable{X:Cx}{pins:Qc}{σ:St}{H:Hp}{s:Shared}
def Inv.track{a:Addr}{o:HO}(I:Inv X pins σ H s)(hn:H a=none)(h0:X.s₀.heap.get? a=none)(hL:a≠X.env.locals)(hc:∀x c,X.env.cells.lookup x=some c->c≠a)
 (hp:∀p∈X.pn++pins,p.1≠a) (new:ObjOk X.prog X.w (upd H a o) s.heap a o):Inv X pins σ (upd H a o) s:=by
 have ne:∀b u,H b=some u->b≠a:=λb u e z=>by rw[z,hn] at e;cases e
 have ne0:∀b u,X.s₀.heap.get? b=some u->b≠a:=λb u e z=>by rw[z,h0] at e;cases e
 refine⟨I.ok,I.os,I.bare,⟨I.base.keep,I.base.slot,λb u e n hx=>?_,I.base.there,λb xs e=>?_,λb u xs e=>?_,λb ps e=>?_⟩,I.loc,I.cell,?_,λx c e=>?_,λp hp'=>?_,λb u e=>?_,I.len⟩
 .rw[aA (ne0 b u e)];exact I.base.free b u e n hx
 .have q:=I.base.tups b xs e;rw[aA (ne _ _ q)];exact q
 .have q:=I.base.frzs b u xs e;rw[aA (ne _ _ q)];exact q
 .obtain⟨m,q⟩:=I.base.tbls b ps e;exact⟨m,by rw[aA (ne _ _ q)];exact q⟩
 .rw[aA (Ne.symm hL)];exact I.free
 .rw[aA (hc x c e)];exact I.freeC x c e
 .obtain⟨e,n,r⟩:=I.pin p hp';exact⟨e,by rw[aA (hp p hp')];exact n,r⟩
 .by_cases hb:b=a
  .subst hb;rw[aF] at e;cases e;exact new
  .rw[aA hb] at e;exact (I.hok b u e).stay (λc v _ q=>q) (λc q=>by rw[aA (ne _ _ q)];exact q) λc xs q=>by rw[aA (ne _ _ q)];exact q
end
theorem jy{env:Env}:∀{names:List (Str×NameKind)} (cs:List (Str×Addr)),(∀x∈names,x.2=.free->∃c,env.cells.lookup x.1=some c)->(∀x c,cs.lookup x=some c->env.cells.lookup x=some c)->
 ∃
  cl,(forIn names cs λ(x:Str×NameKind) (r:List (Str×Addr))=>if (x.2==NameKind.free)=true then do let a <- cellOf env x.1;pure (ForInStep.yield ((x.1,a)::r)) else pure (ForInStep.yield r):Sem (List (Str×Addr)))=pure cl/\
  (∀x c,cl.lookup x=some c->env.cells.lookup x=some c)/\(∀x c,cs.lookup x=some c->∃c',cl.lookup x=some c')/\∀x∈names,x.2=.free->∃c,cl.lookup x.1=some c
 | [],cs,_,h=>⟨cs,by simp,h,λx c e=>⟨c,e⟩,λ_ hx=>nomatch hx⟩
 |
  (n,k)::r,cs,hf,h=>by
  rw[List.forIn_cons];by_cases hk:k=.free
  .subst hk;obtain⟨c,hc⟩:=hf (n,.free) t_ rfl;have m_:cellOf env n=pure c:=by unfold cellOf;rw[hc]
   have h':∀x d,((n,c)::cs).lookup x=some d->env.cells.lookup x=some d:=λx d e=>by
    rw[Og] at e;cases q:x==n with
    |true=>rw[q] at e;cases e;rw[Nr.mp q];exact hc
    |false=>rw[q] at e;exact h x d e
   obtain⟨cl,e1,e2,e3,e4⟩:=jy (env:=env) (names:=r) ((n,c)::cs) (λx hx=>hf x (r_ _ hx)) h';have top:∃c',cl.lookup n=some c':=e3 n c (by rw[Og];simp);refine⟨cl,?_,e2,λx d e=>?_,λx hx hfr=>?_⟩
   .simp only[beq_self_eq_true,OO,m_];exact e1
   .by_cases q:x=n
    .rw[q];exact top
    .exact e3 x d (by rw[Og,(M_.mpr q:(x==n)=false)];exact e)
   .rcases G_.mp hx with rfl |hx
    .exact top
    .exact e4 x hx hfr
  .have hb:(k==NameKind.free)=false:=by simpa using hk
   obtain⟨cl,e1,e2,e3,e4⟩:=jy (env:=env) (names:=r) cs (λx hx=>hf x (r_ _ hx)) h;refine⟨cl,?_,e2,e3,λx hx hfr=>?_⟩
   .simp only[hb,OP,Pd];exact e1
   .rcases G_.mp hx with rfl |hx
    .exact absurd hfr hk
    .exact e4 x hx hfr
def pM{env:Env}{scope:Scope}(hf:∀x∈scope.names,x.2=.free->∃c,env.cells.lookup x.1=some c):
 ∃cl,closureFor scope env=pure cl/\(∀x c,cl.lookup x=some c->env.cells.lookup x=some c)/\∀x∈scope.names,x.2=.free->∃c,cl.lookup x.1=some c:=by
 obtain⟨cl,e1,e2,_,e4⟩:=jy (env:=env) (names:=scope.names) [] hf (λx c e=>by simp at e);refine⟨cl,?_,e2,e4⟩;unfold closureFor;simp only[e1];rfl
noncomputable def bT (X:Cx) (N:List Str) (scope:Scope) (cl:List (Str×Addr)) (C:Addr) (s₂:Shared) (H:Hp) (fp:List Addr):Cx:=
 { X with N:=N,s₀:=s₂,H₀:=H,env:=compEnvC scope cl C X.env,outer:=X.stack,stack:=X.stack,ex:=fp,fn:=λ_=>false,pn:=[],xe:=λ_ _=>False }
noncomputable def eQ (sub:Qe) (σ:St):St:=sub.map λo=>o.bind λi=>(σ[i]?).bind id
def LcW(J:It)(sub:Qe)(g:TG)(tc:TT)(te:TE)(σ:St)(H1:Hp)(Q:VK):Prop:=∃W:Nat->Nat->List V->St->Hp->Prop,(∃m,W 0 m [] (eQ sub σ) H1)/\∀i m ys σ H,W i m ys σ H->
 (J.stop i H/\ys.length<=sizeLine/\∀D,H D=none->Q (.ref D) (upd H D (.lst ys)))\/
 (J.go i H/\ys.length<sizeLine/\∃Nx:List V->St->Hp->Prop,(∀ys' σ' H',Nx ys' σ' H'->∃m',m'<m/\W (i+1) m' ys' σ' H')/\
  ∀x H',J.yld i H x H'->g x σ H' λσ2 H2=>tc σ2 H2 λb H3=>if b=true then te σ2 H3 λy H4=>Nx (ys++[y]) σ2 H4 else Nx ys σ2 H3)
def qJ(wi:TI)(sub:Qe)(g:TG)(tc:TT)(te:TE):TE:=λσ H Q=>wi σ H λJ H1=>LcW J sub g tc te σ H1 Q
section
variable{prog:Program}{w:World}{A:Around}{R:Result->Shared->Prop}{s:Shared}
def rf{elt target iter:Expr}{ifs:List Expr}{scope:Scope}{pos:Pos}{it acc:Value}{env:Env}(I:Nat->Shared->Prop)
 (turn
  : ∀n s,I n s->wpAny (model prog w) A (pyNext it) (λr s₁=>match r with
  |none=>R (.ok .next) s₁
  |some v=>wpAny (model prog w) A (letOwnedTupleGo target it v) (λ_ s₁'=>wpAny (model prog w) A (assign target env v) (λ_ s₂=>
   wpAny (model prog w) A (forIn ifs true λc r=>if r=true then do let ok <- isTrue c env (eval c env);pure (ForInStep.yield ok) else pure (ForInStep.yield r))
    (λok s₃=>if ok=true then wpAny (model prog w) A (eval elt env) (λx s₄=>wpAny (model prog w) A (call (.builtin "list.append") [acc,x]) (λ_ s₅=>∃m,m<n/\I m s₅) (λ_ _=>False) s₄) (λ_ _=>False) s₃
     else ∃m,m<n/\I m s₃) (λ_ _=>False) s₂) (λ_ _=>False) s₁') (λ_ _=>False) s₁) (λ_ _=>False) s)
 (n:Nat) (h:I n s):
 codeAny (model prog w) A (.compLoop (.ListComp elt [⟨target,iter,ifs,0⟩] scope pos) 0 it acc env) R s:=by
 refine codeAny_loop rfl I (λn s hI=>?_) n h;show wpAny _ _ ((compTurn (.ListComp elt [⟨target,iter,ifs,0⟩] scope pos) 0 it acc env).onRaise (λx=>do noteFrame x env;theTreesLotGoes x)) _ _ s;refine wpAny_noted ?_;rw[compTurn_list];refine Nu (E:=λ_ _=>False) ?_ (λ_ _ q=>q) λ_ _ q=>q.elim;refine o_ (O5 (o_ (Nu (turn n s hI) (λr s₁ h₁=>?_) λ_ _ h'=>h')));cases r with
 |none=>exact B_ h₁
 |
  some v=>
  refine o_ (Nu h₁ (λ_ s₁' h₁'=>?_) λ_ _ h'=>h');refine o_ (Nu h₁' (λ_ s₂ h₂=>?_) λ_ _ h'=>h');refine o_ (Nu h₂ (λok s₃ h₃=>?_) λ_ _ h'=>h');cases ok with
  |true=>simp only[OO] at h₃ ⊢;refine o_ (o_ (Nu h₃ (λx s₄ h₄=>?_) λ_ _ h'=>h'));refine o_ (Nu h₄ (λ_ s₅ h₅=>?_) λ_ _ h'=>h');exact B_ (B_ ⟨rfl,h₅⟩)
  |
   false=>
   simp only[OP,Pd] at h₃ ⊢;first
    |exact o_ (B_ (B_ ⟨rfl,h₃⟩))
    |exact B_ ⟨rfl,h₃⟩
end
section
variable{X:Cx}
def PTs(X:Cx)(ifs:List Expr)(t:TT):Prop:=
 ∀
  (pins:Qc) (s:Shared) (σ:St) (H:Hp) (Q:Bool->Hp->Prop),Inv X pins σ H s->t σ H Q->
  wpAny (model X.prog X.w) X.A (forIn ifs true λc r=>if r=true then do let ok <- isTrue c X.env (eval c X.env);pure (ForInStep.yield ok) else pure (ForInStep.yield r)) (TP X pins σ Q) X.xe s
def FY:PTs X [] (λ_ H Q=>Q true H):=λpins s σ H Q I h=>by rw[List.forIn_nil];exact B_ ⟨H,I,h⟩
structure LcEnd(X:Cx)(pins:Qc)(σ:St)(Q:VK)(D C:Addr)(s4:Shared):Prop where
 ns:∃m,s4.heap.Ns C m
 dc:D<C
 fr:X.env.locals<D
 cell:∀x c,X.env.cells.lookup x=some c->c<D
 pin:∀p∈X.pn++pins,p.1<D
 sz:X.s₀.heap.objs.size<=D
 inv:∃H',H' C=none/\Q (.ref D) H'/\∀h',Heap.SameBut C s4.heap h'->Inv X pins σ H' { s4 with heap:=h' }
def vK{elt iter tg:Expr}{ifs:List Expr}{scope:Scope}{pos:Pos}{wi:TI}{g:TG}{tc:TT}{te:TE}{N:List Str}{sub:Qe}{use:Option (Value->Sem Unit)}{R:Qd}{pins:Qc}{s:Shared}{σ:St}{H:Hp}{Q:VK}{fpos:Pos}
 (hc:X.calm=true) (hi:PI X tg iter wi)
 (hk:scope.kind=.function) (hnc:∀x∈scope.names,x.2 ≠ .cell) (h_:∀x∈scope.names,x.2=.local->scope.names.lookup x.1=some .local)
 (hfr:∀x∈scope.names,x.2=.free->X.env.kindOf x.1=some .cell\/X.env.kindOf x.1=some .free)
 (hsl:sub.length=N.length) (hsub:∀(j i:Nat) (x:Str),sub[j]?=some (some i)->N[j]?=some x->X.N[i]?=some x/\scope.names.lookup x=some .free)
 (hg:∀cl C s₂ H fp,PG (bT X N scope cl C s₂ H fp) tg g) (ht:∀cl C s₂ H fp,PTs (bT X N scope cl C s₂ H fp) ifs tc) (he:∀cl C s₂ H fp,PE (bT X N scope cl C s₂ H fp) elt te)
 (hs:∀x,foldedSetIterable iter X.env x=pure x) (I:Inv X pins σ H s) (h:qJ wi sub g tc te σ H Q)
 (f_:∀D C s4,LcEnd X pins σ Q D C s4->compPost (model X.prog X.w) X.A X.xe use R (.ref D) C (.ok .next) s4):
 wpAny (model X.prog X.w) X.A (comprehension (.ListComp elt [⟨tg,iter,ifs,0⟩] scope pos) scope X.env fpos (newList []) false (eval iter X.env) use) R X.xe s:=by
 obtain⟨cl,hclos,hcl,hclf⟩:=pM (env:=X.env) (scope:=scope) λx hx hf=>I.ok.has x.1 (hfr x hx hf);refine wpAny_comprehension_free rfl hs hclos hk h_ ?_;show wpAny _ _ (eval iter X.env) _ _ _;refine thn (hi pins s σ H _ I h) λv s1 h1=>thn h1 λitv s2 h2=>?_;obtain⟨it,fp,tn,J,H2,e,I2,T,st2,f2,W,⟨m0,w0⟩,turn⟩:=h2;subst e;refine N4 (wpAny_newFunctionEnv hnc (by intro y hy;simp at hy) (λh₁ hns₁ hsb₁=>?_) hk);dsimp only at hns₁ hsb₁ ⊢;generalize hH2:s2.heap.push { cls:=.type "list",dict:=none,data:=.seq ([]:List Value).toArray }=G2 at hns₁ hsb₁ ⊢;have hC:G2.objs.size=s2.heap.objs.size+1:=by rw[<- hH2,OY]
 have hDC:s2.heap.objs.size≠G2.objs.size:=by omega
 have below:∀b,b<s2.heap.objs.size->b≠G2.objs.size/\b≠s2.heap.objs.size:=λb hb=>⟨by omega,by omega⟩;have old:∀b o,s2.heap.get? b=some o->h₁.get? b=some o:=λb o e=>hsb₁.extBut b o (below b (A_ e)).1 (q_ _ (hH2 ▸ q_ _ e));have hD₁:h₁.get? s2.heap.objs.size=some { cls:=.type "list",dict:=none,data:=.seq ([]:List Value).toArray }:=hsb₁.extBut _ _ hDC (q_ _ (hH2 ▸ E_ _ rfl));have fresh:∀a,s2.heap.objs.size<=a->s2.heap.get? a=none:=λa ha=>Pz ha;have cellOld:∀x c,cl.lookup x=some c->c<s2.heap.objs.size:=λx c e=>by obtain⟨v,z⟩:=I2.cell x c (hcl x c e);exact z.lt
 have fpOld:∀b∈fp,b<s2.heap.objs.size:=λb hb=>by obtain⟨o,e,_⟩:=T.obj _ _ st2 b hb;exact A_ e
 let Y:Cx:=bT X N scope cl G2.objs.size s2 H2 fp
 have okY:Y.Ok
  := by
  refine⟨I2.ok.mod,?_,I2.ok.glob,I2.ok.blt,?_,λx y c e1 e2=>I2.ok.inj x y c (hcl x c e1) (hcl y c e2),λx hx=>?_,λx c hfn _=>absurd hfn x_,I2.ok.hd,I2.ok.frames,.inl rfl,
   λb hb=>⟨?_,λx c e z=>?_⟩,I2.bs,Nl I2.ok.bsz I2.sz,λb o e hb=>?_,λb hb hf=>?_,I2.stack,I2.stkFree⟩
  .show (relabel scope X.env).kind=.function;exact hk
  .show s2.heap.objs.size<=G2.objs.size;omega
  .have hx':(
    relabel scope X.env).names.lookup x=some .cell\/(relabel scope X.env).names.lookup x=some .free:=hx
   have:∃k,
    (x,k)∈scope.names/\k=.free:=by
    have gen:∀(names:List (Str×NameKind)),(∀y∈names,y.2 ≠ .cell)->∀kk,(kk=NameKind.cell\/kk=NameKind.free)->(names.map λ(n,k)=>if (k==NameKind.free&&X.env.scope.kind == .function&&X.env.kindOf n==some .cell) then (n,NameKind.cell) else (n,k)).lookup x=some kk->∃k,(x,k)∈names/\k=.free:=by
     intro names;induction names with
     |nil=>intro _ kk _ e;simp at e
     |
      cons y r ih=>
      intro hn kk hkk e;obtain⟨n,k⟩:=y;rw[v_,Og] at e;by_cases hkf:k=.free
      .subst hkf;by_cases hxn:x=n
       .exact⟨.free,by rw[hxn];exact t_,rfl⟩
       .have hb:(x==(if (NameKind.free==NameKind.free&&X.env.scope.kind == .function&&X.env.kindOf n==some .cell)=true then (n,NameKind.cell) else (n,NameKind.free)).1)=false:=by split <;> exact M_.mpr hxn
        rw[hb] at e;obtain⟨k',m,q⟩:=ih (λz hz=>hn z (r_ _ hz)) kk hkk e;exact⟨k',r_ _ m,q⟩
      .have hb0:(k==NameKind.free&&X.env.scope.kind == .function&&X.env.kindOf n==some .cell)=false:=by
        have:(k==NameKind.free)=false:=by simpa using hkf
        rw[this];rfl
       rw[hb0] at e;simp only[OP,Pd] at e;cases q:x==n with
       |
        true=>
        rw[q] at e;have e':k=kk:=K_ e;subst e';rcases hkk with z |z
        .exact absurd z (hn (n,k) t_)
        .exact absurd z hkf
       |false=>rw[q] at e;obtain⟨k',m,q⟩:=ih (λz hz=>hn z (r_ _ hz)) kk hkk e;exact⟨k',r_ _ m,q⟩
    rcases hx' with z |z
    .exact gen scope.names hnc _ (.inl rfl) z
    .exact gen scope.names hnc _ (.inr rfl) z
   obtain⟨k,m,q⟩:=this;exact hclf (x,k) m q
  .show b≠G2.objs.size;exact (below b (fpOld b hb)).1
  .exact (f2 b hb).2.2.2.2.1 x c (hcl x c e) z
  .rcases (f2 b hb).2.2.2.1 with z |z
   .exact I2.ok.noex b o e z
   .exact absurd (I_ (A_ e) (Nl I2.ok.bsz z)) (NT _)
  .have hf':b∈frs X.stack:=hf;rcases G_.mp (I2.stkSub b hf') with z |z
   .exact (f2 b hb).2.1 z
   .exact (f2 b hb).2.2.1 z
 have startLoc
  : ∃m,h₁.Ns G2.objs.size m/\∀(i:Nat) (x:Str) (v:V),N[i]?=some x->(eQ sub σ)[i]?=some (some v)->Vis (relabel scope X.env) x->∃u,RelV v u/\Look Y.env h₁ m x u:=by
  refine⟨_,hns₁,λj x v e1 e2 e3=>?_⟩;unfold eQ at e2;rw[Nf] at e2;cases q:sub[j]? with
  |none=>rw[q] at e2;cases e2
  |
   some o=>
   rw[q] at e2;cases o with
   |none=>cases e2
   |
    some i=>
    obtain⟨hNi,hfree⟩:=hsub j i x q e1;have e2':(σ[i]?).bind id=some v:=K_ e2;have e2'':σ[i]?=some (some v):=by
     cases z:σ[i]? with
     |none=>rw[z] at e2';cases e2'
     |some y=>rw[z] at e2';rw[show y=some v from e2']
    obtain⟨m2,hn2,hl2⟩:=I2.loc;have hkx:=hfr (x,.free) (Oe hfree) rfl;obtain⟨u,r,l⟩:=hl2 i x v hNi e2'' (by rcases hkx with z |z;exact .inr (.inl z);exact .inr (.inr z));refine⟨u,r,.inr ⟨?_,?_⟩⟩
    .rcases e3
      with z |z |z
     .exfalso;have gen:∀(names:List (Str×NameKind)),names.lookup x=some .free->(names.map λ(n,k)=>if (k==NameKind.free&&X.env.scope.kind == .function&&X.env.kindOf n==some .cell) then (n,NameKind.cell) else (n,k)).lookup x=some .local->False:=by
       intro names;induction names with
       |nil=>intro e _;simp at e
       |
        cons y r ih=>
        intro e1 e2;obtain⟨n,k⟩:=y;rw[Og] at e1;rw[v_,Og] at e2;by_cases hxn:x=n
        .have hb1:(x==n)=true:=Nr.mpr hxn;rw[hb1] at e1;have:k=.free:=K_ e1;subst this;split at e2
         .rename_i hq;split at e2 <;> cases e2
         .rename_i hq;split at hq <;> (rw[hb1] at hq;cases hq)
        .have hb1:(x==n)=false:=M_.mpr hxn;rw[hb1] at e1;refine ih e1 ?_;split at e2
         .rename_i hq;split at hq <;> (rw[hb1] at hq;cases hq)
         .exact e2
      exact gen scope.names hfree z
     .exact .inl z
     .exact .inr z
    .obtain⟨c,hc'⟩:=hclf (x,.free) (Oe hfree) rfl;refine⟨c,hc',?_⟩;rcases l with ⟨k,_⟩ |⟨_,c2,ec2,z⟩
     .rcases hkx with z |z <;> (rw[k] at z;cases z)
     .have:=hcl x c hc'
      rw[ec2] at this;cases this;obtain⟨oc,hoc,hd⟩:=z;exact⟨oc,old _ _ hoc,hd⟩
 have pinD:∀{σ':St}{H':Hp}{s':Shared}{pl:Qc}{o:Obj},Inv Y pl σ' H' s'->s'.heap.get? s2.heap.objs.size=some o->(∀v,o.data ≠ .cell v)->H' s2.heap.objs.size=none->Inv Y [(s2.heap.objs.size,o)] σ' H' s':=λ{σ' H' s' pl o} IY e d n=>
  IY.pins_of λp hp=>by
   have e':p=(s2.heap.objs.size,o):=by simpa using hp
   subst e';refine⟨e,n,?_,?_,d⟩
   .show s2.heap.objs.size≠G2.objs.size;omega
   .intro hf;have hf':s2.heap.objs.size∈frs X.stack:=hf;obtain⟨_,o',ho',_⟩:=I2.stack.mem hf';exact absurd (A_ ho') (NT _)
 have fpY:∀{H':Hp}{pl:Qc},(∀b∈fp,H' b=none)->(∀p∈pl,p.1∉fp)->∀b∈fp,FpOk Y pl H' b:=λ{H' pl} hn hp b hb=>by
  refine⟨hn b hb,?_,?_,.inl hb,λx c e=>?_,λp hp'=>?_⟩
  .exact (okY.exf b hb).1
  .exact okY.exfs b hb
  .exact (okY.exf b hb).2 x c e
  .intro z;have hp'':p∈pl:=by simpa [Y,bT] using hp'
   exact hp p hp'' (by rw[z];exact hb)
 have hDfp:s2.heap.objs.size∉fp:=λz=>NT _ (fpOld _ z);have loop
  : ∀s₃:Shared,s₃={ s2 with heap:=h₁,toks:=s2.toks+([]:List (Str×Value)).length }->
  codeAny (model X.prog X.w) X.A (.compLoop (.ListComp elt [⟨tg,iter,ifs,0⟩] scope pos) 0 (.ref it) (.ref s2.heap.objs.size) (compEnvC scope cl G2.objs.size X.env))
   (compPost (model X.prog X.w) X.A X.xe use R (.ref s2.heap.objs.size) G2.objs.size) s₃:=by
  rintro s₃ rfl;have IY0:Inv Y [(s2.heap.objs.size,{ cls:=.type "list",dict:=none,data:=.seq ([]:List Value).toArray })] (eQ sub σ) H2 { s2 with heap:=h₁,toks:=s2.toks+([]:List (Str×Value)).length }:=by
   have J0:Inv Y [] (eQ sub σ) H2 { s2 with heap:=h₁,toks:=s2.toks+([]:List (Str×Value)).length }:=by
    refine⟨okY,rfl,I2.bare,Un.kept old,startLoc,λx c e=>?_,I2.hok.fresh (by show s2.heap.objs.size<=G2.objs.size;omega),λx c e=>I2.freeC x c (hcl x c e),λp hp=>absurd (show p∈([]:Qc) from hp) (by simp),I2.hok.kept old,?_⟩
    .obtain⟨v,oc,hoc,hd⟩:=I2.cell x c (hcl x c e);exact⟨v,oc,old _ _ hoc,hd⟩
    .show (eQ sub σ).length=N.length;unfold eQ;rw[p_];exact hsl
   exact pinD J0 hD₁ (λv z=>by cases z) I2.fresh
  refine rf (λn s'=>∃(i:Nat) (ys:List V) (its:List Value) (k:Nat) (σ':St) (H':Hp),Inv Y [(s2.heap.objs.size,{ cls:=.type "list",dict:=none,data:=.seq its.toArray k })] σ' H' s'/\Vals ys its/\tn i s'.heap/\(∀b∈fp,H' b=none)/\W i n ys σ' H') ?_ m0
   ⟨0,[],[],0,eQ sub σ,H2,IY0,.nil,T.keep _ _ _ st2 (λb hb o e=>old b o e),λb hb=>(f2 b hb).1,w0⟩
  rintro n s3 ⟨i,ys,its,k,σ3,H3,I3,rv,st3,fr3,w3⟩;have npl:∀(o:Obj),∀p∈[(s2.heap.objs.size,o)],p.1∉fp:=λo p hp=>by
   have e':p=(s2.heap.objs.size,o):=by simpa using hp
   subst e';exact hDfp
  rcases turn i n ys σ3 H3 w3 with ⟨stop,hz,qn⟩ |⟨go,hz,Nx,hNx,step⟩
  .refine Nu (T.done Y rfl rfl rfl hc i _ s3 σ3 H3 (λ_ _=>False) I3 (fpY fr3 (npl _)) st3 stop) (λr s4 ⟨hr,I4⟩=>?_) λ_ _ z=>z;subst hr;obtain⟨m4,hn4,_⟩:=I4.loc;have hCfree:H3 G2.objs.size=none:=I4.free;have hD4:=I4.pin (s2.heap.objs.size,{ cls:=.type "list",dict:=none,data:=.seq its.toArray k }) (Nn _ t_);have un4:Un (frs X.stack) fp H2 H3 s2.heap s4.heap:=I4.base;have ne2:∀b o,s2.heap.get? b=some o->b≠G2.objs.size:=λb o e=>(below b (A_ e)).1;have hDfree:H3 s2.heap.objs.size=none:=hD4.2.1;have sz0:X.s₀.heap.objs.size<=s2.heap.objs.size:=I2.sz;refine f_ s2.heap.objs.size G2.objs.size s4 ⟨⟨m4,hn4⟩,by rw[hC];exact Nat.lt_succ_self _,I2.lt,λx c e=>?_,λp hp=>A_ (I2.pin p hp).1,sz0,upd H3 s2.heap.objs.size (.lst ys),by rw[aA (Ne.symm hDC)];exact hCfree,qn _ hDfree,λh' hs'=>?_⟩
   .obtain⟨v,q⟩:=I2.cell x c e;exact q.lt
   have up:∀b o,b≠G2.objs.size->s4.heap.get? b=some o->h'.get? b=some o:=λb o hb e=>hs'.extBut b o hb e;have un5:Un (frs X.stack) fp H2 H3 s2.heap h':=by
    refine⟨λb o e n hb hx=>up b o (ne2 b o e) (un4.keep b o e n hb hx),λb o e n hb hx=>?_,un4.free,λb o e hx=>?_,un4.tups,un4.frzs,un4.tbls⟩
    .obtain⟨sl,q⟩:=un4.slot b o e n hb hx;exact⟨sl,up b _ (ne2 b o e) q⟩
    .obtain⟨o',q⟩:=un4.there b o e hx;exact⟨o',up b _ (ne2 b o e) q⟩
   have hok5:HOk X.prog X.w H3 h':=λb u e=>(I4.hok b u e).stay (λc v hcc q=>up c v (λz=>by
    rcases hcc with zz |zz
    .rw[zz] at z;rw[z,hCfree] at e;cases e
    .rw[z,hCfree] at zz;cases zz) q) (λ_ q=>q) λ_ _ q=>q
   have I5:Inv X pins σ H3 { s4 with heap:=h' }:=I2.call' (s':={ s4 with heap:=h' }) (ch:=fp) I4.os un5 hok5 I4.bare λb hb=>by obtain⟨_,g1,_,g3,g4,g5⟩:=f2 b hb;exact⟨g3,g1,g4,g5⟩
   refine I5.track (o:=.lst ys) hDfree (Pz sz0) (O0 I2.lt) (λx c e z=>?_) (λp hp z=>?_) ?_
   .obtain⟨v,q⟩:=I2.cell x c e;exact absurd q.lt (by rw[z];exact NT _)
   .exact absurd (A_ (I2.pin p hp).1) (by rw[z];exact NT _)
   .exact⟨hz,its,k,rv,up _ _ hDC hD4.1⟩
  .refine Nu (T.item Y rfl rfl rfl hc i _ s3 σ3 H3 (λ_ _=>False) I3 (fpY fr3 (npl _)) st3 go) (λr s4 ⟨u,hr,h4⟩=>?_) λ_ _ z=>z;subst hr;refine Nu h4 (λ_ s5 ⟨x,H5,I5,r5,y5,st5,fr5⟩=>?_) λ_ _ z=>z;have I5':=I5.pinned (fpY fr5 (npl _)) (T.obj _ _ st5);refine Nu (hg cl G2.objs.size s2 H2 fp _ s5 σ3 H5 x u _ I5' r5 (step x H5 y5)) (λ_ s6 ⟨σ6,H6,I6,q6⟩=>?_) λ_ _ z=>z;refine Nu (ht cl G2.objs.size s2 H2 fp _ s6 σ6 H6 _ I6 q6) (λok s7 ⟨H7,I7,q7⟩=>?_) λ_ _ z=>z;have back:∀{σ':St}{H':Hp}{s':Shared},Inv Y ([(s2.heap.objs.size,{ cls:=.type "list",dict:=none,data:=.seq its.toArray k })]++jN fp s5.heap) σ' H' s'->tn (i+1) s'.heap/\∀b∈fp,H' b=none:=λ{σ' H' s'} IB=>by refine⟨T.keep _ _ _ st5 λb hb o e=>(IB.pin (b,o) (Nn _ (Nn _ (gq hb e)))).1,λb hb=>?_⟩;obtain⟨o,e,d⟩:=T.obj _ _ st5 b hb;exact (IB.pin (b,o) (Nn _ (Nn _ (gq hb e)))).2.1
   cases ok with
   |false=>rw[if_neg x_] at q7;obtain⟨m',hm,w7⟩:=hNx _ _ _ q7;rw[if_neg x_];obtain⟨t7,f7⟩:=back I7;exact⟨m',hm,i+1,ys,its,k,σ6,H7,I7.unpinned,rv,t7,f7,w7⟩
   |
    true=>
    rw[if_pos rfl] at q7;rw[if_pos rfl];refine Nu (he cl G2.objs.size s2 H2 fp _ s7 σ6 H7 _ I7 q7) (λy s8 zz=>exA zz λyv H8 I8 r8 q8=>?_) λ_ _ z=>z;obtain⟨m',hm,w8⟩:=hNx _ _ _ q8;obtain⟨t8,f8⟩:=back I8;have I9:=I8.unpinned;have hD9:=I9.pin (s2.heap.objs.size,{ cls:=.type "list",dict:=none,data:=.seq its.toArray k }) (Nn _ t_);have e9:s8.heap.get? s2.heap.objs.size=some { cls:=.type "list",dict:=none,data:=.seq its.toArray k }:=hD9.1;have a_:=rv.length;refine Pe F.slot_list_append ⟨_,e9,rfl⟩ F.entry_list_append (F.args_list_append_2 _ _) (PySem.list_append _ its.toArray k y (by rw[z_];omega)) ⟨e9,?_⟩;have q9:=PySem.IsL.update e9 (λxs=>xs.push y);have ea:its.toArray.push y=(its++[y]).toArray:=by simp
    rw[ea] at q9;have k9:∀b o,b≠s2.heap.objs.size->s8.heap.get? b=some o->(s8.heap.update s2.heap.objs.size (Obj.mapSeq λxs=>xs.push y)).get? b=some o:=λb o hb e=>(Heap.get?_update_other _ _ (Ne.symm hb)).trans e;have I10:Inv Y [] σ6 H8 { s8 with heap:=s8.heap.update s2.heap.objs.size (Obj.mapSeq λxs=>xs.push y) }:=
     (I9.pins_of (pins':=[]) (λp hp=>nomatch hp)).turned (t':=s8.toks) k9 hD9.2.1 hD9.2.2.1 (.inr (s_ _)) (λx c e z=>absurd (cellOld x c e) (by rw[z];exact NT _))
      (λp hp=>absurd (show p∈([]:Qc) from hp) (by simp))
    refine⟨m',hm,i+1,ys++[yv],its++[y],_,σ6,H8,pinD I10 q9 (λv z=>by cases z) hD9.2.1,rv.append (.cons r8 .nil),?_,f8,w8⟩;exact T.keep _ _ _ t8 λb hb o e=>k9 b o (λz=>hDfp (by rw[<- z];exact hb)) e
 exact codeAny_compStart_list (loop _ rfl) (T.self _ 0 _ _ _ (T.keep _ _ _ st2 λb hb o e=>old b o e) (loop _ rfl))
def Jk{elt iter tg:Expr}{ifs:List Expr}{scope:Scope}{pos:Pos}{wi:TI}{g:TG}{tc:TT}{te:TE}{N:List Str}{sub:Qe}
 (hc:X.calm=true) (hi:PI X tg iter wi)
 (hk:scope.kind=.function) (hnc:∀x∈scope.names,x.2 ≠ .cell) (h_:∀x∈scope.names,x.2=.local->scope.names.lookup x.1=some .local)
 (hfr:∀x∈scope.names,x.2=.free->X.env.kindOf x.1=some .cell\/X.env.kindOf x.1=some .free)
 (hsl:sub.length=N.length) (hsub:∀(j i:Nat) (x:Str),sub[j]?=some (some i)->N[j]?=some x->X.N[i]?=some x/\scope.names.lookup x=some .free)
 (hg:∀cl C s₂ H fp,PG (bT X N scope cl C s₂ H fp) tg g) (ht:∀cl C s₂ H fp,PTs (bT X N scope cl C s₂ H fp) ifs tc) (he:∀cl C s₂ H fp,PE (bT X N scope cl C s₂ H fp) elt te)
 (hs:∀x,foldedSetIterable iter X.env x=pure x):
 PE X (.ListComp elt [⟨tg,iter,ifs,0⟩] scope pos) (qJ wi sub g tc te):=by
 intro pins s σ H Q I h;rw[eval_ListComp];refine vK hc hi hk hnc h_ hfr hsl hsub hg ht he hs I h λD C s4 e=>?_;obtain⟨m,hm⟩:=e.ns;obtain⟨H',_,q,i⟩:=e.inv;exact⟨m,hm,λh' hs'=>⟨.ref D,H',i h' hs',rfl,q⟩⟩
noncomputable def qr (M:List Str) (names:List (Str×NameKind)) (sub:Qe) (N:List Str):Bool:=(sub.zip N).all λp=>match p.1 with
 |none=>true
 |some i=>M[i]?==some p.2&&names.lookup p.2==some .free
def uo{M:List Str}{names:List (Str×NameKind)}{sub:Qe}{N:List Str}(h:qr M names sub N=true)(j i:Nat)(x:Str)(h1:sub[j]?=some (some i))(h2:N[j]?=some x):
 M[i]?=some x/\names.lookup x=some .free:=by
 unfold qr at h;rw[Ni] at h;have hm:(some i,x)∈sub.zip N:=by refine O1 (i:=j) ?_;rw[List.getElem?_zip_eq_some];exact⟨h1,h2⟩
 have q:=h _ hm;simp only[u_,Nr] at q;exact q
noncomputable def yw (kn names:List (Str×NameKind)):Bool:=names.all λx=>x.2 != .free || kn.lookup x.1==some .cell || kn.lookup x.1==some .free
def vg{kn names:List (Str×NameKind)}(h:yw kn names=true):∀x∈names,x.2=.free->kn.lookup x.1=some .cell\/kn.lookup x.1=some .free:=λx hx hf=>by unfold yw at h;rw[Ni] at h;have q:=h x hx;rw[hf] at q;simpa using q
end
open PySem PySem.Spec PyProof.Rows PySem.W PySem.Builtin PySem.Builtin.ObjectAttr PySem.Builtin.Getset_descriptor
structure XCls(K:W.Frag)(C:Addr):Prop where
 cls:(clsIn K C).isSome=true
 ga:findIn K (.ref C) "__getattribute__"=some (some (.builtin "BaseException.__getattribute__"))
 gt:findIn K (.ref C) "__getattr__"=some none
 at_:findIn K (.ref C) "__class__"=some (some (.builtin "object.__class__"))
 gs:specialIn K (.builtin "object.__class__") "__get__"=some (some (.builtin "getset_descriptor.__get__"))
 tk:takesIn K (.builtin "object.__class__")=some true
 mo:mroIn K C (.type "object")=some true
 mb:mroIn K C (.type "BaseException")=some true
section
variable{prog:Program}{w:World}{A:Around}{E:Qd}{K:W.Frag}{x C:Addr}{o:Obj}
def jo(hx:h.get? x=some o)(hc:o.cls=.ref C):Looks M h (typeOf (.ref x)) (.ref C):=hc ▸ (Looks.ld hx).andThen .now
def BF(X:K.In h)(T:XCls K C):Looks M h (find (.ref x) (.ref C) "__class__") (.bind (.builtin "getset_descriptor.__get__") (.builtin "object.__class__")):=by have L1:=looks_findIn (M:=M) X T.at_;have L2:Looks M h (getOf (some (.builtin "object.__class__"))) (some (.builtin "getset_descriptor.__get__")):=looks_specialIn X T.gs;have L3:=looks_takesIn (M:=M) X T.tk;refine L1.andThen (L2.andThen ?_);exact (show Looks M h (dataDescriptor? (some (.builtin "object.__class__")) (some (.builtin "getset_descriptor.__get__"))) (some (.builtin "getset_descriptor.__get__",.builtin "object.__class__")) from L3.andThen .now).andThen (Looks.tag .now)
def pQ(X:K.In s.heap)(hx:s.heap.get? x=some o)(hc:o.cls=.ref C)(T:XCls K C)
 (h:R (.ok (.ret (.ref C))) s):codeAny (model prog w) A (.call (.builtin "getset_descriptor.__get__") ⟨[.builtin "object.__class__",.ref x,tp],[]⟩) R s:=by
 obtain⟨hh,g,dr,t,os⟩:=s;have L0:=jo (M:=model prog w) hx hc;have L1:=looks_mroIn (M:=model prog w) X T.mo;refine codeAny_call_builtin KF.slot_gs.plain KF.entry_gs (KF.slot_gs.check _ _ _ _ _ _ _ _ KF.type_class (KF.args_gs _ _ _) ?_);unfold Builtin.«getset_descriptor.__get__» descrGet;rw[dga_obj];refine o_ (B_ ?_);unfold descrGetter descrCheckInstance descrNameAndClass isInstance;simp only[KF.owner_class];repeat lk
 refine⟨Code.quiet_builtin _ (by decide),PM KF.entry_class ?_⟩;unfold Builtin.«object.__class__» shownTypeOf;repeat lk
 exact h
def za(X:K.In s.heap)(hx:s.heap.get? x=some o)(hc:o.cls=.ref C)(T:XCls K C)(hq:Q () s):
 wpAny M A (checkBuiltinCall "BaseException.__getattribute__" ⟨[.ref x,nameV],[]⟩) Q E s:=by
 obtain⟨h,g,dr,t,os⟩:=s;have hk:builtinKind "BaseException.__getattribute__"=some .slot:=by decide
 have hsplit:splitId "BaseException.__getattribute__"=some ("BaseException", "__getattribute__"):=by decide
 have ha:=PySem.F.args_bexc_ga (.ref x) nameV;have L0:=jo (M:=M) hx hc;have LM:=looks_mroIn (M:=M) X T.mb;have LI:Looks M h (isInstance (.ref x) (.type "BaseException")) true:=L0.andThen LM;simp only[checkBuiltinCall,hk,hsplit];refine o_ ?_;refine LI.at ?_;repeat (first |wp_step)
 all_goals exact hq
def Ik(X:K.In s.heap)(hx:s.heap.get? x=some o)(hc:o.cls=.ref C)(T:XCls K C)(h:Q (some (.ref C)) { s with toks:=s.toks+1 }):
 wpAny (model prog w) A (getAttr? (.ref x) "__class__") Q E s:=by
 obtain⟨hh,g,d,t,os⟩:=s;have L0:=jo (M:=model prog w) hx hc;have L1:=looks_findIn (M:=model prog w) X T.ga;have L2:=looks_findIn (M:=model prog w) X T.gt;have LF:=BF (M:=model prog w) (x:=x) X T;have f3:=PySem.F.excAttr_ValueError.ga.bind (.ref x);have hx2:(Value.builtin "BaseException.__getattribute__" == Value.builtin "object.__getattribute__")=false:=by decide
 unfold getAttr? getAttrBy? getAttrBy;refine o_ (wpAny_mkText (o_ (Pn (Of (o_ (L0.at (o_ (L1.at ?_))))))));dsimp only;rw[if_neg (by rw[hx2];simp)];unfold getAttrByItsOwn hookBefore;rw[if_pos (show onTheHeap (Value.ref C)=true from rfl)];refine o_ (L2.at ?_);unfold callGetattribute;refine o_ (Pn (Of ?_));rw[if_neg (by simp)];unfold boundAndCalled;refine o_ (wpAny_of_eq f3 ?_);refine wpAny_call (codeAny_call_builtin PySem.F.excAttr_ValueError.ga.plain PySem.F.entry_bexc_ga (za X hx hc T ?_));unfold Builtin.«object.__getattribute__»;repeat (first |(refine o_ (L0.at ?_)) |(refine o_ (LF.at ?_)) |wp_step)
 refine pQ (s:=⟨hh,g,d,t+1,os⟩) X hx hc T ?_;repeat (first |exact h |wp_step)
def xt(x:Addr)(C:Addr)(h:Heap):Prop:=∃o vs,h.get? x=some o/\o.cls=.ref C/\o.data=.fields vs
def Bc(T:XCls K C):KitX K (.ref x) (.ref C) (xt x C) where
 ty:=λM h _ ⟨o,_,hx,hc,_⟩=>jo hx hc
 it:=λM h X _=>by
  obtain⟨cd,n_⟩:=Ot.mp T.cls;unfold clsIn at n_;split at n_
  .rename_i c' d' cd' sl' ho;intro A' Q' E' s' k q;unfold isType loadHead;exact o_ (wpAny_loadPart (k _ _ (X _ _ ho)) (B_ q))
  .cases n_
 ne:=λh tp dd its n sl X htp=>by
  obtain⟨cd,n_⟩:=Ot.mp T.cls;refine Bool.eq_false_iff.mpr λq=>?_;have e:C=tp:=Value.ref.inj (Nr.mp q);subst e;unfold clsIn at n_;split at n_
  .rename_i c' d' cd' sl' ho;have z:=(X _ _ ho).symm.trans htp;cases z
  .cases n_
 ca:=λX ⟨o,_,hx,hc,_⟩ k=>Ik X hx hc T k
end
inductive TyX(K:W.Frag)(H:Hp):V->Value->Prop where
 |of {x:V}{t:Value} (h:TyOf K H x t):TyX K H x t
 |exc {a C:Addr} (e:H a=some (.ext (xt a C))) (T:XCls K C):TyX K H (.ref a) (.ref C)
 |sqT {a:Addr}{xs:List V} (h:SqT K H a xs):TyX K H (.ref a) (.type "tuple")
 |sqL {a:Addr}{xs:List V} (h:SqL K H a xs):TyX K H (.ref a) (.type "list")
section
variable{X:Cx}{pins:Qc}{σ:St}{H:Hp}{s:Shared}{c:Value}
def vY(I:Inv X pins σ H s)(rx:RelV x u)(ty:TyX X.K H x t):∃Hh:Heap->Prop,KitX X.K u t Hh/\Hh s.heap/\u ≠ .builtin "__main__.__loader__#opaque":=by
 cases ty with
 |exc ea T=>cases (show u=Value.ref _ from rx);exact⟨_,Bc T,(I.hok _ _ ea).1,λz=>nomatch z⟩
 |sqT h=>cases (show u=Value.ref _ from rx);obtain⟨its,rv,⟨o,e,c,_⟩,_⟩:=I.tuple h;exact⟨_,kitx_tuple,⟨o,e,c⟩,λz=>nomatch z⟩
 |sqL h=>cases (show u=Value.ref _ from rx);obtain⟨its,rv,⟨o,n,e,c,_⟩,_⟩:=I.list h;exact⟨_,kitx_list,⟨o,e,c⟩,λz=>nomatch z⟩
 |
  of ty=>
  cases ty with
  |non=>cases (show u=Value.none from rx);exact⟨_,kitx_none,True.intro,λz=>nomatch z⟩
  |bl y=>cases (show u=Value.bool y from rx);exact⟨_,kitx_bool,True.intro,λz=>nomatch z⟩
  |int i=>obtain⟨t,q⟩:=(show ∃t,u=Value.int i t from rx);cases q;exact⟨_,kitx_int,True.intro,λz=>nomatch z⟩
  |str y=>obtain⟨t,q⟩:=(show ∃t,u=Value.str y t from rx);cases q;exact⟨_,kitx_str,True.intro,λz=>nomatch z⟩
  |flt y=>obtain⟨t,q⟩:=(show ∃t,u=Value.float y t from rx);cases q;exact⟨_,kitx_float,True.intro,λz=>nomatch z⟩
  |@lst a xs ea=>cases (show u=Value.ref a from rx);obtain⟨_,_,n,_,h1⟩:=(show ObjOk X.prog X.w H s.heap a (.lst xs) from I.hok a _ ea);exact⟨_,kitx_list,⟨_,h1,rfl⟩,λz=>nomatch z⟩
  |@frz a ob xs ea=>cases (show u=Value.ref a from rx);obtain⟨_,_,_,n,_,h1⟩:=(show ObjOk X.prog X.w H s.heap a (.frz ob (.lst xs)) from I.hok a _ ea);exact⟨_,kitx_list,⟨_,h1,rfl⟩,λz=>nomatch z⟩
  |@tup a xs ea=>cases (show u=Value.ref a from rx);obtain⟨_,_,_,p⟩:=(show ObjOk X.prog X.w H s.heap a (.tup xs) from I.hok a _ ea);obtain⟨o,h1,h2,_⟩:=p;exact⟨_,kitx_tuple,⟨o,h1,h2⟩,λz=>nomatch z⟩
  |@dK a kvs ea=>cases (show u=Value.ref a from rx);obtain⟨_,_,vs,_,p⟩:=(show ObjOk X.prog X.w H s.heap a (.dK kvs) from I.hok a _ ea);obtain⟨o,es,ep,h1,h2,_⟩:=p;exact⟨_,kitx_dict,⟨o,h1,h2.1⟩,λz=>nomatch z⟩
  |@dT a kvs ea=>cases (show u=Value.ref a from rx);obtain⟨_,_,xs,_,o,es,ep,h1,h2,_⟩:=(show ObjOk X.prog X.w H s.heap a (.dT kvs) from I.hok a _ ea);exact⟨_,kitx_dict,⟨o,h1,h2.1⟩,λz=>nomatch z⟩
  |@ins a C dx fs ea cl ha hn htk hm=>cases (show u=Value.ref a from rx);obtain⟨mA,O,_⟩:=EO I.hok ea;obtain⟨od,J,_⟩:=O.look;exact⟨_,kitx_own (cl.get _) cl.hd ha hn htk hm,J,λz=>nomatch z⟩
end
section
variable{X:Cx}
noncomputable def fS:V->Option Value
 |.ref C=>some (.ref C)
 |.ty T=>some (.type T)
 |_=>none
def rZ(h:fS c=some v)(r:RelV c u):u=v:=by
 cases c with
 |ref C=>cases r;exact K_ h
 |ty T=>cases r;exact K_ h
 |_=>cases h
theorem pj:∀{cs:List V}{us vs:List Value},cs.mapM fS=some vs->Vals cs us->us=vs
 |
  [],_,vs,h,.nil=>by
  have h':some ([]:List Value)=some vs:=h;exact K_ h'
 |
  c::cs,_,vs,h,.cons r rr=>by
  rw[List.mapM_cons] at h;cases q:fS c with
  |none=>rw[q] at h;cases h
  |
   some v=>
   rw[q] at h;cases q2:cs.mapM fS with
   |none=>rw[q2] at h;cases h
   |some vs'=>rw[q2] at h;have h':some (v::vs')=some vs:=h;cases h';rw[rZ q r,pj q2 rr]
def Dn:CallR X (.builtin "isinstance") (λxs H Q=>∃x c t v b,xs=[x,c]/\TyX X.K H x t/\fS c=some v/\kitOne X.K t v=some b/\Q (.bl b) H):=by intro pins s σ H xs us Q I r h;obtain⟨x,c,t,v,b,rfl,ty,hc,hk,q⟩:=h;obtain⟨u,w',rfl,rx,rc⟩:=xu r;obtain rfl:=rZ hc rc;obtain⟨Hh,Z,p,hne⟩:=vY I rx ty;exact kia_one Z I.kIn p hk hne λtk=>⟨.bl b,H,I.tok _,rfl,q⟩
end
def ObjOk.there(x:ObjOk P w H h a o):∃u,h.get? a=some u:=by
 cases o with
 |lst xs=>obtain⟨_,_,_,_,e⟩:=x;exact⟨_,e⟩
 |tup xs=>obtain⟨_,_,_,ob,e,_⟩:=x;exact⟨_,e⟩
 |dK kvs=>obtain⟨_,_,_,_,o,_,_,e,_⟩:=x;exact⟨_,e⟩
 |dT kvs=>obtain⟨_,_,_,_,o,_,_,e,_⟩:=x;exact⟨_,e⟩
 |set S n=>obtain⟨o,_,_,_,e,_⟩:=x;exact⟨_,e⟩
 |ins C dx fs=>obtain⟨_,_,_,e,_⟩:=x;exact⟨_,e⟩
 |own y=>exact x
 |xd fs=>obtain⟨_,⟨_,_,_,e,_⟩,_⟩:=x;exact⟨_,e⟩
 |rng lo hi=>obtain⟨_,_,_,e⟩:=x;exact⟨_,e⟩
 |frz ob u=>obtain⟨e,_⟩:=x;exact⟨_,e⟩
 |tbl ps=>exact⟨_,show h.get? a=some _ from x⟩
 |met f y=>exact⟨_,show h.get? a=some _ from x⟩
 |ext φ=>obtain⟨_,e,_⟩:=x;exact e
structure Fly(P:Program)(w:World)(outer:List Env)(H:Hp)(h₀:Heap)(H':Hp)(ea:Addr)(cls:Value)(h:Heap)(B:Heap)(t:Addr):Prop where
 un:Un (frs outer) [] H H' h₀ h
 hok:HOk P w H' h
 fl:Heap.FlyingW B outer ea cls (.ref t) h
 old:∀b o,h₀.get? b=some o->b∉frs outer->∃o',B.get? b=some o'
 trk:∀b o,H' b=some o->∃o',B.get? b=some o'
def CX1(P:Program)(w:World):CXT:=λouter H s E e s'=>∃(ea t:Addr) (cls:Value) (H':Hp) (B:Heap),e=.ref ea/\s'.os=s.os/\AllBare s'.gens/\Fly P w outer H s.heap H' ea cls s'.heap B t/\E cls none H'
def sC(h:env.frame=some L):frs (env::outer)=L::frs outer:=by unfold frs;rw[Oz,h]
section
variable{P:Program}{w:World}{outer:List Env}{H H':Hp}{h₀ h h' B:Heap}{ea t:Addr}{cls:Value}
def Fly.step(F:Fly P w outer H h₀ H' ea cls h B t)(fl':Heap.FlyingW B outer' ea cls (.ref t) h')(up:h.UpToSlots h'):
 Un (frs outer) [] H H' h₀ h'/\HOk P w H' h':=by
 have st:=F.fl.1;have same:∀b o,(∃o',B.get? b=some o')->h.get? b=some o->h'.get? b=some o:=λb o ⟨o',e⟩ q=>by have z:=st b o' e;rw[q] at z;cases z;exact fl'.1 b _ e
 have frame:∀b o,b∈frs outer->h.get? b=some o->∃sl,h'.get? b=some { o with slots:=sl }:=λb o hb q=>by obtain⟨_,o',ho',hd⟩:=F.fl.2.2.1.mem hb;rw[q] at ho';cases ho';exact up b o q hd
 refine⟨⟨λb o e n hb hx=>same b o (F.old b o e hb) (F.un.keep b o e n hb hx),λb o e n hb hx=>?_,F.un.free,λb o e hx=>?_,F.un.tups,F.un.frzs,F.un.tbls⟩,λa o e=>?_⟩
 .obtain⟨sl,q⟩:=F.un.slot b o e n hb hx;obtain⟨sl',q'⟩:=frame b _ hb q;exact⟨sl',q'⟩
 .obtain⟨o',q⟩:=F.un.there b o e hx;by_cases hb:b∈frs outer
  .obtain⟨sl,q'⟩:=frame b _ hb q;exact⟨_,q'⟩
  .exact⟨o',same b o' (F.old b o e hb) q⟩
 .refine (F.hok a o e).stay (λb u hb q=>same b u ?_ q) (λ_ q=>q) λ_ _ q=>q;rcases hb with z |z
  .rw[z];exact F.trk a o e
  .exact F.trk b _ z
end
structure Cx.Top(X:Cx):Prop where
 ex:X.ex=[]
 stk:X.stack=X.env::X.outer
 fr:X.env.frame=some X.env.locals
section
variable{X:Cx}{pins:Qc}{σ:St}{H:Hp}{s s':Shared}{E:XK}{e:Value}
def yJ(T:X.Top)(hA:A.frames=some X.stack)(I:Inv X pins σ H s)(h:CX1 X.prog X.w X.stack H s E e s'):
 wpAny (model X.prog X.w) A (leaving X.env e) (λ_ s''=>CX1 X.prog X.w X.outer X.H₀ X.s₀ E e s'') E' s':=by
 obtain⟨ea,t,cls,H',B,rfl,os,bare,F,q⟩:=h;have F0:=F;rw[T.stk] at F;have hf:=sC (outer:=X.outer) T.fr;refine wpAny_leaves_onW (by rw[hA,T.stk]) T.fr F.fl λh'' fl'' up=>?_;obtain⟨un2,hok2⟩:=F.step fl'' up;have exn:∀b,b∉X.ex:=λb z=>by rw[T.ex] at z;cases z
 have neL:∀b o,X.s₀.heap.get? b=some o->b≠X.env.locals:=λb o e=>L_ (I_ (A_ e) I.ok.above);have notin:∀b o,X.s₀.heap.get? b=some o->b∉frs X.outer->b∉frs (X.env::X.outer):=λb o e hb z=>by
  rw[hf] at z;rcases G_.mp z with z |z
  .exact neL b o e z
  .exact hb z
 refine⟨ea,t,cls,H',B,rfl,os.trans I.os,bare,⟨⟨λb o e n hb hx=>?_,λb o e n hb hx=>?_,λb o e n hx=>?_,λb o e hx=>?_,λb xs e=>un2.tups b xs (I.base.tups b xs e),λb o xs e=>un2.frzs b o xs (I.base.frzs b o xs e),λb ps e=>?_⟩,hok2,fl'',λb o e hb=>?_,F.trk⟩,q⟩
 .exact un2.keep b o (I.base.keep b o e n hb (exn b)) (I.base.free b o e n (exn b)) (notin b o e hb) (by simp)
 .obtain⟨sl,e1⟩:=I.base.slot b o e n hb (exn b);obtain⟨sl',e2⟩:=un2.slot b _ e1 (I.base.free b o e n (exn b)) (by rw[hf];exact r_ _ hb) (by simp);exact⟨sl',e2⟩
 .obtain⟨o',e1⟩:=I.base.there b o e (exn b);exact un2.free b o' e1 (I.base.free b o e n (exn b)) (by simp)
 .obtain⟨o',e1⟩:=I.base.there b o e (exn b);exact un2.there b o' e1 (by simp)
 .obtain⟨m1,e1⟩:=I.base.tbls b ps e;obtain⟨m2,e2⟩:=un2.tbls b _ e1;exact⟨m1++m2,by rw[e2,Array.append_assoc]⟩
 .obtain⟨o',e1⟩:=I.base.there b o e (exn b);exact F.old b o' e1 (notin b o e hb)
def Cb(T:X.Top)(hA:A.frames=some X.stack)(I:Inv X pins σ H s)(hx:Heap.MadeExcOf s.heap h' ea cls args)(q:E cls none H):
 wpAny (model X.prog X.w) A (leaving X.env (.ref ea)) (λ_ s''=>CX1 X.prog X.w X.outer X.H₀ X.s₀ E (.ref ea) s'') E' { s with heap:=h' }:=by
 have hf:=sC (outer:=X.outer) T.fr;have stk:=I.stack;rw[T.stk] at stk;have hin:∀env∈(X.env::X.outer),∀b,env.frame=some b->b∈frs (X.env::X.outer):=λenv he b hb=>List.mem_filterMap.mpr ⟨env,he,hb⟩;refine wpAny_leaves_madeW (base:=W.hideAll s.heap (frs (X.env::X.outer))) (h:=s.heap) (by rw[hA,T.stk]) T.fr (λb o q=>W.of_hideAll _ q) (W.funFrames_hide stk hin) hx λh'' t fl tup tn up=>?_;have inB:∀b o,s.heap.get? b=some o->b∉frs (X.env::X.outer)->(W.hideAll s.heap (frs (X.env::X.outer))).get? b=some o:=λb o e hb=>W.hideAll_get _ e hb;have free:∀b∈frs (X.env::X.outer),H b=none:=λb hb=>I.stkFree b (by rw[T.stk];exact hb);have up2:s.heap.UpToSlots h'':=(Heap.UpToSlots.of_keeps hx.keeps).trans up;have exn:∀b,b∉X.ex:=λb z=>by rw[T.ex] at z;cases z
 have neL:∀b o,X.s₀.heap.get? b=some o->b≠X.env.locals:=λb o e=>L_ (I_ (A_ e) I.ok.above);have notin:∀b o,X.s₀.heap.get? b=some o->b∉frs X.outer->b∉frs (X.env::X.outer):=λb o e hb z=>by
  rw[hf] at z;rcases G_.mp z with z |z
  .exact neL b o e z
  .exact hb z
 have trk:∀b o,H b=some o->∃o',(W.hideAll s.heap (frs (X.env::X.outer))).get? b=some o':=λb o e=>by obtain⟨u,hu⟩:=(I.hok b o e).there;exact⟨u,inB b u hu λz=>by rw[free b z] at e;cases e⟩
 refine⟨ea,t,cls,H,_,rfl,I.os,I.bare,⟨⟨λb o e n hb hx=>?_,λb o e n hb hx=>?_,λb o e n hx=>?_,λb o e hx=>?_,I.base.tups,I.base.frzs,I.base.tbls⟩,λa o e=>?_,fl,λb o e hb=>?_,trk⟩,q⟩
 .exact fl.1 b o (inB b o (I.base.keep b o e n hb (exn b)) (notin b o e hb))
 .obtain⟨sl,e1⟩:=I.base.slot b o e n hb (exn b);obtain⟨_,o',ho',hd⟩:=I.ok.funs.mem hb;rw[e] at ho';cases ho';obtain⟨sl',e2⟩:=up2 b _ e1 hd;exact⟨sl',e2⟩
 .exact I.base.free b o e n (exn b)
 .obtain⟨o',e1⟩:=I.base.there b o e (exn b);by_cases hb:b∈frs X.outer
  .obtain⟨_,o2,ho2,hd⟩:=I.funs.mem hb;rw[e1] at ho2;cases ho2;obtain⟨sl',e2⟩:=up2 b _ e1 hd;exact⟨_,e2⟩
  .exact⟨o',fl.1 b o' (inB b o' e1 (notin b o e hb))⟩
 .refine (I.hok a o e).stay (λb u hb q=>?_) (λ_ q=>q) λ_ _ q=>q;refine fl.1 b u (inB b u q λz=>?_);rcases hb with y |y
  .rw[y] at z;rw[free a z] at e;cases e
  .rw[free b z] at y;cases y
 .obtain⟨o',e1⟩:=I.base.there b o e (exn b);exact⟨o',inB b o' e1 (notin b o e hb)⟩
end
section
variable{P:Program}{w:World}{K:W.Frag}{mg:Qb}{base:Heap}{N:List Str}{qual:Str}{scope:Scope}{f:Addr}{cd:Value}{A:Around}{outer:List Env}{s:Shared}{H:Hp}{E:XK}
def Dz:(eE (CX1 P w) P w K mg base N qual scope f cd A outer s H E).Top:=⟨rfl,rfl,rfl⟩
def DL:so (CX1 P w) (eE (CX1 P w) P w K mg base N qual scope f cd A outer s H E) E:=λpins σ H s e s' I h=>yJ Dz I.ok.frames I h
def KS:so (CX1 P w) X E0:=λpins σ H s e s' I ⟨_,_,_,_,_,_,_,_,_,q⟩=>q.elim
def own1:PassesOwn (model P w) (eE (CX1 P w) P w K mg base N qual scope f cd A outer s H E).A (eE (CX1 P w) P w K mg base N qual scope f cd A outer s H E).env (eE (CX1 P w) P w K mg base N qual scope f cd A outer s H E).xe:=PassesOwn.leaving
def Rz(X:Cx)(E:XK):Prop:=∀(pins:Qc) (σ:St) (H:Hp) (s:Shared) (h':Heap) (ea:Addr) (cls:Value) (args:List Value),Inv X pins σ H s->Heap.MadeExcOf s.heap h' ea cls args->E cls none H->X.xe (.ref ea) { s with heap:=h' }
def rz1:Rz (eE (CX1 P w) P w K mg base N qual scope f cd A outer s H E) E:=λpins σ H s h' ea cls args I hx q=>Cb Dz I.ok.frames I hx q
def Fun.okR{x qual:Str}{st:Stmt}{f:Addr}{fd:FuncData}{N ps:List Str}{k:Nat}{sp:Sp}(F:Fun K x qual st f fd)(S:FnScope N ps (ar st))(len:∀vs H Q E,sp vs H Q E->vs.length=ps.length)
 (j':∀(cdv:Value) (A:Around) (outer:List Env) (s:Shared) (H:Hp) (vs:List V) (Q:VK) (E:XK),Room k (A.deeper (envOfC qual (ar st) s.heap.objs.size f cdv))->sp vs H Q E->
  ∃t,PSs (eE (CX1 P w) P w K mg base N qual (ar st) f cdv A outer s H E) (bH st) t/\t { nx:=λ_ H'=>Q .non H',rt:=Q } (fZ N vs) H):FnOk P w K mg base (CX1 P w) (k+1) f fd ps sp:=by
 obtain⟨oc,od,kV,doc,pm,an,cdv,ct,osl,rfl,lk,n_⟩:=F.ex;exact D6 lk n_ S len λA outer s H vs Q E hr hsp=>j' cdv A outer s H vs Q E hr hsp
end
abbrev om:List Value:=[.type "ValueError",.type "Exception",.type "BaseException",.type "object"]
def zZ{K:W.Frag}{h:Heap}{C:Addr}(X:K.In h)(q:W.excIn K C om "ValueError.__new__"=true):
 ∃bm N nm q' bs hdct sn sub ab col dd k0 k1 k2 k3 k5 mN,h.get? C=some (excClassObj nm q' C N bs bm hdct sn sub ab col dd k0 k1 k2 k3 k5 "ValueError.__new__")/\h.Ns N mN/\mN "__init__"=none/\OwnTail h om bm:=by
 unfold W.excIn at q;split at q
 .rename_i dd cd sl ho;split at q
  .rename_i C' bm k0 k1 k2 k3 n k5 hm hs;simp only[u_,Nr,OV] at q;obtain⟨⟨⟨⟨⟨rfl,rfl⟩,hdel⟩,ht⟩,hok⟩,hni⟩:=q;obtain⟨nm,bs,mro,ns,qn,hd,sn,sub,ab,col,del⟩:=cd;dsimp only at hm hdel hok hni;subst hm hdel;have hsl:sl=#[k0,k1,k2,k3,some (.builtin "ValueError.__new__"),k5]:=by obtain⟨l⟩:=sl;simp only at hs;rw[hs]
   subst hsl;exact⟨bm,ns,nm,qn,bs,hd,sn,sub,ab,col,dd,k0,k1,k2,k3,k5,_,X _ _ ho,.of_isNs (W.isNs_of_in X hok),W.nsMap_none_of_in X hok hni,W.tail_of_in X ht⟩
  .cases q
 .cases q
section
variable{X:Cx}{x:Str}{C:Addr}{E:XK}{np cpos pos:Pos}{e₀:Expr}{es:List Expr}{ta:TA}
def G8(C:Addr)(E:XK)(ta:TA):TS:=λ_ σ H=>ta σ H λvs H1=>vs.length<=sizeLine/\E (.ref C) none H1
def C5(hc:X.calm=true)(hR:Rz X E)(hg:Gl X x)(hm:X.mg x=some (.ref C))(hq:W.excIn X.K C om "ValueError.__new__"=true)(ha:PA X (e₀::es) ta)
 (he:starEach (e₀::es) X.env=(false,eval e₀ X.env)::starEach es X.env) (d_:(backTo cpos (starEach es X.env)).any (·.1)=false) (hd:(x==("__debug__" : Str))=false):
 PS X (.Raise (some (.Call (.Name x np) (e₀::es) [] cpos)) none pos) (G8 C E ta):=by
 intro pins s σ H D I h;obtain⟨bm,N,nm,q',bs,hdct,sn,sub,ab,col,dd,k0,k1,k2,k3,k5,mN,hC,hN,hni,T⟩:=zZ I.ok.mod.kin hq;refine wpAny_Raise_call_subT (C:=C) (nm:=nm) (q:=q') (N:=N) (bs:=bs) (bm:=bm) (hdct:=hdct) (sn:=sn) (sub:=sub) (ab:=ab) (col:=col) (dd:=dd) (k0:=k0) (k1:=k1) (k2:=k2) (k3:=k3) (k5:=k5)
  PySem.F.excBase_ValueError (mN:=mN) (T.hasType PySem.F.excBase_ValueError.hasBase) (I.ok.hd hc) (by rw[he];show (false || (backTo cpos (starEach es X.env)).any (·.1))=false;rw[d_];rfl) hni (nT I hg hm ⟨rfl,?_⟩ hd)
 have hA:=ha cpos pins s σ H _ I h;rw[he] at hA ⊢;refine Px (thn hA λus s2 ⟨vs,H2,I2,r2,hz,q2⟩=>⟨rfl,by rw[<- r2.length];exact hz,I2.bk _ _ hC,hN.keeps I2.bk,T.keeps I2.bk,λh' e hm'=>?_⟩);exact hR pins σ H2 s2 h' e _ _ I2 hm' q2
end
abbrev XS:=St->XK
abbrev TEx:=St->Hp->VK->XK->Prop
abbrev TSx:=Ends->XS->St->Hp->Prop
def XP(X:Cx)(pins:Qc)(E:XS)(e:Value)(s':Shared):Prop:=∃σ1 H1 s1,Inv X pins σ1 H1 s1/\CX1 X.prog X.w X.stack H1 s1 (E σ1) e s'
structure XHand(K:W.Frag)(C:Addr):Prop where
 ty:W.typeIn K (.ref C)=some (.type "type")
 cls:(W.clsIn K C).isSome=true
 mb:W.mroIn K C (.type "BaseException")=some true
mutual
inductive Rep(K:W.Frag)(H:Hp):V->PyData->Prop where
 |non:Rep K H .non .none
 |bl (b:Bool):Rep K H (.bl b) (.bool b)
 |int (i:Int):Rep K H (.int i) (.int i)
 |str (x:Str):Rep K H (.str x) (.str x)
 |tup {a:Addr}{xs:List V}{ds:List PyData} (h:SqT K H a xs) (r:Reps K H xs ds):Rep K H (.ref a) (.tuple ds)
 |lst {a:Addr}{xs:List V}{ds:List PyData} (h:SqL K H a xs) (r:Reps K H xs ds):Rep K H (.ref a) (.list ds)
inductive Reps(K:W.Frag)(H:Hp):List V->List PyData->Prop where
 |nil:Reps K H [] []
 |cons {x:V}{d:PyData}{xs:List V}{ds:List PyData} (r:Rep K H x d) (rr:Reps K H xs ds):Reps K H (x::xs) (d::ds)
end
section
variable{X:Cx}{pins:Qc}{σ:St}{H:Hp}{s:Shared}{K:W.Frag}
def Rep.reads(I:Inv X pins σ H s)(r:Rep X.K H v d)(q:RelV v u):∃as,Reads s.heap u d as:=
 Rep.rec (motive_1:=λv d _=>∀u,RelV v u->∃as,Reads s.heap u d as) (motive_2:=λvs ds _=>∀us,Vals vs us->∃as,ReadsAll s.heap us ds as)
  (λu r=>by cases r;exact⟨_,.none⟩) (λb u r=>by cases r;exact⟨_,.bool b⟩) (λi u r=>by obtain⟨t,rfl⟩:=r;exact⟨_,.int i t⟩) (λx u r=>by obtain⟨t,rfl⟩:=r;exact⟨_,.str x t⟩)
  (λh _ ih u r=>by cases r;obtain⟨its,rv,⟨o,e,c,n,d⟩,_⟩:=I.tuple h;obtain⟨as,q⟩:=ih _ rv;exact⟨as,.tuple e c d (by simpa using q)⟩)
  (λh _ ih u r=>by cases r;obtain⟨its,rv,⟨o,n,e,c,_,d⟩,_⟩:=I.list h;obtain⟨as,q⟩:=ih _ rv;exact⟨_,.list e c d (by simpa using q)⟩)
  (λus r=>by cases r;exact⟨_,.nil⟩)
  (λ_ _ a b us q=>by
   cases q with
   |cons q1 q2=>obtain⟨as,h1⟩:=a _ q1;obtain⟨bs,h2⟩:=b _ q2;exact⟨_,.cons h1 h2⟩) r u q
end
section
variable{X:Cx}
noncomputable def shp (d:PyData):Bool:=d.canLay0&&decide (d.depth<=160)
def fM(h:shp d=true):d.canLay0=true:=(Bool.and_eq_true_iff.mp h).1
def lO{A:Around}{d e:PyData}(h:shp d=true)(hu:A.units+180<cLine):A.units+min d.depth e.depth<cLine:=by have h1:d.depth<=160:=Oa (Bool.and_eq_true_iff.mp h).2;have h2:min d.depth e.depth<=d.depth:=Nat.min_le_left _ _;omega
def C9(K:W.Frag):R2:=λx y H Q=>∃dx dy,Rep K H x dx/\Rep K H y dy/\shp dx=true/\shp dy=true/\Q (.bl (PyData.eqv dx dy)) H
def B8(K:W.Frag):R2:=λx y H Q=>∃dx dy,Rep K H x dx/\Rep K H y dy/\shp dx=true/\shp dy=true/\Q (.bl (!PyData.eqv dx dy)) H
def Hd(hu:X.A.units+180<cLine):OpR X (compareOp .Eq) (C9 X.K):=by intro pins s σ H x y v u Q I rx ry h;obtain⟨dx,dy,r1,r2,h1,h2,q⟩:=h;obtain⟨as,q1⟩:=r1.reads I rx;obtain⟨bs,q2⟩:=r2.reads I ry;exact SeqAt.compareEq_reads q1 q2 (fM h1) (fM h2) (lO h1 hu) (mG I q rfl)
def Jf(hu:X.A.units+180<cLine):OpR X (compareOp .NotEq) (B8 X.K):=by intro pins s σ H x y v u Q I rx ry h;obtain⟨dx,dy,r1,r2,h1,h2,q⟩:=h;obtain⟨as,q1⟩:=r1.reads I rx;obtain⟨bs,q2⟩:=r2.reads I ry;exact SeqAt.compareNe_reads q1 q2 (fM h1) (fM h2) (lO h1 hu) (mG I q rfl)
open PySem.Builtin.Int (intBits)
def CDivB(i j:Int):Prop:=j≠0/\intBits j<=8000
def DF(i j:Int):Prop:=intBits i<=100000/\intBits j<=100000
def A6:OpR X (binaryOp .FloorDiv) (rI CDivB λi j=>.int (i.fdiv j)):=opI λi j _ _ _ _ _ hc q=>floordiv_int hc.1 q (.inl (PyProof.noPylong_of_log2 (by
 have h:=hc.2;have h0:=hc.1;unfold intBits at h;have hb:(j==0)=false:=by simpa using h0
 rw[hb] at h;simp only[OP,Pd] at h;omega)))
def Gj:OpR X (binaryOp .Mult) (rI DF λi j=>.int (i*j)):=opI λi j _ _ _ _ _ hc q=>mul_int q (PySem.IntMulOk.of_le hc.1 hc.2 (by decide))
def zp(bs:List Bool):((List.range bs.length).all λi=>bs.getD i false)=bs.all id:=by
 rw[Pw,Ni,Ni];constructor
 .intro h x hx;obtain⟨i,hi,rfl⟩:=List.mem_iff_getElem.mp hx
  have:=h i (Nh.mpr hi)
  simpa [H_,hi] using this
 .intro h i hi;have hi':=Nh.mp hi
  have:=h bs[i] (NX hi')
  simpa [H_,hi'] using this
def CM(hc:X.calm=true):CallR X (.builtin "all") (λxs H Q=>∃(a:Addr) (bs:List Bool),xs=[.ref a]/\SqL X.K H a (bs.map V.bl)/\Q (.bl (bs.all id)) H):=by
 intro pins s σ H xs us Q I r h;obtain⟨a,bs,rfl,hq,q⟩:=h;obtain⟨u,rfl,ru⟩:=eR r;cases ru;obtain⟨its,rv,p,hz⟩:=I.list hq;have hl:=rv.length;rw[p_] at hl;have hlt:a<s.heap.objs.size:=by obtain⟨o,n,e,_⟩:=p;exact A_ e
 refine call_all_walk (wpAny_pyIter_list p.isList ?_);refine⟨s.heap.objs.size,_,_,_,_,_,λi=>bs.getD i false,rfl,Walks.list (A:=X.A.in1) (I.ok.hd hc) s.heap.objs.size a (L_ hlt) its.toArray,⟨⟨_,E_ _ rfl,rfl,rfl⟩,(p.keeps λb o e=>q_ _ e).isList⟩,λi v s' Q' E' hP hQ=>?_,λh' tk hk=>?_⟩
 .have hP':its[i]?=some v:=by simpa using hP
  have hi:i<bs.length:=by rw[hl];exact (D_.mp hP').1
  have hb:(bs.map V.bl)[i]?=some (V.bl bs[i]):=by simp [hi]
  obtain⟨u,hu,ru⟩:=rv.get hb;rw[hP'] at hu;cases hu;cases ru;refine Ov ?_;have e:bs.getD i false=bs[i]:=by simp [H_,hi]
  show Q' bs[i] s';rw[<- e];exact hQ
 .have e1:its.toArray.size=bs.length:=by rw[z_,hl]
  rw[e1,zp];have hn:H s.heap.objs.size=none:=I.fresh;have I1:Inv X pins σ H { s with heap:=s.heap.push { cls:=.type "list_iterator",dict:=none,data:=.fields #[.ref a,rawInt 0] } }:=I.kept (t':=s.toks) λb o e=>q_ _ e;refine⟨.bl _,H,?_,rfl,q⟩;refine I.kept (t':=tk) λb o e=>?_;have hne:b≠s.heap.objs.size:=L_ (A_ e);exact hk b o (by simpa using hne) (q_ _ e)
end
structure Def(K:W.Frag)(mg:Qb)(x:Str)(st:Stmt):Prop where
 ex:∃f fd,Fun K x x st f fd/\mg x=some (.ref f)
def zd{K:W.Frag}{h:Heap}{mg:Qb}{x:Str}{st:Stmt}{f:Addr}{oc:Value}{od an:Option Addr}{osl:Array (Option Value)}{kV doc pm cdv ct:Value}(X:K.In h)(G:h.Ns mainGlobals mg)
 (a:W.nsIn K mainGlobals x=some (some (.ref f))) (l:K.lookup f=some ⟨oc,od,.func (W.fnOf x x (c5 st) (bH st) (ar st) .none kV doc pm an cdv ct),osl⟩)
 (c:W.codeIn K cdv x=true) (k:W.keepIn K (.ref f)=true):Def K mg x st:=⟨f,_,HV l c k,W.mg_of X G a⟩
def Fun.look{K:W.Frag}{x qual:Str}{st:Stmt}{f:Addr}{fd:FuncData}(F:Fun K x qual st f fd):∃oc od osl,K.lookup f=some ⟨oc,od,.func fd,osl⟩:=by obtain⟨oc,od,kV,doc,pm,an,cdv,ct,osl,rfl,lk,n_⟩:=F.ex;exact⟨oc,od,osl,lk⟩
structure Callee(P:Program)(w:World)(K:W.Frag)(mg:Qb)(base:Heap)(x:Str)(k:Nat)(ps:List Str)(sp:Sp):Prop where
 ex:∃f fd,FnOk P w K mg base (CX1 P w) k f fd ps sp/\mg x=some (.ref f)/\W.keepIn K (.ref f)=true/\Binds K fd ps []/\∃oc od osl,K.lookup f=some ⟨oc,od,.func fd,osl⟩
section
variable{P:Program}{w:World}{K:W.Frag}{mg:Qb}{base:Heap}{x:Str}{st:Stmt}{k:Nat}{ps N:List Str}{sp:Sp}
def Callee.imp(C:Callee P w K mg base x k ps sp)(h:∀vs H Q E,sp' vs H Q E->sp vs H Q E):Callee P w K mg base x k ps sp':=by obtain⟨f,fd,F,r⟩:=C.ex;exact⟨f,fd,F.imp h,r⟩
def Def.okR(D:Def K mg x st)(S:FnScope N ps (ar st))
 (hb:∀(kV doc pm:Value) (an:Option Addr) (cdv ct:Value) (us:List Value),us.length=ps.length->bindArgs (W.fnOf x x (c5 st) (bH st) (ar st) .none kV doc pm an cdv ct) ⟨us,[]⟩=pure (ps.zip us))
 (len:∀vs H Q E,sp vs H Q E->vs.length=ps.length)
 (j':∀(f:Addr) (cdv:Value) (A:Around) (outer:List Env) (s:Shared) (H:Hp) (vs:List V) (Q:VK) (E:XK),Room k (A.deeper (envOfC x (ar st) s.heap.objs.size f cdv))->sp vs H Q E->
  ∃t,PSs (eE (CX1 P w) P w K mg base N x (ar st) f cdv A outer s H E) (bH st) t/\t { nx:=λ_ H'=>Q .non H',rt:=Q } (fZ N vs) H):Callee P w K mg base x (k+1) ps sp:=by
 obtain⟨f,fd,F,m⟩:=D.ex;exact⟨f,fd,F.okR S len (j' f),m,F.kp,F.binds hb,F.look⟩
end
section
variable{X:Cx}{K:W.Frag}
def allK(h:X.K=K)(hc:X.calm=true):CallR X (.builtin "all") (λxs H Q=>∃(a:Addr) (bs:List Bool),xs=[.ref a]/\SqL K H a (bs.map V.bl)/\Q (.bl (bs.all id)) H):=by subst h;exact CM hc
def Room.u180(r:Room k A):A.units+180<cLine:=by have:=r.un;omega
def eqDK(h:X.K=K)(hu:X.A.units+180<cLine):OpR X (compareOp .Eq) (C9 K):=by subst h;exact Hd hu
def neDK(h:X.K=K)(hu:X.A.units+180<cLine):OpR X (compareOp .NotEq) (B8 K):=by subst h;exact Jf hu
def inK(h:X.K=K):OpR X (compareOp .In) (rIn K false):=by subst h;exact zr
def G7(h:X.K=K):OpR X (compareOp .NotIn) (rIn K true):=by subst h;exact tK
end
section
variable{X:Cx}
def Jt{elt iter tg:Expr}{ifs:List Expr}{scope:Scope}{pos:Pos}{wi:TI}{g:TG}{tc:TT}{te:TE}{N:List Str}{sub:Qe}{iT:Nat}{xT:Str}{px spos:Pos}
 (hc:X.calm=true) (hN:X.N.Nodup) (hix:X.N[iT]?=some xT) (hxl:Loc X.env.scope xT) (hi:PI X tg iter wi)
 (hk:scope.kind=.function) (hnc:∀x∈scope.names,x.2 ≠ .cell) (h_:∀x∈scope.names,x.2=.local->scope.names.lookup x.1=some .local)
 (hfr:∀x∈scope.names,x.2=.free->X.env.kindOf x.1=some .cell\/X.env.kindOf x.1=some .free)
 (hsl:sub.length=N.length) (hsub:∀(j i:Nat) (x:Str),sub[j]?=some (some i)->N[j]?=some x->X.N[i]?=some x/\scope.names.lookup x=some .free)
 (hg:∀cl C s₂ H fp,PG (bT X N scope cl C s₂ H fp) tg g) (ht:∀cl C s₂ H fp,PTs (bT X N scope cl C s₂ H fp) ifs tc) (he:∀cl C s₂ H fp,PE (bT X N scope cl C s₂ H fp) elt te)
 (hsw:swapsWith (.ListComp elt [⟨tg,iter,ifs,0⟩] scope pos) (some (.Name xT px)) spos.line X.env=pure true)
 (hs:∀x,foldedSetIterable iter X.env x=pure x) (hf:X.fn xT=true\/X.env.scope.names.lookup xT=some .local):
 PS X (.Assign [.Name xT px] (.ListComp elt [⟨tg,iter,ifs,0⟩] scope pos) spos) (wX (qJ wi sub g tc te) (qV iT)):=by
 intro pins s σ H D0 I h;rw[exec_Assign_Name_used _ _ _ _ hsw];refine o_ (O5 (o_ ?_));show wpAny _ X.A (do let _ <- comprehension (.ListComp elt [⟨tg,iter,ifs,0⟩] scope pos) scope X.env _ (newList []) false (eval iter X.env) (some (assign (.Name xT px) X.env))) _ _ s;refine o_ (Nu (vK (use:=some (assign (.Name xT px) X.env)) (R:=λ_ s'=>SP X pins D0 .next s') hc hi hk hnc h_ hfr hsl hsub hg ht he hs I h λD C s4 e=>?_) (λ_ s' hq=>B_ (B_ hq)) λ_ _ e=>e);obtain⟨m,hm⟩:=e.ns;obtain⟨H',hC,q,i⟩:=e.inv;have dc:=e.dc;have fr:=e.fr;refine wpAny_assign_Name (o8 (v:=.ref D) (i s4.heap ⟨rfl,λ_ _=>rfl⟩) hN hix hxl rfl (λs7 I7 ⟨a7,sb7,ha7⟩=>?_) hf);have ha:a7<D:=by
  rcases ha7 with z |z
  .rw[z];exact fr
  .exact e.cell xT a7 z
 refine⟨m,hm.sameBut sb7 (O0 (PH ha dc)),λh8 hs8=>⟨_,_,I7.turned (it:=C) (t':=s7.toks) (λb o hb e=>hs8.extBut b o hb e) hC (O0 (PH fr dc)) (.inr (Nl e.sz (OZ dc))) (λx c q=>L_ (PH (e.cell x c q) dc)) (λp hp=>L_ (PH (e.pin p hp) dc)),q⟩⟩
end
theorem nU:∀{ns:List Int}{its:List Value},Vals (ns.map V.int) its->IntsAre its ns
 | [],_,h=>by cases h;exact .nil
 |
  i::r,_,h=>by
  cases h with
  |cons h1 h2=>obtain⟨t,rfl⟩:=h1;exact .cons i t (nU h2)
def o6{X:Cx}{K:W.Frag}(hK:X.K=K)(hc:X.calm=true):CallR X (.builtin "sum") (λxs H Q=>∃(a:Addr) (ns:List Int),xs=[.ref a]/\SqL K H a (ns.map V.int)/\Q (.int ns.sum) H):=by
 subst hK;intro pins s σ H xs us Q I r h;obtain⟨a,ns,rfl,hq,q⟩:=h;obtain⟨u,rfl,ru⟩:=eR r;cases ru;obtain⟨its,rv,p,hz⟩:=I.list hq;have hi:=nU rv;obtain⟨ys,hy⟩:=hi.allInts.items;have hn:numsOf its.toArray.toList=ns:=by rw[show its.toArray.toList=its from rfl,hi.numsOf]
 have pl:=p.isList;rw[hy] at pl hn;rw[nums_intItems] at hn;refine sum_intListG (I.ok.hd hc) pl λh' tk t' hk=>?_;rw[preSum_eq,NS (by simp),hn];exact⟨.int ns.sum,H,I.kept (t':=tk) hk,⟨_,rfl⟩,q⟩
end L2
namespace Fr
noncomputable def dv (a b:Int):Int:=if b<0 then -((Int.gcd a b:Nat):Int) else ((Int.gcd a b:Nat):Int)
def T(a b:Int):Int:=a.fdiv (dv a b)
def B(a b:Int):Int:=b.fdiv (dv a b)
def sQ(hb:b≠0):0<Int.gcd a b:=Int.gcd_pos_of_ne_zero_right a hb
def dv_ne(hb:b≠0):dv a b≠0:=by
 have:=sQ (a:=a) hb
 unfold dv;split <;> omega
def Bt(a b:Int):dv a b ∣ a:=by
 have h:((Int.gcd a b:Nat):Int) ∣ a:=Int.gcd_dvd_left a b;unfold dv;split
 .exact Int.neg_dvd.mpr h
 .exact h
def C1(a b:Int):dv a b ∣ b:=by
 have h:((Int.gcd a b:Nat):Int) ∣ b:=Int.gcd_dvd_right a b;unfold dv;split
 .exact Int.neg_dvd.mpr h
 .exact h
def vL{a d q:Int}(hd:d≠0)(h:a=d*q):a.fdiv d=q:=by rw[h,O_];exact Int.mul_fdiv_cancel q hd
def T_mul(hb:b≠0):T a b*dv a b=a:=by obtain⟨q,h⟩:=Bt a b;have:T a b=q:=vL (dv_ne hb) h;rw[this,O_];exact h.symm
def B_mul(hb:b≠0):B a b*dv a b=b:=by obtain⟨q,h⟩:=C1 a b;have:B a b=q:=vL (dv_ne hb) h;rw[this,O_];exact h.symm
def B_pos(hb:b≠0):0<B a b:=by
 have h:=B_mul (a:=a) hb;have hg:=sQ (a:=a) hb;generalize hx:B a b=x at h ⊢;unfold dv at h;split at h
 .rename_i hneg;have h2:x*((Int.gcd a b:Nat):Int)=-b:=by rw[Int.mul_neg] at h;omega
  rcases Int.lt_or_le 0 x with z |z
  .exact z
  .have:x*((Int.gcd a b:Nat):Int)<=0:=Int.mul_nonpos_of_nonpos_of_nonneg z (by omega);omega
 .rename_i hpos;rcases Int.lt_or_le 0 x with z |z
  .exact z
  .have:x*((Int.gcd a b:Nat):Int)<=0:=Int.mul_nonpos_of_nonpos_of_nonneg z (by omega);omega
def cross(hb:b≠0):T a b*b=a*B a b:=by have h1:=T_mul (a:=a) hb;have h2:=B_mul (a:=a) hb;generalize T a b=x at *;generalize B a b=y at *;generalize dv a b=d at *;rw[<- h2,<- h1];rw[<- N6,Pa]
def dv_abs(a b:Int):(dv a b).natAbs=Int.gcd a b:=by unfold dv;split <;> simp
def low(hb:b≠0):Int.gcd (T a b) (B a b)=1:=by
 have h1:=T_mul (a:=a) hb;have h2:=B_mul (a:=a) hb;have hg:=sQ (a:=a) hb;have e1:a.natAbs=(T a b).natAbs*Int.gcd a b:=by rw[<- dv_abs a b,<- NZ,h1]
 have e2:b.natAbs=(B a b).natAbs*Int.gcd a b:=by rw[<- dv_abs a b,<- NZ,h2]
 have e3:Int.gcd a b=Nat.gcd ((T a b).natAbs*Int.gcd a b) ((B a b).natAbs*Int.gcd a b):=by rw[<- e1,<- e2];rfl
 rw[Nat.gcd_mul_right] at e3;show Nat.gcd (T a b).natAbs (B a b).natAbs=1;generalize Nat.gcd (T a b).natAbs (B a b).natAbs=k at *;generalize Int.gcd a b=g at *;have:(1:Nat)*g=k*g:=by omega
 exact (Nat.eq_of_mul_eq_mul_right hg this).symm
def uniq(hy:0<y)(hy':0<y')(h:Int.gcd x y=1)(h':Int.gcd x' y'=1)(e:x*y'=x'*y):x=x'/\y=y':=by
 have c1:Nat.Coprime y.natAbs x.natAbs:=by rw[Nat.coprime_comm];exact h
 have c2:Nat.Coprime y'.natAbs x'.natAbs:=by rw[Nat.coprime_comm];exact h'
 have e1:x.natAbs*y'.natAbs=x'.natAbs*y.natAbs:=by rw[<- NZ,<- NZ,e]
 have d1:y.natAbs ∣ y'.natAbs:=c1.dvd_of_dvd_mul_left (by rw[e1];exact Nat.dvd_mul_left _ _);have d2:y'.natAbs ∣ y.natAbs:=c2.dvd_of_dvd_mul_left (by rw[<- e1];exact Nat.dvd_mul_left _ _);have ey:y.natAbs=y'.natAbs:=Nat.dvd_antisymm d1 d2;have ey':y=y':=by omega
 subst ey';exact⟨O4 (by omega) e,rfl⟩
def same(hb:b≠0)(hd:d≠0)(e:a*d=c*b):T a b=T c d/\B a b=B c d:=by
 refine uniq (B_pos hb) (B_pos hd) (low hb) (low hd) ?_;have h1:=cross (a:=a) hb;have h2:=cross (a:=c) hd;have hbd:b*d≠0:=OQ hb hd;refine O4 hbd ?_
 calc T a b*B c d*(b*d)=(T a b*b)*(B c d*d):=by rw[N6,OW (B c d) b d,<- N6]
  _=(a*B a b)*(B c d*d):=by rw[h1]
  _=(a*d)*(B c d*B a b):=by rw[N6 a,N6 a,OW (B a b),OW d,O_ (B a b) d]
  _=(c*b)*(B c d*B a b):=by rw[e]
  _=(c*B c d)*(B a b*b):=by rw[N6 c,N6 c,OW b,O_ b (B a b)]
  _=(T c d*d)*(B a b*b):=by rw[<- h2]
  _=T c d*B a b*(b*d):=by rw[N6,N6,OW d,O_ d b]
def self(hb:0<b)(h:Int.gcd a b=1):T a b=a/\B a b=b:=
 uniq (B_pos (by omega)) hb (low (by omega)) h (cross (by omega))
def euc(m n:Nat):Nat.gcd n (m % n)=Nat.gcd m n:=by rw[Nat.gcd_comm,<- Nat.gcd_rec,Nat.gcd_comm]
end Fr
set_option maxHeartbeats 1000000
namespace L2
open PySem PySem.Spec PyProof.Rows
def Inv.turnedL{X:Cx}{pins:Qc}{σ:St}{H:Hp}{s:Shared}{h':Heap}{t':Nat}{ch:List Addr}(I:Inv X pins σ H s)(k:∀b o,b∉ch->s.heap.get? b=some o->h'.get? b=some o)(hf:∀b∈ch,FpOk X pins H b):Inv X pins σ H { s with heap:=h',toks:=t' }:=by
 have away:∀b u,H b=some u->b∉ch:=λb u e z=>by have:=(hf b z).1;rw[e] at this;cases this
 refine I.step (g':=s.gens) (d':=s.drawn) (ch:=ch) (λb hb=>⟨(hf b hb).2.2.2.1,(hf b hb).2.1,(hf b hb).2.2.2.2.1,(hf b hb).2.2.2.2.2⟩) (λb o _ _ hc e _=>k b o hc e) (λb o _ _ hc e _=>⟨o.slots,k b o hc e⟩) (λ_ _ _ _ n=>n)
  (λb o hc e=>⟨o,k b o hc e⟩) (λ_ _ e=>e) (λ_ _ _ e=>e) (λb ps e=>⟨#[],by rw[e];simp⟩) (λm hm=>?_) (λb u e=>?_) I.bare
 .obtain⟨o,es,ep,ho,r⟩:=hm;exact⟨o,es,ep,k _ o (λz=>(hf _ z).2.1 rfl) ho,r⟩
 .refine (I.hok b u e).stay (λc v hc q=>k c v ?_ q) (λ_ q=>q) λ_ _ q=>q;rcases hc with z |z
  .rw[z];exact away b u e
  .exact away c _ z
def FpOk.up(f:FpOk X pins H b)(hn:b≠p):FpOk X pins (upd H p o) b:=⟨by rw[aA hn];exact f.1,f.2⟩
def xf(hj:s.heap.IsTupleIter j t n)(ht:s.heap.IsTuple t its)(hv:its[n]?=some v)
 (k:∀h',h'.IsTupleIter j t (n+1)->Heap.SameBut j s.heap h'->Q v { s with heap:=h' }):wpAny (model prog w) A (Builtin.SmallTypes.nextOf (.ref j)) Q E s:=by
 obtain⟨oj,ej,cj,dj⟩:=id hj;obtain⟨ot,et,_,m,dt⟩:=ht;unfold Builtin.SmallTypes.nextOf;refine o_ (Ox (name:=Str.ofString "__next__") hj.typeIs OJ (O3 OJ hj.typeIs F.entry_tuple_iterator_next ?_ (F.args_tuple_iterator_next_1 _)));show wpAny _ _ (field (.ref j) 0 >>= _) _ _ s;refine o_ (NW ej dj (x:=.ref t) rfl ?_);show wpAny _ _ (if (Value.ref t==Value.none)=true then _ else _) _ _ s;rw[if_neg (show ¬ ((Value.ref t==Value.none)=true) from x_)];show wpAny _ _ (field (.ref j) 1 >>= _) _ _ s;refine o_ (NW ej dj (x:=.int n 0) rfl ?_);show wpAny _ _ (seqItems? (.ref t) >>= _) _ _ s;refine o_ (OB et dt ?_);simp only[NB,hv];refine o_ (wpAny_setField ej dj (by simp) (B_ ⟨v,rfl,B_ (k _ ?_ (Oy ..))⟩));exact⟨_,Heap.get?_update_self _ ej (Obj.isFreed_of_fields (Obj.data_mapFields dj _)),(Obj.cls_mapFields ..).trans cj,by rw[Obj.data_mapFields dj];simp [rawInt]⟩
def nY(hh:A.handled=none)(hj:s.heap.IsTupleIter j t n)(ht:s.heap.IsTuple t its)(hv:its[n]?=none)
 (k:∀h' e,Heap.ExtBut j s.heap h'->(∃o,h'.get? e=some o/\o.cls=.type "StopIteration")->E (.ref e) { s with heap:=h' }):wpAny (model prog w) A (Builtin.SmallTypes.nextOf (.ref j)) Q E s:=by
 obtain⟨oj,ej,cj,dj⟩:=id hj;obtain⟨ot,et,_,m,dt⟩:=ht;unfold Builtin.SmallTypes.nextOf;refine o_ (Ox (name:=Str.ofString "__next__") hj.typeIs OJ (O3 OJ hj.typeIs F.entry_tuple_iterator_next ?_ (F.args_tuple_iterator_next_1 _)));show wpAny _ _ (field (.ref j) 0 >>= _) _ _ s;refine o_ (NW ej dj (x:=.ref t) rfl ?_);show wpAny _ _ (if (Value.ref t==Value.none)=true then _ else _) _ _ s;rw[if_neg (show ¬ ((Value.ref t==Value.none)=true) from x_)];show wpAny _ _ (field (.ref j) 1 >>= _) _ _ s;refine o_ (NW ej dj (x:=.int n 0) rfl ?_);show wpAny _ _ (seqItems? (.ref t) >>= _) _ _ s;refine o_ (OB et dt ?_);simp only[NB,hv];refine o_ (wpAny_rule (o_ (wpAny_setField ej dj (by simp) ?_)));show wpAny _ _ (newExc (.type "StopIteration") [] >>= _) _ _ _;refine o_ ?_;simp only[newExc,newTuple];refine o_ (N4 ?_ (by size_fits));refine o_ (m:=firstArgMember _ _) (wpAny_of_eq (a:=Value.none) (by first |rfl |(simp only[firstArgMember];rfl)) ?_);refine N4 ?_ (by size_fits);simp only[raiseNew];refine o_ (wpAny_handled ?_);first |rw[show A.in1.handled=none from hh] |rw[hh]
 refine o_ (B_ (wpAny_throw ?_));exact k _ _ (((Oy ..).extBut.push _).push _) ⟨_,E_ _ rfl,rfl⟩
def SqB(K:W.Frag)(b:Bool)(H:Hp)(a:Addr)(xs:List V):Prop:=match b with
 |true=>SqL K H a xs
 |false=>SqT K H a xs
def ItB(b:Bool)(h:Heap)(j a:Addr)(i:Nat):Prop:=match b with
 |true=>h.IsListIter j a i
 |false=>h.IsTupleIter j a i
def SqB.inj(I:Inv X pins σ H s)(x:SqB X.K b H a xs)(y:SqB X.K b H a ys):xs=ys:=by
 cases b with
 |true=>exact I.list_inj x y
 |false=>exact I.tuple_inj x y
def kh(z:ItB b h j a i):∃o,h.get? j=some o/\(∀v,o.data ≠ .cell v)/\o.cls=.type (if b then "list_iterator" else "tuple_iterator"):=by
 cases b with
 |true=>obtain⟨o,e,c,d⟩:=z;exact⟨o,e,(λv y=>by rw[d] at y;cases y),c⟩
 |false=>obtain⟨o,e,c,d⟩:=z;exact⟨o,e,(λv y=>by rw[d] at y;cases y),c⟩
def bN(z:ItB b h j a i)(k:∀o,h.get? j=some o->h'.get? j=some o):ItB b h' j a i:=by
 cases b with
 |true=>obtain⟨o,e,r⟩:=z;exact⟨o,k o e,r⟩
 |false=>obtain⟨o,e,r⟩:=z;exact⟨o,k o e,r⟩
def LsB(b:Bool)(h:Heap)(a:Addr)(its:Array Value):Prop:=match b with
 |true=>h.IsList a its
 |false=>h.IsTuple a its
def LsB.keep(z:LsB b h a its)(k:∀o,h.get? a=some o->h'.get? a=some o):LsB b h' a its:=by cases b <;> (obtain⟨o,e,r⟩:=z;exact⟨o,k o e,r⟩)
def x8(hj:ItB b s.heap j a n)(ht:LsB b s.heap a its)(hv:its[n]?=some v)
 (k:∀h',ItB b h' j a (n+1)->Heap.SameBut j s.heap h'->Q v { s with heap:=h' }):wpAny (model prog w) A (Builtin.SmallTypes.nextOf (.ref j)) Q E s:=by
 cases b with
 |true=>exact wpAny_nextOf_list_item hj ht hv k
 |false=>exact xf hj ht hv k
def oU(hh:A.handled=none)(hj:ItB b s.heap j a n)(ht:LsB b s.heap a its)(hv:its[n]?=none)
 (k:∀h' e,Heap.ExtBut j s.heap h'->(∃o,h'.get? e=some o/\o.cls=.type "StopIteration")->E (.ref e) { s with heap:=h' }):wpAny (model prog w) A (Builtin.SmallTypes.nextOf (.ref j)) Q E s:=by
 cases b with
 |true=>exact wpAny_nextOf_list_end hh hj ht hv k
 |false=>exact nY hh hj ht hv k
section
variable{prog:Program}{w:World}{A:Around}{E:Qd}{s:Shared}{b1 b2:Bool}{z p q j1 j2 a1 a2:Addr}{n:Nat}{xs ys:Array Value}{x y u v:Value}
def zipN{Q:Qd}(D:ZipApart z p q j1 j2 a1 a2)(hz:IsZip s.heap z p q .none)(hp:IsPair s.heap p (.ref j1) (.ref j2))(hq:IsPair s.heap q u v)
 (i1:ItB b1 s.heap j1 a1 n) (i2:ItB b2 s.heap j2 a2 n) (l1:LsB b1 s.heap a1 xs) (l2:LsB b2 s.heap a2 ys) (ex:xs[n]?=some x) (ey:ys[n]?=some y)
 (k:∀h',IsZip h' z p q (rawInt s.heap.objs.size)->IsPair h' q x y->ItB b1 h' j1 a1 (n+1)->ItB b2 h' j2 a2 (n+1)->IsPair h' s.heap.objs.size x y->(∀c o,c≠z->c≠q->c≠j1->c≠j2->s.heap.get? c=some o->h'.get? c=some o)->Q (.ref s.heap.objs.size) { s with heap:=h' }):
 wpAny (model prog w) A (Builtin.«zip.__next__» ⟨[.ref z],[]⟩) (λf_ s'=>∃v,f_=.done (.ret v)/\Q v s') E s:=by
 show wpAny _ _ (field (.ref z) 2 >>= _) _ _ _;refine o_ (NW hz rfl (x:=.bool false) rfl ?_);show wpAny _ _ (field (.ref z) 3 >>= _) _ _ _;refine o_ (NW hz rfl (x:=.ref p) rfl ?_);refine o_ (OB hp rfl ?_);show wpAny _ _ (Builtin.SmallTypes.ownedTupleIsFree (.ref z) >>= _) _ _ _;refine o_ ?_;unfold Builtin.SmallTypes.ownedTupleIsFree;refine o_ (NW hz rfl (x:=.none) rfl (B_ ?_));simp only[OO];refine o_ (wpAny_rule ?_);refine o_ (NW hz rfl (x:=.ref q) rfl ?_);refine o_ (OE hz (by simp) λg1 (y1:IsZip g1 z p q .ellipsis) t1=>?_);refine o_ ?_;simp only[List.zipIdx_cons,List.zipIdx_nil,List.forIn_cons,List.forIn_nil];refine o_ (o_ (Qa ?_));show wpAny _ _ (Builtin.SmallTypes.nextOf (.ref j1) >>= _) _ _ _;refine o_ (x8 (bN i1 λo e=>t1.extBut _ _ D.i1z e) (l1.keep λo e=>t1.extBut _ _ D.l1z e) ex λg2 m1 t2=>B_ ?_);have q2:IsPair g2 q u v:=t2.extBut _ _ D.TOi1 (t1.extBut _ _ D.TOz hq);refine o_ (OB q2 rfl ?_);refine o_ (PV q2 λg3 (q3:IsPair g3 q x v) t3=>?_);refine o_ (wpAny_letGo (B_ ?_));refine o_ (o_ (Qa ?_));show wpAny _ _ (Builtin.SmallTypes.nextOf (.ref j2) >>= _) _ _ _;refine o_ (x8 (bN i2 λo e=>t3.extBut _ _ D.TOi2.symm (t2.extBut _ _ D.i12.symm (t1.extBut _ _ D.i2z e))) (l2.keep λo e=>t3.extBut _ _ D.l2TO (t2.extBut _ _ D.l2i1 (t1.extBut _ _ D.l2z e))) ey λg4 m2 t4=>B_ ?_);have q4:IsPair g4 q x v:=t4.extBut _ _ D.TOi2 q3;refine o_ (OB q4 rfl ?_);refine o_ (PV q4 λg5 (q5:IsPair g5 q x y) t5=>?_);refine o_ (wpAny_letGo (B_ (B_ ?_)));refine o_ (OB q5 rfl ?_);refine o_ (wpAny_newTuple ?_);have sz:g5.objs.size=s.heap.objs.size:=by rw[t5.1,t4.1,t3.1,t2.1,t1.1]
 have y5:IsZip g5 z p q .ellipsis:=t5.extBut _ _ D.TOz.symm (t4.extBut _ _ D.i2z.symm (t3.extBut _ _ D.TOz.symm (t2.extBut _ _ D.i1z.symm y1)));have all5:∀c o,c≠z->c≠q->c≠j1->c≠j2->s.heap.get? c=some o->g5.get? c=some o:=λc o c1 c2 c3 c4 e=>t5.extBut _ _ c2 (t4.extBut _ _ c4 (t3.extBut _ _ c2 (t2.extBut _ _ c3 (t1.extBut _ _ c1 e))));have n1:ItB b1 g5 j1 a1 (n+1):=bN m1 λo e=>t5.extBut _ _ D.TOi1.symm (t4.extBut _ _ D.i12 (t3.extBut _ _ D.TOi1.symm e));have n2:ItB b2 g5 j2 a2 (n+1):=bN m2 λo e=>t5.extBut _ _ D.TOi2.symm e;have zl:z<g5.objs.size:=A_ y5;show wpAny _ _ (Builtin.SmallTypes.ownedTupleHandOut (.ref z) (.ref g5.objs.size) >>= _) _ _ _;refine o_ ?_;unfold Builtin.SmallTypes.ownedTupleHandOut;have y6:IsZip (g5.push { cls:=.type "tuple",data:=.seq #[x,y] }) z p q .ellipsis:=q_ _ y5;refine o_ (OE y6 (by simp) λg7 (y7:IsZip g7 z p q (rawInt g5.objs.size)) t7=>?_);refine OE y7 (by simp) λg8 (y8:IsZip g8 z p q (rawInt g5.objs.size)) t8=>?_;have up:∀c o,c≠z->g5.get? c=some o->g8.get? c=some o:=λc o c1 e=>t8.extBut _ _ c1 (t7.extBut _ _ c1 (q_ _ e));have w8:IsPair g8 g5.objs.size x y:=t8.extBut _ _ (O0 zl) (t7.extBut _ _ (O0 zl) (E_ _ rfl));rw[sz] at y8 w8;refine B_ ⟨_,rfl,?_⟩;show Q (.ref g5.objs.size) _;rw[sz];exact k g8 y8 (up _ _ D.TOz q5) (bN n1 λo e=>up _ o D.i1z e) (bN n2 λo e=>up _ o D.i2z e) w8 λc o c1 c2 c3 c4 e=>up c o c1 (all5 c o c1 c2 c3 c4 e)
def A9(hh:A.handled=none)(D:ZipApart z p q j1 j2 a1 a2)(hz:IsZip s.heap z p q .none)(hp:IsPair s.heap p (.ref j1) (.ref j2))(hq:IsPair s.heap q u v)
 (i1:ItB b1 s.heap j1 a1 n) (i2:ItB b2 s.heap j2 a2 n) (l1:LsB b1 s.heap a1 xs) (l2:LsB b2 s.heap a2 ys) (en:xs[n]?=none\/ys[n]?=none)
 (k:∀h' e,(∀c o,c≠z->c≠q->c≠j1->c≠j2->s.heap.get? c=some o->h'.get? c=some o)->(∃o,h'.get? e=some o/\o.cls=.type "StopIteration")->E (.ref e) { s with heap:=h' }):wpAny (model prog w) A (Builtin.«zip.__next__» ⟨[.ref z],[]⟩) Q E s:=by
 show wpAny _ _ (field (.ref z) 2 >>= _) _ _ _;refine o_ (NW hz rfl (x:=.bool false) rfl ?_);show wpAny _ _ (field (.ref z) 3 >>= _) _ _ _;refine o_ (NW hz rfl (x:=.ref p) rfl ?_);refine o_ (OB hp rfl ?_);show wpAny _ _ (Builtin.SmallTypes.ownedTupleIsFree (.ref z) >>= _) _ _ _;refine o_ ?_;unfold Builtin.SmallTypes.ownedTupleIsFree;refine o_ (NW hz rfl (x:=.none) rfl (B_ ?_));simp only[OO];refine o_ (wpAny_rule ?_);refine o_ (NW hz rfl (x:=.ref q) rfl ?_);refine o_ (OE hz (by simp) λg1 (y1:IsZip g1 z p q .ellipsis) t1=>?_);refine o_ ?_;simp only[List.zipIdx_cons,List.zipIdx_nil,List.forIn_cons,List.forIn_nil];refine o_ (o_ (Qa ?_));show wpAny _ _ (Builtin.SmallTypes.nextOf (.ref j1) >>= _) _ _ _;cases ex:xs[n]? with
 |
  none=>
  refine o_ (oU hh (bN i1 λo e=>t1.extBut _ _ D.i1z e) (l1.keep λo e=>t1.extBut _ _ D.l1z e) ex λg2 e t2 ⟨oe,he,ce⟩=>?_);have y2:IsZip g2 z p q .ellipsis:=t2 _ _ D.i1z.symm y1;have ez:e≠z:=λw=>by subst w;rw[y2] at he;cases he;simp at ce
  exact OE y2 (by simp) λg3 _ t3=>k g3 e (λc o c1 _ c3 _ w=>t3.extBut _ _ c1 (t2 _ _ c3 (t1.extBut _ _ c1 w))) ⟨oe,t3.extBut _ _ ez he,ce⟩
 |
  some x=>
  have ey:ys[n]?=none:=en.resolve_left λw=>by rw[ex] at w;cases w
  refine o_ (x8 (bN i1 λo e=>t1.extBut _ _ D.i1z e) (l1.keep λo e=>t1.extBut _ _ D.l1z e) ex λg2 m1 t2=>B_ ?_);have q2:IsPair g2 q u v:=t2.extBut _ _ D.TOi1 (t1.extBut _ _ D.TOz hq);refine o_ (OB q2 rfl ?_);refine o_ (PV q2 λg3 q3 t3=>?_);refine o_ (wpAny_letGo (B_ ?_));refine o_ (o_ (Qa ?_));show wpAny _ _ (Builtin.SmallTypes.nextOf (.ref j2) >>= _) _ _ _;refine o_ (oU hh (bN i2 λo e=>t3.extBut _ _ D.TOi2.symm (t2.extBut _ _ D.i12.symm (t1.extBut _ _ D.i2z e))) (l2.keep λo e=>t3.extBut _ _ D.l2TO (t2.extBut _ _ D.l2i1 (t1.extBut _ _ D.l2z e))) ey λg4 e t4 ⟨oe,he,ce⟩=>?_);have y4:IsZip g4 z p q .ellipsis:=t4 _ _ D.i2z.symm (t3.extBut _ _ D.TOz.symm (t2.extBut _ _ D.i1z.symm y1));have ez:e≠z:=λw=>by subst w;rw[y4] at he;cases he;simp at ce
  exact OE y4 (by simp) λg5 _ t5=>k g5 e (λc o c1 c2 c3 c4 w=>t5.extBut _ _ c1 (t4 _ _ c4 (t3.extBut _ _ c2 (t2.extBut _ _ c3 (t1.extBut _ _ c1 w))))) ⟨oe,t5.extBut _ _ ez he,ce⟩
end
noncomputable def Ba (b:Bool):String:=if b then "list_iterator" else "tuple_iterator"
def wG(h:LsB b s.heap a its)(k:Q (.ref s.heap.objs.size) { s with heap:=s.heap.push { cls:=.type (Ba b),data:=.fields #[.ref a,.int 0 0] } }):wpAny (model prog w) A (pyIter (.ref a)) Q E s:=by
 cases b with
 |true=>exact wpAny_pyIter_list h k
 |false=>exact wpAny_pyIter_tuple h k
abbrev zp1(h:Heap)(b:Bool)(a:Addr):Heap:=h.push { cls:=.type (Ba b),data:=.fields #[.ref a,.int 0 0] }
abbrev zp2(h:Heap)(b c:Bool)(a d:Addr):Heap:=zp1 (zp1 h b a) c d
abbrev zp3(h:Heap)(b c:Bool)(a d:Addr):Heap:=(zp2 h b c a d).push { cls:=.type "tuple",data:=.seq #[.ref h.objs.size,.ref (zp1 h b a).objs.size] }
abbrev zp4(h:Heap)(b c:Bool)(a d:Addr):Heap:=(zp3 h b c a d).push { cls:=.type "tuple",data:=.seq #[.none,.none] }
abbrev zp5(h:Heap)(b c:Bool)(a d:Addr):Heap:=(zp4 h b c a d).push { cls:=.type "zip",data:=.fields #[.none,.bool false,.bool false,.ref (zp2 h b c a d).objs.size,.ref (zp3 h b c a d).objs.size] }
def A4(b c:Bool)(a d:Addr)(xs ys:Array Value):Meets (Builtin.«zip.__new__» ⟨[.type "zip",.ref a,.ref d],[]⟩) (λ_ R s=>LsB b s.heap a xs/\LsB c s.heap d ys/\R (.ok (.ret (.ref (zp4 s.heap b c a d).objs.size))) { s with heap:=zp5 s.heap b c a d }):=
 .of_wp λprog w A R s h=>by
  obtain⟨hp,g,dr,tk,os⟩:=s;obtain⟨la,ld,h⟩:=h;have hsub:=sub_zip;have L1:LsB b (Shared.heap ⟨hp,g,dr,tk,os⟩) a xs:=la;have L2':LsB c (Shared.heap ⟨hp.push { cls:=.type (Ba b),data:=.fields #[.ref a,.int 0 0] },g,dr,tk,os⟩) d ys:=ld.keep λo e=>q_ _ e
  wp_walk using wG L1,wG L2'
  exact⟨_,rfl,h⟩
def Aa(la:LsB b s.heap a xs)(ld:LsB c s.heap d ys)
 (k:∀h',IsZip h' (s.heap.objs.size+4) (s.heap.objs.size+2) (s.heap.objs.size+3) .none->IsPair h' (s.heap.objs.size+2) (.ref s.heap.objs.size) (.ref (s.heap.objs.size+1))->IsPair h' (s.heap.objs.size+3) .none .none->
  ItB b h' s.heap.objs.size a 0->ItB c h' (s.heap.objs.size+1) d 0->(∀c o,s.heap.get? c=some o->h'.get? c=some o)->Q (.ref (s.heap.objs.size+4)) { s with heap:=h' }):wpAny (model prog w) A (call (.type "zip") [.ref a,.ref d]) Q E s:=by
 refine callType_new F.called_zip (by decide) (F.typeCall_zip_2 _ _) (F.newCall_zip_2 _ _) (λobj=>F.args_object_init_3 obj _ _) F.entry_zip_new (A4 b c a d xs ys) ⟨la,ld,?_⟩;have n1:(zp1 s.heap b a).objs.size=s.heap.objs.size+1:=OY ..;have n2:(zp2 s.heap b c a d).objs.size=s.heap.objs.size+2:=by rw[OY,n1]
 have n3:(zp3 s.heap b c a d).objs.size=s.heap.objs.size+3:=by rw[OY,n2]
 have n4:(zp4 s.heap b c a d).objs.size=s.heap.objs.size+4:=by rw[OY,n3]
 have up:=λ{h:Heap}{x:Addr}{o:Obj} (o':Obj) (e:h.get? x=some o)=>q_ o' e;have e5:(zp5 s.heap b c a d).get? (zp4 s.heap b c a d).objs.size=some _:=E_ _ rfl;have e4:(zp5 s.heap b c a d).get? (zp3 s.heap b c a d).objs.size=some _:=up _ (E_ _ rfl);have e3:(zp5 s.heap b c a d).get? (zp2 s.heap b c a d).objs.size=some _:=up _ (up _ (E_ _ rfl));have e2:(zp5 s.heap b c a d).get? (zp1 s.heap b a).objs.size=some _:=up _ (up _ (up _ (E_ _ rfl)));have e1:(zp5 s.heap b c a d).get? s.heap.objs.size=some _:=up _ (up _ (up _ (up _ (E_ _ rfl))));show _/\_;rw[n2,n3,n4] at e5;rw[n1,n2] at e3;rw[n3] at e4;rw[n1] at e2;rw[n4];have i1:ItB b (zp5 s.heap b c a d) s.heap.objs.size a 0:=by cases b <;> exact⟨_,e1,rfl,rfl⟩
 have i2:ItB c (zp5 s.heap b c a d) (s.heap.objs.size+1) d 0:=by cases c <;> exact⟨_,e2,rfl,rfl⟩
 exact⟨⟨_,e5,rfl⟩,k _ e5 e3 e4 i1 i2 λx o e=>up _ (up _ (up _ (up _ (up _ e))))⟩
noncomputable def ItZ (K:W.Frag) (b c:Bool) (a d:Addr):It:=
 ⟨λi H=>∃xs ys x y,SqB K b H a xs/\SqB K c H d ys/\xs[i]?=some x/\ys[i]?=some y,
  λi H x H'=>∃p u v,x=.ref p/\H p=none/\H'=upd H p (.tup [u,v])/\(∀xs,SqB K b H a xs->xs[i]?=some u)/\∀ys,SqB K c H d ys->ys[i]?=some v,
  λi H=>∃xs ys,SqB K b H a xs/\SqB K c H d ys/\(xs[i]?=none\/ys[i]?=none)⟩
def iZ(I:Inv X pins σ H s)(hq:SqB X.K b H a xs):∃its:List Value,Vals xs its/\LsB b s.heap a its.toArray:=by
 cases b with
 |true=>obtain⟨its,rv,p,_⟩:=I.list hq;exact⟨its,rv,p.isList⟩
 |false=>obtain⟨its,rv,p,_⟩:=I.tuple hq;exact⟨its,rv,p⟩
def C3{P:Program}{w:World}{K:W.Frag}{elts:List Expr}{x1:Nat}{tp:Pos}(b c:Bool)(a d z p q j1 j2:Addr)(D:ZipApart z p q j1 j2 a d):
 Turn P w K (.Tuple elts x1 tp) (ItZ K b c a d) [z,p,q,j1,j2] z (λi h=>IsZip h z p q .none/\IsPair h p (.ref j1) (.ref j2)/\(∃u v,IsPair h q u v)/\ItB b h j1 a i/\ItB c h j2 d i) where
 mem:=by simp
 obj:=λi h st e he=>by
  obtain⟨s1,s2,⟨u,v,s3⟩,s4,s5⟩:=st;obtain⟨o4,k4,l4,_⟩:=kh s4;obtain⟨o5,k5,l5,_⟩:=kh s5;simp only[G_,O2,or_false] at he;rcases he with rfl |rfl |rfl |rfl |rfl
  .exact⟨_,s1,λv y=>by cases y⟩
  .exact⟨_,s2,λv y=>by cases y⟩
  .exact⟨_,s3,λv y=>by cases y⟩
  .exact⟨o4,k4,l4⟩
  .exact⟨o5,k5,l5⟩
 keep:=λi h h' st k=>by obtain⟨s1,s2,⟨u,v,s3⟩,s4,s5⟩:=st;exact⟨k z (by simp) _ s1,k p (by simp) _ s2,⟨u,v,k q (by simp) _ s3⟩,bN s4 λo e=>k j1 (by simp) o e,bN s5 λo e=>k j2 (by simp) o e⟩
 item:=
  by
  intro X hP hw hK hc i pins s σ H E I hf st hg;subst hP hw hK;obtain⟨xs,ys,x,y,qx,qy,ex,ey⟩:=hg;obtain⟨s1,s2,⟨u,v,s3⟩,s4,s5⟩:=st;obtain⟨ix,rx,lx⟩:=iZ I qx;obtain⟨iy,ry,ly⟩:=iZ I qy;obtain⟨ux,hux,rux⟩:=rx.get ex;obtain⟨uy,huy,ruy⟩:=ry.get ey;have hTy:s.TypeIs (.ref z) "zip":=⟨_,s1,rfl⟩;have zl:=A_ s1;have pl:=A_ s2;have ql:=A_ s3;obtain⟨o4,k4,_,_⟩:=kh s4;obtain⟨o5,k5,_,_⟩:=kh s5;have j1l:=A_ k4;have j2l:=A_ k5;unfold pyNext;refine o_ (Pn (Ox (name:=Str.ofString "__next__") hTy Py (O3 Py hTy F.entry_zip_next (zipN D s1 s2 s3 s4 s5 lx ly (by simpa using hux) (by simpa using huy) λh' y1 y3 y4 y5 yT hk=>B_ ?_) (F.args_zip_next_1 _))));refine⟨_,rfl,wpAny_letOwnedTupleGo_zip (s:={ s with heap:=h' }) y1 λh2 z2 sb=>?_⟩;have sb':Heap.SameBut z h' h2:=sb;have hT:H s.heap.objs.size=none:=I.hok.fresh (s_ _);have I1:Inv X pins σ (upd H s.heap.objs.size (.tup [x,y])) { s with heap:=s.heap.push { cls:=.type "tuple",data:=.seq #[ux,uy] },toks:=s.toks }:=
   I.laid (t':=s.toks) (λc o q=>q_ _ q) (s_ _) ⟨by show 2<=sizeLine;decide,[ux,uy],.cons rux (.cons ruy .nil),⟨_,E_ _ rfl,rfl,_,rfl⟩⟩
  have fp':∀e∈[z,p,q,j1,j2],FpOk X pins (upd H s.heap.objs.size (.tup [x,y])) e:=λe he=>by
   have:=hf e he
   simp only[G_,O2,or_false] at he;rcases he with rfl |rfl |rfl |rfl |rfl
   .exact this.up (L_ zl)
   .exact this.up (L_ pl)
   .exact this.up (L_ ql)
   .exact this.up (L_ j1l)
   .exact this.up (L_ j2l)
  have I2:Inv X pins σ (upd H s.heap.objs.size (.tup [x,y])) { s with heap:=h2,toks:=s.toks }:=
   Inv.turnedL (s:={ s with heap:=s.heap.push { cls:=.type "tuple",data:=.seq #[ux,uy] },toks:=s.toks }) (ch:=[z,p,q,j1,j2]) (t':=s.toks) I1 (λe o he qe=>by
    have c1:e≠z:=λw=>he (by simp [w]);have c2:e≠q:=λw=>he (by simp [w]);have c3:e≠j1:=λw=>he (by simp [w]);have c4:e≠j2:=λw=>he (by simp [w]);rw[sb'.2 e c1];have q':(s.heap.push { cls:=.type "tuple",data:=.seq #[ux,uy] }).get? e=some o:=qe;by_cases w:e=s.heap.objs.size
    .subst w;rw[E_ _ rfl] at q';cases q';exact yT
    .rw[Heap.get?_push_ne _ _ _ w] at q';exact hk e o c1 c2 c3 c4 q') fp'
  refine⟨.ref s.heap.objs.size,_,I2,rfl,⟨_,x,y,rfl,hT,rfl,λzs hz=>by rw[SqB.inj I hz qx];exact ex,λzs hz=>by rw[SqB.inj I hz qy];exact ey⟩,⟨z2,?_,⟨ux,uy,?_⟩,bN y4 λo e=>(sb'.2 j1 D.i1z).trans e,bN y5 λo e=>(sb'.2 j2 D.i2z).trans e⟩,λe he=>(fp' e he).1⟩
  .exact (sb'.2 p D.TIz).trans (hk p _ D.TIz D.TITO D.TIi1 D.TIi2 s2)
  .exact (sb'.2 q D.TOz).trans y3
 done:=by
  intro X hP hw hK hc i pins s σ H E I hf st hg;subst hP hw hK;obtain⟨xs,ys,qx,qy,en⟩:=hg;obtain⟨s1,s2,⟨u,v,s3⟩,s4,s5⟩:=st;obtain⟨ix,rx,lx⟩:=iZ I qx;obtain⟨iy,ry,ly⟩:=iZ I qy;have hTy:s.TypeIs (.ref z) "zip":=⟨_,s1,rfl⟩;have en':ix.toArray[i]?=none\/iy.toArray[i]?=none:=by
   rcases en with e |e
   .left;rw[O9] at e;simp;rw[<- rx.length];exact e
   .right;rw[O9] at e;simp;rw[<- ry.length];exact e
  unfold pyNext;refine o_ (Pn (Ox (name:=Str.ofString "__next__") hTy Py (O3 Py hTy F.entry_zip_next (A9 (I.ok.hd hc) D s1 s2 s3 s4 s5 lx ly en' λh' e hk ⟨o,ho,co⟩=>?_) (F.args_zip_next_1 _))));refine o_ (wpAny_isInstance (T:="StopIteration") (b:=true) ⟨o,ho,co⟩ isSubtype_stop (B_ ⟨rfl,?_⟩));exact Inv.turnedL (ch:=[z,p,q,j1,j2]) (t':=s.toks) I (λe o he qe=>hk e o (λw=>he (by simp [w])) (λw=>he (by simp [w])) (λw=>he (by simp [w])) (λw=>he (by simp [w])) qe) hf
 self:=λ_ _ _ _ _ st h=>wpAny_pyIter_zip st.1 h
def AX:bootBuiltins "zip"=some (.type "zip"):=by decide
def Ho(hg:Gl X "zip")(hm:X.mg "zip"=none)(ha:PA X [l,m] tl)(hs:starEach [l,m] X.env=[(false,eval l X.env),(false,eval m X.env)])(hs2:starEach [m] X.env=[(false,eval m X.env)]):
 PI X (.Tuple elts x1 tp) (.Call (.Name "zip" p) [l,m] [] pos) (λσ H R=>tl σ H λvs H1=>∃(b c:Bool) (a d:Addr) (xs ys:List V),vs=[.ref a,.ref d]/\SqB X.K b H1 a xs/\SqB X.K c H1 d ys/\R (ItZ X.K b c a d) H1):=by
 intro pins s σ H R I h;refine Call_ (cL I hg hm AX (Np (thn (ha pos pins s σ H _ I h) λus s1 zz=>exA zz λvs H1 I1 r1 q1=>?_) (by rw[hs,hs2]) (by rw[hs2];rfl)));obtain⟨b,c,a,d,xs,ys,e,qx,qy,q⟩:=q1;subst e;cases r1 with
 |
  cons r rr=>
  cases rr with
  |
   cons r' rr=>
   cases rr;cases r;cases r';obtain⟨ix,rx,lx⟩:=iZ I1 qx;obtain⟨iy,ry,ly⟩:=iZ I1 qy;have la:a<s1.heap.objs.size:=by cases b <;> (obtain⟨o,e,_⟩:=lx;exact A_ e)
   have ld:d<s1.heap.objs.size:=by cases c <;> (obtain⟨o,e,_⟩:=ly;exact A_ e)
   refine Aa lx ly λh' y1 y2 y3 y4 y5 hk=>wpAny_pyIter_zip y1 ⟨s1.heap.objs.size+4,[s1.heap.objs.size+4,s1.heap.objs.size+2,s1.heap.objs.size+3,s1.heap.objs.size,s1.heap.objs.size+1],_,_,H1,rfl,I1.kept (t':=s1.toks) λc o z=>hk c o z,C3 b c a d _ _ _ _ _ (W.ktu_apart _ _ _ la ld),⟨y1,y2,⟨_,_,y3⟩,y4,y5⟩,λe he=>?_,q⟩;have hge:s1.heap.objs.size<=e:=by
    simp only[G_,O2,or_false] at he;rcases he with rfl |rfl |rfl |rfl |rfl
    .exact Pq _ _
    .exact Pq _ _
    .exact Pq _ _
    .exact s_ _
    .exact Pq _ _
   exact I1.fpOk hge (I1.hok.fresh hge)
inductive D where
 |non |bl (b:Bool) |int (i:Int) |str (x:Str) |ty (n:String) |glb (x:Str) |exc (x:Str) |tup (xs:List D) |ref (n:Nat) |kl (xs:List D)
 deriving Inhabited
inductive Ob where
 |lst (xs:List D) |fz (xs:List D) |set (xs:List Int) |dct (kvs:List (Key×D)) |any
 deriving Inhabited
abbrev AH:=List Ob
abbrev AE:=List (Option D)
inductive R(α:Type) where
 |ok (a:α) (h:AH) |exc (c:Str) (h:AH) |stuck
inductive SR where
 |nx (ae:AE) (h:AH) |rt (d:D) (h:AH) |bk (ae:AE) (h:AH) |ct (ae:AE) (h:AH) |exc (c:Str) (ae:AE) (h:AH) |stuck
abbrev ME:=AE->AH->R D
abbrev MT:=AE->AH->R Bool
abbrev MA:=AE->AH->R (List D)
abbrev MS:=AE->AH->SR
section
variable(K:W.Frag)(mg:Qb)
def fJ(c:Addr)(q:Str):Heap->Prop:=λh=>h.CodeRec (.ref c) q
noncomputable def lJ:List Str:=["by_falling_weights", "least_around"]
def LamT(P:Addr)(q:Str):Prop:=∃(x:Str) (f:Addr) (oc:Value) (od:Option Addr) (fd:FuncData) (sl:Array (Option Value)) (c:Addr),x∈lJ/\(∀y∈lJ,y≠x->mg y=none)/\mg x=some (.ref f)/\K.lookup f=some ⟨oc,od,.func fd,sl⟩/\fd.code=.ref c/\W.codeHdIn K c P=true/\q=fd.qualname ++ ".<locals>." ++ "<lambda>"
def bmP(o:Obj):Prop:=o.cls=.type "module" /\ o.dict=some builtinsNs/\o.data=.plain
def uv(H:Hp):Prop:=∃b o,mg "__builtins__"=some (.ref b)/\b≠builtinsNs/\b≠mainGlobals/\bmP o/\(K.lookup b=some o\/∃u,H b=some (.frz o u))
end
section
variable{X:Cx}{e:Expr}{es:List Expr}{st:Stmt}{sts:List Stmt}
def PE.imp(h:PE X e t)(k:∀σ H Q,t' σ H Q->t σ H Q):PE X e t':=λpins s σ H Q I w=>h pins s σ H Q I (k σ H Q w)
def PT.imp(h:PT X e t)(k:∀σ H Q,t' σ H Q->t σ H Q):PT X e t':=λpins s σ H Q I w=>h pins s σ H Q I (k σ H Q w)
def PW.imp(h:PW X e t)(k:∀σ H Q,t' σ H Q->t σ H Q):PW X e t':=λwh pins s σ H Q I w=>h wh pins s σ H Q I (k σ H Q w)
def PA.imp(h:PA X es t)(k:∀σ H Q,t' σ H Q->t σ H Q):PA X es t':=λpos pins s σ H Q I w=>h pos pins s σ H Q I (k σ H Q w)
def PS.imp(h:PS X st t)(k:∀D σ H,t' D σ H->t D σ H):PS X st t':=λpins s σ H D I w=>h pins s σ H D I (k D σ H w)
def PSs.imp(h:PSs X sts t)(k:∀D σ H,t' D σ H->t D σ H):PSs X sts t':=λpins s σ H D I w=>h pins s σ H D I (k D σ H w)
def PG.imp(h:PG X e t)(k:∀v σ H Q,t' v σ H Q->t v σ H Q):PG X e t':=λpins s σ H v u Q I r w=>h pins s σ H v u Q I r (k v σ H Q w)
def PGs.imp(h:PGs X es t)(k:∀v σ H Q,t' v σ H Q->t v σ H Q):PGs X es t':=λpins s σ H v u Q I r w=>h pins s σ H v u Q I r (k v σ H Q w)
def PO.imp(h:PO X o t)(k:∀σ H Q,t' σ H Q->t σ H Q):PO X o t':=λpins s σ H Q I w=>h pins s σ H Q I (k σ H Q w)
end
abbrev MG:=D->AE->AH->R AE
abbrev MGs:=List D->AE->AH->R AE
noncomputable def g2 (f:Int->Int->R D) (x y:D):R D:=match x,y with
 |.int i,.int j=>f i j
 |_,_=>.stuck
section
variable{K:W.Frag}{X:Cx}
def qR(K:W.Frag):R2:=λx y H Q=>∃a b ys,x=.ref a/\y=.ref b/\SqT K H a []/\SqT K H b ys/\Q (.ref b) H
def Ga:OpR X (binaryOp .Add) (qR X.K):=by
 intro pins s σ H x y v u Q I rx ry h;obtain⟨a,b,ys,rfl,rfl,ha,hb,q⟩:=h;cases rx;cases ry;obtain⟨its,r1,p1,_⟩:=I.tuple ha;obtain⟨its2,r2,p2,_⟩:=I.tuple hb;have e:its=[]:=r1.nil_iff.mpr rfl;subst e;obtain⟨⟨cls,dd,data,sl⟩,ho,hc,n,hd⟩:=id p1;obtain⟨⟨cls2,dd2,data2,sl2⟩,ho2,hc2,n2,hd2⟩:=id p2;simp only at hc hd hc2 hd2;subst hc hd hc2 hd2;exact concat_meets ⟨_,ho,rfl⟩ ⟨_,ho2,rfl⟩ noFill_tuple_add seq_tuple_add Pj Pf (Pc _ _)
  (tuple_addW0 _ _ _ _ n n2 dd dd2 sl sl2 rfl) ⟨ho,ho2,⟨.ref b,H,I,rfl,q⟩⟩
def ixK(h:X.K=K):IxR X (λx y H Q=>BU K x y H Q\/BI K x y H Q):=by subst h;exact Fh.or Ib
def catK(h:X.K=K):OpR X (binaryOp .Add) (λx y H Q=>yb x y H Q\/(qL K x y H Q\/qR K x y H Q)):=by subst h;exact IK.or (EM.or Ga)
end
noncomputable def Itd (lo:Int) (n:Nat):It:=⟨λj _=>j<n,λj G v G'=>G'=G/\v=.int (lo-j),λj _=>n<=j⟩
inductive AIt where
 |lst (n:Nat) (xs:List D) |tup (xs:List D) |rng (lo:Int) (k:Nat) |rgd (lo:Int) (k:Nat) |txt (x:Str) |enm (s:AIt) |zip (s t:AIt)
abbrev MI:=AE->AH->R AIt
section
variable{K:W.Frag}{X:Cx}{tg iter e a b:Expr}{I:MI}
def PI.imp(h:PI X tg iter t)(k:∀σ H Q,t' σ H Q->t σ H Q):PI X tg iter t':=λpins s σ H Q I w=>h pins s σ H Q I (k σ H Q w)
def Kk(hl:PE X l tl):PI X tg l (λσ H R=>tl σ H λx H1=>(∃a,x=.ref a/\(∃xs,SqL X.K H1 a xs)/\R (Itl X.K a) H1)\/(∃a,x=.ref a/\(∃xs,SqT X.K H1 a xs)/\R (Itt X.K a) H1)):=by
 intro pins s σ H R I h;refine thn (hl pins s σ H _ I h) λv s1 zz=>exA zz λx H1 I1 r1 q1=>?_;rcases q1 with ⟨a,e,⟨xs,hq⟩,q⟩ |⟨a,e,⟨xs,hq⟩,q⟩
 .subst e;cases r1;obtain⟨its,rv,p,hz⟩:=I1.list hq;refine wpAny_pyIter_list p.isList ?_;refine⟨s1.heap.objs.size,[s1.heap.objs.size],_,_,H1,rfl,I1.kept (t':=s1.toks) λb o e=>q_ _ e,AQ a _,⟨_,E_ _ rfl,rfl,rfl⟩,λb hb=>?_,q⟩;have e:b=s1.heap.objs.size:=by simpa using hb
  subst e;exact I1.fpOk (s_ _) (I1.hok.fresh (s_ _))
 .subst e;cases r1;obtain⟨its,rv,p,hz⟩:=I1.tuple hq;refine wpAny_pyIter_tuple (show s1.heap.IsTuple a its.toArray from p) ?_;refine⟨s1.heap.objs.size,[s1.heap.objs.size],_,_,H1,rfl,I1.kept (t':=s1.toks) λb o e=>q_ _ e,yr a _,⟨_,E_ _ rfl,rfl,rfl⟩,λb hb=>?_,q⟩;have e:b=s1.heap.objs.size:=by simpa using hb
  subst e;exact I1.fpOk (s_ _) (I1.hok.fresh (s_ _))
end
section
variable{K:W.Frag}{X:Cx}
def L7(h:X.K=K):CallR X (.builtin "len") (λxs H Q=>(∃p ys,xs=[.ref p]/\(SqL K H p ys\/SqT K H p ys)/\Q (.int ys.length) H)\/(∃z,xs=[.str z]/\z.length<=sizeLine/\Q (.int z.length) H)):=by subst h;exact sS.or uL
def HP(h:X.K=K):CallR X (.type "list") (λxs H Q=>∃p ys,xs=[.ref p]/\(SqL K H p ys\/SqT K H p ys)/\∀l,H l=none->Q (.ref l) (upd H l (.lst ys))):=by subst h;exact rB
def Gd(h:X.K=K):CallR X (.type "tuple") (λxs H Q=>∃p ys,xs=[.ref p]/\((SqL K H p ys/\∀l,H l=none->Q (.ref l) (upd H l (.tup ys)))\/(SqT K H p ys/\Q (.ref p) H))):=by subst h;exact pJ
end
inductive Cl where
 |b (n:String) |o (x:Str)
 deriving DecidableEq
def ClV(mg:Qb):Cl->Value->Prop
 |.b n,v=>v=.type n
 |.o x,v=>∃a,v=.ref a/\mg x=some (.ref a)
abbrev je:=List (Cl×Cl×Bool)
structure KitsOk(K:W.Frag)(mg:Qb)(kt:je):Prop where
 one:∀p∈kt,∀t v,ClV mg p.1 t->ClV mg p.2.1 v->W.kitOne K t v=some p.2.2
 xc:∀p∈kt,∀x C,p.1=.o x->mg x=some (.ref C)->XCls K C
noncomputable def kit (kt:je) (t c:Cl):Option Bool:=(kt.find? λp=>decide (p.1=t)&&decide (p.2.1=c)).map (·.2.2)
noncomputable def gy (kt:je) (t:Cl):List Cl->Option Bool
 | []=>some false
 |c::r=>match kit kt t c with
  |some true=>some true
  |some false=>gy kt t r
  |none=>none
def oB(e:kit kt t c=some b):(t,c,b)∈kt:=by
 unfold kit at e;cases q:kt.find? (λp=>decide (p.1=t)&&decide (p.2.1=c)) with
 |none=>rw[q] at e;cases e
 |some p=>rw[q] at e;have h1:=List.find?_some q;have h2:=List.mem_of_find?_eq_some q;simp only[u_,Ou] at h1;obtain⟨p1,p2,p3⟩:=p;have e3:p3=b:=K_ e;obtain⟨rfl,rfl⟩:=h1;subst e3;exact h2
section
variable{K:W.Frag}{mg:Qb}{X:Cx}{H:Hp}{h:AH}
def yM(ok:KitsOk K mg kt)(ht:ClV mg t tv):∀{cs:List Cl}{cvs:List Value}{b:Bool},Paired (ClV mg) cs cvs->gy kt t cs=some b->W.kitAny K tv cvs=some b:=by
 intro cs;induction cs with
 |nil=>intro cvs b r e;cases r;cases e;rfl
 |
  cons c cs ih=>
  intro cvs b r e;cases r with
  |
   cons r rr=>
   unfold gy at e;unfold W.kitAny;cases q:kit kt t c with
   |none=>rw[q] at e;cases e
   |
    some z=>
    rw[q] at e;rw[ok.one _ (oB q) _ _ ht r];cases z with
    |true=>exact e
    |false=>exact ih rr e
def yV:CallR X (.builtin "isinstance") (λxs H Q=>∃x tp cs t vs b,xs=[x,.ref tp]/\SqT X.K H tp cs/\TyX X.K H x t/\cs.mapM fS=some vs/\W.kitAny X.K t vs=some b/\Q (.bl b) H):=by intro pins s σ H xs us Q I r h;obtain⟨x,tp,cs,t,vs,b,rfl,ht,ty,hc,hk,q⟩:=h;obtain⟨u,w',rfl,rx,rc⟩:=xu r;cases rc;obtain⟨its,rv,⟨o,e,c,n,d⟩,_⟩:=I.tuple ht;obtain rfl:=pj hc rv;obtain⟨Hh,Z,p,hne⟩:=vY I rx ty;obtain⟨oc,od,odt,osl⟩:=o;have c':oc=.type "tuple":=c;have d':odt=.seq its.toArray n:=d;subst c' d';exact W.kia_tup Z I.kIn p e hk hne λtk=>⟨.bl b,H,I.tok _,rfl,q⟩
def Mu(hK:X.K=K):CallR X (.builtin "isinstance") (λxs H Q=>(∃x c t v b,xs=[x,c]/\TyX K H x t/\fS c=some v/\W.kitOne K t v=some b/\Q (.bl b) H)\/
 (∃x tp cs t vs b,xs=[x,.ref tp]/\SqT K H tp cs/\TyX K H x t/\cs.mapM fS=some vs/\W.kitAny K t vs=some b/\Q (.bl b) H)):=by subst hK;exact Dn.or yV
end
section
variable{K:W.Frag}{X:Cx}{H:Hp}{h:AH}
inductive EqsR(K:W.Frag)(H:Hp)(y:V)(pd:PyData):List V->List Bool->Prop where
 |nil:EqsR K H y pd [] []
 |cons {x:V}{px:PyData}{xs:List V}{bs:List Bool} (rx:Rep K H x px) (hx:shp px=true) (r:EqsR K H y pd xs bs):EqsR K H y pd (x::xs) (PyData.eqv px pd::bs)
def rEqs(K:W.Frag)(H:Hp)(l:Addr)(y:V)(bs:List Bool):Prop:=∃xs pd,SqL K H l xs/\Rep K H y pd/\shp pd=true/\EqsR K H y pd xs bs
def Di(I:Inv X pins σ H s)(hu:X.A.units+190<cLine)(ry:Rep X.K H y pd)(rv:RelV y v)(hy:shp pd=true):∃e:Value->Bool,∀{xs:List V}{bs:List Bool}{its:List Value},EqsR X.K H y pd xs bs->Vals xs its->its.map e=bs/\∀u∈its,SeqAt.EqAt X.A.in1 s u v (e u):=by
 classical
 obtain⟨as,q1⟩:=ry.reads I rv;refine⟨λu=>if q:∃d as,Reads s.heap u d as/\shp d=true then PyData.eqv q.choose pd else false,λ{xs bs its} r rr=>?_⟩;induction r generalizing its with
 |nil=>cases rr;exact⟨rfl,λu hu=>nomatch hu⟩
 |
  cons rx hx r ih=>
  rename_i x px xs bs;cases rr with
  |
   cons r1 rr=>
   rename_i u us;obtain⟨ih1,ih2⟩:=ih rr;obtain⟨as1,q2⟩:=rx.reads I r1;have hq:∃d as,Reads s.heap u d as/\shp d=true:=⟨px,as1,q2,hx⟩;have e1:(if q:∃d as,Reads s.heap u d as/\shp d=true then PyData.eqv q.choose pd else false)=PyData.eqv px pd:=by
    rw[dif_pos hq];obtain⟨as2,q3,hs3⟩:=hq.choose_spec
    have:=SeqAt.Reads.unique px hq.choose u _ _ (fM hx) q2 q3
    rw[<- this]
   refine⟨by rw[v_,ih1,e1],λw hw=>?_⟩;rcases G_.mp hw with rfl |hw
   .dsimp only;rw[e1];exact SeqAt.eqAt_reads px pd X.A.in1 s _ _ _ _ q2 q1 (fM hx) (fM hy) (lO hx (by have:X.A.in1.units=X.A.units+1:=rfl;rw[this];omega))
   .exact ih2 w hw
def ou(K:W.Frag):V->List V->Hp->VK->Prop:=λx vs H Q=>∃l y bs,x=.ref l/\vs=[y]/\rEqs K H l y bs/\bs.idxOf true<bs.length/\Q (.int (bs.idxOf true:Nat)) H
def EqsR.len(r:EqsR K H y pd xs bs):xs.length=bs.length:=by
 induction r with
 |nil=>rfl
 |cons _ _ _ ih=>rw[F_,F_,ih]
def Be(hu:X.A.units+190<cLine):MtM X "list.index" (ou X.K):=by
 intro pins s σ H x vs v us Q I rx rv h;obtain⟨l,y,bs,rfl,rfl,⟨xs,pd,hq,ry,hy,re⟩,hi,q⟩:=h;cases rx;obtain⟨u,rfl,ru⟩:=rv.one;obtain⟨e,he⟩:=Di I hu ry ru hy;obtain⟨its,r,⟨o,n,eo,hc,hd,hs⟩,hz⟩:=I.list hq;obtain⟨m1,m2⟩:=he re r;have a_:=r.length;have hbl:=re.len;have hn:=iX;have hj:bs.idxOf true<its.toArray.size:=by rw[z_];omega
 have eo':s.heap.get? l=some { cls:=.type "list",dict:=o.dict,data:=.seq its.toArray n,slots:=o.slots }:=by rw[eo];obtain⟨oc,od,odt,osl⟩:=o;have h1:oc=.type "list":=hc;have h2:odt=.seq its.toArray n:=hs;subst h1 h2;rfl
 have em:∀(m:Nat) (hm:m<its.toArray.size),bs[m]?=some (e its.toArray[m]):=λm hm=>by
  rw[<- m1,Nf];have:its[m]?=some its.toArray[m]:=by rw[y_ (by simpa using hm)];rfl
  rw[this];rfl
 refine Pe PySem.F.slot_list_index ⟨_,eo',rfl⟩ PySem.F.entry_list_index (PySem.F.args_list_index_2 _ _)
  (SeqAt.list_indexAt l its.toArray n o.dict o.slots u e (bs.idxOf true) hj (by omega) ?_ ?_) ⟨eo',λw hw=>m2 w (by simpa using hw),?_⟩
 .have:=em _ hj
  rw[y_ hi,List.getElem_idxOf] at this;exact (K_ this).symm
 .intro m
   hm hlt
  have:=em m hm
  have hb:m<bs.length:=by omega
  rw[y_ hb] at this;have h3
   : bs[m]≠true:=λz=>by
   have h4:bs.idxOf true<=m:=by
    have:=Pb (l:=bs) (a:=true)
    rcases Nat.lt_or_ge m (bs.idxOf true) with z' |z'
    .exact absurd z (by have h5:=List.not_of_lt_findIdx (xs:=bs) (p:=(· == true)) (i:=m) z';simpa using h5)
    .exact z'
   omega
  have h4:e its.toArray[m]=bs[m]:=(K_ this).symm;rw[h4];exact Bool.eq_false_iff.mpr h3
 .exact⟨.int _,H,I.tok _,⟨_,rfl⟩,q⟩
def JE(h:X.K=K)(hu:X.A.units+190<cLine):MtM X "list.index" (ou K):=by subst h;exact Be hu
def Room.u100(r:Room k A):A.units+190<cLine:=by have:=r.un;omega
end
abbrev MO:=AE->AH->R (Option Int)
section
variable{K:W.Frag}{X:Cx}{F:ME}{lo hi:Option Expr}
def Cv:V->Option Int->Option Int->Hp->VK->Prop:=λx lo hi H Q=>∃z,x=.str z/\z.length<=16777216/\Q (.str (Txt.slice z lo hi)) H
def HJ:SlR X Cv:=by
 intro pins s σ H x v vl vu lo hi sl Q I rx hs pl pu h;obtain⟨z,rfl,hz,q⟩:=h;obtain⟨t,rfl⟩:=rx;refine⟨"str",_,PySem.F.slot_str_getitem.lookup,typeIs_str _ _ _,?_⟩;have key:∀t' k,EP X pins σ Q (.str (Txt.slice z lo hi) t') { s with toks:=k }:=λt' k=>⟨.str (Txt.slice z lo hi),H,I.tok _,⟨_,rfl⟩,q⟩;cases pl <;> cases pu
 .exact ON (l:=none) (u:=none) (st:=none) hs rfl (PQ ⟨Nl (Txt.slice_le z _ _) hz,λt' k=>key t' k⟩)
 .exact ON (l:=none) (u:=some (_,_)) (st:=none) hs rfl (PQ ⟨Nl (Txt.slice_le z _ _) hz,λt' k=>key t' k⟩)
 .exact ON (l:=some (_,_)) (u:=none) (st:=none) hs rfl (PQ ⟨Nl (Txt.slice_le z _ _) hz,λt' k=>key t' k⟩)
 .exact ON (l:=some (_,_)) (u:=some (_,_)) (st:=none) hs rfl (PQ ⟨Nl (Txt.slice_le z _ _) hz,λt' k=>key t' k⟩)
def slK(h:X.K=K):SlR X (λx lo hi H Q=>(Cm K x lo hi H Q\/Dc K x lo hi H Q)\/Cv x lo hi H Q):=by subst h;exact (EX.or Ip).or HJ
end
def CMulA(i j:Int):Prop:=DF i j\/CMul i j
section
variable{K:W.Frag}{X:Cx}
def Iw(h:X.K=K):OpR X (binaryOp .Add) (λx y H Q=>rI0 (λi j=>.int (i+j)) x y H Q\/(yb x y H Q\/(qL K x y H Q\/qR K x y H Q))):=Im.or (catK h)
def Js:OpR X (binaryOp .Mult) (rI CMulA λi j=>.int (i*j)):=by
 intro pins s σ H x y v u Q I rx ry h;obtain⟨i,j,e1,e2,hc,q⟩:=h;rcases hc with hc |hc
 .exact Gj pins s σ H x y v u Q I rx ry ⟨i,j,e1,e2,hc,q⟩
 .exact GJ pins s σ H x y v u Q I rx ry ⟨i,j,e1,e2,hc,q⟩
end
def hU(h1:pd.canLay0=true)(h2:pd.depth<=160):shp pd=true:=by unfold shp;rw[h1,Em h2];rfl
def Sm(n:Nat)(x:Int):Prop:=x.natAbs<2^n
def Sm.mono(h:Sm n x)(l:n<=m):Sm m x:=I_ h (NG (by omega) l)
def Sm.mul(h:Sm n x)(k:Sm m y):Sm (n+m) (x*y):=by unfold Sm at *;rw[NZ,OC];exact Nat.mul_lt_mul'' h k
def Sm.bits(h:Sm n x):Builtin.Int.intBits x<=n:=intBits_le_iff.mpr h
def Sm.of_le(h:Sm n y)(l:x.natAbs<=y.natAbs):Sm n x:=OD l h
def CMulA.of(h:Sm n x)(k:Sm m y)(hn:n<=100000)(hm:m<=100000):CMulA x y:=.inl ⟨Nl h.bits hn,Nl k.bits hm⟩
def CMulA.left(h:-(2^64)<x)(k:x<2^64):CMulA x y:=.inr (.inl ⟨h,k⟩)
def CMulA.right(h:-(2^64)<y)(k:y<2^64):CMulA x y:=.inr (.inr ⟨h,k⟩)
def CDivB.of(h0:y≠0)(h:Sm 8000 y):CDivB x y:=⟨h0,h.bits⟩
structure Sz(n:Nat)(q:Rat):Prop where
 top:Sm n q.num
 bot:Sm n (q.den:Int)
def Sz.mono(h:Sz n q)(l:n<=m):Sz m q:=⟨h.top.mono l,h.bot.mono l⟩
def Ak{a b:Int}(hb:b≠0):((a:Rat)/(b:Rat)).num*b=a*((a:Rat)/(b:Rat)).den:=by
 have h2:=Rat.num_divInt_den ((a:Rat)/(b:Rat));have h3:Rat.divInt ((a:Rat)/(b:Rat)).num (((a:Rat)/(b:Rat)).den:Int)=Rat.divInt a b:=by rw[h2,Rat.divInt_eq_div]
 exact (Rat.divInt_eq_divInt_iff (by have:=((a:Rat)/(b:Rat)).den_nz;omega) hb).mp h3
def vj(q:Rat):Int.gcd q.num q.den=1:=by
 have:=q.reduced
 exact this
def lY(hb:b≠0):Fr.T a b=((a:Rat)/(b:Rat)).num/\Fr.B a b=(((a:Rat)/(b:Rat)).den:Int):=by
 refine Fr.uniq (Fr.B_pos hb) (by have:=((a:Rat)/(b:Rat)).den_pos;omega) (Fr.low hb) (vj _) ?_;have h1:=Fr.cross (a:=a) hb;have h2:=Ak (a:=a) hb;generalize ((a:Rat)/(b:Rat)).num=n at *;generalize (((a:Rat)/(b:Rat)).den:Int)=d at *;generalize Fr.T a b=x at *;generalize Fr.B a b=y at *;have h3:(x*d)*b=(n*y)*b:=by
  calc x*d*b=(x*b)*d:=by rw[Pa]
   _=a*y*d:=by rw[h1]
   _=(a*d)*y:=by rw[Pa]
   _=n*b*y:=by rw[h2]
   _=n*y*b:=by rw[Pa]
 exact O4 hb h3
def xU{a b:Int}(hb:b≠0):((a:Rat)/(b:Rat)).num.natAbs<=a.natAbs:=by
 have h:=(lY (a:=a) hb).1;rw[<- h];have h1:=Fr.T_mul (a:=a) hb;have h2:=Fr.dv_ne (a:=a) hb;have h3:(Fr.T a b).natAbs*(Fr.dv a b).natAbs=a.natAbs:=by rw[<- NZ,h1]
 have h4:1<=(Fr.dv a b).natAbs:=by omega
 calc (Fr.T a b).natAbs=(Fr.T a b).natAbs*1:=by omega
  _<=(Fr.T a b).natAbs*(Fr.dv a b).natAbs:=Od _ h4
  _=a.natAbs:=h3
def wZ{a b:Int}(hb:b≠0):((((a:Rat)/(b:Rat)).den:Int)).natAbs<=b.natAbs:=by
 have h:=(lY (a:=a) hb).2;rw[<- h];have h1:=Fr.B_mul (a:=a) hb;have h2:=Fr.dv_ne (a:=a) hb;have h3:(Fr.B a b).natAbs*(Fr.dv a b).natAbs=b.natAbs:=by rw[<- NZ,h1]
 have h4:1<=(Fr.dv a b).natAbs:=by omega
 calc (Fr.B a b).natAbs=(Fr.B a b).natAbs*1:=by omega
  _<=(Fr.B a b).natAbs*(Fr.dv a b).natAbs:=Od _ h4
  _=b.natAbs:=h3
def Sz.div(hb:b≠0)(ha:Sm n a)(hb':Sm m b)(k:Nat)(h1:n<=k)(h2:m<=k):Sz k ((a:Rat)/(b:Rat)):=
 ⟨(ha.of_le (xU hb)).mono h1,(hb'.of_le (wZ hb)).mono h2⟩
def cM(q:Rat):(q.den:Int)≠0:=by have:=q.den_nz;omega
def eA(q:Rat):q=(q.num:Rat)/((q.den:Int):Rat):=by
 have:=Rat.num_divInt_den q
 rw[Rat.divInt_eq_div] at this;exact this.symm
def gQ{b:Int}(h:b≠0):(b:Rat)≠0:=by intro z;exact h (by exact_mod_cast z)
def EH(p q:Rat):p+q=((p.num*q.den+q.num*p.den:Int):Rat)/((p.den*q.den:Int):Rat):=by
 have h1:=gQ (cM p);have h2:=gQ (cM q)
 conv=>lhs;rw[eA p,eA q]
 simp only[Rat.intCast_add,NQ];grind
def vx(p q:Rat):p*q=((p.num*q.num:Int):Rat)/((p.den*q.den:Int):Rat):=by
 have h1:=gQ (cM p);have h2:=gQ (cM q)
 conv=>lhs;rw[eA p,eA q]
 simp only[NQ];grind
def Sz.mul(hp:Sz n p)(hq:Sz m q):Sz (n+m) (p*q):=by rw[vx];exact Sz.div (by have:=cM p;have:=cM q;exact OQ ‹_› ‹_›) (hp.top.mul hq.top) (hp.bot.mul hq.bot) _ (by omega) (by omega)
def ko{q:Rat}:0<q.num ↔ 0<q:=by
 have h1:=Rat.num_nonneg (q:=q);have h2:=PL (q:=q);constructor
 .intro h;refine Rat.lt_of_le_of_ne (h1.mp (by omega)) λz=>?_
  have:=h2.mpr z.symm
  omega
 .intro h;have h3:=h1.mpr (Rat.le_of_lt h);have h4:q.num≠0:=λz=>(Rat.ne_of_lt h) (h2.mp z).symm;omega
def AS(p q:Rat):p<q ↔ p.num*q.den<q.num*p.den:=Rat.lt_iff p q
def rQ{P:Program}{w:World}{H:Hp}(h:Heap)(hb:sysModules<h.objs.size):ObjOk P w H (h.push { cls:=.type "dict",data:=.dict #[] }) h.objs.size (.dK []):=
 ⟨NM _,M_.mpr (Ne.symm (L_ hb)),[],.nil,Heap.DictOf.new h⟩
def Inv.big{X:Cx}{pins:Qc}{σ:St}{H:Hp}{s:Shared}(I:Inv X pins σ H s):sysModules<s.heap.objs.size:=by have h:mainGlobals<s.heap.objs.size:=(I.mod.glob.keeps I.bk).lt;exact PH (by decide) h
def HW:TE:=λ_ H Q=>∀p,H p=none->Q (.ref p) (upd H p (.dK []))
section
variable{X:Cx}{pos:Pos}
def B3:PE X (.Dict [] [] pos) HW:=λpins s σ H Q I h=>
 wpAny_Dict_empty ⟨.ref s.heap.objs.size,_,I.laid (a:=s.heap.objs.size) (o:=.dK []) (t':=s.toks) (λ_ _ q=>q_ _ q) (s_ _) (rQ s.heap I.big),rfl,h _ (I.hok.fresh (s_ _))⟩
end
variable{K:W.Frag}{mg:Qb}
section
variable{κ:Type}[DecidableEq κ]
noncomputable def fm (kvs:List (κ×V)) (k:κ):Option V:=(kvs.find? λkv=>decide (kv.1=k)).map (·.2)
noncomputable def dO (kvs:List (κ×V)) (k:κ) (v:V):List (κ×V):=
 if (kvs.any λkv=>decide (kv.1=k))=true then kvs.map (λkv=>if kv.1=k then (kv.1,v) else kv) else kvs++[(k,v)]
def kX{p:κ×V}{r:List (κ×V)}{k:κ}(e:p.1=k):fm (p::r) k=some p.2:=by simp [fm,NO,e]
def lB{p:κ×V}{r:List (κ×V)}{k:κ}(e:¬ p.1=k):fm (p::r) k=fm r k:=by simp [fm,NO,e]
theorem lL(k:κ):∀kvs:List (κ×V),(kvs.any λkv=>decide (kv.1=k))=(fm kvs k).isSome
 | []=>rfl
 |
  p::r=>by
  rw[N7];by_cases e:p.1=k
  .simp only[kX e,Em e,Bool.true_or,Option.isSome_some]
  .rw[lB e,w_ e,Bool.false_or];exact lL k r
def iA(kvs:List (κ×V))(k:κ)(v:V):(dO kvs k v).length<=kvs.length+1:=by
 unfold dO;split
 .rw[p_];omega
 .rw[J_,F_,Nt];omega
def CU{kvs:List (κ×V)}{k:κ}(v:V)(h:fm kvs k=none):dO kvs k v=kvs++[(k,v)]:=by unfold dO;rw[lL,h];exact if_neg (by decide)
def RelO.isSome_eq(r:RelO o u):o.isSome=u.isSome:=by
 cases o with
 |none=>cases u with
  |none=>rfl
  |some _=>exact (show False from r).elim
 |some _=>cases u with
  |none=>exact (show False from r).elim
  |some _=>rfl
def RelO.getD(r:RelO o u)(rd:RelV d d'):RelV (o.getD d) (u.getD d'):=by
 cases o with
 |none=>cases u with
  |none=>exact rd
  |some _=>exact (show False from r).elim
 |some _=>cases u with
  |none=>exact (show False from r).elim
  |some _=>exact r
def KV.val(r:KV kvs vs)(k:κ):RelO (fm kvs k) (valueAt vs k):=by
 unfold KV at r;induction r with
 |nil=>exact True.intro
 |
  @cons p q ps qs h t ih=>
  obtain⟨h1,h2⟩:=h;by_cases e:p.1=k
  .have e':q.1=k:=h1.symm.trans e;have b:valueAt (q::qs) k=some q.2:=by simp [valueAt,NO,e']
   rw[kX e,b];exact h2
  .have e':¬ q.1=k:=λz=>e (h1.trans z);have b:valueAt (q::qs) k=valueAt qs k:=by simp [valueAt,NO,e']
   rw[lB e,b];exact ih
def KV.any(r:KV kvs vs)(k:κ):(kvs.any λkv=>decide (kv.1=k))=vs.any λkv=>decide (kv.1=k):=by
 unfold KV at r;induction r with
 |nil=>rfl
 |cons h t ih=>rw[N7,N7,ih,h.1]
def KV.repl(r:KV kvs vs)(k:κ)(ry:RelV y u):
 KV (kvs.map λkv=>if kv.1=k then (kv.1,y) else kv) (vs.map λkv=>if kv.1=k then (kv.1,u) else kv):=by
 unfold KV at r ⊢;induction r with
 |nil=>exact .nil
 |
  @cons p q ps qs h t ih=>
  rw[v_,v_];refine .cons ?_ ih;obtain⟨h1,h2⟩:=h;by_cases e:p.1=k
  .rw[if_pos e,if_pos (h1.symm.trans e)];exact⟨h1,ry⟩
  .rw[if_neg e,if_neg (λz=>e (h1.trans z))];exact⟨h1,h2⟩
def KV.put(r:KV kvs vs)(k:κ)(ry:RelV y u):KV (dO kvs k y) (stored vs k u):=by
 unfold dO stored;rw[r.any k];by_cases e:(vs.any λkv=>decide (kv.1=k))=true
 .rw[if_pos e,if_pos e];exact r.repl k ry
 .rw[if_neg e,if_neg e];exact Paired.snoc r ⟨rfl,ry⟩
def KV.length(r:KV kvs vs):kvs.length=vs.length:=P7 r
end
def m5(r:RelV (kV k) u):(bu P w).is k u=true:=by
 cases k with
 |inl i=>obtain⟨t,e⟩:=(show ∃t,u=Value.int i t from r);subst e;exact u4 P w i t
 |inr x=>obtain⟨t,e⟩:=(show ∃t,u=Value.str x t from r);subst e;exact uN P w x t
theorem pf:∀{ks:List Key}{us:List Value},Vals (ks.map kV) us->ItemsAre (bu P w) ks us
 | [],_,r=>by rw[Nz] at r;cases r;exact .nil
 |
  k::ks,_,r=>by
  rw[v_] at r;cases r with
  |cons h t=>exact .cons (m5 h) (pf t)
abbrev KT(H:Hp):List (List Key×V)->List (List Key×Addr×Value)->Prop:=Paired λp q=>p.1=q.1/\H q.2.1=some (.tup (p.1.map kV))/\RelV p.2 q.2.2
def KT.val(r:KT H kvs xs)(k:List Key):RelO (fm kvs k) ((atKey xs k).map (·.2)):=by
 induction r with
 |nil=>exact True.intro
 |
  @cons p q ps qs h t ih=>
  obtain⟨h1,_,h2⟩:=h;by_cases e:p.1=k
  .have e':q.1=k:=h1.symm.trans e;have b:atKey (q::qs) k=some q.2:=by simp [atKey,NO,e']
   rw[kX e,b];exact h2
  .have e':¬ q.1=k:=λz=>e (h1.trans z);have b:atKey (q::qs) k=atKey qs k:=by simp [atKey,NO,e']
   rw[lB e,b];exact ih
def KT.repl(r:KT H kvs xs)(k:List Key)(ry:RelV y u):
 KT H (kvs.map λkv=>if kv.1=k then (kv.1,y) else kv) (xs.map (putAt k u)):=by
 induction r with
 |nil=>exact .nil
 |
  @cons p q ps qs h t ih=>
  rw[v_,v_];refine .cons ?_ ih;obtain⟨h1,h2,h3⟩:=h;unfold putAt;by_cases e:p.1=k
  .rw[if_pos e,if_pos (h1.symm.trans e)];exact⟨h1,h2,ry⟩
  .rw[if_neg e,if_neg (λz=>e (h1.trans z))];exact⟨h1,h2,h3⟩
def KT.put(r:KT H kvs xs)(k:List Key)(hb:H b=some (.tup (k.map kV)))(ry:RelV y u):
 KT H (dO kvs k y) (storedH xs k b u):=by
 have e:(kvs.any λkv=>decide (kv.1=k))=(atKey xs k).isSome:=by rw[lL,(r.val k).isSome_eq,Option.isSome_map]
 unfold dO storedH;rw[e];by_cases q:(atKey xs k).isSome=true
 .rw[if_pos q,if_pos q];exact r.repl k ry
 .rw[if_neg q,if_neg q];exact Paired.snoc r ⟨rfl,hb,ry⟩
def KT.keeps(r:KT H kvs xs)(ht:∀b ys,H b=some (.tup ys)->H' b=some (.tup ys)):KT H' kvs xs:=
 Paired.mapP r λ_ _ z=>⟨z.1,ht _ _ z.2.1,z.2.2⟩
section
variable{P:Program}{w:World}{H:Hp}{h:Heap}{a:Addr}
def Dy(ok:HOk P w H h)(e:Rd H a u):ObjOk P w H h a u:=e.ok ok
def nu(ok:HOk P w H h)(e:Rd H a (.dK kvs)):kvs.length<=sizeLine/\(a==sysModules)=false/\∃vs,KV kvs vs/\h.DictOf (bu P w) a vs:=
 show ObjOk P w H h a (.dK kvs) from Dy ok e
def Ea(ok:HOk P w H h)(e:H a=some (.dK kvs)):kvs.length<=sizeLine/\(a==sysModules)=false/\∃vs,KV kvs vs/\h.DictOf (bu P w) a vs:=nu ok (.inl e)
def mi(ok:HOk P w H h)(e:H a=some (.tup (ks.map kV))):(tupleKind (bu P w)).is h ks a:=by obtain⟨_,its,r,o,h1,h2,n,h3⟩:=(show ObjOk P w H h a (.tup (ks.map kV)) from ok a _ e);exact⟨o,its.toArray,n,h1,h2,h3,by simpa using pf r⟩
def mS(ok:HOk P w H h)(e:Rd H a (.dT kvs)):kvs.length<=sizeLine/\(a==sysModules)=false/\
 ∃xs,KT H kvs xs/\h.DictOfH (tupleKind (bu P w)) a xs:=by
 obtain⟨z,y,xs,r,o,es,ep,h1,h2,h3,h4,h5⟩:=(show ObjOk P w H h a (.dT kvs) from Dy ok e);refine⟨z,y,xs,r,o,es,ep,h1,h2,h3,h4,λx hx=>?_,h5⟩;have all:∀{l:List (List Key×V)}{m:List (List Key×Addr×Value)},KT H l m->∀x∈m,(tupleKind (bu P w)).is h x.1 x.2.1:=by
  intro l m q;induction q with
  |nil=>intro x hx;exact nomatch hx
  |
   @cons p q ps qs hq t ih=>
   intro x hx;rcases G_.mp hx with e |hx
   .subst e;exact mi ok (by rw[<- hq.1];exact hq.2.1)
   .exact ih x hx
 exact all r x hx
def LX(ok:HOk P w H h)(e:H a=some (.dT kvs)):kvs.length<=sizeLine/\(a==sysModules)=false/\
 ∃xs,KT H kvs xs/\h.DictOfH (tupleKind (bu P w)) a xs:=mS ok (.inl e)
end
def DGet(H:Hp)(a:Addr)(y:V)(r:Option V):Prop:=
 (∃kvs k,Rd H a (.dK kvs)/\y=kV k/\r=fm kvs k)\/∃kvs k b,Rd H a (.dT kvs)/\y=.ref b/\H b=some (.tup (k.map kV))/\r=fm kvs k
def DPut(H:Hp)(a:Addr)(y v:V)(H':Hp):Prop:=
 (∃kvs k,H a=some (.dK kvs)/\y=kV k/\kvs.length<sizeLine/\H'=upd H a (.dK (dO kvs k v)))\/
 ∃kvs k b,H a=some (.dT kvs)/\y=.ref b/\H b=some (.tup (k.map kV))/\kvs.length<sizeLine/\H'=upd H a (.dT (dO kvs k v))
def DGet.k{H:Hp}{a:Addr}{kvs:List (Key×V)}{k:Key}(e:H a=some (.dK kvs)):DGet H a (kV k) (fm kvs k):=.inl ⟨kvs,k,.inl e,rfl,rfl⟩
def DPut.k{H:Hp}{a:Addr}{kvs:List (Key×V)}{k:Key}{v:V}(e:H a=some (.dK kvs))(hl:kvs.length<sizeLine):DPut H a (kV k) v (upd H a (.dK (dO kvs k v))):=.inl ⟨kvs,k,e,rfl,hl,rfl⟩
section
variable{X:Cx}{pins:Qc}{σ:St}{H:Hp}{s:Shared}{a:Addr}{y v:V}{u r:Value}{o:Option V}{A:Around}{E:Qd}
def zV(hu:A.units+1<cLine)(I:Inv X pins σ H s)(g:DGet H a y (some v))(ry:RelV y u)(h:∀w' s',Inv X pins σ H s'->RelV v w'->Q w' s'):
 wpAny (model X.prog X.w) A (getItem (.ref a) u) Q E s:=by
 rcases g with ⟨kvs,k,e,ey,l⟩ |⟨kvs,k,b,e,ey,eb,l⟩
 .subst ey;obtain⟨z,hd,vs,rel,dd⟩:=nu I.hok e;obtain⟨w',hw,rw'⟩:=RelO.some_of (v:=v) (o:=valueAt vs k) (by rw[l];exact rel.val k);exact wpAny_getItem_of (m5 ry) dd.mapOf hw (h w' _ (I.tok _) rw')
 .subst ey;cases (show u=Value.ref b from ry);obtain⟨z,hd,xs,rel,dd⟩:=mS I.hok e;obtain⟨w',hw,rw'⟩:=RelO.some_of (v:=v) (o:=(atKey xs k).map (·.2)) (by rw[l];exact rel.val k);obtain⟨p,hp,hp2⟩:=Nd.mp hw;refine wpAny_getItem_heap (tupleKind_room_in1 hu) (mi I.hok eb) dd hp ?_;rw[hp2];exact h w' _ (I.tok _) rw'
def n6(I:Inv X pins σ H s)(mu:Mut (H a))(hs:Heap.SameBut a s.heap h')(he:∃q,h'.get? a=some q)(new:ObjOk X.prog X.w (upd H a ob) h' a ob):
 Inv X pins σ (upd H a ob) { s with heap:=h',toks:=t' }:=
 I.write (x:=a) (e:=a) mu (.inl rfl) (λb q hb z=>(hs.2 b hb).trans z) he new
def Ax(z:kvs.length<=sizeLine)(hd:(a==sysModules)=false)(rel:KV kvs vs)(dd:h'.DictOf (bu P w) a vs):
 ObjOk P w H' h' a (.dK kvs):=⟨z,hd,vs,rel,dd⟩
def AV(hu:A.units+1<cLine)(I:Inv X pins σ H s)(g:DPut H a y v H')(ry:RelV y u)(rv:RelV v r)(h:∀s',Inv X pins σ H' s'->Q () s'):
 wpAny (model X.prog X.w) A (setItem (.ref a) u r) Q E s:=by
 rcases g with ⟨kvs,k,e,ey,l,eH⟩ |⟨kvs,k,b,e,ey,eb,l,eH⟩
 .subst ey eH;obtain⟨z,hd,vs,rel,dd⟩:=Ea I.hok e;have hz:vs.length<=sizeLine:=by rw[<- rel.length];exact z
  have hl:(dO kvs k v).length<=sizeLine:=by have:=iA kvs k v;omega
  refine wpAny_setItem_pairs (hsz:=hz) (m5 ry) dd λh' dd' hs=>h _ ?_;have he:∃q,h'.get? a=some q:=let ⟨q,_,_,hq,_⟩:=dd';⟨q,hq⟩;exact n6 I (by rw[e];exact True.intro) hs he (Ax hl hd (rel.put k rv) dd')
 .subst ey eH;cases (show u=Value.ref b from ry);obtain⟨z,hd,xs,rel,dd⟩:=LX I.hok e;have hz:xs.length<=sizeLine:=by rw[<- P7 rel];exact z
  have hl:(dO kvs k v).length<=sizeLine:=by have:=iA kvs k v;omega
  refine wpAny_setItem_heap (hsz:=hz) (tupleKind_room_in1 hu) (mi I.hok eb) dd λh' dd' hs=>h _ ?_;obtain⟨q,es,ep,hq,h2,h3,h4,_,h5⟩:=dd';refine n6 I (by rw[e];exact True.intro) hs ⟨q,hq⟩ ⟨hl,hd,_,(rel.put k eb rv).keeps λc ys ec=>?_,q,es,ep,hq,h2,h3,h4,h5⟩;rw[aA (LY ec e (λz=>nomatch z))];exact ec
end
def xb(i:Expr):Prop:=∀ov iv,subscripted i false ov iv=operate [ov,iv] (getItem ov iv)
def Gw{prog:Program}{w:World}{A:Around}{E:Qd}{s:Shared}{env:Env}{value slice:Expr}{pos:Pos}{T id:String}{Q:Qd}
 (hl:typeLookup (.type T) "__getitem__"=pure (some (.builtin id))) (hs:xb slice)
 (h:wpAny (model prog w) A (eval value env) (λo s₁=>wpAny (model prog w) A (eval slice env) (λi s₂=>s₂.TypeIs o T/\wpAny (model prog w) A (getItem o i) Q E s₂) E s₁) E s):
 wpAny (model prog w) A (eval (.Subscript value slice pos) env) Q E s:=by
 refine Subscript_ (Nu h (λo s₁ h₁=>Nu h₁ (λi s₂ h₂=>?_) λ_ _ x=>x) λ_ _ x=>x);obtain⟨hT,h₂⟩:=h₂;unfold subscriptTail;refine o_ ?_;rw[getitemInPython_of_ne hT.not_modules];refine o_ (wpAny_specialOf hT hl ?_);have f_:wpAny (model prog w) A (subscripted slice false o i) (λr s₃=>wpAny (model prog w) A (letTemporaryGo value o r >>= λ_=>pure r) Q E s₃) E s₂:=by rw[hs o i];exact wpAny_operating (Nu h₂ (λr s₃ h₃=>o_ (wpAny_letTemporaryGo (B_ h₃))) λ_ _ x=>x)
 first
  |exact B_ (o_ f_)
  |exact o_ (B_ (o_ f_))
  |exact o_ f_
def uT(I:Inv X pins σ H s)(g:DGet H a y o):s.TypeIs (.ref a) "dict":=by
 rcases g with ⟨kvs,k,e,_,_⟩ |⟨kvs,k,b,e,_,_,_⟩
 .obtain⟨_,_,vs,_,dd⟩:=nu I.hok e;exact dd.typeIs
 .obtain⟨_,_,xs,_,dd⟩:=mS I.hok e;exact dd.typeIs
def Kx(td ty:TE):TE:=λσ H Q=>td σ H λx H1=>ty σ H1 λy H2=>∃a v,x=.ref a/\DGet H2 a y (some v)/\Q v H2
section
variable{X:Cx}{o i:Expr}{pos:Pos}{td ty:TE}
def vt(hu:X.A.units+1<cLine)(ho:PE X o td)(hi:PE X i ty)(hs:xb i):PE X (.Subscript o i pos) (Kx td ty):=by intro pins s σ H Q I h;refine Gw PySem.F.slot_dict_getitem.lookup hs (thn (ho pins s σ H _ I h) λu s1 zz=>exA zz λx H1 I1 rx q1=>thn (hi pins s1 σ H1 _ I1 q1) λiv s2 ⟨y,H2,I2,ry,a,v,ex,g,q2⟩=>?_);subst ex;obtain rfl:u=Value.ref a:=rx;exact⟨uT I2 g,zV hu I2 g ry λw' s3 I3 rw'=>⟨v,H2,I3,rw',q2⟩⟩
end
def mj:List (TE×TE)->St->Hp->(List (V×V)->Hp->Prop)->Prop
 | [],_,H,Q=>Q [] H
 |(tk,tv)::r,σ,H,Q=>tk σ H λx H1=>tv σ H1 λy H2=>mj r σ H2 λps H3=>Q ((x,y)::ps) H3
abbrev VV:List (V×V)->List (Value×Value)->Prop:=Paired λp q=>RelV p.1 q.1/\RelV p.2 q.2
def PPs(X:Cx)(pos:Pos)(keys:List (Option Expr))(values:List Expr)(trs:List (TE×TE)):Prop:=
 ∀
  (pins:Qc) (s:Shared) (σ:St) (H:Hp) (Q:List (V×V)->Hp->Prop),Inv X pins σ H s->mj trs σ H Q->
  wpAny (model X.prog X.w) X.A (evalPairs (pairTrees keys values X.env pos)) (λvs s'=>∃ps H',Inv X pins σ H' s'/\VV ps vs/\Q ps H') X.xe s
def F5:PPs X pos [] [] []:=λpins s σ H Q I h=>pairTrees_nil_walk ⟨[],H,I,.nil,h⟩
def Bg(hk:PE X k tk)(hv:PE X v tv)(hr:PPs X pos ks vs trs):
 PPs X pos (some k::ks) (v::vs) ((tk,tv)::trs):=λpins s σ H Q I h=>
 pairTrees_cons_walk (thn (hk pins s σ H _ I h) λu s1 zz=>exA zz λx H1 I1 rx q1=>thn (hv pins s1 σ H1 _ I1 q1) λw2 s2 zz=>exA zz λy H2 I2 ry q2=>
  thn (hr pins s2 σ H2 _ I2 q2) λws s3 zz=>exA zz λps H3 I3 rel q3=>⟨(x,y)::ps,H3,I3,.cons ⟨rx,ry⟩ rel,q3⟩)
noncomputable def gN (kvs more:List (Key×V)):List (Key×V):=more.foldl (λacc kv=>dO acc kv.1 kv.2) kvs
def KV.merge:∀{more:List (Key×V)}{rs:List (Key×Value)}{kvs:List (Key×V)}{vs:List (Key×Value)},KV more rs->KV kvs vs->KV (gN kvs more) (merged vs rs):=by
 intro more rs kvs vs r;unfold KV at r;induction r generalizing kvs vs with
 |nil=>intro q;exact q
 |
  @cons p q ps qs h t ih=>
  intro r0;have e:KV (dO kvs p.1 p.2) (stored vs q.1 q.2):=by
   have:=r0.put p.1 h.2
   rw[<- h.1];exact this
  exact ih e
theorem jF:∀(more kvs:List (Key×V)),(gN kvs more).length<=kvs.length+more.length
 | [],kvs=>by show kvs.length<=kvs.length+0;omega
 |
  p::r,kvs=>by
  have h1:=jF r (dO kvs p.1 p.2);have h2:=iA kvs p.1 p.2;show (gN (dO kvs p.1 p.2) r).length<=_;rw[F_];omega
theorem mV:∀{kvs:List (Key×V)}{ws:List (Value×Value)},VV (kvs.map λkv=>(kV kv.1,kv.2)) ws->∃rs,Carries (bu P w) ws rs/\KV kvs rs
 | [],_,r=>by rw[Nz] at r;cases r;exact⟨[],True.intro,.nil⟩
 |
  p::kvs,_,r=>by
  rw[v_] at r;cases r with
  |@cons a b as bs h t=>obtain⟨rs,c,q⟩:=mV (P:=P) (w:=w) t;obtain⟨b1,b2⟩:=b;exact⟨(p.1,b2)::rs,⟨m5 h.1,rfl,c⟩,.cons ⟨rfl,h.2⟩ q⟩
def Lw(trs:List (TE×TE)):TE:=λσ H Q=>∀p,H p=none->mj trs σ (upd H p (.dK [])) λps H2=>H2 p=some (.dK [])/\∃kvs:List (Key×V),ps=kvs.map (λkv=>(kV kv.1,kv.2))/\kvs.length<=15/\Q (.ref p) (upd H2 p (.dK (gN [] kvs)))
def EF(h:PPs X pos keys values trs)(hall:keys.all (·.isSome)=true)(hl:keys.length=values.length)(h0:keys≠[])
 (h15:keys.length<=15):PE X (.Dict keys values pos) (Lw trs):=by
 intro pins s σ H Q I q;have hn:=I.hok.fresh (s_ s.heap.objs.size);have I1:=I.laid (a:=s.heap.objs.size) (o:=.dK []) (h':=s.heap.push { cls:=.type "dict",data:=.dict #[] }) (t':=s.toks) (λ_ _ q=>q_ _ q) (s_ _) (rQ s.heap I.big);refine wpAny_Dict_walk (knd:=bu X.prog X.w) hall hl h0 h15 (thn (h pins _ σ _ _ I1 (q _ hn)) λws s2 ⟨ps,H2,I2,rel,e,kvs,ep,lk,q2⟩=>?_);subst ep;obtain⟨rs,c,rk⟩:=mV (P:=X.prog) (w:=X.w) rel;obtain⟨z,hd,vs0,r0,dd⟩:=Ea I2.hok e;cases r0;refine⟨rs,c,dd,λh' dd' hs=>⟨.ref s.heap.objs.size,_,?_,rfl,q2⟩⟩;have hz:(gN [] kvs).length<=sizeLine:=by have h1:=jF kvs [];rw[Nt] at h1;rw[sizeLine_eq];omega
 have he:∃q,h'.get? s.heap.objs.size=some q:=let ⟨q,_,_,hq,_⟩:=dd';⟨q,hq⟩;exact n6 I2 (by rw[e];exact True.intro) hs he (Ax hz hd (rk.merge .nil) dd')
structure M2(X:Cx)(o:Expr)(m:Str)(apos:Pos)(e f:Expr)(cpos:Pos):Prop where
 base:attributeBase o m X.env (eval o X.env)=eval o X.env
 few:((backTo cpos (starEach [e,f] X.env)).all (λx=>!x.1)&&(backToKw cpos (keywordEach [] X.env)).all (λx=>x.1.isSome)
  && decide (([e,f]:List Expr).length+([]:List Keyword).length+(if ([]:List Keyword).isEmpty then 0 else 1)<30))=true
 line:(apos.endLine==cpos.line)=true
 trees:backTo cpos (starEach [e,f] X.env)=[(false,eval e X.env),(false,eval f X.env)]
def IsD(H:Hp)(a:Addr):Prop:=(∃kvs,Rd H a (.dK kvs))\/∃kvs,Rd H a (.dT kvs)
def Iu(I:Inv X pins σ H s)(d:IsD H a):
 s.TypeIs (.ref a) "dict" /\ (∀b,Value.ref a=.ref b->∃ob,s.heap.get? b=some ob/\ob.dict=none)/\(a==sysModules)=false:=by
 rcases d with ⟨kvs,e⟩ |⟨kvs,e⟩
 .obtain⟨_,hd,vs,_,dd⟩:=nu I.hok e;refine⟨dd.typeIs,λb q=>?_,hd⟩;cases q;obtain⟨ob,_,_,h1,h2,_⟩:=dd;exact⟨ob,h1,h2.2.1⟩
 .obtain⟨_,hd,xs,_,dd⟩:=mS I.hok e;refine⟨dd.typeIs,λb q=>?_,hd⟩;cases q;obtain⟨ob,_,_,h1,h2,_⟩:=dd;exact⟨ob,h1,h2.2.1⟩
section
variable{X:Cx}{pins:Qc}{σ:St}{H:Hp}{s:Shared}{a:Addr}{y d:V}{u r:Value}{o:Option V}{A:Around}{E:Qd}
def IW(hu:A.units+1<cLine)(I:Inv X pins σ H s)(g:DGet H a y o)(ry:RelV y u)(rd:RelV d r)(h:∀w' s',Inv X pins σ H s'->RelV (o.getD d) w'->Q w' s'):
 wpAny (model X.prog X.w) A (call (.builtin "dict.get") [.ref a,u,r]) Q E s:=by
 rcases g with ⟨kvs,k,e,ey,l⟩ |⟨kvs,k,b,e,ey,eb,l⟩
 .subst ey;obtain⟨z,hd,vs,rel,dd⟩:=nu I.hok e;refine call_meetsIn Pu dd.typeIs PySem.F.entry_dict_get (PySem.F.args_dict_get_3 _ _ _) (meets_dict_get_default (bu X.prog X.w) a (m5 ry) hd r) ⟨_,dd.mapOf,h _ _ (I.tok _) ?_⟩;rw[l];exact (rel.val k).getD rd
 .subst ey;cases (show u=Value.ref b from ry);obtain⟨z,hd,xs,rel,dd⟩:=mS I.hok e;refine call_meetsIn Pu dd.typeIs PySem.F.entry_dict_get (PySem.F.args_dict_get_3 _ _ _) (meetsH_dict_get_default (tupleKind (bu X.prog X.w)) a b hd r) ⟨tupleKind_room_in1 hu,k,xs,mi I.hok eb,dd,h _ _ (I.tok _) ?_⟩;rw[l];exact (rel.val k).getD rd
end
def He(td ty tx:TE):TE:=λσ H Q=>td σ H λx H1=>∃a,x=.ref a/\IsD H1 a/\ty σ H1 λy H2=>tx σ H2 λz H3=>∃o,DGet H3 a y o/\Q (o.getD z) H3
section
variable{X:Cx}{o e f:Expr}{apos cpos:Pos}{td ty tx:TE}
def Cg(hu:X.A.units+1<cLine)(ho:PE X o td)(he:PE X e ty)(hf:PE X f tx)(m:M2 X o "get" apos e f cpos):PE X (.Call (.Attribute o "get" apos) [e,f] [] cpos) (He td ty tx):=by
 intro pins s σ H Q I h;refine wpAny_Call_method m.base m.few m.line PySem.F.plainAttrs_dict Pu PySem.F.type_dict_get (thn (ho pins s σ H _ I h) λu s1 ⟨x,H1,I1,rx,a,ex,d,q1⟩=>?_);subst ex;obtain rfl:u=Value.ref a:=rx;obtain⟨t1,t2,_⟩:=Iu I1 d;refine⟨t1,t2,?_⟩;rw[m.trees];refine Ph rfl (Px (N5 (thn (he pins s1 σ H1 _ I1 q1) λiv s2 zz=>exA zz λy H2 I2 ry q2=>
  N5 (thn (hf pins s2 σ H2 _ I2 q2) λfv s3 ⟨z,H3,I3,rz,ov,g,q3⟩=>OM ?_))))
 exact IW hu I3 g ry rz λw' s4 I4 rw'=>⟨_,H3,I4,rw',q3⟩
end
section
variable[DecidableEq κ]
noncomputable def lkD (kvs:List (κ×α)) (k:κ):Option α:=(kvs.find? λkv=>decide (kv.1=k)).map (·.2)
noncomputable def eV (kvs:List (κ×α)) (k:κ) (v:α):List (κ×α):=if (kvs.any λkv=>decide (kv.1=k))=true then kvs.map λkv=>if kv.1=k then (kv.1,v) else kv else kvs++[(k,v)]
end
section
variable{H:Hp}
def Cw[DecidableEq κ]:∀{kvs:List (κ×α)}{ws:List (κ×β)},ws.map (·.1)=kvs.map (·.1)->(ws.any λkv=>decide (kv.1=k))=kvs.any λkv=>decide (kv.1=k):=by
 intro kvs;induction kvs with
 |
  nil=>
  intro ws e;cases ws with
  |nil=>rfl
  |cons _ _=>cases e
 |
  cons p kvs ih=>
  intro ws e;cases ws with
  |nil=>cases e
  |cons w ws=>rw[v_,v_] at e;injection e with e1 e2;rw[N7,N7,ih e2,e1]
def yu:tF:=λo i v H Q=>∃a H4,o=.ref a/\DPut H a i v H4/\Q H4
variable{X:Cx}{a:Expr}
def tM(hu:X.A.units+1<cLine):Cu X yu:=λpins s σ H o i v ov iv u Q I ro ri rv ⟨a,H4,eo,g,q⟩=>by subst eo;obtain rfl:ov=Value.ref a:=ro;exact AV hu I g ri rv λs4 I4=>⟨H4,I4,q⟩
theorem uC:∀(more acc:List (Key×V)),((acc++more).map (·.1)).Nodup->gN acc more=acc++more
 | [],acc,_=>(Nv _).symm
 |
  (k,v)::more,acc,h=>by
  show gN (dO acc k v) more=_;have hk:fm acc k=none:=by unfold fm;rw[Option.map_eq_none_iff,List.find?_eq_none];intro p hp z;have z:=Oa z;rw[NC,List.nodup_append] at h;exact h.2.2 p.1 (PZ hp) k (t_ ..) z
  rw[CU v hk,uC more (acc++[(k,v)]) (by rw[OX];exact h),OX];rfl
theorem tI:∀(ks:List Str) (vs:List V),(ks.map V.str).zip vs=((ks.map Sum.inr).zip vs).map λkv:Key×V=>(kV kv.1,kv.2)
 | [],_=>rfl
 |_::_,[]=>rfl
 |
  k::ks,v::vs=>by
  show (V.str k,v)::(ks.map V.str).zip vs=_;rw[tI ks vs];rfl
end
open PySem PySem.Spec PySem.Calls PyProof.Rows
section
variable{X:Cx}{K:W.Frag}{es:List Expr}{pos:Pos}
def gUnp(K:W.Frag)(n:Nat)(t:TGs):TG:=λv σ H Q=>∃a xs,v=.ref a/\(SqT K H a xs\/SqL K H a xs)/\xs.length=n/\t xs σ H Q
def J5{k:Nat}{t:TGs}{n:Nat}(hc:X.calm=true)(h:PGs X es t)
 (hn:(assignEach es X.env).length=n) (hst:(assignEach es X.env).findIdx? (·.1)=none):PG X (.Tuple es k pos) (gUnp X.K n t):=by
 intro pins s σ H v u Q I r hw;obtain⟨a,xs,e1,hq,hl,hw⟩:=hw;rcases hq with hq |hq
 .exact yX hc h hn hst pins s σ H v u Q I r ⟨a,xs,e1,hq,hl,hw⟩
 .subst e1;cases r;obtain⟨its,rv,⟨o,m,ho,oc,od,os⟩,hz⟩:=I.list hq;have ht:s.heap.IsList a its.toArray:=⟨o,ho,oc,m,os⟩;rw[assign_Tuple];refine o_ (O5 ?_);unfold unpack;rw[hst,hn,show n=its.toArray.size by simp [<- hl,rv.length]];refine o_ (Of (W.kun_itemsOf (I.ok.hd hc) ht λh' hx=>?_));have I1:Inv X pins σ H { s with heap:=h' }:=I.kept (t':=s.toks) λb o e=>hx b o (L_ (A_ e)) e;exact h pins _ σ H xs _ Q I1 (by simpa using rv) hw
end
section
variable{X:Cx}{mg:Qb}{a:Expr}{pos q2 p1 p2:Pos}
noncomputable def hZ (j:Int):List V:=(List.range j.toNat).map λi=>V.int ((i:Nat):Int)
def rLrg:List V->Hp->VK->Prop:=λxs H Q=>∃j:Int,xs=[.int j]/\-(2^62)<=j/\j<=16777216/\∀l,H l=none->Q (.ref l) (upd H l (.lst (hZ j)))
theorem vH:∀(n:Nat) (f:Nat->Int) (is:List Nat) (ys:List Value),CarriedAll ys (is.map λi=>PyData.int (f i))->Vals (is.map λi=>V.int (f i)) ys
 |n,f,[],ys,h=>by cases h;exact .nil
 |
  n,f,i::is,ys,h=>by
  cases h with
  |cons c r=>cases c;exact .cons ⟨_,rfl⟩ (vH n f is _ r)
def Je(hc:X.calm=true)(hl:Gl X "list")(hml:X.mg "list"=none)(hg:Gl X "range")(hm:X.mg "range"=none)(ha:PA X [a] ta)(hs:starEach [a] X.env=[(false,eval a X.env)])
 (hs1:starEach [.Call (.Name "range" p2) [a] [] q2] X.env=[(false,eval (.Call (.Name "range" p2) [a] [] q2) X.env)]):
 PE X (.Call (.Name "list" p1) [.Call (.Name "range" p2) [a] [] q2] [] pos) (tCB rLrg ta):=by
 intro pins s σ H Q I h;refine NR (cL I hl hml (show bootBuiltins "list"=some (.type "list") from rfl) ?_ (by decide) (by decide));refine Np ?_ hs1 rfl;rw[hs1];show wpAny _ _ (spliced ((false,eval (.Call (.Name "range" p2) [a] [] q2) X.env)::[])) _ _ s;refine N5 ?_;refine NR (cL I hg hm (show bootBuiltins "range"=some (.type "range") from rfl) ?_ (by decide) (by decide));refine Np (thn (ha q2 pins s σ H _ I h) λus s1 zz=>exA zz λvs H1 I1 r1 q1=>?_) hs rfl;obtain⟨j,e,h1,h2,q⟩:=q1;subst e;cases r1 with
 |
  cons r rr=>
  cases rr;obtain⟨t,rfl⟩:=r;refine call_range_1 (OM ?_);have I2:Inv X pins σ H1 { s1 with heap:=s1.heap.push { cls:=.type "range",data:=.fields #[.int 0 s1.toks,.int j t,.int 1 (s1.toks+1)] },toks:=s1.toks+1+1 }:=I1.kept λb o e=>q_ _ e;obtain⟨m,hns,_⟩:=I2.loc;refine list_rangeD (I.ok.hd hc) (Att.fr_all hns) (news:=[]) (λp hp=>nomatch hp) (P4 ..) (small_one (by omega) (by omega) (by omega) (by omega)) (n:=j.toNat) (by rw[P_];split <;> omega) (by omega) ?_;intro h' tk ys hf hn hk _ _ ⟨⟨c,hpl⟩,_⟩ hcar;have rv:Vals (hZ j) ys:=vH 0 (λi=>((i:Nat):Int)) (List.range j.toNat) ys (by
   unfold rangeInts at hcar;rw[NV] at hcar;have e:((λi=>PyData.int i) ∘ λ(i:Nat)=>(0:Int)+(i:Int)*1)=λi:Nat=>PyData.int (i:Int):=by funext i;simp
   rw[show (PyData.int ∘ λ(i:Nat)=>(0:Int)+(i:Int)*1)=λi:Nat=>PyData.int (i:Int) from e] at hcar;exact hcar)
  have hz:(hZ j).length<=sizeLine:=by unfold hZ;rw[p_,C_];have:sizeLine=16777216:=rfl;omega
  exact⟨.ref _,_,I2.laid (t':=tk) hk (s_ _) (show ObjOk X.prog X.w _ h' _ (.lst (hZ j)) from ⟨hz,ys,c,rv,hpl⟩),rfl,q _ (I2.hok.fresh (s_ _))⟩
end
section
variable{X:Cx}
def Mw:List V->Hp->VK->Prop:=λxs H Q=>xs=[]/\∀l,H l=none->Q (.ref l) (upd H l (.set (λ_=>false) 0))
def yD:R2:=λx y H Q=>∃i a S n,x=.int i/\y=.ref a/\H a=some (.set S n)/\Q (.bl (S i)) H
def C2:OpR X (compareOp .In) yD:=by intro pins s σ H x y v u Q I rx ry h;obtain⟨i,a,S,n,rfl,rfl,hH,q⟩:=h;obtain⟨t,rfl⟩:=rx;cases ry;have hS:s.heap.SetOf (intKind X.prog X.w) a S n:=I.hok a _ hH;exact wpAny_inSet_of (intKind_is _ _ i t) rfl hS ⟨.bl (S i),H,I.tok _,rfl,q⟩
def EE:V->List V->Hp->VK->Prop:=λx vs H Q=>∃a i S n,x=.ref a/\vs=[.int i]/\H a=some (.set S n)/\n<4000/\Q .non (upd H a (.set (λk=>S k || decide (k=i)) (if S i then n else n+1)))
def yF:MtM X "set.add" EE:=by intro pins s σ H x vs v us Q I rx rv h;obtain⟨a,i,S,n,rfl,rfl,hH,hn,q⟩:=h;cases rx;obtain⟨u,rfl,ru⟩:=rv.one;obtain⟨t,rfl⟩:=ru;have hS:s.heap.SetOf (intKind X.prog X.w) a S n:=I.hok a _ hH;refine call_set_add (intKind_is _ _ i t) rfl hS (by unfold scanBound;omega) λh' sb hS'=>?_;refine⟨.non,_,I.write (x:=a) (e:=a) (by rw[hH];exact trivial) (.inl rfl) (λb o hb e=>(sb.2 b hb).trans e) ?_ (show ObjOk X.prog X.w _ h' a (.set (λk=>S k || decide (k=i)) (if S i then n else n+1)) from hS'),rfl,q⟩;obtain⟨o,_,_,_,e,_⟩:=hS';exact⟨o,e⟩
def u3:CallR X (.builtin "len") (λxs H Q=>∃a S n,xs=[.ref a]/\H a=some (.set S n)/\Q (.int (n:Nat)) H):=by intro pins s σ H xs us Q I r h;obtain⟨a,S,n,rfl,hH,q⟩:=h;obtain⟨u,rfl,ru⟩:=eR r;cases ru;have hS:s.heap.SetOf (intKind X.prog X.w) a S n:=I.hok a _ hH;obtain⟨o,es,ep,t,e,hex,hd,_,_,hb,hf,rfl⟩:=hS;refine call_len_set e hex hd hf (by unfold scanBound at hb;omega) ⟨.int (es.size:Nat),H,I.tok _,⟨_,rfl⟩,q⟩
def yY:CallR X (.type "set") Mw:=by intro pins s σ H xs us Q I r h;obtain⟨rfl,q⟩:=h;cases r;refine call_set_0 λled=>?_;refine⟨.ref s.heap.objs.size,_,I.laid (t':=s.toks) (λb o e=>q_ _ e) (s_ _) (show ObjOk X.prog X.w _ _ _ (.set (λ_=>false) 0) from ?_),rfl,q _ (I.hok.fresh (s_ _))⟩;obtain⟨h1,es,ep,tt,h2,h3,h4,h5,h6⟩:=setObjOf_fresh (knd:=intKind X.prog X.w) led;exact⟨_,es,ep,tt,E_ _ rfl,h1,h2,h3,h4,by rw[h5];decide,h6,h5⟩
end
section
noncomputable def fU (xs:List Int) (i:Int):List Int:=if i∈xs then xs else i::xs
end
section
variable{X:Cx}{K:W.Frag}
def rh(K:W.Frag):V->List V->Hp->VK->Prop:=λx vs H Q=>∃l b xs zs,x=.ref l/\vs=[.ref b]/\H l=some (.lst xs)/\SqT K H b zs/\xs.length+zs.length<=sizeLine/\Q .non (upd H l (.lst (xs++zs)))
def Fi(l:Addr)(xs:Array Value)(n:Nat)(b:Addr)(ys:Array Value)(n2:Nat)(dd:Option Addr)(ss:Array (Option Value))(z0:¬(!xs.isEmpty&&Builtin.List.listTooLong (xs.size+ys.size))=true)(z1:xs.size<=sizeLine)(z2:xs.size+ys.size<=sizeLine+1):
 Meets (Builtin.«list.extend» ⟨[.ref l,.ref b],[]⟩) (λ_ R s=>s.heap.get? l=some { cls:=.type "list",dict:=none,data:=.seq xs n,slots:=#[] }/\s.heap.get? b=some { cls:=.type "tuple",dict:=dd,data:=.seq ys n2,slots:=ss }/\R (.ok (.ret Value.none)) { s with heap:=s.heap.update l (Obj.mapSeq λx=>x++ys),toks:=s.toks }):=
 .of_wp λprog w A R s h=>by
  obtain⟨hp,g,d,tk,os⟩:=s;obtain⟨el,eb,h⟩:=h;have e1:=PySem.AutoSeq1.idx_int;have e2:=PySem.F.sub_tuple_tuple;have e3:=PySem.F.sub_list_list;have e4:=PySem.F.sub_tuple_list;have e5:=PySem.F.sub_list_tuple;have zz:(xs++ys).size<=sizeLine+1:=by rw[Array.size_append];exact z2
  wp_walk using (wpAny_updateSeq el rfl (hz:=z1) (_hz':=zz)),wpAny_loadPart' el,wpAny_loadPart' eb
  exact⟨_,rfl,h⟩
def x9(hK:X.K=K):MtM X "list.extend" (rh K):=by
 subst hK;intro pins s σ H x vs v us Q I rx rv h;obtain⟨l,b,xs,zs,rfl,rfl,hH,hB,hz,q⟩:=h;cases rx;obtain⟨u,rfl,ru⟩:=rv.one;cases ru;obtain⟨z,its,n,r,hl,e⟩:=I.lstM hH;obtain⟨its2,r2,⟨⟨oc,od,oda,os⟩,e2,ec,n2,ed⟩,z2⟩:=I.tuple hB;dsimp only at ec ed;subst ec ed;have hl2:=r2.length;have hsz:its.toArray.size+its2.toArray.size<=sizeLine:=by rw[z_,z_];omega
 have hlong:¬ (!its.toArray.isEmpty&&Builtin.List.listTooLong (its.toArray.size+its2.toArray.size))=true:=by rw[uF hsz,Bool.and_false];exact x_
 refine Pe PySem.F.slot_list_extend ⟨_,e,rfl⟩ PySem.F.entry_list_extend (PySem.F.args_list_extend_2 _ _)
  (Fi l its.toArray n b its2.toArray n2 od os hlong (by rw[z_];omega) (by omega)) ⟨e,e2,?_⟩
 refine⟨.non,_,I.lset (its':=its++its2) hH e (by simp) (r.append r2) ?_,rfl,q⟩;rw[J_];omega
end
noncomputable def mnI:List Int->Int
 | []=>0
 | [x]=>x
 |x::y::r=>if mnI (y::r)<x then mnI (y::r) else x
theorem j6:∀{l:List Int},l≠[]->mnI l∈l
 | [x],_=>by simp [mnI]
 |
  x::y::r,_=>by
  have:=j6 (l:=y::r) (by simp)
  rw[mnI];split
  .exact r_ _ this
  .exact t_ ..
theorem qZ:∀{l:List Int}{a:Int},a∈l->mnI l<=a
 | [x],a,h=>by rw[Nk] at h;rw[h];exact Int.le_refl _
 |
  x::y::r,a,h=>by
  rw[mnI];rcases G_.mp h with rfl |h
  .split <;> omega
  .have:=qZ (l:=y::r) h
   split <;> omega
noncomputable def mxI (l:List Int):Int:=- mnI (l.map λx=>-x)
def F6{l:List Int}(h:l≠[]):mxI l∈l:=by
 have:=j6 (l:=l.map λx=>-x) (by simpa using h)
 obtain⟨x,hx,e⟩:=Nw.mp this;unfold mxI;rw[<- e,Int.neg_neg];exact hx
def tL{l:List Int}{a:Int}(h:a∈l):a<=mxI l:=by
 have:=qZ (l:=l.map λx=>-x) (a:=-a) (PZ (f:=λx=>-x) h)
 unfold mxI;omega
section
variable{X:Cx}{K:W.Frag}
def CP(f:List Int->Int)(K:W.Frag):List V->Hp->VK->Prop:=λxs H Q=>∃(a:Addr) (ns:List Int),xs=[.ref a]/\SqL K H a (ns.map V.int)/\ns≠[]/\Q (.int (f ns)) H
def zB(hK:X.K=K)(hc:X.calm=true):CallR X (.builtin "min") (CP mnI K):=by
 subst hK;intro pins s σ H xs us Q I r h;obtain⟨a,ns,rfl,hq,hne,q⟩:=h;obtain⟨u,rfl,ru⟩:=eR r;cases ru;obtain⟨its,rv,p,hz⟩:=I.list hq;have hi:=nU rv;obtain⟨ys,hy⟩:=hi.allInts.items;have hn:numsOf its.toArray.toList=ns:=by rw[show its.toArray.toList=its from rfl,hi.numsOf]
 have pl:=p.isList;rw[hy] at pl hn;rw[nums_intItems] at hn;have hsz:0<ys.size:=by
  have:ns.length=ys.size:=by rw[<- hn,p_,NJ]
  have:=List.length_pos_iff.mpr hne
  omega
 refine min_intList (I.ok.hd hc) pl hsz λv h' tk hv hk=>?_;obtain⟨t,rfl⟩:=intItems_at hv;obtain⟨h1,h2⟩:=argBest_lt (numAt ys) (ys.size-1);have m1:numAt ys (argBest (λi j=>decide (numAt ys i<numAt ys j)) (ys.size-1))∈ns:=by rw[<- hn,numAt_eq];exact getD_mem (by rw[p_,NJ];omega)
 have m2:∀b∈ns,numAt ys (argBest (λi j=>decide (numAt ys i<numAt ys j)) (ys.size-1))<=b:=λb hb=>by rw[<- hn] at hb;obtain⟨j,hj,rfl⟩:=mem_getD hb;rw[p_,NJ] at hj;rw[<- numAt_eq];exact h2 j (by omega)
 have e:numAt ys (argBest (λi j=>decide (numAt ys i<numAt ys j)) (ys.size-1))=mnI ns:=Int.le_antisymm (m2 _ (j6 hne)) (qZ m1);rw[e];exact⟨.int (mnI ns),H,I.kept (t':=tk) hk,⟨_,rfl⟩,q⟩
end
def vp(a b:Int):Builtin.Range.rangeSize a b (-1)=if b<a then a-b else 0:=by unfold Builtin.Range.rangeSize;rw[if_neg (by decide)];simp only[Int.neg_neg,Int.ediv_one];split <;> omega
def CY{a b:Int}(h1:-(2^62)<=a)(h2:a<2^62)(h3:-(2^62)<=b)(h4:b<2^62):Builtin.Range.small a b (-1)=true:=by unfold Builtin.Range.small;rw[vp];simp only[Builtin.Range.rangeFitsLong,u_,OF,Ou,Nr,show ¬ (-1:Int)>0 by decide,Pd];split <;> omega
def FQ{P:Program}{w:World}{K:W.Frag}{tg:Expr}(r:Addr)(lo:Int)(n:Nat):Turn P w K tg (Itd lo n) [r] r (λj g=>IsRangeIter g r (lo+(j:Nat)*(-1)) ((n:Int)-(j:Nat)) (-1)) where
 mem:=Nk.mpr rfl
 obj:=λj g q c hc=>by obtain rfl:c=r:=Nk.mp hc;exact⟨_,q,λv z=>by have z':Data.fields _=.cell v:=z;cases z'⟩
 keep:=λj g g' q k=>k r (Nk.mpr rfl) _ q
 item:=by
  rintro X rfl rfl rfl hc j pins s σ H E I hf q hj;obtain⟨y0,y1,y2,y3,y4,y5⟩:=hf r (Nk.mpr rfl);refine (Walks.range (prog:=X.prog) (w:=X.w) (I.ok.hd hc) r lo (-1) n).item j s _ _ hj q λv g tk hv q' kk=>?_;obtain⟨t,rfl⟩:=hv;have e:lo+((j:Nat):Int)*(-1)=lo-j:=by omega
  exact⟨_,rfl,qI (s:={ s with heap:=g,toks:=tk }) (n:="range_iterator") q' rfl rfl (by decide) ⟨.int (lo-j),H,I.turned (λb o hb e=>kk b o (by simpa using hb) e) y0 y1 y3 y4 y5,⟨t,by rw[e]⟩,⟨rfl,rfl⟩,q',λb hb=>(hf b hb).1⟩⟩
 done:=by rintro X rfl rfl rfl hc j pins s σ H E I hf q hj;obtain⟨y0,y1,y2,y3,y4,y5⟩:=hf r (Nk.mpr rfl);exact wpAny_pyNext_range_end (I.ok.hd hc) q (by have:n<=j:=hj;omega) λg eb=>⟨rfl,I.turned (t':=s.toks) (λb o hb e=>eb b o hb e) y0 y1 y3 y4 y5⟩
 self:=λ_ _ _ _ _ q h=>wpAny_pyIter_rangeiter q h
section
variable{X:Cx}{tg:Expr}{p pos:Pos}{a b c:Expr}
def M9(ta:TA):TI:=λσ H R=>ta σ H λvs H1=>∃i j:Int,vs=[.int i,.int j,.int (-1)]/\(-(2^62)<=i/\i<2^62/\-(2^62)<=j/\j<2^62)/\R (Itd i (i-j).toNat) H1
def yz(hg:Gl X "range")(hm:X.mg "range"=none)(ha:PA X [a,b,c] ta)(hs:starEach [a,b,c] X.env=[(false,eval a X.env),(false,eval b X.env),(false,eval c X.env)])(hs2:starEach [b,c] X.env=[(false,eval b X.env),(false,eval c X.env)]):
 PI X tg (.Call (.Name "range" p) [a,b,c] [] pos) (M9 ta):=by
 intro pins s σ H R I h;refine Call_ (cL I hg hm boot_range (Np (thn (ha pos pins s σ H _ I h) λus s1 zz=>exA zz λvs H1 I1 r1 q1=>?_) (by rw[hs,hs2]) (by rw[hs2];rfl)));obtain⟨i,j,rfl,⟨q1,q2,q3,q4⟩,q⟩:=q1;cases r1 with
 |
  cons r rr=>
  cases rr with
  |
   cons r' rr=>
   cases rr with
   |
    cons r'' rr=>
    cases rr;obtain⟨t,rfl⟩:=r;obtain⟨t',rfl⟩:=r';obtain⟨t'',rfl⟩:=r'';refine call_range_3 (by decide) ?_ (.inl (PyProof.noPylong_small (by decide)));refine wpAny_pyIter_range (P4 ..) (CY q1 q2 q3 q4) ?_;have I2:Inv X pins σ H1 { s1 with heap:=s1.heap.push { cls:=.type "range",data:=.fields #[.int i t,.int j t',.int (-1) t''] },toks:=s1.toks }:=I1.kept λb o e=>q_ _ e;generalize s1.heap.push { cls:=.type "range",data:=.fields #[.int i t,.int j t',.int (-1) t''] }=g at *;refine⟨g.objs.size,[g.objs.size],_,_,H1,rfl,I2.kept (t':=s1.toks) λb o e=>q_ _ e,FQ _ i (i-j).toNat,?_,λb hb=>?_,q⟩
    .have e2:(((i-j).toNat:Nat):Int)-((0:Nat):Int)=Builtin.Range.rangeSize i j (-1):=by rw[vp];split <;> omega
     show IsRangeIter _ _ (i+((0:Nat):Int)*(-1)) ((((i-j).toNat:Nat):Int)-((0:Nat):Int)) (-1);rw[show i+((0:Nat):Int)*(-1)=i from by omega,e2];exact E_ _ rfl
    .obtain rfl:b=g.objs.size:=Nk.mp hb;exact I2.fpOk (s_ _) (I2.hok.fresh (s_ _))
end
open PySem PySem.W PyProof.Rows
structure LtO(lt:Nat->Nat->Bool)(N:Nat):Prop where
 irr:∀i,lt i i=false
 tr:∀i j k,lt i j=true->lt j k=true->lt i k=true
 tot:∀i j,i<N->j<N->i≠j->lt i j=true\/lt j i=true
abbrev Ask:=Nat->Nat->(Bool->Shared->Prop)->Shared->Prop
def Ans(cmp:Ask)(lt:Nat->Nat->Bool)(N:Nat)(s:Shared):Prop:=∀i j C,i<N->j<N->C (lt i j) s->cmp i j C s
structure PmO(N:Nat)(p:Array Nat):Prop where
 sz:p.size=N
 lt:∀i,i<N->p.getD i 0<N
 ne:∀i j,i<j->j<N->p.getD i 0≠p.getD j 0
def UpTo(lt:Nat->Nat->Bool)(p:Array Nat)(k:Nat):Prop:=∀i j,i<j->j<k->lt (p.getD i 0) (p.getD j 0)=true
def DnTo(lt:Nat->Nat->Bool)(p:Array Nat)(k:Nat):Prop:=∀i j,i<j->j<k->lt (p.getD j 0) (p.getD i 0)=true
def eN(p:Array Nat)(i:Nat):p.getD i 0=(p[i]?).getD 0:=by rw[Array.getD_eq_getD_getElem?]
def PmO.of{N:Nat}{p:Array Nat}(h:p.toList.Perm (List.range N)):PmO N p:=by
 have hl:p.size=N:=by rw[<- NJ,h.length_eq,C_]
 have nd:p.toList.Nodup:=h.nodup_iff.mpr Pp;have e:∀i (hi:i<N),p.getD i 0=p.toList[i]'(by rw[NJ,hl];exact hi):=λi hi=>by rw[eN,O6 (by rw[hl];exact hi)];simp
 refine⟨hl,λi hi=>?_,λi j hij hj=>?_⟩
 .rw[e i hi];exact Nh.mp (h.mem_iff.mp (NX _))
 .rw[e i (by omega),e j hj];exact Oj.mp nd i j _ _ hij
variable{lt:Nat->Nat->Bool}{N:Nat}{cmp:Ask}{s:Shared}
def LtO.flip(O:LtO lt N){p:Array Nat}(P:PmO N p){i j:Nat}(hij:i<j)(hj:j<N)(h:lt (p.getD j 0) (p.getD i 0)=false):lt (p.getD i 0) (p.getD j 0)=true:=by
 rcases O.tot _ _ (P.lt i (by omega)) (P.lt j hj) (P.ne i j hij hj) with z |z
 .exact z
 .rw[h] at z;cases z
def UpTo.more(O:LtO lt N){p:Array Nat}{n:Nat}(h:UpTo lt p n)(hn:1<=n)(e:lt (p.getD (n-1) 0) (p.getD n 0)=true):UpTo lt p (n+1):=λi j hij hj=>by
 by_cases hj':j<n
 .exact h i j hij hj'
 .obtain rfl:j=n:=by omega
  by_cases hi:i=j-1
  .rw[hi];exact e
  .exact O.tr _ _ _ (h i (j-1) (by omega) (by omega)) e
def DnTo.more(O:LtO lt N){p:Array Nat}{n:Nat}(h:DnTo lt p n)(hn:1<=n)(e:lt (p.getD n 0) (p.getD (n-1) 0)=true):DnTo lt p (n+1):=λi j hij hj=>by
 by_cases hj':j<n
 .exact h i j hij hj'
 .obtain rfl:j=n:=by omega
  by_cases hi:i=j-1
  .rw[hi];exact e
  .exact O.tr _ _ _ e (h i (j-1) (by omega) (by omega))
theorem uJ(O:LtO lt N)(C:Ans cmp lt N s){p:Array Nat}(P:PmO N p){Q:Nat->Shared->Prop}:∀(f n:Nat),n+f=N->1<=n->UpTo lt p n->(∀m,n<=m->m<=N->UpTo lt p m->(m=N\/lt (p.getD m 0) (p.getD (m-1) 0)=true)->Q m s)->(kas_asc p f n).kasWp cmp Q s
 |0,n,hf,h1,hu,hq=>hq n (s_ _) (by omega) hu (.inl (by omega))
 |
  f+1,n,hf,h1,hu,hq=>by
  refine C _ _ _ (P.lt n (by omega)) (P.lt (n-1) (by omega)) ?_;cases z:lt (p.getD n 0) (p.getD (n-1) 0) with
  |true=>exact hq n (s_ _) (by omega) hu (.inr z)
  |false=>exact uJ O C P f (n+1) (by omega) (by omega) (hu.more O h1 (O.flip P (by omega) (by omega) z)) λm a b=>hq m (by omega) b
theorem vR(O:LtO lt N)(C:Ans cmp lt N s){p:Array Nat}(P:PmO N p){Q:Array Nat×Nat×Nat->Shared->Prop}:∀(f n:Nat),n+f=N->1<=n->DnTo lt p n->(∀m,n<=m->m<=N->DnTo lt p m->Q (p,m,0) s)->(kas_desc f p n 0).kasWp cmp Q s
 |0,n,hf,h1,hu,hq=>hq n (s_ _) (by omega) hu
 |
  f+1,n,hf,h1,hu,hq=>by
  refine C _ _ _ (P.lt n (by omega)) (P.lt (n-1) (by omega)) ?_;cases z:lt (p.getD n 0) (p.getD (n-1) 0) with
  |true=>exact vR O C P f (n+1) (by omega) (by omega) (hu.more O h1 z) λm a b=>hq m (by omega) b
  |false=>refine C _ _ _ (P.lt (n-1) (by omega)) (P.lt n (by omega)) ?_;rw[O.flip P (by omega) (by omega) z];exact hq n (s_ _) (by omega) hu
def zH{p:Array Nat}{n k:Nat}(hn:n<=p.size):(kas_rev p 0 n).getD k 0=if k<n then p.getD (n-1-k) 0 else p.getD k 0:=by
 have e:=getElem?_mirror_all (xs:=p) (i:=0) hn k;unfold kas_rev;rw[eN,e];by_cases h:k<n
 .rw[if_pos ⟨NM _,h⟩,if_pos h,eN];congr 2;omega
 .rw[if_neg (λz=>h z.2),if_neg h,eN]
def Br(O:LtO lt N)(C:Ans cmp lt N s){p:Array Nat}(P:p.toList.Perm (List.range N)){Q:Nat×Array Nat->Shared->Prop}{n:Nat}(h1:1<=n)(hn:n<=N)(hd:DnTo lt p n)(hq:∀m p',p'.toList.Perm (List.range N)->1<=m->m<=N->UpTo lt p' m->Q (m,p') s):(kas_tail3 n N p).kasWp cmp Q s:=by have P':(kas_rev p 0 n).toList.Perm (List.range N):=(Array.perm_iff_toList_perm.mp (mirror_perm _ _ _ _)).trans P;have sz:=(PmO.of P).sz;unfold kas_tail3;rw[KasT.kasWp_bind];refine uJ O C (PmO.of P') (N-n) n (by omega) h1 (λi j hij hj=>?_) λm a b c _=>hq m _ P' (by omega) b c;rw[zH (by omega),zH (by omega),if_pos (by omega),if_pos (by omega)];exact hd _ _ (by omega) (by omega)
def CK(O:LtO lt N)(C:Ans cmp lt N s){p:Array Nat}(P:p.toList.Perm (List.range N))(hN:1<=N){Q:Nat×Array Nat->Shared->Prop}(hq:∀m p',p'.toList.Perm (List.range N)->1<=m->m<=N->UpTo lt p' m->Q (m,p') s):(kas_count N p).kasWp cmp Q s:=by
 unfold kas_count;rw[KasT.kasWp_bind];refine uJ O C (PmO.of P) (N-1) 1 (by omega) (s_ _) (λi j hij hj=>by omega) λm a b c d=>?_;by_cases hm:m=N
 .rw[if_pos (by rw[Nr];exact hm)];exact hq m p P a b c
 .rw[if_neg (by rw[Nr];exact hm)];by_cases h1:m>1
  .rw[if_pos h1];refine C _ _ _ ((PmO.of P).lt 0 (by omega)) ((PmO.of P).lt (m-1) (by omega)) ?_;rw[c 0 (m-1) (by omega) (by omega)];exact hq m p P a b c
  .rw[if_neg h1];obtain rfl:m=1:=by omega
   have z:=d.resolve_left hm;unfold kas_descPart;rw[KasT.kasWp_bind];refine vR O C (PmO.of P) (N-2) 2 (by omega) (by omega) (λi j hij hj=>?_) λm' a' b' c'=>?_
   .obtain rfl:i=0:=by omega
    obtain rfl:j=1:=by omega
    exact z
   .dsimp only;rw[if_neg (by omega)];exact Br O C P (by omega) b' c' hq
theorem uK(O:LtO lt N)(C:Ans cmp lt N s){p:Array Nat}(P:PmO N p){k:Nat}(hk:k<N){Q:Nat->Shared->Prop}(hu:UpTo lt p k):∀(f l r:Nat),l<=r->r<=k->r-l<=f->(∀i,i<l->lt (p.getD i 0) (p.getD k 0)=true)->(∀i,r<=i->i<k->lt (p.getD k 0) (p.getD i 0)=true)->(∀m,m<=k->(∀i,i<m->lt (p.getD i 0) (p.getD k 0)=true)->(∀i,m<=i->i<k->lt (p.getD k 0) (p.getD i 0)=true)->Q m s)->(kas_place p k f l r).kasWp cmp Q s
 |0,l,r,h1,h2,h3,h4,h5,hq=>hq l (by omega) h4 λi hi=>h5 i (by omega)
 |
  f+1,l,r,h1,h2,h3,h4,h5,hq=>by
  unfold kas_place;by_cases h:l >= r
  .rw[if_pos h];exact hq l (by omega) h4 λi hi=>h5 i (by omega)
  .rw[if_neg h];refine C _ _ _ (P.lt k hk) (P.lt _ (by omega)) ?_;cases z:lt (p.getD k 0) (p.getD ((l+r)/2) 0) with
   |
    true=>
    refine uK O C P hk hu f l ((l+r)/2) (by omega) (by omega) (by omega) h4 (λi hi hik=>?_) hq;by_cases hr:i=(l+r)/2
    .rw[hr];exact z
    .exact O.tr _ _ _ z (hu _ _ (by omega) hik)
   |
    false=>
    refine uK O C P hk hu f ((l+r)/2+1) r (by omega) h2 (by omega) (λi hi=>?_) h5 hq;have y:=O.flip P (show (l+r)/2<k by omega) hk z;by_cases hr:i=(l+r)/2
    .rw[hr];exact y
    .exact O.tr _ _ _ (hu _ _ (by omega) (by omega)) y
def yL{p:Array Nat}{k l t:Nat}(hk:k<p.size)(hl:l<=k):(bubble p k (k-l)).getD t 0=if t=l then p.getD k 0 else if l<t/\t<=k then p.getD (t-1) 0 else p.getD t 0:=by
 have e:=getElem?_bubble hk (k-l) (by omega) t;rw[show k-(k-l)=l by omega] at e;rw[eN,e];by_cases h:t=l
 .rw[if_pos h,if_pos h,eN]
 .rw[if_neg h,if_neg h];by_cases h':l<t/\t<=k
  .rw[if_pos h',if_pos h',eN]
  .rw[if_neg h',if_neg h',eN]
theorem zX(O:LtO lt N)(C:Ans cmp lt N s){Q:Array Nat->Shared->Prop}(hq:∀p,p.toList.Perm (List.range N)->UpTo lt p N->Q p s):∀(f:Nat) (p:Array Nat) (k:Nat),p.toList.Perm (List.range N)->k+f=N->1<=k->UpTo lt p k->(kas_bin f p k).kasWp cmp Q s
 |
  0,p,k,P,hf,h1,hu=>by
  obtain rfl:k=N:=by omega
  exact hq p P hu
 |
  f+1,p,k,P,hf,h1,hu=>by
  have sz:=(PmO.of P).sz;unfold kas_bin;rw[KasT.kasWp_bind];refine uK O C (PmO.of P) (by omega) hu k 0 k (by omega) (s_ _) (by omega) (λi hi=>by omega) (λi h1 h2=>by omega) λm hm ha hb=>?_;refine zX O C hq f _ (k+1) ((Array.perm_iff_toList_perm.mp (bubble_perm _ _ _)).trans P) (by omega) (by omega) λi j hij hj=>?_;rw[yL (by omega) hm,yL (by omega) hm];by_cases i1:i=m
  .rw[if_pos i1];rw[if_neg (by omega),if_pos (by omega)];exact hb _ (by omega) (by omega)
  .rw[if_neg i1];by_cases j1:j=m
   .rw[if_pos j1,if_neg (by omega)];exact ha i (by omega)
   .rw[if_neg j1];by_cases i2:m<i
    .rw[if_pos (by omega),if_pos (by omega)];exact hu _ _ (by omega) (by omega)
    .rw[if_neg (by omega)];by_cases j2:m<j
     .rw[if_pos (by omega)];exact hu _ _ (by omega) (by omega)
     .rw[if_neg (by omega)];exact hu _ _ (by omega) (by omega)
def Gn(O:LtO lt N)(C:Ans cmp lt N s)(hN:1<=N){Q:Array Nat->Shared->Prop}(hq:∀p,p.toList.Perm (List.range N)->UpTo lt p N->Q p s):(kas_sort N).kasWp cmp Q s:=by
 unfold kas_sort;rw[KasT.kasWp_bind];refine CK O C (by simp) hN λm p P h1 h2 hu=>?_;dsimp only;by_cases h:m<N
 .rw[if_pos h,show max m 1=m by omega];exact zX O C hq _ _ _ P (by omega) h1 hu
 .rw[if_neg h];obtain rfl:m=N:=by omega
  exact hq p P hu
def Dx(H:Hp):Prop:=∀b,H b=none\/(∃o xs,H b=some (.frz o xs))\/H b=some (.tbl #[])
structure TabsOk(K:W.Frag)(ts:List Addr)(h:Heap):Prop where
 at_:∀P∈ts,h.get? P=some (W.tabObj #[])
 no:∀P∈ts,K.lookup P=none
 cd:∀P∈ts,∃c,W.codeHdIn K c P=true
def spT(K:W.Frag)(mg:Qb)(ts:List Addr):Sp:=λvs H Q _=>∃(a:Addr) (ns:List Int),vs=[.ref a]/\Dx H/\SqL K H a (ns.map V.int)/\ns.length<=63/\(∀P∈ts,H P=some (.tbl #[]))/\uv K mg H/\∀H',Q (.bl true) H'
def M3{Pr:Program}{w:World}{K:W.Frag}{mg mb:Qb}{k:Nat}{fa a:Addr}{fd:FuncData}{x:Str}{s1:Shared}{vs:List Value}{ns:List Int}{ts:List Addr}
 (KX:K.In s1.heap) (hns:s1.heap.Ns mainGlobals mg) (hb:s1.heap.Ns builtinsNs mb) (hbb:∀y:Str,y ≠ "__name__"->mb y=bootBuiltins y) (hlim:s1.heap.NoLimit) (hg:s1.gens=#[]) (TO:TabsOk K ts s1.heap) (hbm:∃bm ob,mg "__builtins__"=some (.ref bm)/\bm≠builtinsNs/\s1.heap.get? bm=some ob/\ob.cls=.type "module" /\ ob.dict=some builtinsNs/\ob.data=.plain)
 (ha:s1.heap.get? a=some { cls:=.type "list",data:=.seq vs.toArray }) (hi:IntsAre vs ns) (hl:ns.length<=63) (hr:Room k callerA)
 (F:∀base:Heap,K.In base->base.Ns mainGlobals mg->FnOk Pr w K mg base (CX1 Pr w) k fa fd [x] (spT K mg ts)) (hbind:∀(s:Shared) (u:Value),BindsTo s fd ⟨[u],[]⟩ [(x,u)]):
 codeAny (model Pr w) callerA (.call (.ref fa) ⟨[.ref a],[]⟩) (λr s'=>r=.ok (.ret (.bool true))/\OldK s1.heap s'.heap/\s'.os=s1.os/\AllBare s'.gens) s1:=by
 have rv:=jW hi;have hz:ns.length<=sizeLine:=Nl hl (by decide);have ant:a∉ts:=λz=>by
  have:=TO.at_ a z
  rw[ha] at this;cases this
 obtain⟨bm,ob,b1,b2,b3,b4,b5,b6⟩:=hbm;have bmG:bm≠mainGlobals:=λz=>by obtain⟨o,es,ep,e,dd,_⟩:=hns;rw[z,e] at b3;cases b3;rw[dd] at b6;cases b6
 have bmt:bm∉ts:=λz=>by
  have:=TO.at_ bm z
  rw[b3] at this;cases this;cases b6
 have bma:bm≠a:=λz=>by rw[z,ha] at b3;cases b3;cases b6
 have go
  : ∀Hs:Option HO,(Hs=none\/∃o xs,Hs=some (.frz o (.lst xs)))->(∀u,Hs=some u->ObjOk Pr w (λ_=>none) s1.heap a u)->(Hs≠none->K.lookup a=none)->(∀H:Hp,H a=Hs->SqL K H a (ns.map V.int))->
  codeAny (model Pr w) callerA (.call (.ref fa) ⟨[.ref a],[]⟩) (λr s'=>r=.ok (.ret (.bool true))/\OldK s1.heap s'.heap/\s'.os=s1.os/\AllBare s'.gens) s1:=by
  intro Hs h1 h2 h3 h4;obtain⟨H,eH⟩:∃H:Hp,H=λb=>if b=a then Hs else if b∈ts then some (.tbl #[]) else if b=bm/\K.lookup bm=none then some (.frz ob (.ext λ_=>True)) else none:=⟨_,rfl⟩
  have Ha:H a=Hs:=by rw[eH];exact if_pos rfl
  have Ht:∀P∈ts,H P=some (.tbl #[]):=λP hP=>by rw[eH];show (if P=a then _ else _)=_;rw[if_neg (λz=>ant (by rw[<- z];exact hP)),if_pos hP]
  have Hb:K.lookup bm=none->H bm=some (.frz ob (.ext λ_=>True)):=λq=>by rw[eH];show (if bm=a then _ else _)=_;rw[if_neg bma,if_neg bmt,if_pos ⟨rfl,q⟩]
  have Hn
   : ∀b,H b≠none->(b=a/\Hs≠none)\/b∈ts\/(b=bm/\K.lookup bm=none):=λb n=>by
   by_cases q:b=a
   .exact .inl ⟨q,by rw[<- Ha,<- q];exact n⟩
   .by_cases q2:b∈ts
    .exact .inr (.inl q2)
    .by_cases q3:b=bm/\K.lookup bm=none
     .exact .inr (.inr q3)
     .refine absurd ?_ n;rw[eH];show (if b=a then _ else _)=_;rw[if_neg q,if_neg q2,if_neg q3]
  have hO:Dx H:=λb=>by
   by_cases n:H b=none
   .exact .inl n
   .rcases Hn b n with ⟨e,n2⟩ |e |⟨e,y⟩
    .rw[e,Ha];rcases h1 with z |⟨o,xs,z⟩
     .exact absurd z n2
     .exact .inr (.inl ⟨_,_,z⟩)
    .exact .inr (.inr (Ht b e))
    .rw[e];exact .inr (.inl ⟨_,_,Hb y⟩)
  have hok:HOk Pr w H s1.heap:=λb u e=>by
   rcases Hn b (by rw[e];simp) with ⟨z,n2⟩ |z |⟨z,y⟩
   .subst z;rw[Ha] at e;have q:=h2 u e;rcases h1 with y |⟨o,xs,y⟩
    .exact absurd y n2
    .rw[e] at y;cases y;exact q
   .have y:=Ht b z;rw[e] at y;cases y;exact TO.at_ b z
   .subst z;rw[Hb y] at e;cases e;exact⟨b3,trivial,⟨ob,b3⟩,λ_ _ _ _=>trivial⟩
  have keep:∀{b:Addr}{o:Obj},s1.heap.get? b=some o->H b=none->(fh s1.heap H).get? b=some o:=λe n=>uB e n;have noD:∀{b:Addr}{o:Obj}{es:Array DictEntry}{ep:Nat},s1.heap.get? b=some o->o.data=.dict es ep->H b=none:=λ{b o es ep} e dd=>by
   by_cases n:H b=none
   .exact n
   .rcases Hn b n with ⟨z,_⟩ |z |⟨z,_⟩
    .subst z;rw[ha] at e;cases e;cases dd
    .rw[TO.at_ b z] at e;cases e;cases dd
    .subst z;rw[b3] at e;cases e;rw[b6] at dd;cases dd
  have nsK:∀{b:Addr}{m:Qb},s1.heap.Ns b m->(fh s1.heap H).Ns b m:=λ{b m} ⟨o,es,ep,e,dd,r⟩=>⟨o,es,ep,keep e (noD e dd),dd,r⟩;have kb:K.In (fh s1.heap H):=λb o e=>keep (KX b o e) (by
   by_cases n:H b=none
   .exact n
   .rcases Hn b n with ⟨z,y⟩ |z |⟨z,y⟩
    .subst z
     have:=h3 y
     rw[e] at this;cases this
    .have:=TO.no b z
     rw[e] at this;cases this
    .subst z;rw[e] at y;cases y)
  have hM:Mod K mg (fh s1.heap H):=⟨kb,nsK hns,⟨mb,nsK hb,hbb⟩,let ⟨mc,q1,q2⟩:=hlim;⟨mc,nsK q1,q2⟩⟩;have e0:Env0 Pr w K mg (fh s1.heap H) callerA [] s1 H:=⟨rfl,hM,λb o e=>wI e,Nat.le_of_eq (pz _ _),trivial,λb z=>absurd (show b∈([]:List Addr) from z) (by simp),hok,.of_eq hg⟩;refine PN ((F _ kb (nsK hns)).run callerA [] s1 H ⟨[.ref a],[]⟩ [.ref a] [.ref a] (λv _=>v=.bl true) (λ_ _ _=>False) hr e0 (hbind s1 (.ref a)) (.cons rfl .nil) ⟨a,ns,rfl,hO,h4 H Ha,hl,Ht,?bm,λ_=>rfl⟩) λr s' h=>?_
  case bm=>
   refine⟨bm,ob,b1,b2,bmG,⟨b4,b5,b6⟩,?_⟩;cases q:K.lookup bm with
   |none=>exact .inr ⟨_,Hb q⟩
   |
    some o=>
    have:=KX bm o q
    rw[b3] at this;cases this;exact .inl rfl
  cases r with
  |error e=>obtain⟨_,_,_,_,_,_,_,z⟩:=h;exact z.2.2.elim
  |
   ok fl=>
   cases fl with
   |next=>exact False.elim h
   |brk=>exact False.elim h
   |cont=>exact False.elim h
   |
    ret u=>
    obtain⟨v,H',os,bare,un,hok',r',q⟩:=h;have q':v=.bl true:=q;subst q';obtain rfl:u=Value.bool true:=r';refine⟨rfl,⟨λb o e=>?_,λb o e=>?_⟩,os,bare⟩
    .by_cases n:H b=none
     .exact .inl (un.keep b o e n (λz=>absurd (show b∈([]:List Addr) from z) (by simp)) (by simp))
     .have fz:∀ob xs,H b=some (.frz ob xs)->asItWas s1.heap s'.heap b o:=λob xs y=>by have y2:=un.frzs b ob _ y;obtain⟨e1,_⟩:=hok b _ y;obtain⟨e2,_⟩:=hok' b _ y2;rw[e] at e1;cases e1;exact .inl e2
      rcases Hn b n with ⟨z,n2⟩ |z |⟨z,y⟩
      .rcases h1 with y |⟨ob,xs,y⟩
       .exact absurd y n2
       .exact fz _ _ (by rw[z,Ha];exact y)
      .obtain⟨more,y⟩:=un.tbls b #[] (Ht b z);obtain⟨c,hc⟩:=TO.cd b z;have tab:=(W.codeHd_of_K KX hc).tab (TO.at_ b z);have e2:=TO.at_ b z;rw[e] at e2;cases e2;exact .inr (.inl ⟨tab.isCodeTable,rfl,#[],more,rfl,hok' b _ y⟩)
      .exact fz _ _ (by rw[z];exact Hb y)
    .exact un.there b o e (by simp)
 cases hk:K.lookup a with
 |some o=>have e:=KX a o hk;rw[ha] at e;cases e;exact go none (.inl rfl) (λu z=>nomatch z) (λz=>absurd rfl z) λH _=>.inr ⟨_,vs.toArray,_,hk,rfl,rfl,rfl,by rw[z_,hi.length];exact hz,by simpa using rv⟩
 |none=>exact go (some (.frz { cls:=.type "list",data:=.seq vs.toArray } (.lst (ns.map V.int)))) (.inr ⟨_,_,rfl⟩) (λu z=>by cases z;exact⟨ha,by rw[p_];exact hz,vs,_,rv,ha⟩) (λ_=>hk) λH e=>.inl (.inr ⟨_,e⟩)
def walk_lawT{l:W.OpenLaw}{q:Program}{loose:List Str}{XP:(Str->Option Value)->Heap->Prop}{YP:World->Heap->Prop}{d:DefRec}{K:Params->W.Frag}{x:Str}{k:Nat}{ts:List Addr}(hn:l.most=some 63)(hdf:d.params.defaults=[])(hr:Room k callerA)
 (hY:∀(w:World) (h:Heap),YP w h->(K w.params).In h/\TabsOk (K w.params) ts h)
 (F:∀(w:World) (mg:Qb) (h:Heap),(K w.params).In h->h.Ns mainGlobals mg->∀base:Heap,(K w.params).In base->base.Ns mainGlobals mg->Callee l.prog w (K w.params) mg base d.name k [x] (spT (K w.params) mg ts))
 (Dd:∀(w:World) (mg:Qb) (h:Heap),(K w.params).In h->h.Ns mainGlobals mg->∃st,Def (K w.params) mg d.name st/\∀(kV doc pm:Value) (an:Option Addr) (cdv ct:Value) (us:List Value),us.length=1->bindArgs (W.fnOf d.name d.name (c5 st) (bH st) (ar st) .none kV doc pm an cdv ct) ⟨us,[]⟩=pure ([x].zip us)):
 W.WalkO q loose XP YP l.row.toRowW d [] (λf vs=>PySem.call f vs):=by
 refine Att.attach_call hn hdf λw s0 s1 mg mb fa o pm cd doc a vs ns G Y ho hd n_ hmg hobj hints a_ hg=>?_;obtain⟨KX,TO⟩:=hY w _ Y;obtain⟨st,De,hbind⟩:=Dd w mg _ KX G.T.g;obtain⟨f,fd,Ff,m⟩:=De.ex;have e:=hmg.symm.trans m;cases e;obtain⟨oc,od,kV,doc',pm',an,cdv,ct,osl,rfl,lk,hcd'⟩:=Ff.ex;refine M3 KX G.T.g G.T.b G.T.builtins G.T.nolimit hg TO G.T.bmain hobj hints a_ hr (λbase kb nb=>?_) (λs u=>.of_eq (hbind kV doc' pm' an cdv ct [u] rfl));obtain⟨f',fd',F',m',kp',b',oc',od',osl',lk'⟩:=(F w mg _ KX G.T.g base kb nb).ex;rw[m] at m';cases m';rw[lk] at lk';cases lk';exact F'
noncomputable def bC (x y:Int×Int):Bool:=decide (x.1<y.1\/(x.1=y.1/\x.2<y.2))
def tf(x:Int×Int):bC x x=false:=by unfold bC;rw[Ow];omega
def vO{x y z:Int×Int}(h1:bC x y=true)(h2:bC y z=true):bC x z=true:=by unfold bC at *;rw[Oi] at *;omega
def sg{x y:Int×Int}(h:x≠y):bC x y=true\/bC y x=true:=by unfold bC;rw[Oi,Oi];have:¬ (x.1=y.1/\x.2=y.2):=λz=>h (Prod.ext z.1 z.2);omega
def wu{α:Type}(d:α)(ks:List α):((List.range ks.length).map λi=>ks.getD i d)=ks:=List.ext_getElem (by simp) λi _ h=>by simp [h]
def yO{x y:Int×Int}(h1:bC x y=true):bC y x=false:=by
 cases z:bC y x with
 |false=>rfl
 |true=>have:=vO h1 z;rw[tf] at this;cases this
def Gb{α:Type}{k:α->Int×Int}{a b:List α}(h:a.Pairwise λx y=>bC (k x) (k y)=true)(h':b.Pairwise λx y=>bC (k x) (k y)=true)(p:a.Perm b):a=b:=p.eq_of_pairwise (λx y _ _ h1 h2=>by rw[yO h1] at h2;cases h2) h h'
def Mk{α:Type}(k:α->Int×Int)(hk:∀{x y},k x=k y->x=y){l:List α}(nd:l.Nodup):(l.mergeSort λx y=>!bC (k y) (k x)).Pairwise λx y=>bC (k x) (k y)=true:=by
 have srt:=List.pairwise_mergeSort (le:=λx y:α=>!bC (k y) (k x)) (λa b c h1 h2=>by
  simp only[bC,OV,Ow] at *;omega) (λa b=>by
  simp only[bC,OF,OV,Ow];omega) l
 refine List.Pairwise.imp (λ{a b} h=>?_) (List.Pairwise.and ((List.mergeSort_perm ..).nodup_iff.mpr nd) srt)
 have:=h.2
 simp only[OV] at this;exact (sg λy=>h.1 (hk y)).resolve_right (by rw[this];exact Bool.noConfusion)
noncomputable def ltP (ks:List (Int×Int)) (i j:Nat):Bool:=bC (ks.getD i (0,0)) (ks.getD j (0,0))
def IM{ks:List (Int×Int)}(nd:ks.Nodup):LtO (ltP ks) ks.length where
 irr:=λi=>tf _
 tr:=λi j k h1 h2=>vO h1 h2
 tot:=λi j hi hj hne=>by
  refine sg ?_;rw[H_,H_,y_ hi,y_ hj];show ks[i]≠ks[j];rcases Nat.lt_or_gt_of_ne hne with z |z
  .exact Oj.mp nd i j hi hj z
  .exact λy=>Oj.mp nd j i hj hi z y.symm
def ED{ks:List (Int×Int)}{n:Nat}{p:Array Nat}(h1:p.toList.Perm (List.range n))(h2:UpTo (ltP ks) p n):p.toList.Pairwise λi j=>bC (ks.getD i (0,0)) (ks.getD j (0,0))=true:=by
 have sz:=(PmO.of h1).sz;rw[Oj];intro i j hi hj hij;rw[NJ] at hi hj
 have:=h2 i j hij (by omega)
 rw[eN,eN,O6 hi,O6 hj] at this;exact this
def TupAt(h:Heap)(v:Value)(x:Int×Int):Prop:=∃(a:Addr) (e:Nat) (dd:Option Addr) (sl:Array (Option Value)) (t1 t2:Tok),v=.ref a/\h.get? a=some { cls:=.type "tuple",dict:=dd,data:=.seq #[.int x.1 t1,.int x.2 t2] e,slots:=sl }
def TupAt.keep{h h':Heap}{v:Value}{x:Int×Int}{b:Addr}(t:TupAt h v x)(hb:∃o,h.get? b=some o/\o.cls=.type "list")(k:∀c o,c≠b->h.get? c=some o->h'.get? c=some o):TupAt h' v x:=by obtain⟨a,e,dd,sl,t1,t2,rfl,ha⟩:=t;obtain⟨o,ho,hc⟩:=hb;exact⟨a,e,dd,sl,t1,t2,rfl,k a _ (λz=>by rw[z,ho] at ha;cases ha;injection hc with hc;exact absurd hc (by decide)) ha⟩
def TupAt.mono{h h':Heap}{v:Value}{x:Int×Int}(t:TupAt h v x)(k:∀c o,h.get? c=some o->h'.get? c=some o):TupAt h' v x:=by obtain⟨a,e,dd,sl,t1,t2,rfl,ha⟩:=t;exact⟨a,e,dd,sl,t1,t2,rfl,k a _ ha⟩
section
variable{prog:Program}{w:World}{A:Around}{E:Qd}{s:Shared}
def Gk{v u:Value}{x y:Int×Int}{Q:Bool->Shared->Prop}(hv:TupAt s.heap v x)(hu:TupAt s.heap u y)(h:Q (bC x y) s):wpAny (model prog w) A (keyLt' (tuples' true) v u) Q E s:=by
 obtain⟨a,e,dd,sl,t1,t2,rfl,ha⟩:=hv;obtain⟨b,e',dd',sl',t3,t4,rfl,hb⟩:=hu;refine kat_lt ha rfl hb rfl ?_;show KatLex prog w A true false Q [(.int x.1 t1,.int y.1 t3),(.int x.2 t2,.int y.2 t4)] 0 s;refine kat_cons (wpAny_eqBool_int ?_);by_cases h1:x.1=y.1
 .rw[show (x.1==y.1)=true from Nr.mpr h1];refine kat_yes (kat_cons (wpAny_eqBool_int ?_));by_cases h2:x.2=y.2
  .rw[show (x.2==y.2)=true from Nr.mpr h2];refine kat_yes (kat_nil ?_);rw[show bC x y=false from by unfold bC;rw[Ow];omega] at h;exact h
  .rw[show (x.2==y.2)=false from M_.mpr h2];refine kat_no (kat_one _ _ (lt_int ?_));rw[show bC x y=decide (x.2<y.2) from Oh.mpr (by omega)] at h;exact h
 .rw[show (x.1==y.1)=false from M_.mpr h1];refine kat_no (oneLt_int ?_);rw[show bC x y=decide (x.1<y.1) from Oh.mpr (by omega)] at h;exact h
def TupsAt(h:Heap):List Value->List (Int×Int)->Prop
 | [],[]=>True
 |v::vs,x::xs=>TupAt h v x/\TupsAt h vs xs
 |_,_=>False
theorem TupsAt.len{h:Heap}:∀{vs:List Value}{xs:List (Int×Int)},TupsAt h vs xs->vs.length=xs.length
 | [],[],_=>rfl
 | [],_::_,t=>t.elim
 |_::_,[],t=>t.elim
 |_::_,_::_,t=>by rw[F_,F_,t.2.len]
theorem TupsAt.get{h:Heap}:∀{vs:List Value}{xs:List (Int×Int)} (i:Nat),TupsAt h vs xs->i<xs.length->TupAt h (vs.getD i Value.none) (xs.getD i (0,0))
 | [],[],i,_,hi=>absurd hi (by simp)
 | [],_::_,i,t,_=>t.elim
 |_::_,[],i,t,_=>t.elim
 |_::_,_::_,0,t,_=>t.1
 |_::vs,_::xs,i+1,t,hi=>TupsAt.get (vs:=vs) (xs:=xs) i t.2 (by simpa using hi)
theorem TupsAt.imp{h h':Heap}(k:∀v x,TupAt h v x->TupAt h' v x):∀{vs:List Value}{xs:List (Int×Int)},TupsAt h vs xs->TupsAt h' vs xs
 | [],[],_=>trivial
 | [],_::_,t=>t.elim
 |_::_,[],t=>t.elim
 |_::_,_::_,t=>⟨k _ _ t.1,t.2.imp k⟩
theorem TupsAt.snoc{h:Heap}{v:Value}{x:Int×Int}(tv:TupAt h v x):∀{vs:List Value}{xs:List (Int×Int)},TupsAt h vs xs->TupsAt h (vs++[v]) (xs++[x])
 | [],[],_=>⟨tv,trivial⟩
 | [],_::_,t=>t.elim
 |_::_,[],t=>t.elim
 |_::_,_::_,t=>⟨t.1,t.2.snoc tv⟩
theorem TupsAt.kat{h:Heap}:∀{vs:List Value}{xs:List (Int×Int)},TupsAt h vs xs->∃fs,KatTups h vs fs/\fs.length=xs.length/\∀f∈fs,∃i t,f=Value.int i t
 | [],[],_=>⟨[],trivial,rfl,λf z=>nomatch z⟩
 | [],_::_,t=>t.elim
 |_::_,[],t=>t.elim
 |
  _::_,x::_,t=>by
  obtain⟨fs,k,l,q⟩:=t.2.kat;obtain⟨a,e,dd,sl,t1,t2,rfl,ha⟩:=t.1;refine⟨.int x.1 t1::fs,⟨⟨a,_,_,_,rfl,ha,rfl,rfl,rfl⟩,k⟩,by rw[F_,F_,l],λf hf=>?_⟩;rcases G_.mp hf with rfl |hf
  .exact⟨_,_,rfl⟩
  .exact q f hf
def yn{vs:List Value}{xs:List (Int×Int)}{Q:SortKind->Shared->Prop}(t:TupsAt s.heap vs xs)(h2:2<=xs.length)(h:Q (tuples' true) s):wpAny (model prog w) A (keyKind' vs.toArray) Q E s:=by obtain⟨fs,k,l,q⟩:=t.kat;refine kat_kind (T:=.type "int") k (by omega) (λf hf=>?_) (by decide) h;obtain⟨i,t,rfl⟩:=q f hf;exact .now
def AM{vs:List Value}{xs:List (Int×Int)}(t:TupsAt s.heap vs xs):Ans (kas_ask prog w A (tuples' true) vs) (ltP xs) xs.length s:=λi j C hi hj c=>Gk (t.get i hi) (t.get j hj) c
def CW{β:Type}{vs ks:List Value}{xs:List (Int×Int)}{k:Unit×SortSt->Sem β}{P:β->Shared->Prop}(hkl:ks.length=vs.length)(h64:vs.length<64)(T:TupsAt s.heap ks xs)(nd:xs.Nodup)(h:∀(p:Array Nat) st',p.toList.Perm (List.range vs.length)->UpTo (ltP xs) p vs.length->(arrOf st').map (λp:Keyed=>p.2)=List.toArray (p.toList.map λi=>vs.getD i Value.none)->failedOf st'=none->wpAny (model prog w) A (k ((),st')) P E s):
 wpAny (model prog w) A (let f:=λκ=>(if vs.toArray.size<2 then pure () else sortRuns').run (SortSt.mk' κ (ks.toArray.zip vs.toArray) #[] 7 none) >>= k;if vs.toArray.size<2 then pure general' >>= f else keyKind' ks.toArray >>= f) P E s:=by
 dsimp only;have kl:=T.len;by_cases h2:vs.toArray.size<2
 .rw[if_pos h2,if_pos h2];rw[z_] at h2;refine o_ <| B_ ?_;rw[StateT.run_pure];refine o_ <| B_ (h (List.toArray (List.range vs.length)) _ (.refl _) (λi j hij hj=>by omega) ?_ rfl);show (ks.toArray.zip vs.toArray).map (λp:Keyed=>p.2)=List.toArray ((List.range vs.length).map _);rw[wu];apply Array.toList_inj.mp;rw[Array.toList_map,ksk_zip];exact List.map_snd_zip (by simp [hkl])
 .rw[if_neg h2,if_neg h2];rw[z_] at h2;refine o_ <| yn T (by omega) ?_;have an:=AM (prog:=prog) (w:=w) (A:=A) T;have O:=IM nd;rw[<- kl,hkl] at an O;have run:=kat_run (prog:=prog) (w:=w) (A:=A) (E:=E) (κ:=tuples' true) (s:=s) (Q:=λst' s'=>s'=s/\wpAny (model prog w) A (k ((),st')) P E s) (G:=λp s'=>s'=s/\p.toList.Perm (List.range vs.length)/\UpTo (ltP xs) p vs.length) hkl (by omega) h64
   (λp st' s' a1 a2 a3 a4=>⟨a4.1,h p st' a4.2.1 a4.2.2 (kat_snds hkl a2) a3⟩) (Gn O an (by omega) λp p1 p2=>⟨rfl,p1,p2⟩)
  refine o_ <| Nu run ?_ λ_ _ z=>z;rintro⟨⟨⟩,st'⟩ _ ⟨rfl,z⟩;exact z
end
set_option maxHeartbeats 4000000
section
variable{prog:Program}{w:World}{A:Around}{E:Qd}{s:Shared}
def BA{a kS:Addr}{st:SortSt}{out ks:List Value}{e e1:Nat}{P:PySem.Fin->Shared->Prop}(hk:s.heap.get? kS=some (seqObj "list" (List.toArray ks) e))(ha:s.heap.get? a=some (seqObj "list" #[] e1))(hne:kS≠a)(hout:(arrOf st).map (λp:Keyed=>p.2)=List.toArray out)(hf:failedOf st=none)(hz:out.length<64)(hkz:ks.length<64)
 (h:∀h' c,(∀b o,b≠kS->b≠a->s.heap.get? b=some o->h'.get? b=some o)->h'.get? a=some (seqObj "list" out.toArray c)->P (.done (.ret .none)) { s with heap:=h' }):wpAny (model prog w) A (ksk_tail a false e1 (.ref kS) st) P E s:=by
 have u1:=Oy s.heap kS (Obj.mapSeq λ_=>(#[]:Array Value));have a1:=(u1.2 a hne.symm).trans ha;have u2:=Oy (s.heap.update kS (Obj.mapSeq λ_=>(#[]:Array Value))) a (Obj.mapSeq λ_=>(arrOf st).map (·.2));obtain⟨c,hc⟩:∃c,((s.heap.update kS (Obj.mapSeq λ_=>(#[]:Array Value))).update a (Obj.mapSeq λ_=>(arrOf st).map (·.2))).get? a=some (seqObj "list" ((arrOf st).map (·.2)) c):=⟨_,get?_update_seq a1 λ_=>(arrOf st).map (·.2)⟩;have zs:((arrOf st).map (·.2)).size<64:=by rw[hout];exact hz
 have big:sizeLine=16777216:=rfl;unfold ksk_tail;try dsimp only
 refine o_ <| P9 hk rfl ?_ (by rw[z_];omega) (NM _);refine o_ <| wpAny_letGo ?_;refine o_ <| seqEpoch_at a1 rfl ?_;refine o_ <| P9 a1 rfl ?_ (NM _) (by show ((arrOf st).map (·.2)).size<=_;omega);rw[hf];simp only[bne_self_eq_false,OP,Pd];exact B_ (h _ c (λb o n1 n2 z=>(u2.2 b n2).trans ((u1.2 b n1).trans z)) (hc.trans (by rw[hout])))
def Fq{a kS:Addr}{vs ks:List Value}{xs:List (Int×Int)}{e e1:Nat}{P:PySem.Fin->Shared->Prop}(hl:xs.length=vs.length)(h64:vs.length<64)(T:TupsAt s.heap ks xs)(nd:xs.Nodup)(hk:s.heap.get? kS=some (seqObj "list" (List.toArray ks) e))(ha:s.heap.get? a=some (seqObj "list" #[] e1))(hne:kS≠a)
 (h:∀(p:Array Nat) h' c,p.toList.Perm (List.range vs.length)->UpTo (ltP xs) p vs.length->(∀b o,b≠kS->b≠a->s.heap.get? b=some o->h'.get? b=some o)->h'.get? a=some (seqObj "list" (p.toList.map λi=>vs.getD i Value.none).toArray c)->P (.done (.ret .none)) { s with heap:=h' }):
 wpAny (model prog w) A (ksk_end a false vs.toArray e1 (.ref kS) ks.toArray) P E s:=by
 have hkl:ks.length=vs.length:=by rw[T.len,hl]
 unfold ksk_end;try dsimp only
 refine CW hkl h64 T nd λp st' p1 p2 out hf=>?_;exact BA hk ha hne out hf (by rw[p_,p1.length_eq,C_];exact h64) (by omega) λh' c k z=>h p h' c p1 p2 k z
def CG{a:Addr}{f:Value}{vs:List Value}{n:Nat}{xs:List (Int×Int)}{P:PySem.Fin->Shared->Prop}(ho:s.heap.get? a=some (seqObj "list" vs.toArray n))(h64:vs.length<64)(hx:xs.length=vs.length)(nd:xs.Nodup)
 (hc:∀(i:Nat) (v:Value) (x:Int×Int) (h':Heap) (tk:Nat),vs[i]?=some v->xs[i]?=some x->(∀b o,b≠a->s.heap.get? b=some o->h'.get? b=some o)->wpAny (model prog w) A (call f [v]) (λk s2=>∃h2 tk2,s2={ s with heap:=h2,toks:=tk2 }/\(∀b o,h'.get? b=some o->h2.get? b=some o)/\TupAt h2 k x) (λ_ _=>False) { s with heap:=h',toks:=tk })
 (h:∀(p:Array Nat) h' c tk,p.toList.Perm (List.range vs.length)->UpTo (ltP xs) p vs.length->(∀b o,b≠a->s.heap.get? b=some o->h'.get? b=some o)->h'.get? a=some (seqObj "list" (p.toList.map λi=>vs.getD i Value.none).toArray c)->P (.done (.ret .none)) { s with heap:=h',toks:=tk }):
 wpAny (model prog w) A (ksk_tree a f false) P E s:=by
 have lt:=A_ ho;have u1:=Oy s.heap a (Obj.mapSeq λ_=>(#[]:Array Value));obtain⟨e1,a1⟩:∃e1,(s.heap.update a (Obj.mapSeq λ_=>(#[]:Array Value))).get? a=some (seqObj "list" #[] e1):=⟨_,get?_update_seq ho λ_=>#[]⟩;have big:sizeLine=16777216:=rfl;unfold ksk_tree;refine o_ <| listItems_at ho rfl ?_;refine o_ <| P9 ho rfl ?_ (by rw[z_];omega) (NM _);refine o_ <| seqEpoch_at a1 rfl ?_;refine o_ <| wpAny_newTuple ?_ (by show vs.length<=_;omega);refine o_ <| wpAny_newList ?_ (NM _);refine Of ?_;obtain⟨h3,e3⟩:∃h3,h3=((s.heap.update a (Obj.mapSeq λ_=>(#[]:Array Value))).push (seqObj "tuple" vs.toArray 0)).push (seqObj "list" #[] 0):=⟨_,rfl⟩;obtain⟨kS,ek⟩:∃kS,kS=((s.heap.update a (Obj.mapSeq λ_=>(#[]:Array Value))).push (seqObj "tuple" vs.toArray 0)).objs.size:=⟨_,rfl⟩;have hk0:h3.get? kS=some (seqObj "list" #[] 0):=by rw[e3,ek];exact E_ _ rfl
 have ha0:h3.get? a=some (seqObj "list" #[] e1):=by rw[e3];exact q_ _ (q_ _ a1)
 have hlt:a<kS:=by rw[ek,size_push',Heap.size_update];exact Nat.lt_succ_of_lt lt
 have k0:∀b o,b≠a->s.heap.get? b=some o->b≠kS/\h3.get? b=some o:=λb o n z=>⟨λy=>by
  have:=A_ z
  rw[y,ek,size_push',Heap.size_update] at this;exact NT _ (Nat.lt_of_succ_lt this),by rw[e3];exact q_ _ (q_ _ ((u1.2 b n).trans z))⟩
 show wpAny (model prog w) A (ksk_rest a f false vs.toArray e1 (.ref ((s.heap.update a (Obj.mapSeq λ_=>(#[]:Array Value))).push (seqObj "tuple" vs.toArray 0)).objs.size)) P E { s with heap:=((s.heap.update a (Obj.mapSeq λ_=>(#[]:Array Value))).push (seqObj "tuple" vs.toArray 0)).push (seqObj "list" #[] 0) };rw[<- e3,<- ek];clear e3 ek;unfold ksk_rest;refine o_ <| wpAny_rule ?_;rw[List.forIn_toArray];refine o_ <| ksk_fold (λi s'=>∃h' tk ks e,s'={ s with heap:=h',toks:=tk }/\(∀b o,b≠kS->h3.get? b=some o->h'.get? b=some o)/\h'.get? kS=some (seqObj "list" (List.toArray ks) e)/\TupsAt h' ks (xs.take i)/\i<=vs.length) vs 0 _ ⟨h3,s.toks,[],0,rfl,λb o _ z=>z,hk0,by rw[List.take_zero];trivial,NM _⟩ (λj v s' hv I=>?_) λs' I=>?_
 .rw[PJ] at I ⊢;obtain⟨h',tk,ks,e,rfl,k,hk,T,hi⟩:=I;have hj:j<vs.length:=(D_.mp hv).1;have ex:xs[j]?=some (xs[j]'(by omega)):=y_ (by omega);have tl:=T.len;rw[Ng] at tl;refine o_ <| Pn <| Nu (hc j v _ h' tk hv ex λb o n z=>k b o (k0 b o n z).1 (k0 b o n z).2) (λkv s2 hq=>?_) λ_ _ z=>z.elim;obtain⟨h2,tk2,rfl,k2,tp⟩:=hq;have hk2:=k2 kS _ hk;have u2:=Oy h2 kS (Obj.mapSeq (·.push kv));obtain⟨c2,hc2⟩:∃c2,(h2.update kS (Obj.mapSeq (·.push kv))).get? kS=some (seqObj "list" (List.toArray (ks++[kv])) c2):=⟨_,by rw[<- List.push_toArray];exact get?_update_seq hk2 (·.push kv)⟩;try dsimp only
  refine o_ <| P9 hk2 rfl ?_ (by rw[z_];omega) (by rw[Array.size_push,z_];omega);refine B_ ⟨rfl,_,tk2,ks++[kv],c2,rfl,λb o n z=>(u2.2 b n).trans (k2 b o (k b o n z)),hc2,?_,by omega⟩;have kp:∀v x,TupAt h2 v x->TupAt (h2.update kS (Obj.mapSeq (·.push kv))) v x:=λv x t=>t.keep (b:=kS) ⟨_,hk2,rfl⟩ λc o n z=>(u2.2 c n).trans z;rw[List.take_succ,ex];exact TupsAt.snoc (kp _ _ tp) ((T.imp λv x t=>t.mono k2).imp kp)
 .rw[PJ] at I;obtain⟨h',tk,ks,e,rfl,k,hk,T,hi⟩:=I;rw[NS (by omega)] at T;try dsimp only
  refine o_ <| listItems_at hk rfl ?_;exact Fq hx h64 T nd hk (k a _ (L_ hlt) ha0) (O0 hlt) λp h2 c p1 p2 k2 z=>h p h2 c tk p1 p2 (λb o n y=>k2 b o (k0 b o n y).1 n (k b o (k0 b o n y).1 (k0 b o n y).2)) z
def Ez{S r:Addr}{j:Int}{t u v:Tok}{n:Nat}{R:Result->Shared->Prop}(hh:A.handled=none)(hr:IsRange s.heap r 0 j 1 t u v)(i_:Builtin.Range.small 0 j 1=true)(hn:Builtin.Range.rangeSize 0 j 1=n)(a_:n<=2^24)(hS:s.heap.get? S=some (seqObj "list" #[] 0))
 (h:∀h' tk acc c,(∀b o,b≠S->s.heap.get? b=some o->h'.get? b=some o)->h'.get? S=some (seqObj "list" acc c)->ItemsOf (λi v=>∃t,v=.int (0+i*1) t) acc n->R (.ok (.ret (.ref S))) { s with heap:=h',toks:=tk }):codeAny (model prog w) A (.builtin "list.__iadd__" ⟨[.ref S,.ref r],[]⟩) R s:=by
 refine PM entry_list_iadd' ?_;show wpAny (model prog w) A.in1 (Builtin.List.listExtendWith (.ref S) (.ref r) (.ref S)) _ _ s;exact wpAny_extend_range hh hr i_ hn a_ S _ 0 hS h
def mf{r:Addr}{j:Int}{t u v:Tok}{n:Nat}{Q:List Value->Shared->Prop}(hh:A.handled=none)(hr:IsRange s.heap r 0 j 1 t u v)(i_:Builtin.Range.small 0 j 1=true)(hn:Builtin.Range.rangeSize 0 j 1=n)(a_:n<=2^24)
 (h:∀h' tk (vs:List Value),s.heap.objs.size<=h'.objs.size->(∀b o,s.heap.get? b=some o->h'.get? b=some o)->vs.length=n->(∀(i:Nat) x,vs[i]?=some x->∃t,x=.int (i:Nat) t)->Q vs { s with heap:=h',toks:=tk }):wpAny (model prog w) A (collect (.ref r)) Q E s:=by
 unfold collect;refine o_ <| wpAny_runValue <| PM entry_proto_collect' ?_;show wpAny _ _ (do again (.builtin "list.__iadd__" ⟨[<- newList [],.ref r],[]⟩)) _ _ s;have hS:(s.heap.push (seqObj "list" #[] 0)).get? s.heap.objs.size=some (seqObj "list" #[] 0):=E_ _ rfl;refine o_ <| wpAny_newList <| B_ ⟨Code.quiet_builtin _ (by decide),Ez (s:={ s with heap:=s.heap.push (seqObj "list" #[] 0) }) hh (q_ _ hr) i_ hn a_ hS λh' tk acc c k z it=>?_⟩;show wpAny (model prog w) A (do
  let o <- load s.heap.objs.size
  match o.data with
  |.seq xs _=>pure xs.toList
  |_=>unsupported "internal:collect") Q E { s with heap:=h',toks:=tk }
 refine o_ <| wpAny_load z ?_;refine B_ (h h' tk acc.toList (OZ (A_ z)) (λb o y=>k b o (L_ (A_ y)) (q_ _ y)) (by rw[NJ];exact it.1) λi x y=>?_);obtain⟨t,e⟩:=it.2 i x (by simpa using y);exact⟨t,by rw[e];congr 1;omega⟩
end
abbrev ff(p:Pos):Arguments:=⟨[],[⟨"number",none,p⟩],none,[],[],none,[]⟩
abbrev bo:Scope:={ kind:=.function,names:=[("number",.local),("weights",.free)],isGenerator:=false,isCoroutine:=false,more:=[] }
abbrev eB(p1 p2 p3 p4 p5 p6:Pos):Expr:=.Tuple [.UnaryOp .USub (.Subscript (.Name "weights" p1) (.Name "number" p2) p3) p4,.Name "number" p5] 0 p6
section
variable{prog:Program}{w:World}{A:Around}{s:Shared}
def Fl{f c' cell a:Addr}{q:Str}{pm ctv:Value}{its:Array Value}{ws:List Int}{p0 p1 p2 p3 p4 p5 p6:Pos}{i:Nat}{t:Tok}
 (hroom:A.depth<recursionLimit) (ho:s.heap.get? f=some (kla_obj "<lambda>" q (ff p0) (eB p1 p2 p3 p4 p5 p6) bo [("weights",cell)] pm c' ctv)) (n_:s.heap.CodeRec (.ref c') q) (hlim:s.heap.NoLimit) (m_:s.heap.IsCell cell (some (.ref a))) (hl:s.heap.IsList a its) (hw:Vals (ws.map V.int) its.toList) (hi:i<ws.length) (hz:ws.length<64):
 wpAny (model prog w) A (call (.ref f) [.int (i:Nat) t]) (λk s2=>∃h2 tk2,s2={ s with heap:=h2,toks:=tk2 }/\(∀b o,s.heap.get? b=some o->h2.get? b=some o)/\TupAt h2 k (-(ws.getD i 0),(i:Nat))) (λ_ _=>False) s:=by
 refine wpAny_call ?_;refine kla_callFunE hroom ho rfl rfl rfl rfl n_ ?_;rw[show bindArgs (kla_fn "<lambda>" q (ff p0) (eB p1 p2 p3 p4 p5 p6) bo [("weights",cell)] pm (.ref c') ctv) ⟨[Value.int (i:Nat) t],[]⟩=(pure [(("number" : Str),Value.int (i:Nat) t)]:Sem (List (Str×Value))) from by with_unfolding_all rfl];refine B_ (wpAny_newFunctionEnv (show ∀x∈bo.names,x.2 ≠ .cell by decide) (by intro y hy;rw[Nk] at hy;subst hy;rfl) (λh1 hns hsb=>⟨hlim.fresh _ hsb,?_⟩) rfl);show codeAny _ _ (.expr (eB p1 p2 p3 p4 p5 p6) (envX q bo s.heap.objs.size f (.ref c') [("weights",cell)])) _ _;have k1:∀b o,s.heap.get? b=some o->h1.get? b=some o:=λb o e=>hsb.extBut b o (L_ (A_ e)) (q_ _ e);have hc1:h1.IsCell cell (some (.ref a)):=by obtain⟨o,e,d⟩:=m_;exact⟨o,k1 _ _ e,d⟩
 have hl1:h1.IsList a its:=by obtain⟨o,e,d⟩:=hl;exact⟨o,k1 _ _ e,d⟩
 refine kla_codeExpr ?_;refine wpAny_Tuple_spliced ?_;obtain⟨u,eu,ru⟩:=hw.get (i:=i) (x:=V.int (ws.getD i 0)) (by rw[Nf,y_ hi,H_,y_ hi];rfl);obtain⟨tx,rfl⟩:=ru;have ei:its[((i:Nat):Int).toNat]?=some (.int (ws.getD i 0) tx):=by rw[NB,<- Array.getElem?_toList];exact eu
 have nm:∀(pp:Pos) (s':Shared) (Q:Qd) (E':Qd),s'.heap=h1->Q (.int (i:Nat) t) s'->wpAny (model prog w) (A.deeper (envX q bo s.heap.objs.size f (.ref c') [("weights",cell)])) (eval (.Name "number" pp) (envX q bo s.heap.objs.size f (.ref c') [("weights",cell)])) Q E' s':=λpp s' Q E' e hq=>
  wpAny_Name (PU rfl rfl (by rw[e];exact hns) rfl hq) (by decide)
 show wpAny _ _ (spliced ((false,eval (.UnaryOp .USub (.Subscript (.Name "weights" p1) (.Name "number" p2) p3) p4) (envX q bo s.heap.objs.size f (.ref c') [("weights",cell)]))::backTo p6 (starEach [.Name "number" p5] (envX q bo s.heap.objs.size f (.ref c') [("weights",cell)])))) _ _ _;refine N5 ?_;refine UnaryOp_ ?_;refine Subscript_ ?_;refine wpAny_Name (wpAny_loadName_free rfl rfl rfl hc1 ?_) (by decide);refine nm p2 _ _ _ rfl ?_;refine item_listR hl1 (by omega) (by omega) ei ?_;refine neg_int ?_;show wpAny _ _ (spliced ((false,eval (.Name "number" p5) (envX q bo s.heap.objs.size f (.ref c') [("weights",cell)]))::[])) _ _ _;refine N5 ?_;refine nm p5 _ _ _ rfl ?_;refine OM ?_;refine⟨show 2<=sizeLine by decide,_,_,rfl,λb o e=>q_ _ (k1 b o e),h1.objs.size,0,none,#[],_,t,rfl,E_ _ rfl⟩
end
section
variable{prog:Program}{w:World}{A:Around}{E:Qd}{s:Shared}
def xB{r f:Addr}{j:Int}{t u v:Tok}{n:Nat}{xs:List (Int×Int)}{Q:Qd}(hh:A.handled=none)(hr:IsRange s.heap r 0 j 1 t u v)(i_:Builtin.Range.small 0 j 1=true)(hn:Builtin.Range.rangeSize 0 j 1=n)(h64:n<64)(hx:xs.length=n)(nd:xs.Nodup)
 (hc:∀(i:Nat) (x:Int×Int) (tt:Tok) (h':Heap) (tk:Nat),xs[i]?=some x->(∀b o,s.heap.get? b=some o->h'.get? b=some o)->wpAny (model prog w) A.in1.in1 (call (.ref f) [.int (i:Nat) tt]) (λk s2=>∃h2 tk2,s2={ s with heap:=h2,toks:=tk2 }/\(∀b o,h'.get? b=some o->h2.get? b=some o)/\TupAt h2 k x) (λ_ _=>False) { s with heap:=h',toks:=tk })
 (h:∀(p:Array Nat) (h':Heap) (D:Addr) (c tk:Nat) (out:List Value),p.toList.Perm (List.range n)->UpTo (ltP xs) p n->s.heap.objs.size<=D->(∀b o,s.heap.get? b=some o->h'.get? b=some o)->h'.get? D=some (seqObj "list" out.toArray c)->Vals (p.toList.map λi:Nat=>V.int (i:Nat)) out->Q (.ref D) { s with heap:=h',toks:=tk }):
 wpAny (model prog w) A (call (.builtin "sorted") [.ref r] [(Str.ofString "key",.ref f)]) Q E s:=by
 refine call_function_entry_kw kind_sorted plain_sorted entry_sorted (ksk_s1 _ _) ?_;unfold Builtin.«sorted»;refine o_ (m:=checkCount "sorted" 1 1 _) <| B_ ?_;refine o_ <| mf (A:=A.in1) hh hr i_ hn (by omega) λh1 tk1 vs sz k1 lv iv=>?_;have big:sizeLine=16777216:=rfl;refine o_ <| wpAny_newList ?_ (by omega);have hoL:(h1.push (seqObj "list" vs.toArray 0)).get? h1.objs.size=some (seqObj "list" vs.toArray 0):=E_ _ rfl;have kL:∀b o,s.heap.get? b=some o->b≠h1.objs.size/\(h1.push (seqObj "list" vs.toArray 0)).get? b=some o:=λb o e=>⟨L_ (A_ (k1 b o e)),q_ _ (k1 b o e)⟩;refine o_ <| Of <| wpAny_call_entry_kw slot_list_sort ⟨_,hoL,rfl⟩ entry_list_sort ?body (ksk_l1 _ _)
 case body=>
  show wpAny (model prog w) A.in1.in1 (Builtin.«list.sort» ⟨[.ref h1.objs.size],[(Str.ofString "key",.ref f)]⟩) _ _ { s with heap:=h1.push (seqObj "list" vs.toArray 0),toks:=tk1 };rw[ksk_t1];refine CG (s:={ s with heap:=h1.push (seqObj "list" vs.toArray 0),toks:=tk1 }) (xs:=xs) hoL (by omega) (by omega) nd (λi v x h' tk e1 e2 k=>?_) λp h' c tk p1 p2 k z=>?_
  .obtain⟨tt,rfl⟩:=iv i v e1;exact hc i x tt h' tk e2 λb o e=>k b o (kL b o e).1 (kL b o e).2
  .rw[lv] at p1 p2;refine⟨_,rfl,B_ ⟨_,rfl,h p h' h1.objs.size c tk _ p1 p2 sz (λb o e=>k b o (kL b o e).1 (kL b o e).2) z ?_⟩⟩;have all:∀i∈p.toList,i<n:=λi hi=>Nh.mp (p1.mem_iff.mp hi);clear z p1 p2;generalize p.toList=l at all;induction l with
   |nil=>exact .nil
   |cons i l ih=>refine .cons ?_ (ih λk hk=>all k (r_ _ hk));have hi:=all i (t_ ..);obtain⟨tt,e⟩:=iv i (vs.getD i Value.none) (by rw[H_,y_ (by omega)];rfl);exact⟨tt,e⟩
end
section
variable{X:Cx}{pins:Qc}{σ:St}{H:Hp}{s:Shared}{h':Heap}
def Inv.tabled{P c':Addr}{q:Str}{ps more:Array Value}{t':Nat}(I:Inv X pins σ H s)(hP:H P=some (.tbl ps))(hx:Heap.ExtBut P s.heap h')(hc:s.heap.objs.size<=c')(hrec:h'.CodeRec (.ref c') q)(htab:h'.get? P=some (tabObj (ps++more))):
 Inv X pins σ (upd (upd H P (.tbl (ps++more))) c' (.ext (fJ c' q))) { s with heap:=h',toks:=t' }:=by
 have hcn:H c'=none:=I.hok.fresh hc;have nPc:P≠c':=bS hP hcn;have at_:∀b,b≠P->b≠c'->upd (upd H P (.tbl (ps++more))) c' (.ext (fJ c' q)) b=H b:=λb n1 n2=>by rw[aA n2,aA n1]
 have atP:upd (upd H P (.tbl (ps++more))) c' (.ext (fJ c' q)) P=some (.tbl (ps++more)):=by rw[aA nPc,aF]
 have nP:∀b,H b=none->b≠P:=λb n z=>by rw[z,hP] at n;cases n
 have ol:∀b o,s.heap.get? b=some o->b≠c':=λb o e=>L_ (I_ (A_ e) hc);have tr:∀b u,H b=some u->b≠c':=λb u e=>bS e hcn;refine I.un ⟨λb o e n _ _=>hx b o (nP b n) e,λb o e n _ _=>⟨o.slots,hx b o (nP b n) e⟩,λb o e n _=>by rw[at_ b (nP b n) (ol b o e)];exact n,λb o e _=>?_,λb ys e=>?_,λb o u e=>?_,λb qs e=>?_⟩ λb u e=>?_
 .by_cases z:b=P
  .exact⟨_,by rw[z];exact htab⟩
  .exact⟨o,hx b o z e⟩
 .rw[at_ b (λz=>by rw[z,hP] at e;cases e) (tr b _ e)];exact e
 .rw[at_ b (λz=>by rw[z,hP] at e;cases e) (tr b _ e)];exact e
 .by_cases z:b=P
  .subst z;rw[hP] at e;cases e;exact⟨more,atP⟩
  .exact⟨#[],by rw[at_ b z (tr b _ e),e];simp⟩
 .by_cases z:b=c'
  .subst z;rw[aF] at e;cases e;obtain⟨c,o,vs,t,e1,e2,e3⟩:=hrec;cases e1;refine⟨⟨_,o,vs,t,rfl,e2,e3⟩,⟨o,e2⟩,λh1 h2 q1 k=>?_⟩;obtain⟨c,o,vs,t,e1,e2,e3⟩:=q1;cases e1;exact⟨_,o,vs,t,rfl,k o e2,e3⟩
  .by_cases y:b=P
   .subst y;rw[atP] at e;cases e;exact htab
   .rw[at_ b y z] at e;refine (I.hok b u e).stay (λc v hc' r=>hx c v ?_ r) (λc r=>?_) λc ys r=>?_
    .rcases hc' with rfl |r
     .exact y
     .intro z';rw[z',hP] at r;cases r
    .rw[at_ c (λz'=>by rw[z',hP] at r;cases r) (tr c _ r)];exact r
    .rw[at_ c (λz'=>by rw[z',hP] at r;cases r) (tr c _ r)];exact r
end
noncomputable def kyF (ws:List Int) (i:Nat):Int×Int:=(-(ws.getD i 0),(i:Int))
noncomputable def i9 (ws:List Int):List (Int×Int):=(List.range ws.length).map (kyF ws)
noncomputable def aM (ws:List Int):List Nat:=(List.range ws.length).mergeSort λi j=>!bC (kyF ws j) (kyF ws i)
structure FallO(ws:List Int)(l:List Nat):Prop where
 perm:l.Perm (List.range ws.length)
 up:l.Pairwise λi j=>bC (kyF ws i) (kyF ws j)=true
def wV{ws:List Int}{i j:Nat}(h:kyF ws i=kyF ws j):i=j:=by
 have:=NA Prod.snd h
 have:((i:Nat):Int)=(j:Nat):=this;omega
def FT(ws:List Int):(i9 ws).Nodup:=by unfold i9;refine List.pairwise_map.mpr (List.Pairwise.imp (λ{a b} h z=>h (wV z)) Pp)
def cR(ws:List Int):FallO ws (aM ws):=⟨List.mergeSort_perm ..,Mk (kyF ws) wV Pp⟩
def FallO.eq{ws:List Int}{l:List Nat}(h:FallO ws l):l=aM ws:=Gb h.up (cR ws).up (h.perm.trans (cR ws).perm.symm)
def EW{ws:List Int}{p:Array Nat}(h1:p.toList.Perm (List.range ws.length))(h2:UpTo (ltP (i9 ws)) p ws.length):p.toList=aM ws:=by
 refine FallO.eq ⟨h1,List.Pairwise.imp_of_mem (λ{i j} hi hj h=>?_) (ED h1 h2)⟩;have g:∀k∈p.toList,(i9 ws).getD k (0,0)=kyF ws k:=λk hk=>by unfold i9;rw[H_,Nf,List.getElem?_range (Nh.mp (h1.mem_iff.mp hk))];rfl
 rw[g i hi,g j hj] at h;exact h
section
variable{X:Cx}{iW:Nat}{ta:TA}{c P:Addr}{a:Expr}{q1 q2 q6 q7 q8 q9 p0 p1 p2 p3 p4 p5 p6:Pos}
def yh(H H2:Hp)(P:Addr)(q:Str)(ps:Array Value)(pos:Pos):Prop:=H2=H\/∃c',H c'=none/\codeAmong pos ps.toList=none/\H2=upd (upd H P (.tbl (ps++#[rawInt pos.line,rawInt pos.col,.ref c']))) c' (.ext (fJ c' q))
def yp(K:W.Frag)(mg:Qb)(P:Addr)(q:Str)(pos:Pos)(vW:Option (Option V)):List V->Hp->VK->Prop:=λvs H Q=>∃(b:Addr) (ws:List Int) (ps:Array Value),vs=[.int (ws.length:Nat)]/\vW=some (some (.ref b))/\SqL K H b (ws.map V.int)/\ws.length<64/\H P=some (.tbl ps)/\TriplesOk ps.toList/\(∀ps' cv,codeAmong ps' ps.toList=some cv->∃c,cv=.ref c/\H c=some (.ext (fJ c q)))/\uv K mg H/\
 ∀H2 l,yh H H2 P q ps pos->H2 l=none->Q (.ref l) (upd H2 l (.lst ((aM ws).map λi:Nat=>V.int (i:Nat))))
def Ls(K:W.Frag)(mg:Qb)(iW:Nat)(P:Addr)(q:Str)(pos:Pos)(ta:TA):TE:=λσ H Q=>ta σ H λvs H1=>yp K mg P q pos σ[iW]? vs H1 Q
def FG(hc:X.calm=true)(hdp:X.A.depth<recursionLimit)(hl:Gl X "sorted")(hml:X.mg "sorted"=none)(hg:Gl X "range")(hm:X.mg "range"=none)(ha:PA X [a] ta)(hN:X.N[iW]?=some "weights")(hv:X.env.scope.names.lookup ("weights" : Str)=some .cell)(n_:X.env.code=.ref c)(hh:codeHdIn X.K c P=true)(hs:starEach [a] X.env=[(false,eval a X.env)]:=by rfl):
 PE X (.Call (.Name "sorted" q1) [.Call (.Name "range" q2) [a] [] q6] [⟨some "key",.Lambda (ff p0) (eB p1 p2 p3 p4 p5 p6) bo q7,q8⟩] q9) (Ls X.K X.mg iW P (X.env.qual ++ "<lambda>") q7 ta):=by
 intro pins s σ H Q I h;refine NR (cL I hl hml (show bootBuiltins "sorted"=some (.builtin "sorted") from rfl) ?_ (by decide) (by decide));refine callWith_kw ?_ rfl rfl rfl rfl;show wpAny _ _ (spliced ((false,eval (.Call (.Name "range" q2) [a] [] q6) X.env)::[])) _ _ s;refine N5 ?_;refine NR (cL I hg hm (show bootBuiltins "range"=some (.type "range") from rfl) ?_ (by decide) (by decide));refine Np (thn (ha q6 pins s σ H _ I h) λus s1 zz=>exA zz λvs H1 I1 r1 z1=>?_) hs rfl;obtain⟨b,ws,ps,e,ew,hq,hn,hP,htr,hcs,hB,q⟩:=z1;subst e;cases r1 with
 |
  cons r rr=>
  cases rr;obtain⟨t,rfl⟩:=r;refine call_range_1 (OM ?_);have I2:Inv X pins σ H1 { s1 with heap:=s1.heap.push { cls:=.type "range",data:=.fields #[.int 0 s1.toks,.int (ws.length:Nat) t,.int 1 (s1.toks+1)] },toks:=s1.toks+1+1 }:=I1.kept λb o e=>q_ _ e;have hr2:IsRange (s1.heap.push { cls:=.type "range",data:=.fields #[.int 0 s1.toks,.int (ws.length:Nat) t,.int 1 (s1.toks+1)] }) s1.heap.objs.size 0 (ws.length:Nat) 1 s1.toks t (s1.toks+1):=P4 ..;generalize s1.heap.push { cls:=.type "range",data:=.fields #[.int 0 s1.toks,.int (ws.length:Nat) t,.int 1 (s1.toks+1)] }=h2 at I2 hr2 ⊢;generalize s1.heap.objs.size=r at hr2 ⊢;have hk:X.env.kindOf "weights"=some .cell:=hv;obtain⟨m,hns,hloc⟩:=I2.loc;obtain⟨u,ru,lk⟩:=hloc iW "weights" (.ref b) hN ew (.inr (.inl hv));obtain rfl:u=.ref b:=ru;obtain⟨cell,ec,m_⟩:∃cell,X.env.cells.lookup ("weights" : Str)=some cell/\h2.IsCell cell (some (.ref b)):=by
   rcases lk with ⟨z,_⟩ |⟨_,cl,z1,z2⟩
   .rw[hk] at z;cases z
   .exact⟨cl,z1,z2⟩
  have clo:closureFor bo X.env=(pure [(("weights" : Str),cell)]:Sem (List (Str×Addr))):=by simp [closureFor,cellOf,ec]
  obtain⟨its,rv,pl,hz⟩:=I2.list hq;have f_:∀(H2:Hp) (s3:Shared) (f c':Addr) (pm ctv:Value),yh H1 H2 P (X.env.qual ++ "<lambda>") ps q7->Inv X pins σ H2 s3->(∀b o,b≠P->h2.get? b=some o->s3.heap.get? b=some o)->s3.heap.get? f=some (kla_obj "<lambda>" (X.env.qual ++ "<lambda>") (ff p0) (eB p1 p2 p3 p4 p5 p6) bo [("weights",cell)] pm c' ctv)->s3.heap.CodeRec (.ref c') (X.env.qual ++ "<lambda>")->
   wpAny (model X.prog X.w) X.A (call (.builtin "sorted") [.ref r] [(Str.ofString "key",.ref f)]) (EP X pins σ Q) X.xe s3:=by
   intro H2 s3 f c' pm ctv G3 I3 k3 hf hrec;have nP:∀{b:Addr}{o:Obj},h2.get? b=some o->o.cls ≠ .none->b≠P:=λ{b o} e n z=>by have:h2.get? P=some { cls:=.none,data:=.fields ps }:=I2.hok P _ hP;rw[z,this] at e;cases e;exact n rfl
   have hr3:IsRange s3.heap r 0 (ws.length:Nat) 1 s1.toks t (s1.toks+1):=k3 _ _ (nP hr2 (λz=>nomatch z)) hr2;refine xB (n:=ws.length) (xs:=i9 ws) (I.ok.hd hc) hr3 (small_one (by omega) (by omega) (by omega) (by omega)) (by rw[P_];split <;> omega) hn (by unfold i9;rw[p_,C_]) (FT ws) (λi x tt h' tk ex k=>?_) λp h' D c tk out pp up sz k z vz=>?_
   .have hi:i<ws.length:=by
     have:=(D_.mp ex).1
     unfold i9 at this;rw[p_,C_] at this;exact this
    obtain rfl:x=(-(ws.getD i 0),((i:Nat):Int)):=by unfold i9 at ex;rw[Nf,List.getElem?_range hi] at ex;cases ex;rfl
    have hcell':h'.IsCell cell (some (.ref b)):=by obtain⟨o,e1,e2⟩:=m_;refine⟨o,k _ _ (k3 _ _ (λz=>?_) e1),e2⟩;have:h2.get? P=some { cls:=.none,data:=.fields ps }:=I2.hok P _ hP;rw[z,this] at e1;cases e1;cases e2
    have hl':h'.IsList b its.toArray:=by obtain⟨o,e1,e2⟩:=pl.isList;exact⟨o,k _ _ (k3 _ _ (nP e1 (by rw[e2.1];intro z;cases z)) e1),e2⟩
    exact Fl (s:={ s3 with heap:=h',toks:=tk }) hdp (k _ _ hf) (by obtain⟨c2,o,vs,tq,e1,e2,e3⟩:=hrec;exact⟨c2,o,vs,tq,e1,k _ _ e2,e3⟩) (I3.nolimit.keeps k) hcell' hl' (by simpa using rv) hi hn
   .rw[EW pp up] at vz;have big:sizeLine=16777216:=rfl;have ln:((aM ws).map λi:Nat=>V.int (i:Nat)).length<=sizeLine:=by rw[p_,(cR ws).perm.length_eq,C_];omega
    exact⟨.ref D,_,I3.laid (t':=tk) k sz (show ObjOk X.prog X.w _ h' _ (.lst _) from ⟨ln,out,c,vz,z⟩),rfl,q H2 D G3 (I3.hok.fresh sz)⟩
  have tabP:h2.get? P=some { cls:=.none,data:=.fields ps }:=I2.hok P _ hP;have glb:h2.Ns mainGlobals X.mg:=I2.mod.glob.keeps I2.bk;have gP:mainGlobals≠P:=λz=>by obtain⟨o,es,ep,e,d,_⟩:=glb;rw[z,tabP] at e;cases e;cases d
  have bAt:h2.BuiltinsAt X.mg P:=by
   obtain⟨bm,o,y1,y2,y3,⟨y4,y5,y6⟩,y7⟩:=hB;have y8:h2.get? bm=some o:=by
    rcases y7 with z |⟨u,z⟩
    .exact I2.kIn bm o z
    .exact (I2.hok bm _ z).1
   exact⟨bm,o,y1,y2,y3,(λz=>by rw[z,tabP] at y8;cases y8;cases y6),y8,y4,y5,y6⟩
  have CH:=codeHd_of_K I2.kIn hh;have lam:wpAny (model X.prog X.w) X.A (eval (.Lambda (ff p0) (eB p1 p2 p3 p4 p5 p6) bo q7) X.env) (λv s3=>∃f,v=.ref f/\wpAny (model X.prog X.w) X.A (call (.builtin "sorted") [.ref r] [(Str.ofString "key",.ref f)]) (EP X pins σ Q) X.xe s3) X.xe { s1 with heap:=h2,toks:=s1.toks+1+1 }:=by
   refine kla_eval rfl ?_;cases am:codeAmong q7 ps.toList with
   |
    none=>
    refine kla_makeFunction (mg:=X.mg) clo I.ok.glob glb n_ CH tabP htr am gP bAt λc' ctv h' tk hx hge hlt hrec htb=>?_;have hrec':(h'.push (kla_obj "<lambda>" (X.env.qual ++ "<lambda>") (ff p0) (eB p1 p2 p3 p4 p5 p6) bo [("weights",cell)] ((X.mg "__name__").getD .none) c' ctv)).CodeRec (.ref c') (X.env.qual ++ "<lambda>"):=by obtain⟨c2,o,vs,tq,e1,e2,e3⟩:=hrec;exact⟨c2,o,vs,tq,e1,q_ _ e2,e3⟩
    exact⟨_,rfl,f_ _ _ _ c' _ ctv (.inr ⟨c',I2.hok.fresh hge,am,rfl⟩) (I2.tabled (t':=tk) hP (λb o n e=>q_ _ (hx b o n e)) hge hrec' (q_ _ htb)) (λb o n e=>q_ _ (hx b o n e)) (E_ _ rfl) hrec'⟩
   |some cv=>obtain⟨c',rfl,hc'⟩:=hcs q7 cv am;refine kla_makeFunctionHit (mg:=X.mg) clo I.ok.glob glb n_ CH tabP htr am bAt λctv h' tk k hsz=>?_;obtain⟨c2,o,vs,tq,e1,e2,e3⟩:h2.CodeRec (.ref c') (X.env.qual ++ "<lambda>"):=(I2.hok c' _ hc').1;exact⟨_,rfl,f_ _ _ _ c' _ ctv (.inl rfl) (I2.kept (t':=tk) λb o e=>q_ _ (k b o e)) (λb o n e=>q_ _ (k b o e)) (E_ _ rfl) ⟨c2,o,vs,tq,e1,q_ _ (k _ _ e2),e3⟩⟩
  show wpAny _ _ (do
   let v <- (do let v <- eval (.Lambda (ff p0) (eB p1 p2 p3 p4 p5 p6) bo q7) X.env;standAt q9;pure v)
   return v::(<- holding [v] (evalAll []))) _ _ _
  refine o_ <| o_ <| Nu lam (λv s3 hv3=>?_) λ_ _ z=>z;obtain⟨f,rfl,hv3⟩:=hv3;exact o_ (O5 (B_ (o_ (Of (B_ (B_ hv3))))))
end
section
variable{K:W.Frag}{mg:Qb}{h:AH}
def LamT.one{P P':Addr}{q q':Str}(a:LamT K mg P q)(b:LamT K mg P' q'):q=q':=by
 obtain⟨x,f,oc,od,fd,sl,c,a1,a2,a3,a4,a5,a6,rfl⟩:=a;obtain⟨y,f',oc',od',fd',sl',c',b1,b2,b3,b4,b5,b6,rfl⟩:=b;have e:x=y:=by
  by_cases z:x=y
  .exact z
  .have:=a2 y b1 λw=>z w.symm
   rw[b3] at this;cases this
 subst e;rw[a3] at b3;cases b3;rw[a4] at b4;cases b4;rfl
def xY{pos:Pos}{a b:Int}{c cv:Value}(l:List Value)(h:TriplesOk l)(e:codeAmong pos (l++[rawInt a,rawInt b,c])=some cv):codeAmong pos l=some cv\/cv=c:=by
 fun_induction TriplesOk l with
 |
  case1=>
  simp only[Ny,codeAmong,rawInt] at e;split at e
  .cases e;exact .inr rfl
  .cases e
 |
  case2 a' t b' u x fu ih=>
  simp only[Po,codeAmong] at e ⊢;split at e
  .rename_i z;rw[if_pos z];exact .inl e
  .rename_i z;rw[if_neg z];exact ih h e
 |case3 l h1 h2=>exact h.elim
end
section
variable{prog:Program}{w:World}{A:Around}{E:Qd}{s:Shared}
def BN{r:Addr}{j:Int}{t u v:Tok}{n:Nat}{Q:Qd}(hh:A.handled=none)(hr:IsRange s.heap r 0 j 1 t u v)(i_:Builtin.Range.small 0 j 1=true)(hn:Builtin.Range.rangeSize 0 j 1=n)(a_:n<=2^24)
 (h:∀(h':Heap) (tk:Nat) (vs:List Value),s.heap.objs.size<=h'.objs.size->(∀b o,s.heap.get? b=some o->h'.get? b=some o)->vs.length=n->(∀(i:Nat) x,vs[i]?=some x->∃t,x=.int (i:Nat) t)->Q (.ref h'.objs.size) { s with heap:=h'.push { cls:=.type "tuple",data:=.seq vs.toArray },toks:=tk }):
 codeAny (model prog w) A (.call (.builtin "tuple.__new__") ⟨[.type "tuple",.ref r],[]⟩) (wants Q E) s:=by
 refine codeAny_of_tree ?_;show wpAny _ A.in1 (do checkBuiltinCall "tuple.__new__" ⟨[.type "tuple",.ref r],[]⟩;again (.builtin "tuple.__new__" ⟨[.type "tuple",.ref r],[]⟩)) _ _ s;refine o_ <| wpAny_of_eq (F.newCall_tuple_1 _) <| B_ ⟨plainId_quiet F.plain_tuple_new _,PM F.entry_tuple_new ?_⟩;rw[Around.under_plainId F.plain_tuple_new _];have hsub:=sub_tuple_self;have hinit:=init_tuple_lookup;have hmh:=madeHere_tuple;have hTI:s.TypeIs (.ref r) "range":=⟨_,hr,rfl⟩
 wp_walk using wpAny_typeOf hTI,mf (A:=A.in1) hh hr i_ hn a_
 intro h' tk vs sz k lv iv;show wpAny _ _ (Builtin.Tuple.tupleExact vs.toArray >>= λv=>ret v) _ _ _;unfold Builtin.Tuple.tupleExact;have big:sizeLine=16777216:=rfl;refine o_ <| N4 ?_ (by show vs.length<=_;omega);exact B_ (h h' tk vs sz k lv iv)
def Bf{r:Addr}{j:Int}{t u v:Tok}{n:Nat}{Q:Qd}(hh:A.handled=none)(hr:IsRange s.heap r 0 j 1 t u v)(i_:Builtin.Range.small 0 j 1=true)(hn:Builtin.Range.rangeSize 0 j 1=n)(a_:n<=2^24)
 (h:∀(h':Heap) (tk:Nat) (vs:List Value),s.heap.objs.size<=h'.objs.size->(∀b o,s.heap.get? b=some o->h'.get? b=some o)->vs.length=n->(∀(i:Nat) x,vs[i]?=some x->∃t,x=.int (i:Nat) t)->Q (.ref h'.objs.size) { s with heap:=h'.push { cls:=.type "tuple",data:=.seq vs.toArray },toks:=tk }):
 wpAny (model prog w) A (call (.type "tuple") [.ref r]) Q E s:=by
 refine callType_codes (Q₁:=λobj s₁=>s₁.TypeIs obj "tuple" /\ Q obj s₁) F.called_tuple (F.typeCall_tuple_1 _) F.entry_object_init (BN hh hr i_ hn a_ λh' tk vs sz k lv iv=>⟨⟨_,E_ _ rfl,rfl⟩,h h' tk vs sz k lv iv⟩) λobj s₁ h₁=>?_;exact⟨h₁.1,F.args_object_init_2 obj _,object_init_meets F.called_tuple.init.lookup F.called_tuple.made (by decide) prog w A.in1 _ s₁ ⟨h₁.1,rfl,h₁.2⟩⟩
end
section
variable{X:Cx}{mg:Qb}{a:Expr}{ta:TA}{pos q2 p1 p2:Pos}
def rTrg:List V->Hp->VK->Prop:=λxs H Q=>∃j:Int,xs=[.int j]/\0<=j/\j<=1000000/\∀l,H l=none->Q (.ref l) (upd H l (.tup (hZ j)))
theorem rJ:∀{vs:List Value} (i0:Nat),(∀(i:Nat) x,vs[i]?=some x->∃t,x=.int ((i0+i:Nat):Int) t)->Vals ((List.range' i0 vs.length).map λi:Nat=>V.int (i:Nat)) vs
 | [],_,_=>.nil
 |
  v::vs,i0,h=>by
  rw[F_,List.range'_succ,v_];refine .cons ?_ (rJ (i0+1) λi x e=>?_)
  .obtain⟨t,e⟩:=h 0 v rfl;exact⟨t,by rw[e];rfl⟩
  .obtain⟨t,e'⟩:=h (i+1) x (by simpa using e);exact⟨t,by rw[e'];congr 1;omega⟩
def J7(hc:X.calm=true)(hl:Gl X "tuple")(hml:X.mg "tuple"=none)(hg:Gl X "range")(hm:X.mg "range"=none)(ha:PA X [a] ta)(hs:starEach [a] X.env=[(false,eval a X.env)])
 (hs1:starEach [.Call (.Name "range" p2) [a] [] q2] X.env=[(false,eval (.Call (.Name "range" p2) [a] [] q2) X.env)]):
 PE X (.Call (.Name "tuple" p1) [.Call (.Name "range" p2) [a] [] q2] [] pos) (tCB rTrg ta):=by
 intro pins s σ H Q I h;refine NR (cL I hl hml (show bootBuiltins "tuple"=some (.type "tuple") from rfl) ?_ (by decide) (by decide));refine Np ?_ hs1 rfl;rw[hs1];show wpAny _ _ (spliced ((false,eval (.Call (.Name "range" p2) [a] [] q2) X.env)::[])) _ _ s;refine N5 ?_;refine NR (cL I hg hm (show bootBuiltins "range"=some (.type "range") from rfl) ?_ (by decide) (by decide));refine Np (thn (ha q2 pins s σ H _ I h) λus s1 zz=>exA zz λvs H1 I1 r1 z1=>?_) hs rfl;obtain⟨j,e,h1,h2,q⟩:=z1;subst e;cases r1 with
 |
  cons r rr=>
  cases rr;obtain⟨t,rfl⟩:=r;refine call_range_1 (OM ?_);have I2:Inv X pins σ H1 { s1 with heap:=s1.heap.push { cls:=.type "range",data:=.fields #[.int 0 s1.toks,.int j t,.int 1 (s1.toks+1)] },toks:=s1.toks+1+1 }:=I1.kept λb o e=>q_ _ e;refine Bf (I.ok.hd hc) (P4 ..) (small_one (by omega) (by omega) (by omega) (by omega)) (n:=j.toNat) (by rw[P_];split <;> omega) (by omega) λh' tk vs sz k lv iv=>?_;have rv:Vals (hZ j) vs:=by
   have:=rJ (vs:=vs) 0 λi x e=>by obtain⟨t,e'⟩:=iv i x e;exact⟨t,by rw[e'];congr 1;omega⟩
   rw[lv,<- List.range_eq_range'] at this;exact this
  have hz:(hZ j).length<=sizeLine:=by unfold hZ;rw[p_,C_];have:sizeLine=16777216:=rfl;omega
  exact⟨.ref _,_,I2.laid (t':=tk) (a:=h'.objs.size) (λb o e=>q_ _ (k b o e)) sz (show ObjOk X.prog X.w _ _ _ (.tup (hZ j)) from ⟨hz,vs,rv,⟨_,E_ _ rfl,rfl,_,rfl⟩⟩),rfl,q _ (I2.hok.fresh sz)⟩
end
noncomputable def ltS (x y:Str):Bool:=decide (x.cps.toList<y.cps.toList)
def Eg(K:W.Frag):List V->Hp->VK->Prop:=λxs H Q=>∃(a:Addr) (ns:List Int),xs=[.ref a]/\SqT K H a (ns.map V.int)/\ns≠[]/\Q (.int (mxI ns)) H
theorem tY:∀{ns:List Int}{its:List Value},Vals (ns.map V.int) its->its.length=ns.length/\∀(i:Nat) v,its[i]?=some v->∃t,v=Value.int (ns.getD i 0) t
 | [],_,r=>by cases r;exact⟨rfl,λi v e=>by simp at e⟩
 |
  n::ns,_,r=>by
  cases r with
  |
   cons r rr=>
   obtain⟨t,rfl⟩:=r;obtain⟨h1,h2⟩:=tY rr;refine⟨NA (· + 1) h1,λi v e=>?_⟩;cases i with
   |zero=>cases e;exact⟨t,rfl⟩
   |succ i=>exact h2 i v e
section
variable{X:Cx}{K:W.Frag}
def Am(hK:X.K=K)(hc:X.calm=true):CallR X (.builtin "max") (Eg K):=by
 subst hK;intro pins s σ H xs us Q I r h;obtain⟨a,ns,rfl,hq,hne,q⟩:=h;obtain⟨u,rfl,ru⟩:=eR r;cases ru;obtain⟨its,rv,p,hz⟩:=I.tuple hq;obtain⟨hl,at_⟩:=tY rv;have hp:=List.length_pos_iff.mpr hne;have at':∀i v,its.toArray[i]?=some v->∃t,v=Value.int (ns.getD i 0) t:=λi v e=>at_ i v (by simpa using e);have hlt:a<s.heap.objs.size:=by obtain⟨_,e,_⟩:=p;exact A_ e
 have p2:s.heap.IsTuple a its.toArray:=p;refine call_max_walk (wpAny_pyIter_tuple p2 ?_);refine⟨_,_,_,_,_,_,_,rfl,Walks.tuple (A:=X.A.in1) (I.ok.hd hc) _ a (L_ hlt) its.toArray,⟨⟨_,E_ _ rfl,rfl,rfl⟩,Heap.IsTuple.push p2 _⟩,λb hb=>?_,by rw[z_];omega,CmpOf.ints_gt (λi=>ns.getD i 0) at',λv h' tk hP hk=>?_⟩
 .show b<(s.heap.push _).objs.size;rw[OY];rcases G_.mp hb with rfl |hb
  .exact Nat.lt_succ_self _
  .rcases G_.mp hb with rfl |hb
   .exact Nat.lt_succ_of_lt hlt
   .cases hb
 .obtain⟨t,rfl⟩:=at' _ _ hP;obtain⟨h1,h2⟩:=argBest_gt (λi=>ns.getD i 0) (its.toArray.size-1);rw[z_] at h1 h2 ⊢;have e:ns.getD (argBest (λi j=>decide (ns.getD i 0>ns.getD j 0)) (its.length-1)) 0=mxI ns:=by
   refine Int.le_antisymm (tL ?_) ?_
   .rw[H_,y_ (by omega)];exact NX _
   .obtain⟨j,hj,e'⟩:=List.getElem_of_mem (F6 hne)
    have:=h2 j (by omega)
    rw[H_ (i:=j),y_ hj,Option.getD_some,e'] at this;exact this
  rw[e];exact⟨.int (mxI ns),H,I.kept (t':=tk) (λb o e=>hk b o (λz=>by rw[Nk] at z;subst z;exact absurd (A_ e) (NT _)) (q_ _ e)),⟨_,rfl⟩,q⟩
end
end L2
namespace L3
open PySem PySem.Spec PyProof.Rows L2
set_option genInjectivity true in
inductive Val where
 |non |bl (b:Bool) |int (i:Int) |str (x:Str) |ty (n:String) |glb (x:Str) |exc (x:Str)
 |tup (xs:List Val) |lst (xs:List Val) |kl (xs:List Val) |dct (kvs:List (Key×Val)) |set (xs:List Int)
 deriving Inhabited
abbrev St:=L2.St
structure LeH(H H':Hp):Prop where
 tup:∀b xs,H b=some (.tup xs)->H' b=some (.tup xs)
 frz:∀b o u,H b=some (.frz o u)->H' b=some (.frz o u)
 ext:∀b φ,H b=some (.ext φ)->H' b=some (.ext φ)
def LeH.refl:LeH H H:=⟨λ_ _ e=>e,λ_ _ _ e=>e,λ_ _ e=>e⟩
def LeH.trans(a:LeH H H1)(b:LeH H1 H2):LeH H H2:=⟨λx y e=>b.tup x y (a.tup x y e),λx y z e=>b.frz x y z (a.frz x y z e),λx y e=>b.ext x y (a.ext x y e)⟩
def Gr(H H':Hp):Prop:=∀a o,H a=some o->H' a=some o
def Gr.le(g:Gr H H'):LeH H H':=⟨λ_ _=>g _ _,λ_ _ _=>g _ _,λ_ _=>g _ _⟩
def Gr.refl:Gr H H:=λ_ _ e=>e
def Gr.upd(h:H p=none):Gr H (upd H p u):=λa o e=>by rw[aA (bS e h)];exact e
def Gr.none(g:Gr H H')(h:H' a=none):H a=none:=by
 cases q:H a with
 |none=>rfl
 |some o=>rw[g a o q] at h;cases h
def LeH.sqT{K:W.Frag}(l:LeH H H')(q:SqT K H a xs):SqT K H' a xs:=by
 rcases q with (q |⟨o,q⟩) |q
 .exact .inl (.inl (l.tup _ _ q))
 .exact .inl (.inr ⟨o,l.frz _ _ _ q⟩)
 .exact .inr q
section
variable(K:W.Frag)(mg:Qb)
def KlR(a:Addr)(vs:List V):Prop:=∃(o:Obj) (its:Array Value) (n:Nat),K.lookup a=some o/\o.cls=.type "list" /\ o.dict=none/\o.data=.seq its n/\its.size<=sizeLine/\Vals vs its.toList
mutual
inductive Rd(P:Addr->Prop)(H:Hp):V->Val->Prop where
 |non:Rd P H .non .non
 |bl (b:Bool):Rd P H (.bl b) (.bl b)
 |int (i:Int):Rd P H (.int i) (.int i)
 |str (x:Str):Rd P H (.str x) (.str x)
 |ty (n:String):Rd P H (.ty n) (.ty n)
 |glb {x:Str}{a:Addr} (m:mg x=some (.ref a)):Rd P H (.ref a) (.glb x)
 |exc {x:Str}{a C:Addr} (m:mg x=some (.ref C)) (e:H a=some (.ext (xt a C))):Rd P H (.ref a) (.exc x)
 |tup {p:Addr}{vs:List V}{us:List Val} (h:SqT K H p vs) (r:Rds P H vs us):Rd P H (.ref p) (.tup us)
 |kl {a:Addr}{vs:List V}{us:List Val} (h:KlR K a vs) (r:Rds P H vs us):Rd P H (.ref a) (.kl us)
 |cell {a:Addr}{o:HO}{v:Val} (p:P a) (e:H a=some o) (r:Rc P H o v):Rd P H (.ref a) v
inductive Rc(P:Addr->Prop)(H:Hp):HO->Val->Prop where
 |lst {vs:List V}{us:List Val} (r:Rds P H vs us):Rc P H (.lst vs) (.lst us)
 |fz {o:Obj}{vs:List V}{us:List Val} (r:Rds P H vs us):Rc P H (.frz o (.lst vs)) (.kl us)
 |dct {ws:List (Key×V)}{us:List (Key×Val)} (r:Rk P H ws us):Rc P H (.dK ws) (.dct us)
 |set (xs:List Int) (nd:xs.Nodup):Rc P H (.set (λi=>decide (i∈xs)) xs.length) (.set xs)
inductive Rds(P:Addr->Prop)(H:Hp):List V->List Val->Prop where
 |nil:Rds P H [] []
 |cons {d:V}{v:Val}{ds:List V}{vs:List Val} (r:Rd P H d v) (rr:Rds P H ds vs):Rds P H (d::ds) (v::vs)
inductive Rk(P:Addr->Prop)(H:Hp):List (Key×V)->List (Key×Val)->Prop where
 |nil:Rk P H [] []
 |cons {k:Key}{d:V}{v:Val}{ds:List (Key×V)}{vs:List (Key×Val)} (r:Rd P H d v) (rr:Rk P H ds vs):Rk P H ((k,d)::ds) ((k,v)::vs)
end
end
def nK(o:HO):Prop:=∀ps,o ≠ .tbl ps
structure Mov(P P':Addr->Prop)(H H':Hp):Prop where
 le:LeH H H'
 cl:∀a o,P a->H a=some o->nK o->P' a/\H' a=some o
def Gr.mov(g:Gr H H'):Mov P P H H':=⟨g.le,λa o p e _=>⟨p,g a o e⟩⟩
def Mov.of(h:∀a,P a->P' a):Mov P P' H H:=⟨.refl,λa o p e _=>⟨h a p,e⟩⟩
section
variable{K:W.Frag}{mg:Qb}{P P':Addr->Prop}{H H':Hp}
def Rc.nt(r:Rc K mg P H o v):nK o:=by cases r <;> exact λ_ z=>nomatch z
def Rd.mono(m:Mov P P' H H')(r:Rd K mg P H d v):Rd K mg P' H' d v:=@Rd.rec K mg P H (λd v _=>Rd K mg P' H' d v) (λo v _=>Rc K mg P' H' o v) (λds vs _=>Rds K mg P' H' ds vs) (λws us _=>Rk K mg P' H' ws us) .non (λb=>.bl b) (λi=>.int i) (λx=>.str x) (λn=>.ty n) (λe=>.glb e) (λq e=>.exc q (m.le.ext _ _ e)) (λh _ ih=>.tup (m.le.sqT h) ih) (λh _ ih=>.kl h ih) (λp e r ih=>.cell (m.cl _ _ p e r.nt).1 (m.cl _ _ p e r.nt).2 ih) (λ_ ih=>.lst ih) (λ_ ih=>.fz ih) (λ_ ih=>.dct ih) (λxs nd=>.set xs nd) .nil (λ_ _ a b=>.cons a b) .nil (λ_ _ a b=>.cons a b) d v r
def Rds.ind{M:List V->List Val->Prop}(h0:M [] [])(h1:∀{d v ds vs},Rd K mg P H d v->Rds K mg P H ds vs->M ds vs->M (d::ds) (v::vs)){ds:List V}{vs:List Val}(r:Rds K mg P H ds vs):M ds vs:=by
 induction ds generalizing vs with
 |nil=>cases r;exact h0
 |
  cons d ds ih=>
  cases r with
  |cons r rr=>exact h1 r rr (ih rr)
def Rk.ind{M:List (Key×V)->List (Key×Val)->Prop}(h0:M [] [])(h1:∀{k d v ds vs},Rd K mg P H d v->Rk K mg P H ds vs->M ds vs->M ((k,d)::ds) ((k,v)::vs)){ds:List (Key×V)}{vs:List (Key×Val)}(r:Rk K mg P H ds vs):M ds vs:=by
 induction ds generalizing vs with
 |nil=>cases r;exact h0
 |
  cons d ds ih=>
  cases r with
  |cons r rr=>exact h1 r rr (ih rr)
def Rds.mono(m:Mov P P' H H'){d:List V}{v:List Val}(r:Rds K mg P H d v):Rds K mg P' H' d v:=r.ind .nil λr _ ih=>.cons (r.mono m) ih
def Rk.mono(m:Mov P P' H H'){d:List (Key×V)}{v:List (Key×Val)}(r:Rk K mg P H d v):Rk K mg P' H' d v:=r.ind .nil λr _ ih=>.cons (r.mono m) ih
def Rc.mono(m:Mov P P' H H')(r:Rc K mg P H d v):Rc K mg P' H' d v:=by
 cases r with
 |lst r=>exact .lst (r.mono m)
 |fz r=>exact .fz (r.mono m)
 |dct r=>exact .dct (r.mono m)
 |set xs nd=>exact .set xs nd
def Rds.len{ds:List V}{vs:List Val}(r:Rds K mg P H ds vs):ds.length=vs.length:=r.ind (M:=λds vs=>ds.length=vs.length) rfl λ_ _ ih=>NA (· + 1) ih
def Rds.get{ds:List V}{vs:List Val}{i:Nat}{v:Val}(r:Rds K mg P H ds vs)(e:vs[i]?=some v):∃d,ds[i]?=some d/\Rd K mg P H d v:=
 r.ind (M:=λds vs=>∀i,vs[i]?=some v->∃d,ds[i]?=some d/\Rd K mg P H d v) (λ_ e=>by rw[List.getElem?_nil] at e;cases e) (λr _ ih i e=>match i,e with
  |0,e=>by cases e;exact⟨_,rfl,r⟩
  |i+1,e=>ih i e) i e
def Rds.append{ds es:List V}{vs ws:List Val}(r:Rds K mg P H ds vs)(q:Rds K mg P H es ws):Rds K mg P H (ds++es) (vs++ws):=r.ind (M:=λds vs=>Rds K mg P H (ds++es) (vs++ws)) q λr _ ih=>.cons r ih
def Rds.take{ds:List V}{vs:List Val}(n:Nat)(r:Rds K mg P H ds vs):Rds K mg P H (ds.take n) (vs.take n):=
 r.ind (M:=λds vs=>∀n:Nat,Rds K mg P H (ds.take n) (vs.take n)) (λn=>by rw[Pl,Pl];exact .nil) (λr _ ih n=>by cases n with |zero=>exact .nil |succ n=>exact .cons r (ih n)) n
def Rds.drop{ds:List V}{vs:List Val}(n:Nat)(r:Rds K mg P H ds vs):Rds K mg P H (ds.drop n) (vs.drop n):=
 r.ind (M:=λds vs=>∀n:Nat,Rds K mg P H (ds.drop n) (vs.drop n)) (λn=>by rw[P6,P6];exact .nil) (λr rr ih n=>by cases n with |zero=>exact .cons r rr |succ n=>exact ih n) n
theorem Rds.rep(r:Rds K mg P H xs vs):∀n:Nat,Rds K mg P H (List.replicate n xs).flatten (List.replicate n vs).flatten
 |0=>.nil
 |
  n+1=>by
  rw[ND,ND,N_,N_];exact r.append (Rds.rep r n)
def ShR(K:W.Frag)(mg:Qb)(P:Addr->Prop)(H:Hp)(d:V)(v:Val):Prop:=Rd K mg P H d v\/∃a o,d=.ref a/\H a=some o/\Rc K mg P H o v
inductive ShRs(K:W.Frag)(mg:Qb)(P:Addr->Prop)(H:Hp):List V->List Val->Prop where
 |nil:ShRs K mg P H [] []
 |cons {d:V}{v:Val}{ds:List V}{vs:List Val} (r:ShR K mg P H d v) (rr:ShRs K mg P H ds vs):ShRs K mg P H (d::ds) (v::vs)
def ShR.mono(m:Mov P P' H H')(g:Gr H H')(r:ShR K mg P H d v):ShR K mg P' H' d v:=by
 rcases r with r |⟨a,o,rfl,e,r⟩
 .exact .inl (r.mono m)
 .exact .inr ⟨a,o,rfl,g a o e,r.mono m⟩
def ShR.int(r:ShR K mg P H d (.int i)):d=.int i:=by
 rcases r with r |⟨n,o,rfl,e,r⟩
 .cases r with
  |int=>rfl
  |cell p e r=>cases r
 .cases r
def ShR.str(r:ShR K mg P H d (.str i)):d=.str i:=by
 rcases r with r |⟨n,o,rfl,e,r⟩
 .cases r with
  |str=>rfl
  |cell p e r=>cases r
 .cases r
def ShR.bl(r:ShR K mg P H d (.bl i)):d=.bl i:=by
 rcases r with r |⟨n,o,rfl,e,r⟩
 .cases r with
  |bl=>rfl
  |cell p e r=>cases r
 .cases r
def ShR.non(r:ShR K mg P H d .non):d=.non:=by
 rcases r with r |⟨n,o,rfl,e,r⟩
 .cases r with
  |non=>rfl
  |cell p e r=>cases r
 .cases r
def ShR.exc(r:ShR K mg P H d (.exc x)):∃a C,d=.ref a/\mg x=some (.ref C)/\H a=some (.ext (xt a C)):=by
 rcases r with r |⟨n,o,rfl,e,r⟩
 .cases r with
  |exc m e=>exact⟨_,_,rfl,m,e⟩
  |cell p e r=>cases r
 .cases r
def ShR.ty(r:ShR K mg P H d (.ty x)):d=.ty x:=by
 rcases r with r |⟨n,o,rfl,e,r⟩
 .cases r with
  |ty=>rfl
  |cell p e r=>cases r
 .cases r
def ShR.glb(r:ShR K mg P H d (.glb x)):∃a,d=.ref a/\mg x=some (.ref a):=by
 rcases r with r |⟨n,o,rfl,e,r⟩
 .cases r with
  |glb m=>exact⟨_,rfl,m⟩
  |cell p e r=>cases r
 .cases r
def ShR.tup(r:ShR K mg P H d (.tup us)):∃p vs,d=.ref p/\SqT K H p vs/\Rds K mg P H vs us:=by
 rcases r with r |⟨n,o,rfl,e,r⟩
 .cases r with
  |tup h r=>exact⟨_,_,rfl,h,r⟩
  |cell p e r=>cases r
 .cases r
def ShR.lst(r:ShR K mg P H d (.lst us)):∃a vs,d=.ref a/\H a=some (.lst vs)/\Rds K mg P H vs us:=by
 rcases r with r |⟨n,o,rfl,e,r⟩
 .cases r with
  |cell p e r=>cases r with |lst r=>exact⟨_,_,rfl,e,r⟩
 .cases r with |lst r=>exact⟨_,_,rfl,e,r⟩
def ShR.set(r:ShR K mg P H d (.set xs)):∃a,d=.ref a/\xs.Nodup/\H a=some (.set (λi=>decide (i∈xs)) xs.length):=by
 rcases r with r |⟨n,o,rfl,e,r⟩
 .cases r with
  |cell p e r=>cases r with |set _ nd=>exact⟨_,rfl,nd,e⟩
 .cases r with |set _ nd=>exact⟨_,rfl,nd,e⟩
def ShR.dct(r:ShR K mg P H d (.dct us)):∃a ws,d=.ref a/\H a=some (.dK ws)/\Rk K mg P H ws us:=by
 rcases r with r |⟨n,o,rfl,e,r⟩
 .cases r with
  |cell p e r=>cases r with |dct r=>exact⟨_,_,rfl,e,r⟩
 .cases r with |dct r=>exact⟨_,_,rfl,e,r⟩
def ShR.kl(r:ShR K mg P H d (.kl us)):∃a vs,d=.ref a/\SqL K H a vs/\Rds K mg P H vs us:=by
 rcases r with r |⟨n,o,rfl,e,r⟩
 .cases r with
  |kl h r=>exact⟨_,_,rfl,.inr h,r⟩
  |cell p e r=>cases r with |fz r=>exact⟨_,_,rfl,.inl (.inr ⟨_,e⟩),r⟩
 .cases r with |fz r=>exact⟨_,_,rfl,.inl (.inr ⟨_,e⟩),r⟩
def ShR.lstL(r:ShR K mg P H d (.lst us)):∃a vs,d=.ref a/\SqL K H a vs/\Rds K mg P H vs us:=by obtain⟨a,vs,e,h,q⟩:=r.lst;exact⟨a,vs,e,SqL.of h,q⟩
end
noncomputable def Val.items:Val->Option (List Val)
 |.tup xs=>some xs
 |.lst xs=>some xs
 |.kl xs=>some xs
 |_=>none
def ShR.items{K:W.Frag}{mg:Qb}{P:Addr->Prop}{H:Hp}{d:V}{v:Val}{us:List Val}(r:ShR K mg P H d v)(e:v.items=some us):∃a vs,d=.ref a/\(SqL K H a vs\/SqT K H a vs)/\Rds K mg P H vs us:=by
 cases v with
 |tup xs=>cases e;obtain⟨a,vs,h1,h2,h3⟩:=r.tup;exact⟨a,vs,h1,.inr h2,h3⟩
 |lst xs=>cases e;obtain⟨a,vs,h1,h2,h3⟩:=r.lstL;exact⟨a,vs,h1,.inl h2,h3⟩
 |kl xs=>cases e;obtain⟨a,vs,h1,h2,h3⟩:=r.kl;exact⟨a,vs,h1,.inl h2,h3⟩
 |_=>cases e
inductive Sl where
 |no |sh (v:Val) |ow (v:Val) |mu (v:Val) |lo (v:Val) |lm (v:Val)
 deriving Inhabited
abbrev E3:=List Sl
noncomputable def Sl.val:Sl->Option Val
 |.no=>none
 |.sh v=>some v
 |.ow v=>some v
 |.mu v=>some v
 |.lo v=>some v
 |.lm v=>some v
noncomputable def Sl.mt:Sl->Bool
 |.ow _=>true
 |.mu _=>true
 |_=>false
noncomputable def Sl.lk:Sl->Bool
 |.lo _=>true
 |.lm _=>true
 |_=>false
abbrev Ns:=List (Option Addr)
def Oc(X:Addr->Prop)(ns:Ns)(n:Addr):Prop:=¬ X n/\some n∉ns
def NotFz:HO->Prop
 |.lst _=>True
 |.dK _=>True
 |.set _ _=>True
 |_=>False
def TbQ(H:Hp)(P:Addr)(q:Str):Prop:=∃ps:Array Value,H P=some (.tbl ps)/\TriplesOk ps.toList/\∀pos cv,codeAmong pos ps.toList=some cv->∃c,cv=.ref c/\H c=some (.ext (fJ c q))
section
variable(K:W.Frag)(mg:Qb)
def Bs(H:Hp):Prop:=∀P q,LamT K mg P q->TbQ H P q/\uv K mg H
def SlR(P:Addr->Prop)(N0:Addr->Prop)(n:Option (Option Addr))(d:Option (Option V))(H:Hp):Sl->Prop
 |.no=>n=some none
 |.sh v=>n=some none/\∃x,d=some (some x)/\Rd K mg P H x v
 |.ow v=>∃m o,n=some (some m)/\d=some (some (.ref m))/\N0 m/\H m=some o/\NotFz o/\Rc K mg P H o v
 |.lo v=>∃m o,n=some (some m)/\d=some (some (.ref m))/\N0 m/\H m=some o/\NotFz o/\Rc K mg P H o v
 |.mu v=>∃m o,n=some (some m)/\d=some (some (.ref m))/\H m=some o/\NotFz o/\Rc K mg P H o v
 |.lm v=>∃m o,n=some (some m)/\d=some (some (.ref m))/\H m=some o/\NotFz o/\Rc K mg P H o v
structure Sat(X:Addr->Prop)(N0:Addr->Prop)(ns:Ns)(e:E3)(σ:St)(H:Hp):Prop where
 l1:σ.length=e.length
 l2:ns.length=e.length
 lh:∀a,H a=none->N0 a
 xl:∀a,X a->∃o,H a=some o
 inj:∀(i j:Nat) (n:Addr),ns[i]?=some (some n)->ns[j]?=some (some n)->i=j
 nx:∀(i:Nat) (n:Addr),ns[i]?=some (some n)->¬ X n
 sl:∀(i:Nat) (s:Sl),e[i]?=some s->SlR K mg (Oc X ns) N0 (ns[i]?) (σ[i]?) H s
 bs:Bs K mg H
end
def Mt(ns:Ns)(e:E3)(n:Addr):Prop:=∃(i:Nat) (s:Sl),ns[i]?=some (some n)/\e[i]?=some s/\s.mt=true
structure Stp(ns:Ns)(e:E3)(H:Hp)(ns':Ns)(e':E3)(H':Hp):Prop where
 le:LeH H H'
 dom:∀a,H' a=none->H a=none
 keep:∀(m:Addr) (o:HO),H m=some o->nK o->¬ Mt ns e m->H' m=some o
 nw:∀(i:Nat) (n:Addr),ns'[i]?=some (some n)->ns[i]?=some (some n)\/H n=none
 lk:∀(i:Nat) (s:Sl),e[i]?=some s->s.lk=true->e'[i]?=some s/\ns'[i]?=ns[i]?
 lk':∀(i:Nat) (s:Sl),e'[i]?=some s->s.lk=true->e[i]?=some s/\ns'[i]?=ns[i]?
 mu:∀(i:Nat) (v:Val),e'[i]?=some (.mu v)->∃u,e[i]?=some (.mu u)/\ns'[i]?=ns[i]?
 mu':∀(i:Nat) (u:Val),e[i]?=some (.mu u)->∃v,e'[i]?=some (.mu v)/\ns'[i]?=ns[i]?
section
variable{K:W.Frag}{mg:Qb}{X Y N0 P P':Addr->Prop}{ns ns1 e_:Ns}{e e1 e2:E3}{σ:St}{H H' H1 H2:Hp}
def NotFz.nt(h:NotFz o):nK o:=λps z=>by subst z;exact h
def NotFz.no(h:NotFz o):(∀xs,o ≠ .tup xs)/\(∀x y,o ≠ .frz x y)/\(∀φ,o ≠ .ext φ)/\∀ps,o ≠ .tbl ps:=
 ⟨λ_ z=>by subst z;exact h,λ_ _ z=>by subst z;exact h,λ_ z=>by subst z;exact h,λ_ z=>by subst z;exact h⟩
def LeH.wr(q:H a=some u)(hf:NotFz u):LeH H (upd H a o):=by
 have n:∀b w,H b=some w->w≠u->upd H a o b=some w:=λb w e z=>by rw[aA λy=>?_];exact e;subst y;rw[q] at e;exact z (K_ e).symm
 exact⟨λb xs e=>n b _ e λz=>hf.no.1 _ z.symm,λb x y e=>n b _ e λz=>hf.no.2.1 _ _ z.symm,λb φ e=>n b _ e λz=>hf.no.2.2.1 _ z.symm⟩
def DN(b:uv K mg H)(l:LeH H H'):uv K mg H':=by
 obtain⟨x,o,h1,h2,h3,h4,h5⟩:=b;refine⟨x,o,h1,h2,h3,h4,?_⟩;rcases h5 with z |⟨u,z⟩
 .exact .inl z
 .exact .inr ⟨u,l.frz _ _ _ z⟩
def Bs.of(b:Bs K mg H)(l:LeH H H')(t:∀a ps,H a=some (.tbl ps)->H' a=some (.tbl ps)):Bs K mg H':=λP q h=>by obtain⟨⟨ps,h1,h2,h3⟩,m⟩:=b P q h;exact⟨⟨ps,t _ _ h1,h2,λpos cv z=>by obtain⟨c,y1,y2⟩:=h3 pos cv z;exact⟨c,y1,l.ext _ _ y2⟩⟩,DN m l⟩
def Bs.gr(b:Bs K mg H)(g:Gr H H'):Bs K mg H':=b.of g.le λa _=>g a _
def Bs.wr(b:Bs K mg H)(q:H a=some u)(hf:NotFz u):Bs K mg (upd H a o):=b.of (LeH.wr q hf) λc ps e=>by rw[aA λy=>?_];exact e;subst y;rw[q] at e;exact hf.no.2.2.2 _ (K_ e)
def aW{n:Addr}:some n∈ns ↔ ∃i:Nat,ns[i]?=some (some n):=by
 constructor
 .intro m;exact List.getElem?_of_mem m
 .rintro⟨i,e⟩;exact O1 e
def Sat.own(S:Sat K mg X N0 ns e σ H){i:Nat}{n:Addr}(q:ns[i]?=some (some n)):∃s v o,e[i]?=some s/\(s.mt=true\/s.lk=true)/\s.val=some v/\σ[i]?=some (some (.ref n))/\H n=some o/\NotFz o/\Rc K mg (Oc X ns) H o v:=by
 have hi:i<e.length:=by rw[<- S.l2];exact (D_.mp q).1
 have hs:=S.sl i e[i] (y_ hi);refine⟨e[i],?_⟩;have he:=y_ hi;generalize e[i]=s at *;rw[q] at hs;cases s with
 |no=>cases hs
 |sh v=>cases hs.1
 |ow v=>obtain⟨m,o,e1,e2,_,e3,e4,e5⟩:=hs;cases e1;exact⟨v,o,he,.inl rfl,rfl,e2,e3,e4,e5⟩
 |lo v=>obtain⟨m,o,e1,e2,_,e3,e4,e5⟩:=hs;cases e1;exact⟨v,o,he,.inr rfl,rfl,e2,e3,e4,e5⟩
 |mu v=>obtain⟨m,o,e1,e2,e3,e4,e5⟩:=hs;cases e1;exact⟨v,o,he,.inl rfl,rfl,e2,e3,e4,e5⟩
 |lm v=>obtain⟨m,o,e1,e2,e3,e4,e5⟩:=hs;cases e1;exact⟨v,o,he,.inr rfl,rfl,e2,e3,e4,e5⟩
def Stp.gr(g:Gr H H'):Stp ns e H ns e H':=⟨g.le,λ_=>g.none,λ_ _ q _ _=>g _ _ q,λ_ _ q=>.inl q,λ_ _ q _=>⟨q,rfl⟩,λ_ _ q _=>⟨q,rfl⟩,λ_ _ q=>⟨_,q,rfl⟩,λ_ _ q=>⟨_,q,rfl⟩⟩
def Stp.refl:Stp ns e H ns e H:=.gr .refl
def Stp.trans(S:Sat K mg X N0 ns e σ H)(a:Stp ns e H ns1 e1 H1)(b:Stp ns1 e1 H1 e_ e2 H2):Stp ns e H e_ e2 H2:=by
 refine⟨a.le.trans b.le,λx z=>a.dom x (b.dom x z),λm o q ht hm=>?_,λi n q=>?_,λi s q hl=>?_,λi s q hl=>?_,λi v q=>?_,λi v q=>?_⟩
 .refine b.keep m o (a.keep m o q ht hm) ht λ⟨i,s,z1,z2,z3⟩=>hm ?_;rcases a.nw i m z1 with z |z
  .obtain⟨s0,v,o',q1,q2,_⟩:=S.own z;rcases q2 with q2 |q2
   .exact⟨i,s0,z,q1,q2⟩
   .have:=(a.lk i s0 q1 q2).1
    rw[z2] at this;cases this;exfalso;cases s <;> first |cases z3;done |cases q2;done
  .rw[q] at z;cases z
 .rcases b.nw i n q with z |z
  .exact a.nw i n z
  .exact .inr (a.dom n z)
 .obtain⟨q1,q2⟩:=a.lk i s q hl;obtain⟨q3,q4⟩:=b.lk i s q1 hl;exact⟨q3,q4.trans q2⟩
 .obtain⟨q1,q2⟩:=b.lk' i s q hl;obtain⟨q3,q4⟩:=a.lk' i s q1 hl;exact⟨q3,q2.trans q4⟩
 .obtain⟨u,q1,q2⟩:=b.mu i v q;obtain⟨u',q3,q4⟩:=a.mu i u q1;exact⟨u',q3,q2.trans q4⟩
 .obtain⟨u,q1,q2⟩:=a.mu' i v q;obtain⟨u',q3,q4⟩:=b.mu' i u q1;exact⟨u',q3,q4.trans q2⟩
def Stp.mov(a:Stp ns e H ns1 e1 H1):Mov (Oc X ns) (Oc X ns1) H H1:=⟨a.le,λn o p q ht=>by
 have hm:¬ Mt ns e n:=λ⟨i,s,z,_⟩=>p.2 (aW.mpr ⟨i,z⟩);refine⟨⟨p.1,λz=>?_⟩,a.keep n o q ht hm⟩;obtain⟨i,z⟩:=aW.mp z;rcases a.nw i n z with z |z
 .exact p.2 (aW.mpr ⟨i,z⟩)
 .rw[q] at z;cases z⟩
def SlR.mono(m:Mov P P' H H')(k:∀j o,n=some (some j)->H j=some o->NotFz o->H' j=some o)(r:SlR K mg P N0 n d H s):SlR K mg P' N0 n d H' s:=by
 cases s with
 |no=>exact r
 |sh v=>obtain⟨q,x,q1,q2⟩:=r;exact⟨q,x,q1,q2.mono m⟩
 |ow v=>obtain⟨j,o,q1,q2,q3,q4,q5,q6⟩:=r;exact⟨j,o,q1,q2,q3,k j o q1 q4 q5,q5,q6.mono m⟩
 |lo v=>obtain⟨j,o,q1,q2,q3,q4,q5,q6⟩:=r;exact⟨j,o,q1,q2,q3,k j o q1 q4 q5,q5,q6.mono m⟩
 |mu v=>obtain⟨j,o,q1,q2,q4,q5,q6⟩:=r;exact⟨j,o,q1,q2,k j o q1 q4 q5,q5,q6.mono m⟩
 |lm v=>obtain⟨j,o,q1,q2,q4,q5,q6⟩:=r;exact⟨j,o,q1,q2,k j o q1 q4 q5,q5,q6.mono m⟩
def Xn(X:Addr->Prop)(n:Addr):Addr->Prop:=λm=>X m\/m=n
def Sat.gr(S:Sat K mg X N0 ns e σ H)(g:Gr H H'):Sat K mg X N0 ns e σ H':=
 ⟨S.l1,S.l2,λa z=>S.lh a (g.none z),λa z=>by obtain⟨o,q⟩:=S.xl a z;exact⟨o,g a o q⟩,S.inj,S.nx,λi s q=>(S.sl i s q).mono g.mov λj o _ q _=>g j o q,S.bs.gr g⟩
def Sat.grow(S:Sat K mg X N0 ns e σ H)(g:Gr H H')(hp:H p=none)(q:H' p=some o):Sat K mg (Xn X p) N0 ns e σ H':=by
 have S':=S.gr g;have np:∀b u,H b=some u->b≠p:=λb u y z=>by subst z;rw[hp] at y;cases y
 refine⟨S.l1,S.l2,S'.lh,λa z=>?_,S.inj,λi n q' z=>?_,λi s q=>(S.sl i s q).mono ⟨g.le,λa o p q _=>⟨⟨λz=>?_,p.2⟩,g a o q⟩⟩ λj o _ q _=>g j o q,S'.bs⟩
 .rcases z with z |rfl
  .exact S'.xl a z
  .exact⟨o,q⟩
 .rcases z with z |rfl
  .exact S.nx i n q' z
  .obtain⟨_,_,_,_,_,_,_,y,_⟩:=S.own q';exact np _ _ y rfl
 .rcases z with z |z
  .exact p.1 z
  .exact np _ _ q z
def Sat.weak(S:Sat K mg Y N0 ns e σ H)(hx:∀n,X n->Y n):Sat K mg X N0 ns e σ H:=
 ⟨S.l1,S.l2,S.lh,λn z=>S.xl n (hx n z),S.inj,λi n q z=>S.nx i n q (hx n z),λi s q=>(S.sl i s q).mono (.of λn p=>⟨λz=>p.1 (hx n z),p.2⟩) λ_ _ _ q _=>q,S.bs⟩
end
section
variable{K:W.Frag}{mg:Qb}{X N0:Addr->Prop}{ns ns0:Ns}{e e0:E3}{σ:St}{H Hs:Hp}
def bM{α:Type}{l:List α}{i j:Nat}{a b:α}(hi:i<l.length)(q:(l.set i a)[j]?=some b):(j=i/\b=a)\/(j≠i/\l[j]?=some b):=by
 rw[List.getElem?_set] at q;by_cases z:i=j
 .subst z;rw[if_pos rfl,if_pos hi] at q;exact .inl ⟨rfl,(K_ q).symm⟩
 .rw[if_neg z] at q;exact .inr ⟨λy=>z y.symm,q⟩
def c7{α:Type}{l:List α}{i:Nat}{a:α}(hi:i<l.length):(l.set i a)[i]?=some a:=by rw[List.getElem?_set,if_pos rfl,if_pos hi]
def cF{α:Type}{l:List α}{i j:Nat}{a:α}(hi:j≠i):(l.set i a)[j]?=l[j]?:=by rw[PD (λy=>hi y.symm)]
def fX{n:Addr}(p:Oc X ns n):Oc X (ns.set i none) n:=⟨p.1,λz=>by
 rcases List.mem_or_eq_of_mem_set z with z |z
 .exact p.2 z
 .cases z⟩
def Sat.putN(S:Sat K mg X N0 ns e σ H)(hi:i<e.length)(q:SlR K mg (Oc X (ns.set i none)) N0 (some none) (some d) H s):Sat K mg X N0 (ns.set i none) (e.set i s) (σ.set i d) H:=by
 have hn:i<ns.length:=by rw[S.l2];exact hi
 have ha:i<σ.length:=by rw[S.l1];exact hi
 refine⟨by rw[NI,NI];exact S.l1,by rw[NI,NI];exact S.l2,S.lh,S.xl,λj k n q1 q2=>?_,λj n q1=>?_,λj s' q1=>?_,S.bs⟩
 .rcases bM hn q1 with ⟨_,z⟩ |⟨_,z⟩
  .cases z
  rcases bM hn q2 with ⟨_,y⟩ |⟨_,y⟩
  .cases y
  exact S.inj j k n z y
 .rcases bM hn q1 with ⟨_,z⟩ |⟨_,z⟩
  .cases z
  exact S.nx j n z
 .rcases bM hi q1 with ⟨rfl,rfl⟩ |⟨z,q2⟩
  .rw[c7 hn,c7 ha];exact q
  .rw[cF z,cF z];exact (S.sl j s' q2).mono (.of λn p=>fX p) λ_ _ _ q _=>q
def Sat.putN'(S:Sat K mg X N0 ns e σ H)(hi:i<e.length)(q:SlR K mg (Oc X (ns.set i none)) N0 (some none) (σ[i]?) H s):Sat K mg X N0 (ns.set i none) (e.set i s) σ H:=by
 have ha:i<σ.length:=by rw[S.l1];exact hi
 have:=S.putN hi (s:=s) (d:=σ[i]) (by rw[y_ ha] at q;exact q)
 rw[List.set_getElem_self] at this;exact this
def Sat.putO(S:Sat K mg (Xn X n) N0 ns e σ H)(hx:¬ X n)(hi:i<e.length)(hn0:N0 n)(eo:H n=some o)(hf:NotFz o)(r:Rc K mg (Oc (Xn X n) ns) H o v):Sat K mg X N0 (ns.set i (some n)) (e.set i (.ow v)) (σ.set i (some (.ref n))) H:=by
 have hn:i<ns.length:=by rw[S.l2];exact hi
 have ha:i<σ.length:=by rw[S.l1];exact hi
 have nn:∀j:Nat,ns[j]?≠some (some n):=λj q=>S.nx j n q (.inr rfl);have mv:Mov (Oc (Xn X n) ns) (Oc X (ns.set i (some n))) H H:=.of λm p=>⟨λz=>p.1 (.inl z),λz=>by
  rcases List.mem_or_eq_of_mem_set z with z |z
  .exact p.2 z
  .cases z;exact p.1 (.inr rfl)⟩
 refine⟨by rw[NI,NI];exact S.l1,by rw[NI,NI];exact S.l2,S.lh,λm z=>S.xl m (.inl z),λj k m q1 q2=>?_,λj m q1 z=>?_,λj s' q1=>?_,S.bs⟩
 .rcases bM hn q1 with ⟨z1,z⟩ |⟨z1,z⟩ <;> rcases bM hn q2 with ⟨y1,y⟩ |⟨y1,y⟩
  .rw[z1,y1]
  .cases z;exact absurd y (nn k)
  .cases y;exact absurd z (nn j)
  .exact S.inj j k m z y
 .rcases bM hn q1 with ⟨_,y⟩ |⟨_,y⟩
  .cases y;exact hx z
  .exact S.nx j m y (.inl z)
 .rcases bM hi q1 with ⟨rfl,rfl⟩ |⟨z,q2⟩
  .rw[c7 hn,c7 ha];exact⟨n,o,rfl,rfl,hn0,eo,hf,r.mono mv⟩
  .rw[cF z,cF z];exact (S.sl j s' q2).mono mv λ_ _ _ q _=>q
noncomputable def Sl.pl:Sl->Bool
 |.no=>true
 |.sh _=>true
 |.ow _=>true
 |_=>false
def Stp.put(A:Stp ns0 e0 Hs ns e H)(hi:i<e.length)(hx:∀n,x=some n->Hs n=none)(q0:e[i]?=some s0)(p0:s0.pl=true)(p:s.pl=true)(l2:ns.length=e.length):Stp ns0 e0 Hs (ns.set i x) (e.set i s) H:=by
 have hn:i<ns.length:=by rw[l2];exact hi
 refine⟨A.le,A.dom,A.keep,λj n q=>?_,λj s' q hl=>?_,λj s' q hl=>?_,λj v q=>?_,λj v q=>?_⟩
 .rcases bM hn q with ⟨_,z⟩ |⟨_,z⟩
  .exact .inr (hx n z.symm)
  .exact A.nw j n z
 .obtain⟨q1,q2⟩:=A.lk j s' q hl;have z:j≠i:=λz=>by subst z;rw[q0] at q1;cases q1;cases s0 <;> first |cases p0;done |cases hl;done
  rw[cF z,cF z];exact⟨q1,q2⟩
 .rcases bM hi q with ⟨_,z⟩ |⟨z,q1⟩
  .subst z;cases s' <;> first |cases p;done |cases hl;done
  .rw[cF z];exact A.lk' j s' q1 hl
 .rcases bM hi q with ⟨_,z⟩ |⟨z,q1⟩
  .subst z;cases p
  .rw[cF z];exact A.mu j v q1
 .obtain⟨u,q1,q2⟩:=A.mu' j v q;have z:j≠i:=λz=>by subst z;rw[q0] at q1;cases q1;cases p0
  exact⟨u,by rw[cF z];exact q1,by rw[cF z];exact q2⟩
end
inductive Tm where
 |val (v:Val) |new (v:Val) |bor (i:Nat)
inductive R3(α:Type) where
 |ok (a:α) (e:E3) |exc (c:Str) (e:E3) |stuck
noncomputable def R3.bind {α β:Type} (r:R3 α) (f:α->E3->R3 β):R3 β:=match r with
 |.ok a e=>f a e
 |.exc c e=>.exc c e
 |.stuck=>.stuck
abbrev ME3:=E3->R3 Tm
abbrev MT3:=E3->R3 Bool
abbrev MA3:=E3->R3 (List Tm)
section
variable(K:W.Frag)(mg:Qb)
def PG3{α:Type}(X N0:Addr->Prop)(ns:Ns)(e:E3)(σ:St)(H:Hp)(E:XK)(k:α->E3->Ns->Hp->Prop):R3 α->Prop
 |.ok t e'=>∀H' ns',Stp ns e H ns' e' H'->Sat K mg X N0 ns' e' σ H'->k t e' ns' H'
 |.exc c e'=>∀H' ns' C,Stp ns e H ns' e' H'->Sat K mg X N0 ns' e' σ H'->mg c=some (.ref C)->E (.ref C) none H'
 |.stuck=>False
def relE(X N0 L:Addr->Prop)(σ:St)(ns:Ns)(e:E3)(H:Hp)(d:V):Tm->Prop
 |.val v=>Rd K mg (Oc X ns) H d v
 |.new v=>∃n o,d=.ref n/\L n/\¬ X n/\H n=some o/\NotFz o/\Sat K mg (Xn X n) N0 ns e σ H/\Rc K mg (Oc (Xn X n) ns) H o v
 |.bor i=>σ[i]?=some (some d)
inductive TsR(X:Addr->Prop)(ns:Ns)(σ:St)(H:Hp):List V->List Tm->Prop where
 |nil:TsR X ns σ H [] []
 |val {d:V}{v:Val}{ds:List V}{ts:List Tm} (r:Rd K mg (Oc X ns) H d v) (rr:TsR X ns σ H ds ts):TsR X ns σ H (d::ds) (.val v::ts)
 |bor {d:V}{i:Nat}{ds:List V}{ts:List Tm} (q:σ[i]?=some (some d)) (rr:TsR X ns σ H ds ts):TsR X ns σ H (d::ds) (.bor i::ts)
abbrev KE(X N0 L:Addr->Prop)(σ:St)(Q:VK):Tm->E3->Ns->Hp->Prop:=λt e' ns' H'=>∀v,relE K mg X N0 L σ ns' e' H' v t->Q v H'
abbrev KA(X:Addr->Prop)(σ:St)(Q:List V->Hp->Prop):List Tm->E3->Ns->Hp->Prop:=λts _ ns' H'=>∀vs,TsR K mg X ns' σ H' vs ts->Q vs H'
abbrev KT(Q:Bool->Hp->Prop):Bool->E3->Ns->Hp->Prop:=λb _ _ H'=>Q b H'
def rdE(ES:St->XK)(G:ME3):TE:=λσ H Q=>∃X N0 L ns e,Sat K mg X N0 ns e σ H/\(∀a,H a=none->L a)/\PG3 K mg X N0 ns e σ H (ES σ) (KE K mg X N0 L σ Q) (G e)
def rdT(ES:St->XK)(G:MT3):TT:=λσ H Q=>∃X N0 ns e,Sat K mg X N0 ns e σ H/\PG3 K mg X N0 ns e σ H (ES σ) (KT Q) (G e)
def rdA(ES:St->XK)(G:MA3):TA:=λσ H Q=>∃X N0 ns e,Sat K mg X N0 ns e σ H/\PG3 K mg X N0 ns e σ H (ES σ) (KA K mg X σ Q) (G e)
end
section
variable{K:W.Frag}{mg:Qb}{ES:St->XK}{σ:St}{H:Hp}{Z:Prop}
def rdE.el{G:ME3}(h:rdE K mg ES G σ H Q)(k:∀X N0 L ns e,Sat K mg X N0 ns e σ H->(∀a,H a=none->L a)->PG3 K mg X N0 ns e σ H (ES σ) (KE K mg X N0 L σ Q) (G e)->Z):Z:=by obtain⟨X,N0,L,ns,e,S,hl,p⟩:=h;exact k X N0 L ns e S hl p
def rdT.el{G:MT3}(h:rdT K mg ES G σ H Q)(k:∀X N0 ns e,Sat K mg X N0 ns e σ H->PG3 K mg X N0 ns e σ H (ES σ) (KT Q) (G e)->Z):Z:=by obtain⟨X,N0,ns,e,S,p⟩:=h;exact k X N0 ns e S p
def rdA.el{G:MA3}(h:rdA K mg ES G σ H Q)(k:∀X N0 ns e,Sat K mg X N0 ns e σ H->PG3 K mg X N0 ns e σ H (ES σ) (KA K mg X σ Q) (G e)->Z):Z:=by obtain⟨X,N0,ns,e,S,p⟩:=h;exact k X N0 ns e S p
end
noncomputable def rs (e:E3):Tm->Option Val
 |.val v=>some v
 |.new v=>some v
 |.bor i=>(e[i]?).bind Sl.val
noncomputable def Tm.drop:Tm->Tm
 |.new v=>.val v
 |t=>t
noncomputable def rss (e:E3):List Tm->Option (List Val)
 | []=>some []
 |t::ts=>match rs e t,rss e ts with
  |some v,some vs=>some (v::vs)
  |_,_=>none
section
variable{K:W.Frag}{mg:Qb}{X N0 L:Addr->Prop}{ns ns':Ns}{e e':E3}{σ:St}{H H':Hp}{E:XK}
def PG3.ret{α:Type}{k:α->E3->Ns->Hp->Prop}{t:α}(p:PG3 K mg X N0 ns e σ H E k (.ok t e))(S:Sat K mg X N0 ns e σ H):k t e ns H:=p H ns .refl S
def PG3.after{α:Type}{r:R3 α}{k:α->E3->Ns->Hp->Prop}(p:PG3 K mg X N0 ns e σ H E k r)(S:Sat K mg X N0 ns e σ H)(a:Stp ns e H ns' e' H'):PG3 K mg X N0 ns' e' σ H' E k r:=by
 cases r with
 |stuck=>exact p
 |exc c e2=>exact λH2 e_ C b S2 m=>p H2 e_ C (a.trans S b) S2 m
 |ok t2 e2=>exact λH2 e_ b S2=>p H2 e_ (a.trans S b) S2
def PG3.imp{α β:Type}{r:R3 α}{f:α->E3->R3 β}{k:β->E3->Ns->Hp->Prop}{k':α->E3->Ns->Hp->Prop}(p:PG3 K mg X N0 ns e σ H E k (r.bind f))(S:Sat K mg X N0 ns e σ H)
 (i:∀t e1 ns1 H1,Stp ns e H ns1 e1 H1->Sat K mg X N0 ns1 e1 σ H1->PG3 K mg X N0 ns1 e1 σ H1 E k (f t e1)->k' t e1 ns1 H1):PG3 K mg X N0 ns e σ H E k' r:=by
 cases r with
 |stuck=>exact p
 |exc c e'=>exact p
 |ok t e1=>intro H1 ns1 a S1;exact i t e1 ns1 H1 a S1 (PG3.after (show PG3 K mg X N0 ns e σ H E k (f t e1) from p) S a)
def TsR.stp(a:Stp ns e H ns' e' H')(r:TsR K mg X ns σ H ds ts):TsR K mg X ns' σ H' ds ts:=by
 induction r with
 |nil=>exact .nil
 |val r _ ih=>exact .val (r.mono a.mov) ih
 |bor q _ ih=>exact .bor q ih
def Sat.bor(S:Sat K mg X N0 ns e σ H){i:Nat}{d:V}{v:Val}(q:σ[i]?=some (some d))(r:(e[i]?).bind Sl.val=some v):ShR K mg (Oc X ns) H d v:=by
 cases z:e[i]? with
 |none=>rw[z] at r;cases r
 |
  some s=>
  rw[z] at r;have y:=S.sl i s z;rw[q] at y;have r':s.val=some v:=r;cases s with
  |no=>cases r'
  |sh u=>cases r';obtain⟨_,x,e1,e2⟩:=y;cases e1;exact .inl e2
  |ow u=>cases r';obtain⟨m,o,_,e2,_,e3,_,e4⟩:=y;cases e2;exact .inr ⟨m,o,rfl,e3,e4⟩
  |lo u=>cases r';obtain⟨m,o,_,e2,_,e3,_,e4⟩:=y;cases e2;exact .inr ⟨m,o,rfl,e3,e4⟩
  |mu u=>cases r';obtain⟨m,o,_,e2,e3,_,e4⟩:=y;cases e2;exact .inr ⟨m,o,rfl,e3,e4⟩
  |lm u=>cases r';obtain⟨m,o,_,e2,e3,_,e4⟩:=y;cases e2;exact .inr ⟨m,o,rfl,e3,e4⟩
def relE.new(r:relE K mg X N0 L σ ns e H d (.new v)):Rd K mg (Oc X ns) H d v:=by obtain⟨n,o,rfl,_,hx,eo,_,S,rc⟩:=r;exact .cell ⟨hx,λz=>by obtain⟨i,z⟩:=aW.mp z;exact S.nx i n z (.inr rfl)⟩ eo (rc.mono (.of λm p=>⟨λz=>p.1 (.inl z),p.2⟩))
def relE.sh{d:V}{t:Tm}{v:Val}(S:Sat K mg X N0 ns e σ H)(r:relE K mg X N0 L σ ns e H d t)(q:rs e t=some v):ShR K mg (Oc X ns) H d v:=by
 cases t with
 |val u=>cases q;exact .inl r
 |new u=>cases q;exact .inl r.new
 |bor i=>exact S.bor r q
def relE.drop(r:relE K mg X N0 L σ ns e H d t)(a:Stp ns e H ns' e' H'):relE K mg X N0 L σ ns' e' H' d t.drop:=by
 cases t with
 |val u=>exact Rd.mono a.mov r
 |new u=>exact Rd.mono a.mov r.new
 |bor i=>exact r
def TsR.sh{ds:List V}{ts:List Tm}{vs:List Val}(S:Sat K mg X N0 ns e σ H)(r:TsR K mg X ns σ H ds ts)(q:rss e ts=some vs):ShRs K mg (Oc X ns) H ds vs:=by
 induction r generalizing vs with
 |nil=>cases q;exact .nil
 |
  val r _ ih=>
  unfold rss at q;split at q
  .rename_i e1 e2;cases q;cases e1;exact .cons (.inl r) (ih e2)
  .cases q
 |
  bor q' _ ih=>
  unfold rss at q;split at q
  .rename_i e1 e2;cases q;exact .cons (S.bor q' e1) (ih e2)
  .cases q
end
inductive Bv where
 |val (v:Val) |new (v:Val) |stuck
noncomputable def Bv.at (b:Bv) (e:E3):R3 Tm:=match b with
 |.val v=>.ok (.val v) e
 |.new v=>.ok (.new v) e
 |.stuck=>.stuck
def BvP(K:W.Frag)(mg:Qb)(P:Addr->Prop)(H:Hp)(Q:VK):Bv->Prop
 |.val v=>∀H1 x,Gr H H1->Rd K mg P H1 x v->Q x H1
 |.new v=>∀H1 a o,Gr H H1->H1 a=none->NotFz o->Rc K mg P H1 o v->Q (.ref a) (upd H1 a o)
 |.stuck=>False
section
variable{K:W.Frag}{mg:Qb}{X N0 L:Addr->Prop}{ns:Ns}{e:E3}{σ:St}{H:Hp}{E:XK}{Q:VK}
def PG3.bv(p:PG3 K mg X N0 ns e σ H E (KE K mg X N0 L σ Q) (b.at e))(S:Sat K mg X N0 ns e σ H)(hl:∀a,H a=none->L a):BvP K mg (Oc X ns) H Q b:=by
 cases b with
 |stuck=>exact p
 |val v=>exact λH1 x g r=>p H1 ns (.gr g) (S.gr g) x r
 |
  new v=>
  intro H1 a o g ha hf r;have g2:Gr H (upd H1 a o):=λc u q=>Gr.upd ha c u (g c u q);have S':=S.grow g2 (g.none ha) aF;refine p _ ns (.gr g2) (S.gr g2) _ ⟨a,o,rfl,hl a (g.none ha),λz=>?_,aF,hf,S',r.mono ⟨(Gr.upd ha).le,λc u q z _=>⟨⟨λy=>?_,q.2⟩,Gr.upd ha c u z⟩⟩⟩
  .obtain⟨u,q⟩:=S.xl a z;rw[g.none ha] at q;cases q
  .rcases y with y |rfl
   .exact q.1 y
   .rw[ha] at z;cases z
end
section
variable(K:W.Frag)(mg:Qb)
def UnD(r:V->Hp->VK->Prop)(g:Val->Bv):Prop:=∀P H x v Q,ShR K mg P H x v->BvP K mg P H Q (g v)->r x H Q
def OpD(r:R2)(g:Val->Val->Bv):Prop:=∀P H x y v u Q,ShR K mg P H x v->ShR K mg P H y u->BvP K mg P H Q (g v u)->r x y H Q
def cG(r:List V->Hp->VK->Prop)(g:List Val->Bv):Prop:=∀P H xs vs Q,ShRs K mg P H xs vs->BvP K mg P H Q (g vs)->r xs H Q
end
noncomputable def eF (i:Nat) (e:E3):R3 Tm:=match e[i]? with
 |some (.sh v)=>.ok (.val v) e
 |some .no=>.stuck
 |some _=>.ok (.bor i) e
 |none=>.stuck
noncomputable def vC (v:Val) (e:E3):R3 Tm:=.ok (.val v) e
noncomputable def vUn (g:Val->Bv) (F:ME3) (e:E3):R3 Tm:=(F e).bind λt e1=>match rs e1 t with
 |some v=>(g v).at e1
 |none=>.stuck
noncomputable def vOp (g:Val->Val->Bv) (F G:ME3) (e:E3):R3 Tm:=(F e).bind λt1 e1=>(G e1).bind λt2 e2=>match rs e2 t1.drop,rs e2 t2 with
 |some v1,some v2=>(g v1 v2).at e2
 |_,_=>.stuck
noncomputable def nL (e:E3):R3 (List Tm):=.ok [] e
noncomputable def mU (F:ME3) (A:MA3) (e:E3):R3 (List Tm):=(F e).bind λt e1=>(A e1).bind λts e2=>.ok (t.drop::ts) e2
noncomputable def vFn (g:List Val->Bv) (A:MA3) (e:E3):R3 Tm:=(A e).bind λts e1=>match rss e1 ts with
 |some vs=>(g vs).at e1
 |none=>.stuck
noncomputable def cU (e:E3):Tm->Option (E3×Val)
 |.val v=>some (e,v)
 |.new v=>some (e,v)
 |.bor i=>match e[i]? with
  |some (.sh v)=>some (e,v)
  |some (.ow v)=>some (e.set i (.sh v),v)
  |_=>none
noncomputable def dem (e:E3):List Tm->Option (E3×List Val)
 | []=>some (e,[])
 |t::ts=>match cU e t with
  |some (e1,v)=>match dem e1 ts with
   |some (e2,vs)=>some (e2,v::vs)
   |none=>none
  |none=>none
noncomputable def vTup (A:MA3) (e:E3):R3 Tm:=(A e).bind λts e1=>match dem e1 ts with
 |some (e2,vs)=>if vs.length<=16777216 then .ok (.val (.tup vs)) e2 else .stuck
 |none=>.stuck
noncomputable def vLst (A:MA3) (e:E3):R3 Tm:=(A e).bind λts e1=>match dem e1 ts with
 |some (e2,vs)=>if vs.length<=16777216 then .ok (.new (.lst vs)) e2 else .stuck
 |none=>.stuck
noncomputable def bOf:Option Val->Option Bool
 |some (.bl b)=>some b
 |_=>none
noncomputable def vAnd (F G:ME3) (e:E3):R3 Tm:=(F e).bind λt e1=>match bOf (rs e1 t) with
 |some true=>G e1
 |some false=>.ok (.val (.bl false)) e1
 |none=>.stuck
noncomputable def vOr (F G:ME3) (e:E3):R3 Tm:=(F e).bind λt e1=>match bOf (rs e1 t) with
 |some true=>.ok (.val (.bl true)) e1
 |some false=>G e1
 |none=>.stuck
noncomputable def vNot (F:ME3) (e:E3):R3 Tm:=(F e).bind λt e1=>match bOf (rs e1 t) with
 |some b=>.ok (.val (.bl (!b))) e1
 |none=>.stuck
noncomputable def cOf (F:ME3) (e:E3):R3 Bool:=(F e).bind λt e1=>match bOf (rs e1 t) with
 |some b=>.ok b e1
 |none=>.stuck
noncomputable def cAn (c d:MT3) (e:E3):R3 Bool:=(c e).bind λb e1=>if b=true then d e1 else .ok false e1
noncomputable def cO (c d:MT3) (e:E3):R3 Bool:=(c e).bind λb e1=>if b=true then .ok true e1 else d e1
noncomputable def cNo (c:MT3) (e:E3):R3 Bool:=(c e).bind λb e1=>.ok (!b) e1
noncomputable def cY (e:E3):R3 Bool:=.ok true e
noncomputable def oM:Val->Option Bool
 |.non=>some false
 |.bl b=>some b
 |.int i=>some (i != 0)
 |.tup xs=>some (!xs.isEmpty)
 |.lst xs=>some (!xs.isEmpty)
 |.kl xs=>some (!xs.isEmpty)
 |_=>none
noncomputable def cTr (F:ME3) (e:E3):R3 Bool:=(F e).bind λt e1=>match (rs e1 t).bind oM with
 |some b=>.ok b e1
 |none=>.stuck
section
variable{K:W.Frag}{mg:Qb}{X N0 L:Addr->Prop}{ns:Ns}{e:E3}{σ:St}{H:Hp}
def Iy(S:Sat K mg X N0 ns e σ H)(q:e[i]?=some (.ow v)):∃n,σ[i]?=some (some (.ref n))/\Sat K mg X N0 (ns.set i none) (e.set i (.sh v)) σ H/\Stp ns e H (ns.set i none) (e.set i (.sh v)) H/\Rd K mg (Oc X (ns.set i none)) H (.ref n) v:=by
 obtain⟨n,o,q1,q2,_,q3,_,q4⟩:=S.sl i _ q;have hi:=(D_.mp q).1;have hn:i<ns.length:=by rw[S.l2];exact hi
 have r:Rd K mg (Oc X (ns.set i none)) H (.ref n) v:=.cell ⟨S.nx i n q1,λz=>by
  obtain⟨j,z⟩:=aW.mp z;rcases bM hn z with ⟨_,y⟩ |⟨y,z⟩
  .cases y
  .exact y (S.inj j i n z q1)⟩ q3 (q4.mono (.of λm p=>fX p))
 exact⟨n,q2,S.putN' hi ⟨rfl,_,q2,r⟩,Stp.refl.put (x:=none) hi (λ_ z=>by cases z) q rfl rfl S.l2,r⟩
def fK{d:V}{t:Tm}{v:Val}{e':E3}(S:Sat K mg X N0 ns e σ H)(r:relE K mg X N0 L σ ns e H d t)(q:cU e t=some (e',v)):∃ns',Sat K mg X N0 ns' e' σ H/\Stp ns e H ns' e' H/\Rd K mg (Oc X ns') H d v:=by
 cases t with
 |val u=>cases q;exact⟨ns,S,.refl,r⟩
 |new u=>cases q;exact⟨ns,S,.refl,r.new⟩
 |
  bor i=>
  unfold cU at q;dsimp only at q;have r':σ[i]?=some (some d):=r;split at q
  .rename_i u q1;cases q;obtain⟨_,x,e1,e2⟩:=S.sl i _ q1;rw[r'] at e1;cases e1;exact⟨ns,S,.refl,e2⟩
  .rename_i u q1;cases q;obtain⟨n,e1,S',a',e2⟩:=Iy S q1;rw[r'] at e1;cases e1;exact⟨_,S',a',e2⟩
  .cases q
def gA:∀{ds:List V}{vs:List Val}{ns:Ns}{e e':E3},Sat K mg X N0 ns e σ H->TsR K mg X ns σ H ds ts->dem e ts=some (e',vs)->∃ns',Sat K mg X N0 ns' e' σ H/\Stp ns e H ns' e' H/\Rds K mg (Oc X ns') H ds vs:=by
 induction ts with
 |nil=>intro ds vs ns e e' S r q;cases r;cases q;exact⟨ns,S,.refl,.nil⟩
 |
  cons t ts ih=>
  intro ds vs ns e e' S r q;unfold dem at q;split at q
  .rename_i e1 v q1;split at q
   .rename_i e2 vs' q2;cases q;have hr:∃d ds',ds=d::ds'/\relE K mg X N0 X σ ns e H d t/\TsR K mg X ns σ H ds' ts:=by
     cases r with
     |val r rr=>exact⟨_,_,rfl,r,rr⟩
     |bor r rr=>exact⟨_,_,rfl,r,rr⟩
    obtain⟨d,ds',rfl,hr⟩:=hr;obtain⟨ns1,S1,a1,r1⟩:=fK S hr.1 q1;obtain⟨e_,S2,a2,r2⟩:=ih S1 (hr.2.stp a1) q2;exact⟨e_,S2,a1.trans S a2,.cons (r1.mono a2.mov) r2⟩
   .cases q
  .cases q
end
structure PEx where
 t:Nat
 G:ME3
structure PTs where
 t:Nat
 G:MT3
structure PAs where
 t:Nat
 G:MA3
structure PO2 where
 G:Val->Val->Bv
structure PU1 where
 G:Val->Bv
structure PBf where
 G:List Val->Bv
noncomputable def af (i:Nat):PEx:=⟨1,eF i⟩
noncomputable def ah (i:Int):PEx:=⟨2,vC (.int i)⟩
noncomputable def pBl (i:Bool):PEx:=⟨3,vC (.bl i)⟩
noncomputable def aP (i:Str):PEx:=⟨4,vC (.str i)⟩
noncomputable def jv:PEx:=⟨5,vC .non⟩
noncomputable def pTy (i:String):PEx:=⟨6,vC (.ty i)⟩
noncomputable def yg (i:Str):PEx:=⟨7,vC (.glb i)⟩
noncomputable def jZ (v:Val):PEx:=⟨8,vC v⟩
noncomputable def pUn (o:PU1) (a:PEx):PEx:=⟨9,vUn o.G a.G⟩
noncomputable def pOp (o:PO2) (a b:PEx):PEx:=⟨10,vOp o.G a.G b.G⟩
noncomputable def ag:PAs:=⟨1,nL⟩
noncomputable def aa (a:PEx) (r:PAs):PAs:=⟨2,mU a.G r.G⟩
noncomputable def pFn (o:PBf) (a:PAs):PEx:=⟨11,vFn o.G a.G⟩
noncomputable def cD (a:PAs):PEx:=⟨12,vTup a.G⟩
noncomputable def eD (a:PAs):PEx:=⟨13,vLst a.G⟩
noncomputable def i8 (a b:PEx):PEx:=⟨14,vAnd a.G b.G⟩
noncomputable def pOr (a b:PEx):PEx:=⟨15,vOr a.G b.G⟩
noncomputable def B5 (a:PEx):PEx:=⟨16,vNot a.G⟩
noncomputable def qOf (a:PEx):PTs:=⟨1,cOf a.G⟩
noncomputable def qTr (a:PEx):PTs:=⟨2,cTr a.G⟩
noncomputable def qAn (a b:PTs):PTs:=⟨3,cAn a.G b.G⟩
noncomputable def qO (a b:PTs):PTs:=⟨4,cO a.G b.G⟩
noncomputable def qNo (a:PTs):PTs:=⟨5,cNo a.G⟩
noncomputable def qY:PTs:=⟨6,cY⟩
section
variable(K:W.Frag)(mg:Qb)(X:Cx)(ES:St->XK)
structure DE(e:Expr)(F:PEx):Prop where
 ok:PE X e (rdE K mg ES F.G)
structure DT(e:Expr)(F:PTs):Prop where
 ok:PT X e (rdT K mg ES F.G)
structure DW(e:Expr)(F:PTs):Prop where
 ok:PW X e (rdT K mg ES F.G)
structure DA(es:List Expr)(F:PAs):Prop where
 ok:PA X es (rdA K mg ES F.G)
end
structure GC(K:W.Frag)(mg:Qb)(x:Str)(d:Val):Prop where
 ex:∃u v,mg x=some u/\RelV v u/\∀P H,Rd K mg P H v d
section
variable{K:W.Frag}{mg:Qb}{X:Cx}{ES:St->XK}{e a b:Expr}{es:List Expr}{F G p q:PEx}{A:PAs}{t u:PTs}{pos:Pos}{k:PO2}
def s9(i:Nat){x:Str}(hN:X.N[i]?=some x:=by rfl)(hv:Vis X.env.scope x:=by first |exact Or.inl rfl |exact Or.inr (Or.inl rfl) |exact Or.inr (Or.inr rfl))(hd:(x==("__debug__" : Str))=false:=by decide)(n_:(x==("__classdict__" : Str))=false:=by decide):DE K mg X ES (.Name x pos) (af i):=
 ⟨PE.imp (JK hN hv hd n_) λσ H Q zz=>zz.el λY N0 L ns e S hl p=>by
  have p:PG3 K mg Y N0 ns e σ H (ES σ) (KE K mg Y N0 L σ Q) (eF i e):=p;unfold eF at p;split at p
  .rename_i v q;obtain⟨_,x,e1,r⟩:=S.sl i _ q;exact⟨x,e1,p.ret S x r⟩
  .exact p.elim
  .rename_i s h1 h2 q;have y:=S.sl i s q;have:∃x,σ[i]?=some (some x):=by
    cases s with
    |no=>exact absurd rfl h2
    |sh v=>exact absurd rfl (h1 v)
    |ow v=>obtain⟨m,_,_,y,_⟩:=y;exact⟨_,y⟩
    |lo v=>obtain⟨m,_,_,y,_⟩:=y;exact⟨_,y⟩
    |mu v=>obtain⟨m,_,_,y,_⟩:=y;exact⟨_,y⟩
    |lm v=>obtain⟨m,_,_,y,_⟩:=y;exact⟨_,y⟩
   obtain⟨x,e1⟩:=this;exact⟨x,e1,p.ret S x e1⟩
  .exact p.elim⟩
def lN{v:V}{d:Val}{tg:Nat}(hp:PE X e (tC v))(r:∀P H,Rd K mg P H v d):DE K mg X ES e ⟨tg,vC d⟩:=⟨PE.imp hp λσ H Q zz=>zz.el λY N0 L ns e S hl p=>PG3.ret p S v (r _ _)⟩
def lU:DE K mg X ES (.Constant (.int i) j pos) (ah i):=lN Ia λ_ _=>.int i
def MF:DE K mg X ES (.Constant (.bool i) j pos) (pBl i):=lN Nb λ_ _=>.bl i
def GA:DE K mg X ES (.Constant .none j pos) jv:=lN Gy λ_ _=>.non
def rG:DE K mg X ES (.Constant (.str x) j pos) (aP x):=lN AW λ_ _=>.str x
def Jq{x:Str}(hg:Gl X x)(ha:∃a,mg x=some (.ref a))(hm:X.mg=mg:=by rfl)(hd:(x==("__debug__" : Str))=false:=by decide):DE K mg X ES (.Name x pos) (yg x):=by subst hm;obtain⟨a,ha⟩:=ha;exact lN (vQ hg ha (v:=.ref a) rfl hd) λ_ _=>.glb ha
def M8{x:Str}{d:Val}(hg:Gl X x)(ha:GC K mg x d)(hm:X.mg=mg:=by rfl)(hd:(x==("__debug__" : Str))=false:=by decide):DE K mg X ES (.Name x pos) (jZ d):=by subst hm;obtain⟨u,v,h1,h2,h3⟩:=ha.ex;exact lN (vQ hg h1 h2 hd) h3
def KG{x:Str}{n:String}(hg:Gl X x)(hm:mg x=none)(hv:bootBuiltins x=some (.type n))(he:X.mg=mg:=by rfl)(hn:x ≠ "__name__":=by decide)(hd:(x==("__debug__" : Str))=false:=by decide):DE K mg X ES (.Name x pos) (pTy n):=by subst he;exact lN (Fc hg hm hv (v:=.ty n) rfl hn hd) λ_ _=>.ty n
def qu(hd:OpD K mg r k.G)(σ:St)(H:Hp)(Q:VK):rdE K mg ES (pOp k F G).G σ H Q->tOp r (rdE K mg ES F.G) (rdE K mg ES G.G) σ H Q:=λzz=>zz.el λY N0 L ns e S hl p=>
 ⟨Y,
  N0,L,ns,e,S,hl,PG3.imp p S λt1 e1 ns1 H1 a1 S1 p1 x r1=>⟨Y,N0,L,ns1,e1,S1,λa z=>hl a (a1.dom a z),PG3.imp p1 S1 λt2 e2 e_ H2 a2 S2 p2 y r2=>by
  try dsimp only at p2
  split at p2
  .rename_i v u q1 q2;exact hd _ _ _ _ _ _ _ ((r1.drop a2).sh S2 q1) (r2.sh S2 q2) (p2.bv S2 λa z=>hl a (a1.dom a (a2.dom a z)))
  .exact p2.elim⟩⟩
def Mo(ho:OpR X (binaryOp op) r)(hd:OpD K mg r k.G)(ha:DE K mg X ES a p)(hb:DE K mg X ES b q):DE K mg X ES (.BinOp a op b pos) (pOp k p q):=⟨PE.imp (Lj ho ha.ok hb.ok) (qu hd)⟩
def MJ(hr:IxR X r)(hd:OpD K mg r k.G)(ha:DE K mg X ES a p)(hb:DE K mg X ES b q)(hs:wL b:=by exact λ_ _=>rfl):DE K mg X ES (.Subscript a b pos) (pOp k p q):=⟨PE.imp (Kw hr ha.ok hb.ok hs) (qu hd)⟩
def IJ(ho:OpR X (compareOp op) r)(hd:OpD K mg r k.G)(ha:DE K mg X ES a p)(hb:DE K mg X ES b q)(hm:behindInMarks op b=false:=by first |exact yC _ |with_unfolding_all rfl):DE K mg X ES (.Compare a [op] [b] pos) (pOp k p q):=⟨PE.imp (Fu ho ha.ok hb.ok hm) (qu hd)⟩
def i6{Y N0 L:Addr->Prop}{b:Bool}(S1:Sat K mg Y N0 ns1 e1 σ H1)(r1:relE K mg Y N0 L σ ns1 e1 H1 d1 t1)(q:bOf (rs e1 t1)=some b):d1=.bl b:=by
 unfold bOf at q;split at q
 .rename_i b' q';cases q;exact (r1.sh S1 q').bl
 .cases q
def vG(σ:St)(H:Hp)(Q:Bool->Hp->Prop):rdT K mg ES (qOf F).G σ H Q->rdE K mg ES F.G σ H λx H'=>∃k,x=.bl k/\Q k H':=λzz=>zz.el λY N0 ns e S p=>
 ⟨Y,
  N0,λ_=>True,ns,e,S,λ_ _=>trivial,PG3.imp p S λt1 e1 ns1 H1 a1 S1 p1 x r1=>by
  try dsimp only at p1
  split at p1
  .rename_i b q;exact⟨b,i6 S1 r1 q,p1.ret S1⟩
  .exact p1.elim⟩
def Iz(ho:OpR X (compareOp op) r)(hd:OpD K mg r k.G)(ha:DE K mg X ES a p)(hb:DE K mg X ES b q)(hm:behindInMarks op b=false:=by first |exact yC _ |with_unfolding_all rfl):DT K mg X ES (.Compare a [op] [b] pos) (qOf (pOp k p q)):=
 ⟨PT.imp (EI ho ha.ok hb.ok hm) λσ H Q z=>qu hd σ H _ (vG σ H Q z)⟩
def uq(ha:DE K mg X ES a p)(he:∀g_,isTrue a X.env g_=(do let v <- g_;standAt a.pos;holding [v] (truthy v)):=by intro _;rfl):DT K mg X ES a (qOf p):=⟨PT.imp (Iq ha.ok he) λσ H Q z=>vG σ H Q z⟩
def su(ha:DT K mg X ES a t):DT K mg X ES (.UnaryOp .Not a pos) (qNo t):=⟨PT.imp (Jo ha.ok) λσ H Q zz=>zz.el λY N0 ns e S p=>⟨Y,N0,ns,e,S,PG3.imp p S λb e1 ns1 H1 a1 S1 p1=>p1.ret S1⟩⟩
def Fy(ha:DT K mg X ES a t):DW K mg X ES (.BoolOp .And [a] pos) t:=⟨Fo ha.ok⟩
def Ig(ha:DT K mg X ES a t):DW K mg X ES (.BoolOp .Or [a] pos) t:=⟨JL ha.ok⟩
def Jh(ha:DT K mg X ES a t)(hb:DW K mg X ES (.BoolOp .And (b::es) pos) u):DW K mg X ES (.BoolOp .And (a::b::es) pos) (qAn t u):=⟨PW.imp (Jv ha.ok hb.ok) λσ H Q zz=>zz.el λY N0 ns e S p=>
 ⟨Y,N0,ns,e,S,PG3.imp p S λb e1 ns1 H1 a1 S1 p1=>by
  cases b with
  |true=>exact⟨Y,N0,ns1,e1,S1,p1⟩
  |false=>exact p1.ret S1⟩⟩
def Ll(ha:DT K mg X ES a t)(hb:DW K mg X ES (.BoolOp .Or (b::es) pos) u):DW K mg X ES (.BoolOp .Or (a::b::es) pos) (qO t u):=⟨PW.imp (LJ ha.ok hb.ok) λσ H Q zz=>zz.el λY N0 ns e S p=>
 ⟨Y,N0,ns,e,S,PG3.imp p S λb e1 ns1 H1 a1 S1 p1=>by
  cases b with
  |true=>exact p1.ret S1
  |false=>exact⟨Y,N0,ns1,e1,S1,p1⟩⟩⟩
def ZW.dt(h:DW K mg X ES a t):DT K mg X ES a t:=⟨h.ok.pt⟩
def zt_w{op}(h:DW K mg X ES (.BoolOp op es pos) t):DT K mg X ES (.BoolOp op es pos) t:=ZW.dt h
def HI{op}(h:DE K mg X ES a p):DE K mg X ES (.BoolOp op [a] pos) p:=⟨JU h.ok⟩
def HK(ha:DE K mg X ES a p)(hb:DE K mg X ES (.BoolOp .And (b::es) pos) q):DE K mg X ES (.BoolOp .And (a::b::es) pos) (i8 p q):=⟨PE.imp (JG ha.ok hb.ok) λσ H Q zz=>zz.el λY N0 L ns e S hl p=>
 ⟨Y,N0,L,ns,e,S,hl,PG3.imp p S λt e1 ns1 H1 a1 S1 p1 x r1=>by
  try dsimp only at p1
  split at p1
  .rename_i z;exact⟨true,i6 S1 r1 z,Y,N0,L,ns1,e1,S1,λa z=>hl a (a1.dom a z),p1⟩
  .rename_i z;exact⟨false,i6 S1 r1 z,p1.ret S1 _ (.bl false)⟩
  .exact p1.elim⟩⟩
def KW(ha:DE K mg X ES a p)(hb:DE K mg X ES (.BoolOp .Or (b::es) pos) q):DE K mg X ES (.BoolOp .Or (a::b::es) pos) (pOr p q):=⟨PE.imp (K6 ha.ok hb.ok) λσ H Q zz=>zz.el λY N0 L ns e S hl p=>
 ⟨Y,N0,L,ns,e,S,hl,PG3.imp p S λt e1 ns1 H1 a1 S1 p1 x r1=>by
  try dsimp only at p1
  split at p1
  .rename_i z;exact⟨true,i6 S1 r1 z,p1.ret S1 _ (.bl true)⟩
  .rename_i z;exact⟨false,i6 S1 r1 z,Y,N0,L,ns1,e1,S1,λa z=>hl a (a1.dom a z),p1⟩
  .exact p1.elim⟩⟩
def GY(ha:DE K mg X ES a p):DE K mg X ES (.UnaryOp .Not a pos) (B5 p):=⟨PE.imp (HQ ha.ok) λσ H Q zz=>zz.el λY N0 L ns e S hl p=>
 ⟨Y,N0,L,ns,e,S,hl,PG3.imp p S λt e1 ns1 H1 a1 S1 p1 x r1=>by
  try dsimp only at p1
  split at p1
  .rename_i z;exact⟨_,i6 S1 r1 z,p1.ret S1 _ (.bl _)⟩
  .exact p1.elim⟩⟩
def Mf{k:PU1}(ho:UnR X (unaryOp op) r)(hd:UnD K mg r k.G)(ha:DE K mg X ES a p):DE K mg X ES (.UnaryOp op a pos) (pUn k p):=⟨PE.imp (Ly ho ha.ok) λσ H Q zz=>zz.el λY N0 L ns e S hl p=>
 ⟨Y,N0,L,ns,e,S,hl,PG3.imp p S λt e1 ns1 H1 a1 S1 p1 x r1=>by
  try dsimp only at p1
  split at p1
  .rename_i v z;exact hd _ _ _ _ _ (r1.sh S1 z) (p1.bv S1 λa z=>hl a (a1.dom a z))
  .exact p1.elim⟩⟩
def rV:DA K mg X ES [] ag:=⟨PA.imp H9 λσ H Q zz=>zz.el λY N0 ns e S p=>PG3.ret p S _ .nil⟩
def bJ(ha:DE K mg X ES e p)(hr:DA K mg X ES es A)(hs:starEach (e::es) X.env=(false,eval e X.env)::starEach es X.env:=by rfl):DA K mg X ES (e::es) (aa p A):=⟨PA.imp (EY ha.ok hr.ok hs) λσ H Q zz=>zz.el λY N0 ns e S p=>
 ⟨Y,N0,λ_=>True,ns,e,S,λ_ _=>trivial,PG3.imp p S λt e1 ns1 H1 a1 S1 p1 x r1=>⟨Y,N0,ns1,e1,S1,PG3.imp p1 S1 λts e2 e_ H2 a2 S2 p2 xs r2=>p2.ret S2 _ (by
  have r3:=r1.drop a2;generalize hg:t.drop=t' at *;cases t' with
  |val v=>exact .val r3 r2
  |new v=>cases t <;> cases hg
  |bor i=>exact .bor r3 r2)⟩⟩⟩
def GU{x1}(h:DA K mg X ES es A):DE K mg X ES (.Tuple es x1 pos) (cD A):=⟨PE.imp (GR h.ok) λσ H Q zz=>zz.el λY N0 L ns e S hl p=>
 ⟨Y,
  N0,ns,e,S,PG3.imp p S λts e1 ns1 H1 a1 S1 p1 xs r1=>by
  try dsimp only at p1
  split at p1
  .rename_i e2 vs q;split at p1
   .rename_i hv;obtain⟨e_,S2,a2,r2⟩:=gA S1 r1 q;exact⟨by rw[r2.len];exact hv,λp hp=>p1 _ e_ (a2.trans S1 (.gr (Gr.upd hp))) (S2.gr (Gr.upd hp)) _ (.tup (SqT.of aF) (r2.mono (Gr.upd hp).mov))⟩
   .exact p1.elim
  .exact p1.elim⟩⟩
def Jb(h:DA K mg X ES es A):DE K mg X ES (.List es pos) (eD A):=⟨PE.imp (JW h.ok) λσ H Q zz=>zz.el λY N0 L ns e S hl p=>
 ⟨Y,
  N0,ns,e,S,PG3.imp p S λts e1 ns1 H1 a1 S1 p1 xs r1=>by
  try dsimp only at p1
  split at p1
  .rename_i e2 vs q;split at p1
   .rename_i hv;obtain⟨e_,S2,a2,r2⟩:=gA S1 r1 q;refine⟨by rw[r2.len];exact hv,λp hp=>PG3.bv (b:=.new (.lst vs)) (e:=e2) (X:=Y) (N0:=N0) (L:=L) (E:=ES σ) (λH' ns' a' S'=>p1 H' ns' (a2.trans S1 a') S') S2 (λa z=>hl a (a1.dom a z)) H1 p _ .refl hp trivial (.lst r2)⟩
   .exact p1.elim
  .exact p1.elim⟩⟩
def qQ{g:PBf}(hd:cG K mg r g.G)(σ:St)(H:Hp)(Q:VK):rdE K mg ES (pFn g A).G σ H Q->tCB r (rdA K mg ES A.G) σ H Q:=λzz=>zz.el λY N0 L ns e S hl p=>
 ⟨Y,
  N0,ns,e,S,PG3.imp p S λts e1 ns1 H1 a1 S1 p1 xs r1=>by
  try dsimp only at p1
  split at p1
  .rename_i vs q;exact hd _ _ _ _ _ (r1.sh S1 q) (p1.bv S1 λa z=>hl a (a1.dom a z))
  .exact p1.elim⟩
def jn{id:String}{r:List V->Hp->VK->Prop}{k:PBf}{x:Str}{p0:Pos}(hc:CallR X (.builtin id) r)(hd:cG K mg r k.G)(hg:Gl X x)(hm:mg x=none)(hv:bootBuiltins x=some (.builtin id))(ha:DA K mg X ES (e::es) A)(hk:X.mg=mg:=by rfl)(hn:x ≠ "__name__":=by decide)(hdb:(x==("__debug__" : Str))=false:=by decide)
 (he:starEach (e::es) X.env=(false,eval e X.env)::starEach es X.env:=by rfl) (hpl:(backTo pos (starEach es X.env)).any (·.1)=false:=by rfl):DE K mg X ES (.Call (.Name x p0) (e::es) [] pos) (pFn k A):=by
 subst hk;exact⟨PE.imp (Bb hc hg hm hv ha.ok hn hdb he hpl) (qQ hd)⟩
def pb{id:String}{r:List V->Hp->VK->Prop}{k:PBf}{x:Str}{p0:Pos}(hc:CallR X (.type id) r)(hd:cG K mg r k.G)(hg:Gl X x)(hm:mg x=none)(hv:bootBuiltins x=some (.type id))(ha:DA K mg X ES (e::es) A)(hk:X.mg=mg:=by rfl)(hn:x ≠ "__name__":=by decide)(hdb:(x==("__debug__" : Str))=false:=by decide)
 (he:starEach (e::es) X.env=(false,eval e X.env)::starEach es X.env:=by rfl) (hpl:(backTo pos (starEach es X.env)).any (·.1)=false:=by rfl):DE K mg X ES (.Call (.Name x p0) (e::es) [] pos) (pFn k A):=by
 subst hk;exact⟨PE.imp (zD hc hg hm hv ha.ok hn hdb he hpl) (qQ hd)⟩
end
inductive Rt where
 |val (v:Val) |new (v:Val) |par (i:Nat) |pr (v u:Val)
inductive SR3 where
 |nx (e:E3) |rt (r:Rt) (e:E3) |bk (e:E3) |ct (e:E3) |exc (c:Str) (e:E3) |stuck
abbrev MS3:=E3->SR3
section
variable(K:W.Frag)(mg:Qb)
def RtR(X N0:Addr->Prop)(ns:Ns)(e:E3)(σ:St)(H:Hp)(d:V):Rt->Prop
 |.val v=>Sat K mg X N0 ns e σ H/\Rd K mg (Oc X ns) H d v
 |.new v=>∃n o,d=.ref n/\N0 n/\¬ X n/\H n=some o/\NotFz o/\Sat K mg (Xn X n) N0 ns e σ H/\Rc K mg (Oc (Xn X n) ns) H o v
 |.par i=>Sat K mg X N0 ns e σ H/\σ[i]?=some (some d)/\∃v,e[i]?=some (.mu v)
 |.pr v u=>∃p d1 n o,d=.ref p/\SqT K H p [d1,.ref n]/\N0 n/\¬ X n/\H n=some o/\NotFz o/\Sat K mg (Xn X n) N0 ns e σ H/\Rd K mg (Oc (Xn X n) ns) H d1 v/\Rc K mg (Oc (Xn X n) ns) H o u
def PS3(X N0:Addr->Prop)(ns:Ns)(e:E3)(H:Hp)(D:Ends)(ES:St->XK):SR3->Prop
 |.nx e'=>∀H' σ' ns',Stp ns e H ns' e' H'->Sat K mg X N0 ns' e' σ' H'->D.nx σ' H'
 |.bk e'=>∀H' σ' ns',Stp ns e H ns' e' H'->Sat K mg X N0 ns' e' σ' H'->D.bk σ' H'
 |.ct e'=>∀H' σ' ns',Stp ns e H ns' e' H'->Sat K mg X N0 ns' e' σ' H'->D.ct σ' H'
 |.rt r e'=>∀H' σ' ns' x,Stp ns e H ns' e' H'->RtR K mg X N0 ns' e' σ' H' x r->D.rt x H'
 |.exc c e'=>∀H' σ' ns' C,Stp ns e H ns' e' H'->Sat K mg X N0 ns' e' σ' H'->mg c=some (.ref C)->ES σ' (.ref C) none H'
 |.stuck=>False
def rdS(ES:St->XK)(G:MS3):TS:=λD σ H=>∃X N0 ns e,Sat K mg X N0 ns e σ H/\PS3 K mg X N0 ns e H D ES (G e)
end
def rdS.el{K:W.Frag}{mg:Qb}{ES:St->XK}{σ:St}{H:Hp}{Z:Prop}{G:MS3}{D:Ends}(h:rdS K mg ES G D σ H)(k:∀X N0 ns e,Sat K mg X N0 ns e σ H->PS3 K mg X N0 ns e H D ES (G e)->Z):Z:=by obtain⟨X,N0,ns,e,S,p⟩:=h;exact k X N0 ns e S p
noncomputable def R3.toS {α:Type} (r:R3 α) (f:α->E3->SR3):SR3:=match r with
 |.ok a e=>f a e
 |.exc c e=>.exc c e
 |.stuck=>.stuck
noncomputable def SR3.then (r:SR3) (f:E3->SR3):SR3:=match r with
 |.nx e=>f e
 |r=>r
noncomputable def wSeq (F G:MS3) (e:E3):SR3:=(F e).then G
noncomputable def wIf (c:MT3) (F G:MS3) (e:E3):SR3:=(c e).toS λb e1=>if b=true then F e1 else G e1
noncomputable def oF (t:Tm) (e:E3):SR3:=match t with
 |.val v=>.rt (.val v) e
 |.new v=>.rt (.new v) e
 |.bor i=>match e[i]? with
  |some (.sh v)=>.rt (.val v) e
  |some (.ow v)=>.rt (.new v) (e.set i .no)
  |some (.mu _)=>.rt (.par i) e
  |_=>.stuck
noncomputable def js (o:Bool) (i:Nat) (t:Tm) (e:E3):SR3:=match e[i]? with
 |some s0=>if s0.pl=true then (match t with
  |.val v=>.nx (e.set i (.sh v))
  |.new v=>.nx (e.set i (if o=true then .ow v else .sh v))
  |.bor j=>match cU e (.bor j) with
   |some (e2,v)=>.nx (e2.set i (.sh v))
   |none=>.stuck) else .stuck
 |none=>.stuck
abbrev MG3:=Val->E3->Option E3
abbrev jP:=List Val->E3->Option E3
noncomputable def pN (i:Nat):MG3:=λv e=>match e[i]? with
 |some s=>if s.pl=true then some (e.set i (.sh v)) else none
 |none=>none
noncomputable def psN:jP:=λvs e=>match vs with
 | []=>some e
 |_=>none
noncomputable def psC (g:MG3) (u:jP):jP:=λvs e=>match vs with
 |v::r=>(g v e).bind λe1=>u r e1
 | []=>none
noncomputable def pT (n:Nat) (u:jP):MG3:=λv e=>match v with
 |.tup vs=>if vs.length=n then u vs e else none
 |_=>none
noncomputable def Mg (F:ME3) (g:MG3) (e:E3):SR3:=(F e).toS λt e1=>match cU e1 t with
 |some (e2,v)=>match g v e2 with
  |some e3=>.nx e3
  |none=>.stuck
 |none=>.stuck
noncomputable def wPar (i j:Nat) (A:MA3) (e:E3):SR3:=(A e).toS λts e1=>match dem e1 ts with
 |some (e2,[v,u])=>match (pN i v e2).bind (pN j u) with
  |some e3=>.nx e3
  |none=>.stuck
 |_=>.stuck
noncomputable def Cj (i:Nat) (g:Val->Val->Bv) (F:ME3) (e:E3):SR3:=match e[i]? with
 |some (.sh x)=>(F e).toS λt e1=>match rs e1 t with
  |some y=>match g x y with
   |.val z=>match pN i z e1 with
    |some e2=>.nx e2
    |none=>.stuck
   |_=>.stuck
  |none=>.stuck
 |_=>.stuck
noncomputable def IZ (c:Str) (A:MA3) (e:E3):SR3:=(A e).toS λts e1=>if ts.length<=16777216 then .exc c e1 else .stuck
structure PSt where
 t:Nat
 G:MS3
structure PGt where
 t:Nat
 G:MG3
structure PGs where
 t:Nat
 G:jP
noncomputable def xNx:PSt:=⟨1,.nx⟩
noncomputable def xBk:PSt:=⟨2,.bk⟩
noncomputable def xg:PSt:=⟨4,.rt (.val .non)⟩
noncomputable def aq (a:PEx):PSt:=⟨5,λe=>(a.G e).toS oF⟩
noncomputable def aV (a:PEx):PSt:=⟨6,λe=>(a.G e).toS λ_ e1=>.nx e1⟩
noncomputable def ao (a b:PSt):PSt:=⟨7,wSeq a.G b.G⟩
noncomputable def xIf (c:PTs) (a b:PSt):PSt:=⟨8,wIf c.G a.G b.G⟩
noncomputable def ax (o:Bool) (i:Nat) (a:PEx):PSt:=⟨9,λe=>(a.G e).toS (js o i)⟩
noncomputable def gtN (i:Nat):PGt:=⟨1,pN i⟩
noncomputable def fD:PGs:=⟨1,psN⟩
noncomputable def bL (a:PGt) (b:PGs):PGs:=⟨2,psC a.G b.G⟩
noncomputable def gtT (n:Nat) (a:PGs):PGt:=⟨2,pT n a.G⟩
noncomputable def jl (a:PEx) (g:PGt):PSt:=⟨10,Mg a.G g.G⟩
noncomputable def iu (i j:Nat) (a:PAs):PSt:=⟨11,wPar i j a.G⟩
noncomputable def sU (i:Nat) (o:PO2) (a:PEx):PSt:=⟨12,Cj i o.G a.G⟩
noncomputable def dW (c:Str) (a:PAs):PSt:=⟨13,IZ c a.G⟩
noncomputable def xNo:PSt:=⟨14,λ_=>.stuck⟩
section
variable{K:W.Frag}{mg:Qb}{X N0:Addr->Prop}{ns ns1:Ns}{e e1:E3}{σ:St}{H H1:Hp}{De:Ends}{ES:St->XK}
def PS3.after(p:PS3 K mg X N0 ns e H De ES r)(S:Sat K mg X N0 ns e σ H)(a:Stp ns e H ns1 e1 H1):PS3 K mg X N0 ns1 e1 H1 De ES r:=by
 cases r with
 |stuck=>exact p
 |nx e'=>exact λH' σ' ns' b S'=>p H' σ' ns' (a.trans S b) S'
 |bk e'=>exact λH' σ' ns' b S'=>p H' σ' ns' (a.trans S b) S'
 |ct e'=>exact λH' σ' ns' b S'=>p H' σ' ns' (a.trans S b) S'
 |exc c e'=>exact λH' σ' ns' C b S'=>p H' σ' ns' C (a.trans S b) S'
 |rt r e'=>exact λH' σ' ns' x b S'=>p H' σ' ns' x (a.trans S b) S'
def PS3.toS{α:Type}{r:R3 α}{f:α->E3->SR3}{k:α->E3->Ns->Hp->Prop}(p:PS3 K mg X N0 ns e H De ES (r.toS f))(S:Sat K mg X N0 ns e σ H)
 (i:∀t e1 ns1 H1,Stp ns e H ns1 e1 H1->Sat K mg X N0 ns1 e1 σ H1->PS3 K mg X N0 ns e H De ES (f t e1)->k t e1 ns1 H1):PG3 K mg X N0 ns e σ H (ES σ) k r:=by
 cases r with
 |stuck=>exact p
 |exc c e'=>exact λH' ns' C a S' m=>p H' σ ns' C a S' m
 |ok t e'=>exact λH' ns' a S'=>i t e' ns' H' a S' p
def PS3.then{r:SR3}{f:E3->SR3}{N:St->Hp->Prop}(p:PS3 K mg X N0 ns e H De ES (r.then f))(S:Sat K mg X N0 ns e σ H)
 (i:∀e1 ns1 σ1 H1,Stp ns e H ns1 e1 H1->Sat K mg X N0 ns1 e1 σ1 H1->PS3 K mg X N0 ns1 e1 H1 De ES (f e1)->N σ1 H1):PS3 K mg X N0 ns e H { De with nx:=N } ES r:=by
 cases r with
 |nx e'=>exact λH' σ' ns' a S'=>i e' ns' σ' H' a S' (PS3.after p S a)
 |stuck=>exact p
 |bk e'=>exact p
 |ct e'=>exact p
 |exc c e'=>exact p
 |rt r e'=>exact p
def PS3.nx(p:PS3 K mg X N0 ns e H De ES (.nx e))(S:Sat K mg X N0 ns e σ H):De.nx σ H:=p H σ ns .refl S
def mM{d:V}{v:Val}{e':E3}(S:Sat K mg X N0 ns e σ H)(r:Rd K mg (Oc X ns) H d v)(q:pN i v e=some e'):Sat K mg X N0 (ns.set i none) e' (σ.set i (some d)) H/\Stp ns e H (ns.set i none) e' H:=by
 unfold pN at q;split at q
 .rename_i s q0;split at q
  .rename_i p0;cases q;have hi:=(D_.mp q0).1;exact⟨S.putN hi ⟨rfl,d,rfl,Rd.mono (.of λm p=>fX p) r⟩,Stp.refl.put (x:=none) (s:=.sh v) hi (λ_ z=>by cases z) q0 p0 rfl S.l2⟩
  .cases q
 .cases q
end
section
variable(K:W.Frag)(mg:Qb)(X:Cx)(ES:St->XK)
structure DS(st:Stmt)(F:PSt):Prop where
 ok:PS X st (rdS K mg ES F.G)
structure DSs(st:List Stmt)(F:PSt):Prop where
 ok:PSs X st (rdS K mg ES F.G)
def rdG(g:MG3):TG:=λv σ H Q=>∃Y N0 ns e u e',Sat K mg Y N0 ns e σ H/\Rd K mg (Oc Y ns) H v u/\g u e=some e'/\∀σ' ns',Stp ns e H ns' e' H->Sat K mg Y N0 ns' e' σ' H->Q σ' H
def rdGs(g:jP):TGs:=λvs σ H Q=>∃Y N0 ns e us e',Sat K mg Y N0 ns e σ H/\Rds K mg (Oc Y ns) H vs us/\g us e=some e'/\∀σ' ns',Stp ns e H ns' e' H->Sat K mg Y N0 ns' e' σ' H->Q σ' H
def rdG.el{K:W.Frag}{mg:Qb}{g:MG3}(h:rdG K mg g v σ H Q){Z:Prop}(k:∀Y N0 ns e u e',Sat K mg Y N0 ns e σ H->Rd K mg (Oc Y ns) H v u->g u e=some e'->(∀σ' ns',Stp ns e H ns' e' H->Sat K mg Y N0 ns' e' σ' H->Q σ' H)->Z):Z:=by obtain⟨Y,N0,ns,e,u,e',S,r,q,p⟩:=h;exact k Y N0 ns e u e' S r q p
def rdGs.el{K:W.Frag}{mg:Qb}{g:jP}(h:rdGs K mg g v σ H Q){Z:Prop}(k:∀Y N0 ns e us e',Sat K mg Y N0 ns e σ H->Rds K mg (Oc Y ns) H v us->g us e=some e'->(∀σ' ns',Stp ns e H ns' e' H->Sat K mg Y N0 ns' e' σ' H->Q σ' H)->Z):Z:=by obtain⟨Y,N0,ns,e,u,e',S,r,q,p⟩:=h;exact k Y N0 ns e u e' S r q p
structure DG(e:Expr)(g:PGt):Prop where
 ok:PG X e (rdG K mg g.G)
structure DGs(es:List Expr)(g:PGs):Prop where
 ok:L2.PGs X es (rdGs K mg g.G)
def ny:Prop:=∀(pins:Qc) (σ:St) (H:Hp) (s:Shared) (e:Value) (s':Shared),Inv X pins σ H s->CX1 X.prog X.w X.stack H s (ES σ) e s'->X.xe e s'
end
section
variable{K:W.Frag}{mg:Qb}{X:Cx}{ES:St->XK}{e a b c o i:Expr}{es:List Expr}{st:Stmt}{sts sts':List Stmt}{p q:PEx}{A:PAs}{t:PTs}{x y:PSt}{g:PGt}{gs:PGs}{pos:Pos}
def EB:DSs K mg X ES [] xNx:=⟨PSs.imp Fs λD σ H zz=>zz.el λY N0 ns e S p=>PS3.nx p S⟩
def c8(h1:DS K mg X ES st x):DSs K mg X ES [st] x:=⟨FI h1.ok⟩
def aw(h1:DS K mg X ES st x)(h2:DSs K mg X ES sts y):DSs K mg X ES (st::sts) (ao x y):=⟨PSs.imp (CT h1.ok h2.ok) λD σ H zz=>zz.el λY N0 ns e S p=>
 ⟨Y,N0,ns,e,S,PS3.then p S λe1 ns1 σ1 H1 a1 S1 p1=>⟨Y,N0,ns1,e1,S1,p1⟩⟩⟩
def Bp:DS K mg X ES (.Break pos) xBk:=⟨PS.imp C8 λD σ H zz=>zz.el λY N0 ns e S p=>p H σ ns .refl S⟩
def Gp:DS K mg X ES (.Return none pos) xg:=⟨PS.imp Fm λD σ H zz=>zz.el λY N0 ns e S p=>p H σ ns _ .refl ⟨S,.non⟩⟩
def Gq(he:DE K mg X ES e p)(hs:swapsWith e none pos.line X.env=pure false:=by rfl):DS K mg X ES (.Expr e pos) (aV p):=⟨PS.imp (F2 he.ok hs) λD σ H zz=>zz.el λY N0 ns e S p=>
 ⟨Y,N0,λ_=>True,ns,e,S,λ_ _=>trivial,PS3.toS p S λt e1 ns1 H1 a1 S1 p1 x r1=>p1 H1 σ ns1 a1 S1⟩⟩
def qz(hc:DT K mg X ES c t)(ha:DSs K mg X ES sts x)(hb:DSs K mg X ES sts' y):DS K mg X ES (.If c sts sts' pos) (xIf t x y):=⟨PS.imp (KU hc.ok ha.ok hb.ok) λD σ H zz=>zz.el λY N0 ns e S p=>
 ⟨Y,N0,ns,e,S,PS3.toS p S λb e1 ns1 H1 a1 S1 p1=>by
  cases b with
  |true=>exact⟨Y,N0,ns1,e1,S1,PS3.after p1 S a1⟩
  |false=>exact⟨Y,N0,ns1,e1,S1,PS3.after p1 S a1⟩⟩⟩
def d8(he:DE K mg X ES e p):DS K mg X ES (.Return (some e) pos) (aq p):=⟨PS.imp (Hy he.ok) λD σ H zz=>zz.el λY N0 ns e S p=>
 ⟨Y,
  N0,N0,ns,e,S,S.lh,PS3.toS p S λt e1 ns1 H1 a1 S1 p1 x r1=>by
  cases t with
  |val v=>exact p1 H1 σ ns1 x a1 ⟨S1,r1⟩
  |new v=>exact p1 H1 σ ns1 x a1 r1
  |
   bor i=>
   have r':σ[i]?=some (some x):=r1;unfold oF at p1;try dsimp only at p1
   split at p1
   .rename_i v q;obtain⟨_,x',e1',e2⟩:=S1.sl i _ q;rw[r'] at e1';cases e1';exact p1 H1 σ ns1 x a1 ⟨S1,e2⟩
   .rename_i v q;obtain⟨n,o,q1,q2,q3,q4,q5,q6⟩:=S1.sl i _ q;rw[r'] at q2;cases q2;have hi:=(D_.mp q).1;have hn:i<ns1.length:=by rw[S1.l2];exact hi
    have mv:Mov (Oc Y ns1) (Oc (Xn Y n) (ns1.set i none)) H1 H1:=.of λm p=>⟨λz=>by
     rcases z with z |rfl
     .exact p.1 z
     .exact p.2 (aW.mpr ⟨i,q1⟩),(fX p).2⟩
    have S2:=S1.putN' hi (s:=.no) rfl;refine p1 H1 σ (ns1.set i none) _ (a1.put (x:=none) hi (λ_ z=>by cases z) q rfl rfl S1.l2) ⟨n,o,rfl,q3,S1.nx i n q1,q4,q5,⟨S2.l1,S2.l2,S2.lh,λm z=>?_,S2.inj,λj m qj z=>?_,λj s qj=>?_,S2.bs⟩,q6.mono mv⟩
    .rcases z with z |rfl
     .exact S2.xl m z
     .exact⟨_,q4⟩
    .rcases z with z |rfl
     .exact S2.nx j m qj z
     .rcases bM hn qj with ⟨_,y⟩ |⟨y,z⟩
      .cases y
      .exact y (S1.inj j i _ z q1)
    .rcases bM hi qj with ⟨rfl,rfl⟩ |⟨z,qj'⟩
     .rw[c7 hn];rfl
     .rw[cF z];exact (S1.sl j s qj').mono mv λ_ _ _ q _=>q
   .rename_i v q;exact p1 H1 σ ns1 x a1 ⟨S1,r',v,q⟩
   .exact p1.elim⟩⟩
def zL{ow:Bool}{i:Nat}(D:Ends)(σ:St)(H:Hp):rdS K mg ES (ax ow i p).G D σ H->wX (rdE K mg ES p.G) (qV i) D σ H:=λzz=>zz.el λY N0 ns e S p=>
 ⟨Y,
  N0,λa=>H a=none,ns,e,S,λ_ z=>z,PS3.toS p S λt e1 ns1 H1 a1 S1 p1 d r1=>by
  unfold js at p1;split at p1
  .rename_i s0 q0;split at p1
   .rename_i p0;have hi:=(D_.mp q0).1;cases t with
    |val v=>exact p1 H1 _ _ (a1.put (x:=none) (s:=.sh v) hi (λ_ z=>by cases z) q0 p0 rfl S1.l2) (S1.putN hi ⟨rfl,d,rfl,Rd.mono (.of λm p=>fX p) r1⟩)
    |
     new v=>
     cases ow with
     |true=>obtain⟨n,ob,rfl,q1,q2,q3,q4,q5,q6⟩:=r1;exact p1 H1 _ _ (a1.put (x:=some n) (s:=.ow v) hi (λm z=>by cases z;exact q1) q0 p0 rfl S1.l2) (Sat.putO q5 q2 hi (S.lh n q1) q3 q4 q6)
     |false=>exact p1 H1 _ _ (a1.put (x:=none) (s:=.sh v) hi (λ_ z=>by cases z) q0 p0 rfl S1.l2) (S1.putN hi ⟨rfl,d,rfl,Rd.mono (.of λm p=>fX p) r1.new⟩)
    |
     bor j=>
     try dsimp only at p1
     split at p1
     .rename_i e2 v q2;obtain⟨e_,S2,a2,r2⟩:=fK S1 r1 q2;have hq:∃s2,e2[i]?=some s2/\s2.pl=true:=by
       unfold cU at q2;dsimp only at q2;split at q2
       .cases q2;exact⟨s0,q0,p0⟩
       .rename_i u q3;cases q2;by_cases z:i=j
        .subst z;exact⟨_,c7 hi,rfl⟩
        .exact⟨s0,by rw[cF z];exact q0,p0⟩
       .cases q2
      obtain⟨s2,hq1,hq2⟩:=hq;have hi2:=(D_.mp hq1).1;exact p1 H1 _ _ ((a1.trans S a2).put (x:=none) (s:=.sh v) hi2 (λ_ z=>by cases z) hq1 hq2 rfl S2.l2) (S2.putN hi2 ⟨rfl,d,rfl,Rd.mono (.of λm p=>fX p) r2⟩)
     .exact p1.elim
   .exact p1.elim
  .exact p1.elim⟩
def HS{ow:Bool}{i:Nat}{x:Str}{l_:Pos}(hN:X.N.Nodup)(hi:X.N[i]?=some x)(hx:Loc X.env.scope x)(he:DE K mg X ES e p)(hs:swapsWith e (some (.Name x l_)) pos.line X.env=pure false)(hf:X.fn x=true\/X.env.scope.names.lookup x=some .local):
 DS K mg X ES (.Assign [.Name x l_] e pos) (ax ow i p):=⟨PS.imp (J4 hN hi hx he.ok hs hf) zL⟩
def EA{i:Nat}{x:Str}(hN:X.N.Nodup)(hi:X.N[i]?=some x)(hx:Loc X.env.scope x)(hf:X.fn x=true\/X.env.scope.names.lookup x=some .local):DG K mg X (.Name x pos) (gtN i):=
 ⟨PG.imp (Ge hN hi hx hf) λv σ H Q zz=>zz.el λY N0 ns e u e' S r q k=>by obtain⟨S',a⟩:=mM S r q;exact k _ _ a S'⟩
def FA:DGs K mg X [] fD:=⟨PGs.imp EG λvs σ H Q zz=>zz.el λY N0 ns e us e' S r q k=>by
 cases r with
 |nil=>cases q;exact⟨rfl,k _ _ .refl S⟩
 |cons _ _=>cases q⟩
def Dl(h1:DG K mg X e g)(h2:DGs K mg X es gs)(hs:(assignEach (e::es) X.env).map (·.2)=assign e X.env::(assignEach es X.env).map (·.2):=by rfl):DGs K mg X (e::es) (bL g gs):=
 ⟨PGs.imp (Bm h1.ok h2.ok hs) λvs σ H Q zz=>zz.el λY N0 ns e us e' S r q k=>by
  cases r with
  |nil=>cases q
  |cons r rr=>obtain⟨e1,q1,q2⟩:=Nm.mp q;exact⟨_,_,rfl,Y,N0,ns,e,_,e1,S,r,q1,λσ1 ns1 a1 S1=>⟨Y,N0,ns1,e1,_,e',S1,rr.mono a1.mov,q2,λσ2 e_ a2 S2=>k σ2 e_ (a1.trans S a2) S2⟩⟩⟩
def Hk(hK:X.K=K)(hc:X.calm=true)(h:DGs K mg X es gs)(hn:(assignEach es X.env).length=n:=by rfl)(hst:(assignEach es X.env).findIdx? (·.1)=none:=by rfl):DG K mg X (.Tuple es k pos) (gtT n gs):=by
 subst hK;exact
  ⟨PG.imp (yX hc h.ok hn hst) λv σ H Q zz=>zz.el λY N0 ns e u e' S r q k=>by
  have q:pT n gs.G u e=some e':=q;unfold pT at q;split at q
  .split at q
   .rename_i hl;obtain⟨a,vs,rfl,z,rr⟩:=ShR.tup (.inl r);exact⟨a,vs,rfl,z,by rw[rr.len];exact hl,Y,N0,ns,e,_,e',S,rr,q,k⟩
   .cases q
  .cases q⟩
def v9(he:DE K mg X ES e p)(hg:DG K mg X a g)(hs:swapsWithSole [a] e pos.line X.env=pure false:=by rfl)(hw:swappedStores [a] e X.env=pure none:=by rfl)(h1:(assignEach [a] X.env).map (·.2)=[assign a X.env]:=by rfl):DS K mg X ES (.Assign [a] e pos) (jl p g):=
 ⟨PS.imp (An he.ok hg.ok hs hw h1) λD σ H zz=>zz.el λY N0 ns e S p=>⟨Y,N0,λ_=>True,ns,e,S,λ_ _=>trivial,PS3.toS p S λt e1 ns1 H1 a1 S1 p1 x r1=>by
  try dsimp only at p1
  split at p1
  .rename_i e2 v q;obtain⟨e_,S2,a2,r2⟩:=fK S1 r1 q;split at p1
   .rename_i e3 q3;exact⟨Y,N0,e_,e2,v,e3,S2,r2,q3,λσ' ns' a3 S3=>p1 H1 σ' ns' ((a1.trans S a2).trans S a3) S3⟩
   .exact p1.elim
  .exact p1.elim⟩⟩
def HB{i j:Nat}{x y:Str}{px py pt:Pos}{kt k2 pt2}(hN:X.N.Nodup)(ha:DA K mg X ES [a,b] A)(hc:X.calm=true:=by rfl)(hi:X.N[i]?=some x:=by rfl)(hj:X.N[j]?=some y:=by rfl)(hij:i≠j:=by decide)(hx:X.env.scope.names.lookup x=some .local:=by rfl)(hy:X.env.scope.names.lookup y=some .local:=by rfl)(hw:swappedStores [.Tuple [.Name x px,.Name y py] kt pt] (.Tuple [a,b] k2 pt2) X.env=pure (some [x,y]):=by rfl)(hs:swapsWithSole [.Tuple [.Name x px,.Name y py] kt pt] (.Tuple [a,b] k2 pt2) pos.line X.env=pure false:=by rfl):DS K mg X ES (.Assign [.Tuple [.Name x px,.Name y py] kt pt] (.Tuple [a,b] k2 pt2) pos) (iu i j A):=
 ⟨PS.imp
  (HN hc hN hi hj hij hx hy ha.ok hw hs) λD σ H zz=>zz.el λY N0 ns e S p=>⟨Y,N0,ns,e,S,PS3.toS p S λts e1 ns1 H1 a1 S1 p1 xs r1=>by
  try dsimp only at p1
  split at p1
  .rename_i e2 v u q;obtain⟨e_,S2,a2,r2⟩:=gA S1 r1 q;split at p1
   .rename_i e3 q3;obtain⟨e4,q4,q5⟩:=Nm.mp q3;cases r2 with
    |
     cons r rr=>
     cases rr with
     |cons r' rr=>cases rr;obtain⟨S3,a3⟩:=mM S2 r q4;obtain⟨S4,a4⟩:=mM S3 (r'.mono a3.mov) q5;exact⟨_,_,rfl,p1 H1 _ _ (((a1.trans S a2).trans S a3).trans S a4) S4⟩
   .exact p1.elim
  .exact p1.elim⟩⟩
def IpD(K:W.Frag)(mg:Qb)(r:TIp)(g:Val->Val->Bv):Prop:=∀P H x y v u Q,ShR K mg P H x v->ShR K mg P H y u->BvP K mg P H Q (g v u)->r x y H Q
def Hi{i:Nat}{x:Str}{op:Operator}{ti:TIp}{l_:Pos}{k:PO2}(hN:X.N.Nodup)(he:DE K mg X ES e p)(ho:PIp X op ti)(hd:IpD K mg ti k.G)(hi:X.N[i]?=some x:=by rfl)(hx:Loc X.env.scope x:=by first |exact Or.inl rfl |exact Or.inr rfl)(hf:X.fn x=true\/X.env.scope.names.lookup x=some .local:=by first |exact .inl rfl |exact .inr rfl |assumption):DS K mg X ES (.AugAssign (.Name x l_) op e pos) (sU i k p):=
 ⟨PS.imp
  (HF hN hi hx he.ok ho hf) λD σ H zz=>zz.el λY N0 ns e S p=>by
  have p:PS3 K mg Y N0 ns e H D ES (Cj i k.G _ e):=p;unfold Cj at p;split at p
  .rename_i v q0;obtain⟨_,dx,e1,r0⟩:=S.sl i _ q0;refine⟨dx,e1,Y,N0,λ_=>True,ns,e,S,λ_ _=>trivial,PS3.toS p S λt e1 ns1 H1 a1 S1 p1 y r1=>?_⟩;try dsimp only at p1
   split at p1
   .rename_i u q1;refine hd _ _ _ _ _ _ _ (.inl (r0.mono a1.mov)) (r1.sh S1 q1) ?_;split at p1
    .rename_i z q2;rw[q2];split at p1
     .rename_i e2 q3;intro H2 dz g2 r2;obtain⟨S3,a3⟩:=mM (S1.gr g2) r2 q3;exact p1 H2 _ _ ((a1.trans S (.gr g2)).trans S a3) S3
     .exact p1.elim
    .exact p1.elim
   .exact p1.elim
  .exact p.elim⟩
def TsR.len{Y:Addr->Prop}(r:TsR K mg Y ns σ H ds ts):ds.length=ts.length:=by
 induction r with
 |nil=>rfl
 |val _ _ ih=>rw[F_,F_,ih]
 |bor _ _ ih=>rw[F_,F_,ih]
def CD{x:Str}{C:Addr}{E:XK}{np cpos:Pos}(hc:X.calm=true)(hR:Rz X E)(hg:Gl X x)(hm:mg x=some (.ref C))(hq:W.excIn X.K C om "ValueError.__new__"=true)(ha:DA K mg X (λ_=>E) (e::es) A)(hk:X.mg=mg:=by rfl)(he:starEach (e::es) X.env=(false,eval e X.env)::starEach es X.env:=by rfl)(d_:(backTo cpos (starEach es X.env)).any (·.1)=false:=by rfl)(hd:(x==("__debug__" : Str))=false:=by decide):DS K mg X (λ_=>E) (.Raise (some (.Call (.Name x np) (e::es) [] cpos)) none pos) (dW x A):=by
 subst hk;exact⟨PS.imp (C5 hc hR hg hm hq ha.ok he d_ hd) λD σ H zz=>zz.el λY N0 ns e S p=>⟨Y,N0,ns,e,S,PS3.toS p S λts e1 ns1 H1 a1 S1 p1 xs r1=>by
  try dsimp only at p1
  split at p1
  .rename_i hl;exact⟨by rw[r1.len];exact hl,p1 H1 σ ns1 C a1 S1 hm⟩
  .exact p1.elim⟩⟩
end
noncomputable def Sl.re (s:Sl) (u:Val):Sl:=match s with
 |.ow _=>.ow u
 |.mu _=>.mu u
 |s=>s
noncomputable def Sl.mv:Sl->Option Val
 |.ow v=>some v
 |.mu v=>some v
 |_=>none
section
variable{K:W.Frag}{mg:Qb}{X N0:Addr->Prop}{ns:Ns}{e:E3}{σ:St}{H:Hp}
def Sat.write(S:Sat K mg X N0 ns e σ H)(q:e[i]?=some s)(hm:s.mv=some u):∃n o,σ[i]?=some (some (.ref n))/\ns[i]?=some (some n)/\H n=some o/\NotFz o/\Rc K mg (Oc X ns) H o u/\
 ∀o' u',NotFz o'->Rc K mg (Oc X ns) H o' u'->Mov (Oc X ns) (Oc X ns) H (upd H n o')/\Sat K mg X N0 ns (e.set i (s.re u')) σ (upd H n o')/\Stp ns e H ns (e.set i (s.re u')) (upd H n o'):=by
 have hi:=(D_.mp q).1;have key:∃n o,ns[i]?=some (some n)/\σ[i]?=some (some (.ref n))/\H n=some o/\NotFz o/\Rc K mg (Oc X ns) H o u/\s.mt=true/\(∀o' u',NotFz o'->Rc K mg (Oc X ns) (upd H n o') o' u'->SlR K mg (Oc X ns) N0 (some (some n)) (some (some (.ref n))) (upd H n o') (s.re u')):=by
  have y:=S.sl i s q;cases s with
  |ow v=>cases hm;obtain⟨n,o,q1,q2,q3,q4,q5,q6⟩:=y;exact⟨n,o,q1,q2,q4,q5,q6,rfl,λo' u' hf r=>⟨n,o',rfl,rfl,q3,aF,hf,r⟩⟩
  |mu v=>cases hm;obtain⟨n,o,q1,q2,q4,q5,q6⟩:=y;exact⟨n,o,q1,q2,q4,q5,q6,rfl,λo' u' hf r=>⟨n,o',rfl,rfl,aF,hf,r⟩⟩
  |_=>cases hm
 obtain⟨n,o,k1,k2,k3,k4,k5,k6,k7⟩:=key;refine⟨n,o,k2,k1,k3,k4,k5,λo' u' hf r=>?_⟩;have up:∀m,m≠n->upd H n o' m=H m:=λm z=>aA z;have mv:Mov (Oc X ns) (Oc X ns) H (upd H n o'):=⟨LeH.wr k3 k4,λm ob p q' _=>⟨p,by rw[up m λz=>p.2 (aW.mpr ⟨i,by rw[z];exact k1⟩)];exact q'⟩⟩;have dom:∀a,upd H n o' a=none->H a=none:=λa z=>by rw[up a λy=>by subst y;rw[aF] at z;cases z] at z;exact z
 refine⟨mv,⟨by rw[NI];exact S.l1,by rw[NI];exact S.l2,λa z=>S.lh a (dom a z),λm z=>?_,S.inj,S.nx,λj s' qj=>?_,S.bs.wr k3 k4⟩,?_⟩
 .by_cases y:m=n
  .subst y;exact⟨o',aF⟩
  .rw[up m y];exact S.xl m z
 .rcases bM hi qj with ⟨rfl,rfl⟩ |⟨z,qj'⟩
  .rw[k1,k2];exact k7 o' u' hf (r.mono mv)
  .refine (S.sl j s' qj').mono mv λm ob qm qo _=>?_;rw[up m λy=>by subst y;exact z (S.inj j i m qm k1)];exact qo
 .refine⟨mv.le,dom,λm ob qm _ hM=>?_,λ_ _ q=>.inl q,λj s' qj hl=>?_,λj s' qj hl=>?_,λj v qj=>?_,λj v qj=>?_⟩
  .rw[up m λy=>by subst y;exact hM ⟨i,s,k1,q,k6⟩];exact qm
  .have z:j≠i:=λz=>by subst z;rw[q] at qj;cases qj;cases s <;> first |cases hl;done |cases k6;done
   rw[cF z];exact⟨qj,rfl⟩
  .rcases bM hi qj with ⟨_,y⟩ |⟨z,qj'⟩
   .subst y;cases s <;> first |cases hl;done |cases k6;done
   .exact⟨qj',rfl⟩
  .rcases bM hi qj with ⟨rfl,y⟩ |⟨z,qj'⟩
   .cases s with
    |mu w=>exact⟨w,q,rfl⟩
    |ow w=>cases y
    |_=>cases k6
   .exact⟨v,qj',rfl⟩
  .by_cases z:j=i
   .subst z;rw[q] at qj;cases qj;exact⟨u',c7 hi,rfl⟩
   .exact⟨v,by rw[cF z];exact qj,rfl⟩
end
noncomputable def wSet (i:Nat) (G:ME3) (F:ME3) (w:Val->Val->Val->Option Val) (e:E3):SR3:=(F e).toS λt e1=>match (e1[i]?).bind Sl.mv with
 |none=>.stuck
 |some _=>(G e1).toS λt2 e2=>match rs e2 t2 with
  |none=>.stuck
  |some vi=>match cU e2 t.drop with
   |none=>.stuck
   |some (e3,v)=>match e3[i]? with
    |none=>.stuck
    |some s=>match s.mv with
     |none=>.stuck
     |some u=>match w u vi v with
      |some u'=>.nx (e3.set i (s.re u'))
      |none=>.stuck
noncomputable def fC:Val->Bool
 |.lst _=>true
 |_=>false
noncomputable def sG (i:Nat) (m:Val->List Val->Option (Val×Val)) (vs:List Val) (e2:E3):R3 Tm:=match e2[i]? with
 |some s2=>match s2.mv with
  |some u=>match m u vs with
   |some (u',v)=>.ok (.val v) (e2.set i (s2.re u'))
   |none=>.stuck
  |none=>.stuck
 |none=>.stuck
noncomputable def nO (i:Nat) (m:Val->List Val->Option (Val×Val)) (A:MA3) (e:E3):R3 Tm:=match e[i]? with
 |some s=>if (s.mv.map fC)=some true then (A e).bind λts e1=>match dem e1 ts with
  |some (e2,vs)=>sG i m vs e2
  |none=>.stuck else .stuck
 |none=>.stuck
noncomputable def Lz (m:Val->List Val->Bv) (F:ME3) (A:MA3) (e:E3):R3 Tm:=(F e).bind λt e1=>if (rs e1 t).map fC=some true then (A e1).bind λts e2=>(match rs e2 t.drop,rss e2 ts with
 |some v,some vs=>if fC v=true then (m v vs).at e2 else .stuck
 |_,_=>.stuck) else .stuck
structure PSe where
 G:Val->Val->Val->Option Val
structure PMm where
 G:Val->List Val->Option (Val×Val)
structure PMv where
 G:Val->List Val->Bv
noncomputable def nZ (i:Nat) (w:PSe) (k a:PEx):PSt:=⟨15,wSet i k.G a.G w.G⟩
noncomputable def nJ (i:Nat) (m:PMm) (a:PAs):PEx:=⟨18,nO i m.G a.G⟩
noncomputable def qP (i:Nat) (m:PMm):PEx:=⟨19,nO i m.G nL⟩
noncomputable def qU (m:PMv) (a:PEx) (b:PAs):PEx:=⟨20,Lz m.G a.G b.G⟩
section
variable(K:W.Frag)(mg:Qb)
def BZ(r:tF)(w:Val->Val->Val->Option Val):Prop:=∀P H n o u di vi d v u' Q,¬ P n->H n=some o->NotFz o->Rc K mg P H o u->ShR K mg P H di vi->Rd K mg P H d v->w u vi v=some u'->(∀o',NotFz o'->Rc K mg P H o' u'->Q (upd H n o'))->r (.ref n) di d H Q
def MmD(r:V->List V->Hp->VK->Prop)(m:Val->List Val->Option (Val×Val)):Prop:=∀P H n o u ds vs u' v Q,¬ P n->H n=some o->NotFz o->Rc K mg P H o u->Rds K mg P H ds vs->m u vs=some (u',v)->(∀o' y,NotFz o'->Rc K mg P H o' u'->Rd K mg P H y v->Q y (upd H n o'))->r (.ref n) ds H Q
def MtD(r:V->List V->Hp->VK->Prop)(m:Val->List Val->Bv):Prop:=∀P H d v ds vs Q,ShR K mg P H d v->fC v=true->ShRs K mg P H ds vs->BvP K mg P H Q (m v vs)->r d ds H Q
end
section
variable{K:W.Frag}{mg:Qb}{X:Cx}{ES:St->XK}{e o i:Expr}{es:List Expr}{p q:PEx}{A:PAs}{pos p1:Pos}
def uH{j:Nat}{e:E3}{s:Sl}{u:Val}(q:e[j]?=some s)(h:s.mv=some u):eF j e=.ok (.bor j) e:=by unfold eF;rw[q];cases s <;> first |rfl |cases h
def Fz{w:PSe}{r:tF}(he:DE K mg X ES e p)(ho:DE K mg X ES o (af j))(hi:DE K mg X ES i q)(hs':Cu X r)(hd:BZ K mg r w.G)(hs:swapsWithSole [.Subscript o i p1] e pos.line X.env=pure false:=by rfl)(hw:swappedStores [.Subscript o i p1] e X.env=pure none:=by rfl)(h1:(assignEach [.Subscript o i p1] X.env).map (·.2)=[assign (.Subscript o i p1) X.env]:=by rfl)
 (ha:∀v,assign (.Subscript o i p1) X.env v=(do
  let ov <- holding [v] (eval o X.env)
  let iv <- holding [v,ov] (eval i X.env)
  standAt p1
  holding [v,ov,iv] (setItem ov iv v)
  release [v,ov,iv] []):=by intro _;rfl):DS K mg X ES (.Assign [.Subscript o i p1] e pos) (nZ j w q p):=
 ⟨PS.imp
  (An he.ok (Hf ho.ok hi.ok hs' ha) hs hw h1) λD σ H zz=>zz.el λY N0 ns e S p=>⟨Y,N0,λ_=>True,ns,e,S,λ_ _=>trivial,PS3.toS p S λt e1 ns1 H1 a1 S1 p1 x r1=>by
  try dsimp only at p1
  split at p1
  .exact p1.elim
  .rename_i u0 qm;obtain⟨s0,y1,y2⟩:=Nm.mp qm;refine⟨Y,N0,λ_=>True,ns1,e1,S1,λ_ _=>trivial,?_⟩;show PG3 K mg Y N0 ns1 e1 σ H1 (ES σ) _ (eF j e1);rw[uH y1 y2];intro H2 e_ a2 S2 ov ro;refine⟨Y,N0,λ_=>True,e_,e1,S2,λ_ _=>trivial,PS3.toS (PS3.after p1 S (a1.trans S a2)) S2 λt2 e2 ns3 H3 a3 S3 p3 iv r3=>?_⟩;try dsimp only at p3
   split at p3
   .exact p3.elim
   .rename_i vi qi;split at p3
    .exact p3.elim
    .rename_i e3 v qd;obtain⟨ns4,S4,a4,r4⟩:=fK S3 (r1.drop (a2.trans S1 a3)) qd;split at p3
     .exact p3.elim
     .rename_i s q3;split at p3
      .exact p3.elim
      .rename_i u q4;split at p3
       .rename_i u' q5;obtain⟨n,ob,k1,k0,k2,k3,k4,k5⟩:=S4.write q3 q4;have ro':σ[j]?=some (some ov):=ro;rw[k1] at ro';cases ro';refine hd (Oc Y ns4) _ _ _ _ _ _ _ _ _ _ (λz=>z.2 (aW.mpr ⟨j,k0⟩)) k2 k3 k4 ((r3.sh S3 qi).mono a4.mov .refl) r4 q5 λo' f' rc'=>?_;obtain⟨_,S5,a5⟩:=k5 o' u' f' rc';exact p3 _ _ _ ((a3.trans S2 a4).trans S2 a5) S5
       .exact p3.elim⟩⟩
def Eh{P:Addr->Prop}(r:ShR K mg P H d v)(q:fC v=true):tyV K "list" d H:=by
 cases v with
 |lst xs=>obtain⟨a,vs,rfl,h,_⟩:=r.lstL;exact .inl ⟨rfl,vs,h⟩
 |_=>cases q
def vS{Y N0 L:Addr->Prop}{ns:Ns}{e2:E3}{σ:St}{H:Hp}{k:PMm}{r:V->List V->Hp->VK->Prop}{vs:List Val}{E:XK}{Q:VK}(hd:MmD K mg r k.G)(S:Sat K mg Y N0 ns e2 σ H)(ro:σ[j]?=some (some ov))(rx:Rds K mg (Oc Y ns) H xs vs)(p:PG3 K mg Y N0 ns e2 σ H E (KE K mg Y N0 L σ Q) (sG j k.G vs e2)):r ov xs H Q:=by
 unfold sG at p;split at p
 .rename_i s2 q2;split at p
  .rename_i u q3;split at p
   .rename_i u' v q4;obtain⟨n,ob,k1,k0,k2,k3,k4,k5⟩:=S.write q2 q3;rw[k1] at ro;cases ro;refine hd (Oc Y ns) _ _ _ _ _ _ _ _ _ (λz=>z.2 (aW.mpr ⟨j,k0⟩)) k2 k3 k4 rx q4 λo' y f' rc' ry=>?_;obtain⟨mv,S4,a4⟩:=k5 o' u' f' rc';exact p _ _ a4 S4 _ (ry.mono mv)
   .exact p.elim
  .exact p.elim
 .exact p.elim
theorem wJ{Y N0 L:Addr->Prop}{ns:Ns}{e:E3}{σ:St}{H:Hp}{m:Val->List Val->Option (Val×Val)}{A:MA3}{E:XK}{Q:VK}{R:V->Hp->Prop}(S:Sat K mg Y N0 ns e σ H)(p:PG3 K mg Y N0 ns e σ H E (KE K mg Y N0 L σ Q) (nO j m A e))
 (i:∀ov ns1 H1,Stp ns e H ns1 e H1->Sat K mg Y N0 ns1 e σ H1->σ[j]?=some (some ov)->tyV K "list" ov H1->PG3 K mg Y N0 ns1 e σ H1 E (KE K mg Y N0 L σ Q) ((A e).bind λts e1=>match dem e1 ts with
 |some (e2,vs)=>sG j m vs e2
 |none=>.stuck)->R ov H1):PG3 K mg Y N0 ns e σ H E (KE K mg Y N0 L σ R) (eF j e):=by
 unfold nO at p;split at p
 .rename_i s0 q0;split at p
  .rename_i hz;obtain⟨u0,z1,z2⟩:=Nd.mp hz;rw[uH q0 z1];exact λH1 ns1 a1 S1 ov ro=>i ov ns1 H1 a1 S1 ro (Eh (v:=u0) (S1.bor ro (by rw[q0];cases s0 <;> first |exact z1 |cases z1)) z2) (p.after S a1)
  .exact p.elim
 .exact p.elim
def JA{j:Nat}{name:Str}{id:String}{apos cpos:Pos}{r:V->List V->Hp->VK->Prop}{k:PMm}(hK:X.K=K)(slot:Slot "list" name id)(hty:typeOf (.builtin id)=pure (.type "method_descriptor"))(hm:MtM X id r)(hd:MmD K mg r k.G)(ho:DE K mg X ES o (af j))(ha:DA K mg X ES (e::es) A)(j_:attributeBase o name X.env (eval o X.env)=eval o X.env:=by rfl)(hfew:((backTo cpos (starEach (e::es) X.env)).all (λx=>!x.1)&&(backToKw cpos (keywordEach [] X.env)).all (λx=>x.1.isSome)&&decide ((e::es).length+([]:List Keyword).length+(if ([]:List Keyword).isEmpty then 0 else 1)<30))=true:=by rfl)(k_:(apos.endLine==cpos.line)=true:=by rfl)(hs:starEach (e::es) X.env=(false,eval e X.env)::starEach es X.env:=by rfl)(d_:(backTo cpos (starEach es X.env)).any (·.1)=false:=by rfl):DE K mg X ES (.Call (.Attribute o name apos) (e::es) [] cpos) (nJ j k A):=by
 subst hK;exact
  ⟨PE.imp (yc Pg slot hty hm ho.ok ha.ok j_ hfew k_ hs d_) λσ H Q zz=>zz.el λY N0 L ns e S hl p=>
  ⟨Y,
   N0,L,ns,e,S,hl,wJ S p λov ns1 H1 a1 S1 ro ty p1=>⟨ty,Y,N0,ns1,e,S1,PG3.imp p1 S1 λts e1 e_ H2 a2 S2 p2 xs r2=>by
   try dsimp only at p2
   split at p2
   .rename_i e2 vs q1;obtain⟨ns3,S3,a3,r3⟩:=gA S2 r2 q1;exact vS hd S3 ro r3 (p2.after S2 a3)
   .exact p2.elim⟩⟩⟩
def Fp{j:Nat}{name:Str}{id:String}{apos cpos:Pos}{r:V->List V->Hp->VK->Prop}{k:PMm}(hK:X.K=K)(slot:Slot "list" name id)(hty:typeOf (.builtin id)=pure (.type "method_descriptor"))(hm:MtM X id r)(hd:MmD K mg r k.G)(ho:DE K mg X ES o (af j))(j_:attributeBase o name X.env (eval o X.env)=eval o X.env:=by rfl)(k_:(apos.endLine==cpos.line)=true:=by rfl):DE K mg X ES (.Call (.Attribute o name apos) [] [] cpos) (qP j k):=by
 subst hK;exact⟨PE.imp (JR Pg slot hty hm ho.ok j_ k_) λσ H Q zz=>zz.el λY N0 L ns e S hl p=>
  ⟨Y,N0,L,ns,e,S,hl,wJ S p λov ns1 H1 a1 S1 ro ty p1=>⟨ty,vS hd S1 ro .nil p1⟩⟩⟩
def FU{name:Str}{id:String}{apos cpos:Pos}{r:V->List V->Hp->VK->Prop}{k:PMv}(hK:X.K=K)(slot:Slot "list" name id)(hty:typeOf (.builtin id)=pure (.type "method_descriptor"))(hm:MtM X id r)(hd:MtD K mg r k.G)(ho:DE K mg X ES o p)(ha:DA K mg X ES (e::es) A)(j_:attributeBase o name X.env (eval o X.env)=eval o X.env:=by rfl)(hfew:((backTo cpos (starEach (e::es) X.env)).all (λx=>!x.1)&&(backToKw cpos (keywordEach [] X.env)).all (λx=>x.1.isSome)&&decide ((e::es).length+([]:List Keyword).length+(if ([]:List Keyword).isEmpty then 0 else 1)<30))=true:=by rfl)(k_:(apos.endLine==cpos.line)=true:=by rfl)(hs:starEach (e::es) X.env=(false,eval e X.env)::starEach es X.env:=by rfl)(d_:(backTo cpos (starEach es X.env)).any (·.1)=false:=by rfl):DE K mg X ES (.Call (.Attribute o name apos) (e::es) [] cpos) (qU k p A):=by
 subst hK;exact
  ⟨PE.imp (yc Pg slot hty hm ho.ok ha.ok j_ hfew k_ hs d_) λσ H Q zz=>zz.el λY N0 L ns e S hl p=>
  ⟨Y,
   N0,L,ns,e,S,hl,PG3.imp p S λt e1 ns1 H1 a1 S1 p1 x r1=>by
   try dsimp only at p1
   split at p1
   .rename_i hq;obtain⟨v0,z1,z2⟩:=Nd.mp hq;refine⟨Eh (r1.sh S1 z1) z2,Y,N0,ns1,e1,S1,PG3.imp p1 S1 λts e2 e_ H2 a2 S2 p2 xs r2=>?_⟩;try dsimp only at p2
    split at p2
    .rename_i v vs q1 q2;split at p2
     .rename_i hv;exact hd _ _ _ _ _ _ _ ((r1.drop a2).sh S2 q1) hv (r2.sh S2 q2) (p2.bv S2 λa z=>hl a (a1.dom a (a2.dom a z)))
     .exact p2.elim
    .exact p2.elim
   .exact p1.elim⟩⟩
end
noncomputable def gU:Sl->Sl
 |.ow v=>.lo v
 |.mu v=>.lm v
 |s=>s
noncomputable def iI:Sl->Sl
 |.lo v=>.ow v
 |.lm v=>.mu v
 |s=>s
noncomputable def lock (e:E3) (k:Nat):E3:=match e[k]? with
 |some s=>e.set k (gU s)
 |none=>e
noncomputable def unlock (e:E3) (k:Nat):E3:=match e[k]? with
 |some s=>e.set k (iI s)
 |none=>e
noncomputable def lockO (e:E3):Option Nat->E3
 |some k=>lock e k
 |none=>e
noncomputable def eY (e:E3):Option Nat->E3
 |some k=>unlock e k
 |none=>e
section
variable{K:W.Frag}{mg:Qb}{X N0:Addr->Prop}{ns ns':Ns}{e e':E3}{σ:St}{H H':Hp}
def SlR.lock(r:SlR K mg P N0 n d H s):SlR K mg P N0 n d H (gU s):=by cases s <;> exact r
def SlR.unlock(r:SlR K mg P N0 n d H s):SlR K mg P N0 n d H (iI s):=by cases s <;> exact r
def Sat.setS(S:Sat K mg X N0 ns e σ H)(q:e[k]?=some s)(f:Sl->Sl)(hf:SlR K mg (Oc X ns) N0 (ns[k]?) (σ[k]?) H s->SlR K mg (Oc X ns) N0 (ns[k]?) (σ[k]?) H (f s)):Sat K mg X N0 ns (e.set k (f s)) σ H:=by
 have hi:=(D_.mp q).1;refine⟨by rw[NI];exact S.l1,by rw[NI];exact S.l2,S.lh,S.xl,S.inj,S.nx,λj s' qj=>?_,S.bs⟩;rcases bM hi qj with ⟨rfl,rfl⟩ |⟨z,qj'⟩
 .exact hf (S.sl j s q)
 .exact S.sl j s' qj'
def Sat.lock(S:Sat K mg X N0 ns e σ H)(k:Nat):Sat K mg X N0 ns (lock e k) σ H:=by
 unfold L3.lock;split
 .rename_i s q;exact S.setS q gU SlR.lock
 .exact S
def Sat.unlock(S:Sat K mg X N0 ns e σ H)(k:Nat):Sat K mg X N0 ns (unlock e k) σ H:=by
 unfold L3.unlock;split
 .rename_i s q;exact S.setS q iI SlR.unlock
 .exact S
def Sat.lockO(S:Sat K mg X N0 ns e σ H)(k:Option Nat):Sat K mg X N0 ns (lockO e k) σ H:=by
 cases k with
 |none=>exact S
 |some k=>exact S.lock k
def i5(z:j≠k):(lock e k)[j]?=e[j]?:=by
 unfold lock;split
 .rw[cF z]
 .rfl
def gd(z:j≠k):(unlock e k)[j]?=e[j]?:=by
 unfold unlock;split
 .rw[cF z]
 .rfl
def n9(q:e[k]?=some s):(lock e k)[k]?=some (gU s):=by unfold lock;rw[q];exact c7 (D_.mp q).1
def hE(q:e[k]?=some s):(unlock e k)[k]?=some (iI s):=by unfold unlock;rw[q];exact c7 (D_.mp q).1
def Stp.unlock(q:e[k]?=some s)(hs:s.mt=true)(a:Stp ns (L3.lock e k) H ns' e' H'):Stp ns e H ns' (L3.unlock e' k) H':=by
 have hl:(gU s).lk=true:=by cases s <;> first |rfl |cases hs
 have hu:iI (gU s)=s:=by cases s <;> first |rfl |cases hs
 obtain⟨qk,nk⟩:=a.lk k _ (n9 q) hl;refine⟨a.le,a.dom,λm o qm ht hM=>a.keep m o qm ht λ⟨j,s',z1,z2,z3⟩=>hM ?_,a.nw,λj s' qj hj=>?_,λj s' qj hj=>?_,λj v qj=>?_,λj v qj=>?_⟩
 .by_cases z:j=k
  .subst z;exact⟨j,s,z1,q,hs⟩
  .rw[i5 z] at z2;exact⟨j,s',z1,z2,z3⟩
 .have z:j≠k:=λz=>by subst z;rw[q] at qj;cases qj;cases s <;> first |cases hs;done |cases hj;done
  rw[gd z];exact a.lk j s' (by rw[i5 z];exact qj) hj
 .have z:j≠k:=λz=>by subst z;rw[hE qk,hu] at qj;cases qj;cases s <;> first |cases hs;done |cases hj;done
  rw[gd z] at qj;obtain⟨y1,y2⟩:=a.lk' j s' qj hj;rw[i5 z] at y1;exact⟨y1,y2⟩
 .by_cases z:j=k
  .subst z;rw[hE qk,hu] at qj;cases qj;exact⟨v,q,nk⟩
  .rw[gd z] at qj;obtain⟨u,y1,y2⟩:=a.mu j v qj;rw[i5 z] at y1;exact⟨u,y1,y2⟩
 .by_cases z:j=k
  .subst z;rw[q] at qj;cases qj;exact⟨v,by rw[hE qk,hu],nk⟩
  .obtain⟨u,y1,y2⟩:=a.mu' j v (by rw[i5 z];exact qj);exact⟨u,by rw[gd z];exact y1,y2⟩
end
abbrev MI3:=E3->R3 (List Val×Option Nat)
noncomputable def gu:Val->Option (List Val)
 |.tup xs=>some xs
 |.lst xs=>some xs
 |_=>none
noncomputable def iq (t:Tm) (e:E3):Option (List Val×Option Nat):=match t with
 |.val v=>(gu v).map λxs=>(xs,none)
 |.new v=>(gu v).map λxs=>(xs,none)
 |.bor k=>match e[k]? with
  |some (.sh v)=>(gu v).map λxs=>(xs,none)
  |some (.ow (.lst xs))=>some (xs,some k)
  |some (.mu (.lst xs))=>some (xs,some k)
  |_=>none
noncomputable def LC (F:ME3) (e:E3):R3 (List Val×Option Nat):=(F e).bind λt e1=>match iq t e1 with
 |some p=>.ok p e1
 |none=>.stuck
noncomputable def Lm (A:MA3) (e:E3):R3 (List Val×Option Nat):=(A e).bind λts e1=>match ts with
 | [t,u]=>(match iq t e1,iq u e1 with
  |some (xs,k),some (ys,none)=>.ok (List.zipWith (λx y=>.tup [x,y]) xs ys,k) e1
  |_,_=>.stuck)
 |_=>.stuck
noncomputable def lj (lo:Int) (k:Nat):List Val:=(List.range k).map λi=>Val.int (lo+(i:Nat))
structure RgB(j:Int):Prop where
 lo:-(2^62)<=j
 hi:j<2^62
def jc:List Val->Option (List Val)
 | [.int j]=>@ite _ (RgB j) (Classical.propDecidable _) (some (lj 0 j.toNat)) none
 |_=>none
def uk:List Val->Option (List Val)
 | [.int i,.int j]=>@ite _ (RgB i/\RgB j) (Classical.propDecidable _) (some (lj i (j-i).toNat)) none
 |_=>none
noncomputable def BS (f:List Val->Option (List Val)) (A:MA3) (e:E3):R3 (List Val×Option Nat):=(A e).bind λts e1=>match (rss e1 ts).bind f with
 |some xs=>.ok (xs,none) e1
 |none=>.stuck
noncomputable def SR3.loop (r:SR3) (f:E3->SR3):SR3:=match r with
 |.nx e=>f e
 |.ct e=>f e
 |.bk e=>.nx e
 |.rt d e=>.rt d e
 |.exc c e=>.exc c e
 |.stuck=>.stuck
noncomputable def fj (g:MG3) (B:MS3):List Val->MS3
 | [],e=>.nx e
 |v::vs,e=>match g v e with
  |some e1=>(B e1).loop (fj g B vs)
  |none=>.stuck
noncomputable def SR3.unl (k:Option Nat) (r:SR3):SR3:=match r with
 |.nx e=>.nx (eY e k)
 |.ct e=>.ct (eY e k)
 |.bk e=>.bk (eY e k)
 |.rt d e=>.rt d (eY e k)
 |.exc c e=>.exc c (eY e k)
 |.stuck=>.stuck
noncomputable def wFor (I:MI3) (g:MG3) (B:MS3) (e:E3):SR3:=(I e).toS λp e1=>(fj g B p.1 (lockO e1 p.2)).unl p.2
noncomputable def whV (c:MT3) (B:MS3):Nat->MS3
 |0,_=>.stuck
 |k+1,e=>(c e).toS λb e1=>if b=true then (B e1).loop (whV c B k) else .nx e1
open Classical in
def wWh(c:MT3)(B:MS3):MS3:=λe=>if q:∃k,whV c B k e ≠ .stuck then whV c B q.choose e else .stuck
theorem lu{c:MT3}{B:MS3}:∀{k:Nat}{e:E3},whV c B k e ≠ .stuck->whV c B (k+1) e=whV c B k e
 |0,_,q=>absurd rfl q
 |
  k+1,e,q=>by
  have e1:whV c B (k+2) e=(c e).toS λb e1=>if b=true then (B e1).loop (whV c B (k+1)) else .nx e1:=rfl
  have e2:whV c B (k+1) e=(c e).toS λb e1=>if b=true then (B e1).loop (whV c B k) else .nx e1:=rfl
  rw[e2] at q;rw[e1,e2];cases r:c e with
  |exc _ _=>rfl
  |stuck=>rfl
  |
   ok b h1=>
   rw[r] at q;cases b with
   |false=>rfl
   |
    true=>
    have q':(B h1).loop (whV c B k) ≠ .stuck:=q;show (B h1).loop (whV c B (k+1))=(B h1).loop (whV c B k);cases s:B h1 with
    |nx a2=>rw[s] at q';exact lu q'
    |ct a2=>rw[s] at q';exact lu q'
    |_=>rfl
def yP{c:MT3}{B:MS3}{k j:Nat}{e:E3}(q:whV c B k e ≠ .stuck)(hj:k<=j):whV c B j e=whV c B k e:=by
 induction hj with
 |refl=>rfl
 |step _ ih=>rw[lu (by rw[ih];exact q),ih]
def lR{c:MT3}{B:MS3}{k:Nat}{e:E3}(q:whV c B k e ≠ .stuck):wWh c B e=whV c B k e:=by
 have hq:∃k,whV c B k e ≠ .stuck:=⟨k,q⟩;unfold wWh;rw[dif_pos hq];rcases Nat.le_total hq.choose k with z |z
 .exact (yP hq.choose_spec z).symm
 .exact yP q z
def Cp(c:MT3)(B:MS3)(e:E3):wWh c B e=(c e).toS λb e1=>if b=true then (B e1).loop (wWh c B) else .nx e1:=by
 by_cases q:∃k,whV c B k e ≠ .stuck
 .obtain⟨k,q⟩:=q;rw[lR q];cases k with
  |zero=>exact absurd rfl q
  |
   succ k=>
   have e2:whV c B (k+1) e=(c e).toS λb e1=>if b=true then (B e1).loop (whV c B k) else .nx e1:=rfl
   rw[e2] at q ⊢;cases r:c e with
   |exc _ _=>rfl
   |stuck=>rfl
   |
    ok b h1=>
    rw[r] at q;cases b with
    |false=>rfl
    |
     true=>
     have q':(B h1).loop (whV c B k) ≠ .stuck:=q;show (B h1).loop (whV c B k)=(B h1).loop (wWh c B);cases s:B h1 with
     |nx a2=>rw[s] at q';exact (lR q').symm
     |ct a2=>rw[s] at q';exact (lR q').symm
     |_=>rfl
 .have e0:wWh c B e=.stuck:=by unfold wWh;rw[dif_neg q]
  rw[e0];have hs:∀k,whV c B (k+1) e=.stuck:=λk=>Classical.byContradiction λz=>q ⟨_,z⟩;cases r:c e with
  |stuck=>rfl
  |
   exc c' h'=>
   have:=hs 0
   unfold whV at this;rw[r] at this;cases this
  |
   ok b h1=>
   cases b with
   |
    false=>
    have:=hs 0
    unfold whV at this;rw[r] at this;cases this
   |
    true=>
    have h2:∀k,(B h1).loop (whV c B k)=.stuck:=λk=>by
     have:=hs k
     unfold whV at this;rw[r] at this;exact this
    show SR3.stuck=(B h1).loop (wWh c B);have lim:∀a2,(∀k,whV c B k a2=.stuck)->wWh c B a2=.stuck:=λa2 z=>by unfold wWh;rw[dif_neg (λ⟨k,y⟩=>y (z k))]
    cases s:B h1 with
    |nx a2=>rw[s] at h2;exact (lim a2 h2).symm
    |ct a2=>rw[s] at h2;exact (lim a2 h2).symm
    |stuck=>rfl
    |_=>have:=h2 0;rw[s] at this;cases this
structure PIt where
 t:Nat
 G:MI3
noncomputable def dk (a:PEx):PIt:=⟨1,LC a.G⟩
def mw(a:PAs):PIt:=⟨2,BS jc a.G⟩
def ye(a:PAs):PIt:=⟨3,BS uk a.G⟩
noncomputable def yj (a:PAs):PIt:=⟨5,Lm a.G⟩
noncomputable def lI (i:PIt) (g:PGt) (b:PSt):PSt:=⟨16,wFor i.G g.G b.G⟩
def xWh(c:PTs)(b:PSt):PSt:=⟨17,wWh c.G b.G⟩
section
variable(K:W.Frag)(mg:Qb)
structure Kp(X:Addr->Prop)(ns:Ns)(k:Option Nat)(H0:Hp)(P:Addr->Prop)(H:Hp):Prop where
 mov:Mov (Oc X ns) P H0 H
 lk:∀(j:Nat) (a:Addr) (o:HO),k=some j->ns[j]?=some (some a)->H0 a=some o->nK o->H a=some o
def Kp.refl:Kp X ns k H (Oc X ns) H:=⟨.of λ_ z=>z,λ_ _ _ _ _ q _=>q⟩
def ItS(X:Addr->Prop)(ns:Ns)(k:Option Nat)(H0:Hp)(J:It)(us:List Val):Prop:=∀P H,Kp X ns k H0 P H->(∀(i:Nat) v,us[i]?=some v->J.go i H/\∀x H',J.yld i H x H'->Gr H H'/\Rd K mg P H' x v)/\J.stop us.length H
def ia(X:Addr->Prop)(ns:Ns)(k:Option Nat)(H0:Hp)(b:Bool)(a:Addr)(us:List Val):Prop:=∀P H,Kp X ns k H0 P H->∃vs,SqB K b H a vs/\Rds K mg P H vs us
def rdI(ES:St->XK)(I:MI3):TI:=λσ H R=>∃X N0 ns e,Sat K mg X N0 ns e σ H/\PG3 K mg X N0 ns e σ H (ES σ) (λp e' ns' H'=>∀J,ItS K mg X ns' p.2 H' J p.1->(∀k,p.2=some k->∃s,e'[k]?=some s/\s.mt=true)->R J H') (I e)
def rdI.el{K:W.Frag}{mg:Qb}{I:MI3}{R:It->Hp->Prop}(h:rdI K mg ES I σ H R){Z:Prop}(k:∀X N0 ns e,Sat K mg X N0 ns e σ H->PG3 K mg X N0 ns e σ H (ES σ) (λp e' ns' H'=>∀J,ItS K mg X ns' p.2 H' J p.1->(∀k,p.2=some k->∃s,e'[k]?=some s/\s.mt=true)->R J H') (I e)->Z):Z:=by obtain⟨X,N0,ns,e,S,p⟩:=h;exact k X N0 ns e S p
structure DI(X:Cx)(ES:St->XK)(tg iter:Expr)(F:PIt):Prop where
 ok:PI X tg iter (rdI K mg ES F.G)
end
noncomputable def ItA (K:W.Frag) (b:Bool) (a:Addr):It:=match b with
 |true=>Itl K a
 |false=>Itt K a
section
variable{K:W.Frag}{mg:Qb}{X N0 L:Addr->Prop}{ns ns1 ns':Ns}{e e1 e':E3}{σ:St}{H H1 H':Hp}{De:Ends}{ES:St->XK}
def EL{x:V}{v:Val}(r:Rd K mg (Oc X ns) H x v)(q:gu v=some us):∃b a,x=.ref a/\∀k,ia K mg X ns k H b a us:=by
 cases v with
 |tup ys=>cases q;obtain⟨a,vs,rfl,h,rr⟩:=ShR.tup (.inl r);exact⟨false,a,rfl,λ_ P H' st=>⟨vs,st.mov.le.sqT h,rr.mono st.mov⟩⟩
 |
  lst ys=>
  cases q;cases r with
  |cell p eo rc=>cases rc with |lst rr=>exact⟨true,_,rfl,λ_ P H' st=>⟨_,SqL.of (st.mov.cl _ _ p eo (λ_ z=>nomatch z)).2,rr.mono st.mov⟩⟩
 |_=>cases q
def sr{x:V}{t:Tm}{p:List Val×Option Nat}(S:Sat K mg X N0 ns e σ H)(r:relE K mg X N0 L σ ns e H x t)(q:iq t e=some p):∃b a,x=.ref a/\ia K mg X ns p.2 H b a p.1/\(p.2=none->∀k,ia K mg X ns k H b a p.1)/\∀k:Nat,p.2=some k->∃s,e[k]?=some s/\s.mt=true:=by
 have fv:∀{v us},Rd K mg (Oc X ns) H x v->gu v=some us->∃b a,x=.ref a/\ia K mg X ns none H b a us/\((none:Option Nat)=none->∀k,ia K mg X ns k H b a us)/\∀k:Nat,none=some k->∃s,e[k]?=some s/\s.mt=true:=λr q=>by obtain⟨b,a,h1,h2⟩:=EL r q;exact⟨b,a,h1,h2 _,λ_=>h2,λ_ z=>nomatch z⟩
 cases t with
 |val v=>obtain⟨xs,q1,rfl⟩:=Nd.mp q;exact fv r q1
 |new v=>obtain⟨xs,q1,rfl⟩:=Nd.mp q;exact fv r.new q1
 |
  bor k=>
  have r':σ[k]?=some (some x):=r;have own:∀{s xs},e[k]?=some s->s.mv=some (.lst xs)->∃b a,x=.ref a/\ia K mg X ns (some k) H b a xs/\(some k=none->∀k,ia K mg X ns k H b a xs)/\∀j:Nat,some k=some j->∃s,e[j]?=some s/\s.mt=true:=λ{s xs} q qm=>by
   obtain⟨n,o,k1,k0,k2,k3,k4,_⟩:=S.write q qm;rw[r'] at k1;cases k1;have hm:s.mt=true:=by cases s <;> first |rfl |cases qm
   refine⟨true,n,rfl,λP H' st=>?_,λz=>(nomatch z),λj z=>by cases z;exact⟨s,q,hm⟩⟩;cases k4 with
   |lst rr=>exact⟨_,SqL.of (st.lk k n _ rfl k0 k2 λ_ z=>nomatch z),rr.mono st.mov⟩
  unfold iq at q;dsimp only at q;split at q
  .rename_i v qs;obtain⟨_,x',e2,r2⟩:=S.sl k _ qs;rw[r'] at e2;cases e2;obtain⟨xs,q1,rfl⟩:=Nd.mp q;exact fv r2 q1
  .rename_i xs qs;cases q;exact own qs rfl
  .rename_i xs qs;cases q;exact own qs rfl
  .cases q
def ItS.seq(s:ia K mg X ns k H b a us):ItS K mg X ns k H (ItA K b a) us:=λP H' st=>by
 obtain⟨vs,h,r⟩:=s P H' st;cases b with
 |true=>refine⟨λi v q=>?_,vs,h,by rw[r.len];exact s_ _⟩;obtain⟨x,ex,rx⟩:=r.get q;exact⟨⟨vs,x,h,ex⟩,λy H2 ⟨e1,z⟩=>by subst e1;have:=(z vs h).symm.trans ex;cases this;exact⟨.refl,rx⟩⟩
 |false=>refine⟨λi v q=>?_,vs,h,by rw[r.len];exact s_ _⟩;obtain⟨x,ex,rx⟩:=r.get q;exact⟨⟨vs,x,h,ex⟩,λy H2 ⟨e1,z⟩=>by subst e1;have:=(z vs h).symm.trans ex;cases this;exact⟨.refl,rx⟩⟩
def ItS.zip(s:ia K mg X ns k H b a us)(t:ia K mg X ns k H c d ws):ItS K mg X ns k H (ItZ K b c a d) (List.zipWith (λx y=>.tup [x,y]) us ws):=λP H' st=>by
 obtain⟨vs,h,r⟩:=s P H' st;obtain⟨xs,h',r'⟩:=t P H' st;refine⟨λi v q=>?_,vs,xs,h,h',?_⟩
 .rw[OH] at q;cases k1:us[i]? with
  |none=>rw[k1] at q;cases q
  |
   some u=>
   cases k2:ws[i]? with
   |none=>rw[k1,k2] at q;cases q
   |
    some w=>
    rw[k1,k2] at q;cases q;obtain⟨x,ex,rx⟩:=r.get k1;obtain⟨x',ex',rx'⟩:=r'.get k2;refine⟨⟨vs,xs,x,x',h,h',ex,ex'⟩,λy H2 ⟨p,f,f',e1,hp,e2,hf,hf'⟩=>?_⟩;subst e1 e2
    have:=(hf vs h).symm.trans ex
    cases this
    have:=(hf' xs h').symm.trans ex'
    cases this;exact⟨.upd hp,.tup (SqT.of aF) (.cons (rx.mono (Gr.upd hp).mov) (.cons (rx'.mono (Gr.upd hp).mov) .nil))⟩
 .rw[OA,<- r.len,<- r'.len];rcases Nat.le_total vs.length xs.length with z |z
  .left;rw[Nat.min_eq_left z];exact List.getElem?_eq_none (s_ _)
  .right;rw[Nat.min_eq_right z];exact List.getElem?_eq_none (s_ _)
def ItS.nums{f:Nat->Int}{k:Nat}{J:It}(h1:∀i H,i<k->J.go i H/\∀x H',J.yld i H x H'->H'=H/\x=V.int (f i))(h2:∀H,J.stop k H):ItS K mg X ns kk H J ((List.range k).map λi=>Val.int (f i)):=λP H' st=>by refine⟨λi v q=>?_,by rw[p_,C_];exact h2 _⟩;rw[Nf] at q;obtain⟨j,hj,rfl⟩:=Nd.mp q;obtain⟨hj1,hj2⟩:=D_.mp hj;rw[List.getElem_range] at hj2;subst hj2;rw[C_] at hj1;obtain⟨g,y⟩:=h1 i H' hj1;exact⟨g,λx H2 z=>by obtain⟨rfl,rfl⟩:=y x H2 z;exact⟨.refl,.int _⟩⟩
def ItS.rng(lo:Int)(k:Nat):ItS K mg X ns kk H (Itr lo k) (lj lo k):=ItS.nums (λi H hi=>⟨hi,λx H' z=>z⟩) λH=>s_ _
def Ek{k:Option Nat}(S:Sat K mg X N0 ns e σ H)(hk:∀j:Nat,k=some j->∃s,e[j]?=some s/\s.mt=true)(a:Stp ns (lockO e k) H ns' e' H'):Kp X ns k H (Oc X ns') H':=⟨a.mov,λj n o hj hn q ht=>by
 subst hj;refine a.keep n o q ht λ⟨i,s,z1,z2,z3⟩=>?_
 have:=S.inj i j n z1 hn
 subst this;obtain⟨s',y1,y2⟩:=hk i rfl;have:(lockO e (some i))[i]?=some (gU s'):=n9 y1;rw[this] at z2;cases z2;cases s' <;> first |cases y2;done |cases z3;done⟩
def PS3.unl{k:Option Nat}{r:SR3}(hk:∀j:Nat,k=some j->∃s,e[j]?=some s/\s.mt=true)(p:PS3 K mg X N0 ns e H De ES (r.unl k)):PS3 K mg X N0 ns (lockO e k) H De ES r:=by
 cases k with
 |none=>cases r <;> exact p
 |
  some j=>
  obtain⟨s,y1,y2⟩:=hk j rfl;cases r with
  |stuck=>exact p
  |nx e'=>exact λH' σ' ns' a S=>p H' σ' ns' (a.unlock y1 y2) (S.unlock j)
  |bk e'=>exact λH' σ' ns' a S=>p H' σ' ns' (a.unlock y1 y2) (S.unlock j)
  |ct e'=>exact λH' σ' ns' a S=>p H' σ' ns' (a.unlock y1 y2) (S.unlock j)
  |exc c e'=>exact λH' σ' ns' C a S=>p H' σ' ns' C (a.unlock y1 y2) (S.unlock j)
  |
   rt r e'=>
   refine λH' σ' ns' x a q2=>p H' σ' ns' x (a.unlock y1 y2) ?_;cases r with
   |val v=>exact⟨q2.1.unlock j,q2.2⟩
   |new v=>obtain⟨n,o,z1,z2,z3,z4,z5,z6,z7⟩:=q2;exact⟨n,o,z1,z2,z3,z4,z5,z6.unlock j,z7⟩
   |
    par i=>
    obtain⟨z1,z2,v,z3⟩:=q2;refine⟨z1.unlock j,z2,v,?_⟩;by_cases z:i=j
    .subst z;exact hE z3
    .exact (gd z).trans z3
   |pr v u=>obtain⟨p,d1,n,o,z1,z2,z3,z4,z5,z6,z7,z8⟩:=q2;exact⟨p,d1,n,o,z1,z2,z3,z4,z5,z6,z7.unlock j,z8⟩
def PS3.toB{α:Type}{r:R3 α}{f:α->E3->SR3}{k:α->E3->Ns->Hp->Prop}{ns0:Ns}{e0:E3}{σ0:St}{H0:Hp}(p:PS3 K mg X N0 ns0 e0 H0 De ES (r.toS f))(S0:Sat K mg X N0 ns0 e0 σ0 H0)(a0:Stp ns0 e0 H0 ns e H)
 (i:∀t e1 ns1 H1,Stp ns0 e0 H0 ns1 e1 H1->Sat K mg X N0 ns1 e1 σ H1->PS3 K mg X N0 ns0 e0 H0 De ES (f t e1)->k t e1 ns1 H1):PG3 K mg X N0 ns e σ H (ES σ) k r:=by
 cases r with
 |stuck=>exact p
 |exc c e'=>exact λH' ns' C a S' m=>p H' σ ns' C (a0.trans S0 a) S' m
 |ok t e'=>exact λH' ns' a S'=>i t e' ns' H' (a0.trans S0 a) S' p
def PS3.loop{ns0:Ns}{e0:E3}{σ0:St}{H0:Hp}{r:SR3}{f:E3->SR3}{N:St->Hp->Prop}(p:PS3 K mg X N0 ns0 e0 H0 De ES (r.loop f))(S0:Sat K mg X N0 ns0 e0 σ0 H0)(a0:Stp ns0 e0 H0 ns e H)
 (i:∀e1 ns1 σ1 H1,Stp ns0 e0 H0 ns1 e1 H1->Sat K mg X N0 ns1 e1 σ1 H1->PS3 K mg X N0 ns0 e0 H0 De ES (f e1)->N σ1 H1):PS3 K mg X N0 ns e H { De with nx:=N,ct:=N,bk:=De.nx } ES r:=by
 cases r with
 |nx e'=>exact λH' σ' ns' b S'=>i e' ns' σ' H' (a0.trans S0 b) S' p
 |ct e'=>exact λH' σ' ns' b S'=>i e' ns' σ' H' (a0.trans S0 b) S' p
 |bk e'=>exact λH' σ' ns' b S'=>p H' σ' ns' (a0.trans S0 b) S'
 |exc c e'=>exact λH' σ' ns' C b S'=>p H' σ' ns' C (a0.trans S0 b) S'
 |rt r e'=>exact λH' σ' ns' x b S'=>p H' σ' ns' x (a0.trans S0 b) S'
 |stuck=>exact p
end
section
variable{K:W.Frag}{mg:Qb}{X:Cx}{ES:St->XK}{e a b c tg iter:Expr}{elts:List Expr}{sts:List Stmt}{p:PEx}{A:PAs}{t:PTs}{x:PSt}{g:PGt}{I:PIt}{pos p0 tp:Pos}
def GV(hK:X.K=K)(he:DE K mg X ES e p):DI K mg X ES tg e (dk p):=by
 subst hK;exact⟨PI.imp (Kk he.ok) λσ H R zz=>rdI.el zz λY N0 ns e S q=>⟨Y,N0,λ_=>True,ns,e,S,λ_ _=>trivial,PG3.imp q S λt e1 ns1 H1 a1 S1 p1 x r1=>by
  try dsimp only at p1
  split at p1
  .rename_i w z;obtain⟨b,a,rfl,s,_,hk⟩:=sr S1 r1 z;have k:=p1.ret S1 _ (ItS.seq s) hk;obtain⟨vs,hv,_⟩:=s _ _ .refl;cases b with
   |true=>exact .inl ⟨a,rfl,⟨vs,hv⟩,k⟩
   |false=>exact .inr ⟨a,rfl,⟨vs,hv⟩,k⟩
  .exact p1.elim⟩⟩
def tsr1{Y:Addr->Prop}{ns:Ns}{σ:St}{H:Hp}{xs:List V}{t:Tm}(N0 L:Addr->Prop)(e:E3)(r:TsR K mg Y ns σ H xs [t]):∃x,xs=[x]/\relE K mg Y N0 L σ ns e H x t:=by
 cases r with
 |val r rr=>cases rr;exact⟨_,rfl,r⟩
 |bor r rr=>cases rr;exact⟨_,rfl,r⟩
def tsr2{Y:Addr->Prop}{ns:Ns}{σ:St}{H:Hp}{xs:List V}{t u:Tm}(N0 L:Addr->Prop)(e:E3)(r:TsR K mg Y ns σ H xs [t,u]):∃x y,xs=[x,y]/\relE K mg Y N0 L σ ns e H x t/\relE K mg Y N0 L σ ns e H y u:=by
 cases r with
 |val r rr=>obtain⟨y,rfl,r'⟩:=tsr1 N0 L e rr;exact⟨_,_,rfl,r,r'⟩
 |bor r rr=>obtain⟨y,rfl,r'⟩:=tsr1 N0 L e rr;exact⟨_,_,rfl,r,r'⟩
def J9(hK:X.K=K)(hg:Gl X "zip")(hm:mg "zip"=none)(ha:DA K mg X ES [a,b] A)(hk:X.mg=mg:=by rfl)(hs:starEach [a,b] X.env=[(false,eval a X.env),(false,eval b X.env)]:=by rfl)(hs2:starEach [b] X.env=[(false,eval b X.env)]:=by rfl):DI K mg X ES (.Tuple elts x1 tp) (.Call (.Name "zip" p0) [a,b] [] pos) (yj A):=by
 subst hk hK;exact
  ⟨PI.imp (Ho hg hm ha.ok hs hs2) λσ H R zz=>rdI.el zz λY N0 ns e S q=>⟨Y,N0,ns,e,S,PG3.imp q S λts e1 ns1 H1 a1 S1 p1 xs r1=>by
  try dsimp only at p1
  split at p1
  .rename_i t u;obtain⟨x,y,rfl,r,r'⟩:=tsr2 N0 N0 e1 r1;split at p1
   .rename_i us k ws z z';obtain⟨b,a,rfl,s,_,hk⟩:=sr S1 r z;obtain⟨c,d,rfl,_,s',_⟩:=sr S1 r' z';have s2:=s' rfl k;obtain⟨vs,hv,_⟩:=s _ _ .refl;obtain⟨vs',hv',_⟩:=s2 _ _ .refl;exact⟨b,c,a,d,vs,vs',rfl,hv,hv',p1.ret S1 _ (ItS.zip s s2) hk⟩
   .exact p1.elim
  .exact p1.elim⟩⟩
def cW{P:Addr->Prop}(r:ShRs K mg P H xs [v]):∃x,xs=[x]/\ShR K mg P H x v:=by cases r with |cons r rr=>cases rr;exact⟨_,rfl,r⟩
def xD{P:Addr->Prop}(r:ShRs K mg P H xs [v,u]):∃x y,xs=[x,y]/\ShR K mg P H x v/\ShR K mg P H y u:=by cases r with |cons r rr=>cases rr with |cons r' rr=>cases rr;exact⟨_,_,rfl,r,r'⟩
def AY(hg:Gl X "range")(hm:mg "range"=none)(ha:DA K mg X ES [a] A)(hk:X.mg=mg:=by rfl)(hs:starEach [a] X.env=[(false,eval a X.env)]:=by rfl):DI K mg X ES tg (.Call (.Name "range" p0) [a] [] pos) (mw A):=by
 subst hk;exact
  ⟨PI.imp (As hg hm ha.ok hs) λσ H R zz=>rdI.el zz λY N0 ns e S q=>⟨Y,N0,ns,e,S,PG3.imp q S λts e1 ns1 H1 a1 S1 p1 xs r1=>by
  try dsimp only at p1
  split at p1
  .rename_i us z;obtain⟨vs,z1,z2⟩:=Nm.mp z;have rr:=r1.sh S1 z1;unfold jc at z2;split at z2
   .split at z2
    .rename_i hb;cases z2;obtain⟨x,rfl,r⟩:=cW rr;obtain rfl:=r.int;exact⟨_,rfl,hb.lo,hb.hi,p1.ret S1 _ (ItS.rng _ _) λ_ z=>nomatch z⟩
    .cases z2
   .cases z2
  .exact p1.elim⟩⟩
def Ay(hg:Gl X "range")(hm:mg "range"=none)(ha:DA K mg X ES [a,b] A)(hk:X.mg=mg:=by rfl)(hs:starEach [a,b] X.env=[(false,eval a X.env),(false,eval b X.env)]:=by rfl)(hs2:starEach [b] X.env=[(false,eval b X.env)]:=by rfl):DI K mg X ES tg (.Call (.Name "range" p0) [a,b] [] pos) (ye A):=by
 subst hk;exact
  ⟨PI.imp (zx hg hm ha.ok hs hs2) λσ H R zz=>rdI.el zz λY N0 ns e S q=>⟨Y,N0,ns,e,S,PG3.imp q S λts e1 ns1 H1 a1 S1 p1 xs r1=>by
  try dsimp only at p1
  split at p1
  .rename_i us z;obtain⟨vs,z1,z2⟩:=Nm.mp z;have rr:=r1.sh S1 z1;unfold uk at z2;split at z2
   .split at z2
    .rename_i hb;cases z2;obtain⟨x,y,rfl,r,r'⟩:=xD rr;obtain rfl:=r.int;obtain rfl:=r'.int;exact⟨_,_,rfl,⟨hb.1.lo,hb.1.hi,hb.2.lo,hb.2.hi⟩,p1.ret S1 _ (ItS.rng _ _) λ_ z=>nomatch z⟩
    .cases z2
   .cases z2
  .exact p1.elim⟩⟩
def GG(hp:PassesOwn (model X.prog X.w) X.A X.env X.xe)(hc:X.calm=true)(hi:DI K mg X ES tg iter I)(hg:DG K mg X tg g)(hb:DSs K mg X ES sts x)(hs:∀x,foldedSetIterable iter X.env x=pure x:=by intro _;rfl):DS K mg X ES (.For tg iter sts [] pos) (lI I g x):=
 ⟨PS.imp (IU hp hc hi.ok hg.ok hb.ok hs) λD σ H zz=>zz.el λY N0 ns e S p=>⟨Y,N0,ns,e,S,PS3.toS p S λw e1 ns1 H1 a1 S1 p1 J it hk=>by
  have p2:=PS3.unl hk (PS3.after p1 S a1);have S2:=S1.lockO w.2;refine⟨λi m σ' H'=>m=w.1.length-i/\i<=w.1.length/\∃ns' e',Stp ns1 (lockO e1 w.2) H1 ns' e' H'/\Sat K mg Y N0 ns' e' σ' H'/\PS3 K mg Y N0 ns1 (lockO e1 w.2) H1 D ES (fj g.G x.G (w.1.drop i) e'),⟨_,rfl,NM _,ns1,_,.refl,S2,p2⟩,?_⟩;rintro i m σ' H' ⟨rfl,hi,ns',e',a',S',p'⟩;by_cases hl:i=w.1.length
  .subst hl;rw[List.drop_length] at p';exact .inl ⟨(it _ _ (Ek S1 hk a')).2,p' H' σ' ns' a' S'⟩
  .have hl':i<w.1.length:=by omega
   rw[O7 hl'] at p';unfold fj at p';obtain⟨go,yl⟩:=(it _ _ (Ek S1 hk a')).1 i _ (y_ hl');split at p'
   .rename_i e2 q;refine .inr ⟨go,λσ2 H2=>i+1<=w.1.length/\∃ns' e',Stp ns1 (lockO e1 w.2) H1 ns' e' H2/\Sat K mg Y N0 ns' e' σ2 H2/\PS3 K mg Y N0 ns1 (lockO e1 w.2) H1 D ES (fj g.G x.G (w.1.drop (i+1)) e'),λσ2 H2 n=>⟨_,by omega,rfl,n⟩,λv H2 y=>?_⟩;obtain⟨gr,r⟩:=yl v H2 y;have a2:=a'.trans S2 (.gr gr);exact⟨Y,N0,ns',e',_,e2,S'.gr gr,r,q,λσ3 ns3 a3 S3=>⟨Y,N0,ns3,e2,S3,PS3.loop p' S2 (a2.trans S2 a3) λe4 ns4 σ4 H4 a4 S4 p4=>⟨hl',ns4,e4,a4,S4,p4⟩⟩⟩
   .exact p'.elim⟩⟩
def Bj(hp:PassesOwn (model X.prog X.w) X.A X.env X.xe)(hc:DT K mg X ES c t)(hb:DSs K mg X ES sts x):DS K mg X ES (.While c sts [] pos) (xWh t x):=
 ⟨PS.imp (Cs hp hc.ok hb.ok) λD σ H zz=>zz.el λY N0 ns e S p=>by
  have p:PS3 K mg Y N0 ns e H D ES (wWh t.G x.G e):=p;by_cases q:∃k,whV t.G x.G k e ≠ .stuck
  .obtain⟨k,q⟩:=q;rw[lR q] at p;refine⟨λm σ' H'=>∃ns' e',Stp ns e H ns' e' H'/\Sat K mg Y N0 ns' e' σ' H'/\PS3 K mg Y N0 ns e H D ES (whV t.G x.G m e'),⟨k,ns,e,.refl,S,p⟩,?_⟩;rintro m σ' H' ⟨ns',e',a',S',p'⟩;cases m with
   |zero=>exact p'.elim
   |
    succ m=>
    have p2:PS3 K mg Y N0 ns e H D ES ((t.G e').toS λb e1=>if b=true then (x.G e1).loop (whV t.G x.G m) else .nx e1):=p';refine⟨Y,N0,ns',e',S',PS3.toB p2 S a' λb e1 ns1 H1 a2 S1 p1=>?_⟩;cases b with
    |true=>exact⟨λσ2 H2=>∃ns' e',Stp ns e H ns' e' H2/\Sat K mg Y N0 ns' e' σ2 H2/\PS3 K mg Y N0 ns e H D ES (whV t.G x.G m e'),λσ2 H2 n=>⟨m,Nat.lt_succ_self _,n⟩,Y,N0,ns1,e1,S1,PS3.loop p1 S a2 λe4 ns4 σ4 H4 a4 S4 p4=>⟨ns4,e4,a4,S4,p4⟩⟩
    |false=>exact p1 _ _ _ a2 S1
  .unfold wWh at p;rw[dif_neg q] at p;exact p.elim⟩
end
noncomputable def fQ (o:Option Nat) (s:Sl) (e:E3):E3:=match o,s with
 |some i,.mu v=>(match e[i]? with
  |some t=>e.set i (t.re v)
  |none=>e)
 |_,_=>e
noncomputable def aU:List (Option Nat)->E3->E3->E3
 |o::sub,s::inner,e=>aU sub inner (fQ o s e)
 |_,_,e=>e
def wc(hn:∀v,o=some i->s=.mu v->False):(fQ o s e)[i]?=e[i]?:=by
 unfold fQ;split
 .rename_i i' v;split
  .rename_i t q;by_cases z:i=i'
   .subst z;exact (hn v rfl rfl).elim
   .rw[cF z]
  .rfl
 .rfl
theorem iO:∀{sub:Qe}{e2 e:E3}{i:Nat},(∀(j:Nat) v,sub[j]?=some (some i)->e2[j]?=some (.mu v)->False)->(aU sub e2 e)[i]?=e[i]?
 | [],_,_,_,_=>rfl
 |_::_,[],_,_,_=>rfl
 |
  o::sub,s::e2,e,i,hn=>by
  show (aU sub e2 (fQ o s e))[i]?=_;rw[iO (λj v q1 q2=>hn (j+1) v (by simpa using q1) (by simpa using q2))];exact wc λv z1 z2=>hn 0 v (by rw[z1];rfl) (by rw[z2];rfl)
theorem wB:∀{sub:Qe}{e2 e:E3}{i j:Nat}{v:Val},(∀(j k:Nat) i,sub[j]?=some (some i)->sub[k]?=some (some i)->j=k)->sub[j]?=some (some i)->e2[j]?=some (.mu v)->(aU sub e2 e)[i]?=(e[i]?).map (Sl.re · v)
 | [],_,_,_,j,_,_,q,_=>by simp at q
 |_::_,[],_,_,j,_,_,_,q=>by simp at q
 |
  o::sub,s::e2,e,i,0,v,hj,q1,q2=>by
  have z1:o=some i:=by simpa using q1
  have z2:s=.mu v:=by simpa using q2
  subst z1 z2;show (aU sub e2 (fQ (some i) (.mu v) e))[i]?=_;rw[iO (λk u y1 _=>by have:=hj 0 (k+1) i rfl (by simpa using y1);omega)];unfold fQ;dsimp only;split
  .rename_i t q;rw[c7 (D_.mp q).1,q];rfl
  .rename_i q;rw[q];rfl
 |
  o::sub,s::e2,e,i,j+1,v,hj,q1,q2=>by
  show (aU sub e2 (fQ o s e))[i]?=_;have q1':sub[j]?=some (some i):=by simpa using q1
  rw[wB (λa b c y1 y2=>by have:=hj (a+1) (b+1) c (by simpa using y1) (by simpa using y2);omega) q1' (by simpa using q2)];rw[wc λv z1 _=>by have:=hj 0 (j+1) i (by rw[z1];rfl) q1;omega]
noncomputable def ba (sub:Qe) (ns:Ns):Ns:=sub.map λo=>o.bind λi=>(ns[i]?).bind id
def cB{sub:Qe}{ns:Ns}{j:Nat}{n:Addr}(q:(ba sub ns)[j]?=some (some n)):∃i,sub[j]?=some (some i)/\ns[i]?=some (some n):=by
 unfold ba at q;rw[Nf] at q;cases z:sub[j]? with
 |none=>rw[z] at q;cases q
 |
  some o=>
  rw[z] at q;cases o with
  |none=>cases q
  |
   some i=>
   refine⟨i,rfl,?_⟩;have q':(ns[i]?).bind id=some n:=K_ q;cases y:ns[i]? with
   |none=>rw[y] at q';cases q'
   |some w=>rw[y] at q';have:w=some n:=q';rw[this]
def Gx{sub:Qe}{ns:Ns}{j i:Nat}{w:Option Addr}(q:sub[j]?=some (some i))(q2:ns[i]?=some w):(ba sub ns)[j]?=some w:=by unfold ba;rw[Nf,q];show some ((ns[i]?).bind id)=some w;rw[q2];rfl
structure Lnk(sub:Qe)(e ei:E3):Prop where
 inj:∀(j k:Nat) (i:Nat),sub[j]?=some (some i)->sub[k]?=some (some i)->j=k
 mu:∀(j:Nat) (v:Val),ei[j]?=some (.mu v)->∃(i:Nat) (s:Sl),sub[j]?=some (some i)/\e[i]?=some s/\s.mt=true
 mt:∀(j:Nat) (s:Sl),ei[j]?=some s->s.mt=true->∃v,s=.mu v
section
variable{K:W.Frag}{mg:Qb}{X Y N0:Addr->Prop}{ns e_:Ns}{e e2 ei:E3}{σ:St}{H H2:Hp}{sub:Qe}
theorem lF:∀(sub:Qe) (e2 e:E3),(aU sub e2 e).length=e.length
 | [],_,_=>rfl
 |_::_,[],_=>rfl
 |
  o::sub,s::e2,e=>by
  show (aU sub e2 (fQ o s e)).length=_;rw[lF];unfold fQ;split
  .split
   .rw[NI]
   .rfl
  .rfl
def Sat.back(S:Sat K mg X N0 ns e σ H)(lk:Lnk sub e ei)(a:Stp (ba sub ns) ei H e_ e2 H2)(hb:Bs K mg H2)
 (hY:∀n,Y n->(∃o,H2 n=some o)/\(X n\/H n=none)) (hXY:∀n,X n->Y n)
 (hc:∀(j:Nat) v n,e2[j]?=some (.mu v)->e_[j]?=some (some n)->∃o,H2 n=some o/\NotFz o/\Rc K mg (Oc Y ns) H2 o v):Sat K mg Y N0 ns (aU sub e2 e) σ H2/\Stp ns e H ns (aU sub e2 e) H2:=by
 have hM:∀n,Mt (ba sub ns) ei n->Mt ns e n:=λn ⟨j,s,z1,z2,z3⟩=>by obtain⟨v,rfl⟩:=lk.mt j s z2 z3;obtain⟨i,s',y1,y2,y3⟩:=lk.mu j v z2;obtain⟨i',y4,y5⟩:=cB z1;rw[y1] at y4;cases y4;exact⟨i,s',y5,y2,y3⟩
 have mv:Mov (Oc X ns) (Oc Y ns) H H2:=⟨a.le,λn o p q ht=>⟨⟨λz=>(by
  rcases (hY n z).2 with z |z
  .exact p.1 z
  .rw[q] at z;cases z),p.2⟩,a.keep n o q ht λz=>by obtain⟨j,s,z1,_⟩:=z;obtain⟨i,_,y⟩:=cB z1;exact p.2 (aW.mpr ⟨i,y⟩)⟩⟩
 have key:∀i:Nat,(∃(j:Nat) (v:Val) (s:Sl),sub[j]?=some (some i)/\e2[j]?=some (.mu v)/\e[i]?=some s/\s.mt=true/\(aU sub e2 e)[i]?=some (s.re v)/\e_[j]?=ns[i]?)\/((∀n,ns[i]?=some (some n)->¬ Mt (ba sub ns) ei n)/\(aU sub e2 e)[i]?=e[i]?):=λi=>by
  by_cases hx:∃(j:Nat) (v:Val),sub[j]?=some (some i)/\e2[j]?=some (.mu v)
  .obtain⟨j,v,q1,q2⟩:=hx;obtain⟨u,q3,q4⟩:=a.mu j v q2;obtain⟨i',s,y1,y2,y3⟩:=lk.mu j u q3;rw[q1] at y1;cases y1;refine .inl ⟨j,v,s,q1,q2,y2,y3,by rw[wB lk.inj q1 q2,y2];rfl,?_⟩;rw[q4];have hl:i<ns.length:=by rw[S.l2];exact (D_.mp y2).1
   rw[y_ hl];exact Gx q1 (y_ hl)
  .refine .inr ⟨λn q ⟨j,s,z1,z2,z3⟩=>hx ?_,iO λj v y1 y2=>hx ⟨j,v,y1,y2⟩⟩;obtain⟨v,rfl⟩:=lk.mt j s z2 z3;obtain⟨i',y4,y5⟩:=cB z1;have:i'=i:=S.inj i' i n y5 q;subst this;obtain⟨v',y6,_⟩:=a.mu' j v z2;exact⟨j,v',y4,y6⟩
 refine⟨⟨by rw[lF];exact S.l1,by rw[lF];exact S.l2,λx z=>S.lh x (a.dom x z),λn z=>(hY n z).1,S.inj,λi n q z=>?_,λi s q=>?_,hb⟩,⟨a.le,a.dom,λm o q ht hm=>a.keep m o q ht λz=>hm (hM m z),λ_ _ q=>.inl q,λi s q hl=>?_,λi s q hl=>?_,λi v q=>?_,λi v q=>?_⟩⟩
 .rcases (hY n z).2 with z |z
  .exact S.nx i n q z
  .obtain⟨_,_,_,_,_,_,_,q',_⟩:=S.own q;rw[q'] at z;cases z
 .rcases key i with ⟨j,v,s0,k1,k2,k3,k4,k5,k6⟩ |⟨k1,k2⟩
  .rw[k5] at q;cases q;have y:=S.sl i s0 k3;cases s0 with
   |ow u=>obtain⟨n,o,y1,y2,y3,_⟩:=y;obtain⟨o',z1,z2,z3⟩:=hc j v n k2 (by rw[k6];exact y1);exact⟨n,o',y1,y2,y3,z1,z2,z3⟩
   |mu u=>obtain⟨n,o,y1,y2,_⟩:=y;obtain⟨o',z1,z2,z3⟩:=hc j v n k2 (by rw[k6];exact y1);exact⟨n,o',y1,y2,z1,z2,z3⟩
   |_=>cases k4
  .rw[k2] at q;exact (S.sl i s q).mono mv λn o q1 q2 hf=>a.keep n o q2 hf.nt (k1 n q1)
 .rcases key i with ⟨j,v,s0,k1,k2,k3,k4,k5,k6⟩ |⟨k1,k2⟩
  .rw[k3] at q;cases q;cases s <;> first |cases hl;done |cases k4;done
  .rw[k2];exact⟨q,rfl⟩
 .rcases key i with ⟨j,v,s0,k1,k2,k3,k4,k5,k6⟩ |⟨k1,k2⟩
  .rw[k5] at q;cases q;cases s0 <;> first |cases hl;done |cases k4;done
  .rw[k2] at q;exact⟨q,rfl⟩
 .rcases key i with ⟨j,u,s0,k1,k2,k3,k4,k5,k6⟩ |⟨k1,k2⟩
  .rw[k5] at q;cases s0 with
   |mu w=>exact⟨w,k3,rfl⟩
   |ow w=>cases q
   |_=>cases k4
  .rw[k2] at q;exact⟨v,q,rfl⟩
 .rcases key i with ⟨j,u,s0,k1,k2,k3,k4,k5,k6⟩ |⟨k1,k2⟩
  .rw[k3] at q;cases q;exact⟨u,k5,rfl⟩
  .exact⟨v,by rw[k2];exact q,rfl⟩
end
noncomputable def inS:Sl->Sl
 |.ow v=>.mu v
 |.lo v=>.lm v
 |s=>s
noncomputable def bZ (sub:Qe) (e:E3):E3:=sub.map λo=>match o with
 |none=>.no
 |some i=>match e[i]? with
  |some s=>inS s
  |none=>.no
noncomputable def lcV (g:MG3) (c:MT3) (F:ME3):List Val->List Val->E3->R3 (List Val)
 | [],acc,e=>.ok acc e
 |v::vs,acc,e=>if acc.length<16777216 then (match g v e with
  |none=>.stuck
  |some e1=>(c e1).bind λb e2=>if b=true then (F e2).bind λt e3=>(match cU e3 t with
   |some (e4,y)=>lcV g c F vs (acc++[y]) e4
   |none=>.stuck) else lcV g c F vs acc e2) else .stuck
noncomputable def vLC (I:MI3) (sub:Qe) (g:MG3) (c:MT3) (F:ME3) (e:E3):R3 Tm:=(I e).bind λp e1=>match lcV g c F p.1 [] (bZ sub (lockO e1 p.2)) with
 |.ok ys e2=>if ys.length<=16777216 then .ok (.new (.lst ys)) (eY (aU sub e2 (lockO e1 p.2)) p.2) else .stuck
 |_=>.stuck
noncomputable def pLC (i:PIt) (sub:Qe) (hs:(sub.filterMap id).Nodup) (g:PGt) (c:PTs) (a:PEx):PEx:=⟨21,vLC i.G sub g.G c.G a.G⟩
def mD(sub:Qe):Prop:=∀(j k:Nat) (i:Nat),sub[j]?=some (some i)->sub[k]?=some (some i)->j=k
def zR(h:(sub.filterMap id).Nodup):mD sub:=by
 induction sub with
 |nil=>intro j k i q;simp at q
 |
  cons o sub ih=>
  have hsub:(sub.filterMap id).Nodup:=by
   cases o with
   |none=>simpa using h
   |some i=>rw[Oz] at h;simp at h;exact h.2
  have hno:∀(i k:Nat),o=some i->sub[k]?=some (some i)->False:=λi k z q=>by subst z;rw[Oz] at h;simp at h;exact h.1 (O1 q)
  intro j k i q1 q2;cases j with
  |
   zero=>
   cases k with
   |zero=>rfl
   |succ k=>exact (hno i k (by simpa using q1) (by simpa using q2)).elim
  |
   succ j=>
   cases k with
   |zero=>exact (hno i j (by simpa using q2) (by simpa using q1)).elim
   |succ k=>exact NA (· + 1) (ih hsub j k i (by simpa using q1) (by simpa using q2))
def Xin(X:Addr->Prop)(ns:Ns)(sub:Qe)(n:Addr):Prop:=X n\/(some n∈ns/\some n∉ba sub ns)
def r9{n:Addr}(q:some n∈ba sub ns):some n∈ns:=by obtain⟨j,q⟩:=aW.mp q;obtain⟨i,_,q2⟩:=cB q;exact aW.mpr ⟨i,q2⟩
def Du{X:Addr->Prop}{H:Hp}:Mov (Oc X ns) (Oc (Xin X ns sub) (ba sub ns)) H H:=.of λn p=>⟨λz=>by
 rcases z with z |⟨z,_⟩
 .exact p.1 z
 .exact p.2 z,λz=>p.2 (r9 z)⟩
def i7{sub:Qe}{e:E3}{j:Nat}{s:Sl}(q:(bZ sub e)[j]?=some s):(sub[j]?=some none/\s=.no)\/(∃i,sub[j]?=some (some i)/\((e[i]?=none/\s=.no)\/∃t,e[i]?=some t/\s=inS t)):=by
 unfold bZ at q;rw[Nf] at q;cases z:sub[j]? with
 |none=>rw[z] at q;cases q
 |
  some o=>
  rw[z] at q;cases o with
  |none=>cases q;exact .inl ⟨rfl,rfl⟩
  |
   some i=>
   refine .inr ⟨i,rfl,?_⟩;have q':=K_ q;dsimp only at q';cases y:e[i]? with
   |none=>rw[y] at q';exact .inl ⟨rfl,q'.symm⟩
   |some t=>rw[y] at q';exact .inr ⟨t,rfl,q'.symm⟩
section
variable{K:W.Frag}{mg:Qb}{X N0:Addr->Prop}{ns:Ns}{e:E3}{σ:St}{H:Hp}{sub:Qe}
def Sat.inner(S:Sat K mg X N0 ns e σ H)(hs:mD sub):Sat K mg (Xin X ns sub) N0 (ba sub ns) (bZ sub e) (eQ sub σ) H:=by
 refine⟨by unfold eQ bZ;rw[p_,p_],by unfold ba bZ;rw[p_,p_],S.lh,λn z=>?_,λj k n q1 q2=>?_,λj n q z=>?_,λj s q=>?_,S.bs⟩
 .rcases z with z |⟨z,_⟩
  .exact S.xl n z
  .obtain⟨i,z⟩:=aW.mp z;obtain⟨_,_,o,_,_,_,_,q',_⟩:=S.own z;exact⟨o,q'⟩
 .obtain⟨i,y1,y2⟩:=cB q1;obtain⟨i',y3,y4⟩:=cB q2
  have:=S.inj i i' n y2 y4
  subst this;exact hs j k i y1 y3
 .rcases z with z |⟨_,z⟩
  .obtain⟨i,y1,y2⟩:=cB q;exact S.nx i n y2 z
  .exact z (aW.mpr ⟨j,q⟩)
 .have hj:∀{o},sub[j]?=some o->(ba sub ns)[j]?=some (o.bind λi=>(ns[i]?).bind id)/\(eQ sub σ)[j]?=some (o.bind λi=>(σ[i]?).bind id):=λ{o} z=>by unfold ba eQ;rw[Nf,Nf,z];exact⟨rfl,rfl⟩
  rcases i7 q with ⟨z,rfl⟩ |⟨i,z,⟨y,rfl⟩ |⟨t,y,rfl⟩⟩
  .rw[(hj z).1];rfl
  .rw[(hj z).1];show some ((ns[i]?).bind id)=some none;have:ns[i]?=none:=by rw[O9] at y ⊢;rw[S.l2];exact y
   rw[this];rfl
  .have k:=(S.sl i t y).mono (Du (sub:=sub) (H:=H)) λ_ _ _ q _=>q;rw[(hj z).1,(hj z).2];show SlR K mg _ N0 (some ((ns[i]?).bind id)) (some ((σ[i]?).bind id)) H (inS t);have w1:∀x,ns[i]?=some x->some ((ns[i]?).bind id)=some x:=λx q=>by rw[q];rfl
   have w2:∀x,σ[i]?=some x->some ((σ[i]?).bind id)=some x:=λx q=>by rw[q];rfl
   cases t with
   |no=>rw[w1 _ k];rfl
   |sh v=>obtain⟨k1,x,k2,k3⟩:=k;rw[w1 _ k1,w2 _ k2];exact⟨rfl,x,rfl,k3⟩
   |ow v=>obtain⟨m,o,k1,k2,_,k3⟩:=k;rw[w1 _ k1,w2 _ k2];exact⟨m,o,rfl,rfl,k3⟩
   |lo v=>obtain⟨m,o,k1,k2,_,k3⟩:=k;rw[w1 _ k1,w2 _ k2];exact⟨m,o,rfl,rfl,k3⟩
   |mu v=>obtain⟨m,o,k1,k2,k3⟩:=k;rw[w1 _ k1,w2 _ k2];exact⟨m,o,rfl,rfl,k3⟩
   |lm v=>obtain⟨m,o,k1,k2,k3⟩:=k;rw[w1 _ k1,w2 _ k2];exact⟨m,o,rfl,rfl,k3⟩
end
def vw(hs:mD sub):Lnk sub e (bZ sub e):=by
 refine⟨hs,λj v q=>?_,λj s q hm=>?_⟩
 .rcases i7 q with ⟨_,z⟩ |⟨i,z,⟨_,y⟩ |⟨t,y,y2⟩⟩
  .cases z
  .cases y
  .refine⟨i,t,z,y,?_⟩;cases t <;> first |rfl |cases y2
 .rcases i7 q with ⟨_,z⟩ |⟨i,z,⟨_,y⟩ |⟨t,y,y2⟩⟩
  .subst z;cases hm
  .subst y;cases hm
  .subst y2;cases t with
   |ow v=>exact⟨v,rfl⟩
   |mu v=>exact⟨v,rfl⟩
   |_=>cases hm
structure DTs(K:W.Frag)(mg:Qb)(X:Cx)(ES:St->XK)(es:List Expr)(F:PTs):Prop where
 ok:L2.PTs X es (rdT K mg ES F.G)
def Mov.trans{P P1 P2:Addr->Prop}{H H1 H2:Hp}(a:Mov P P1 H H1)(b:Mov P1 P2 H1 H2):Mov P P2 H H2:=⟨a.le.trans b.le,λn o p q ht=>by obtain⟨p1,q1⟩:=a.cl n o p q ht;exact b.cl n o p1 q1 ht⟩
section
variable{K:W.Frag}{mg:Qb}{X:Cx}{ES:St->XK}{a b o iter tg elt:Expr}{ifs:List Expr}{I:PIt}{g:PGt}{p:PEx}{t:PTs}{pos:Pos}{sub:Qe}
def cq:DTs K mg X ES [] qY:=⟨λpins s σ H Q i ⟨Y,N0,ns,e,S,p⟩=>FY pins s σ H Q i (PG3.ret p S)⟩
def Ex{hsb:(sub.filterMap id).Nodup}(σ:St)(H:Hp)(Q:VK):rdE K mg ES (pLC I sub hsb g t p).G σ H Q->qJ (rdI K mg ES I.G) sub (rdG K mg g.G) (rdT K mg (λ_=>E0) t.G) (rdE K mg (λ_=>E0) p.G) σ H Q:=λzz=>zz.el λY N0 L ns e S hl pp=>
 ⟨Y,
  N0,ns,e,S,PG3.imp pp S λw e1 ns1 H1 a1 S1 p1 J it hk=>by
  have hs':=zR hsb;have S2:=S1.lockO w.2;have S3:=S2.inner hs';try dsimp only at p1
  split at p1
  .rename_i ys
    e2 q
   split at p1
   .rename_i hy;have kp:∀{ns' e' H'},Stp (ba sub ns1) (bZ sub (lockO e1 w.2)) H1 ns' e' H'->Kp Y ns1 w.2 H1 (Oc (Xin Y ns1 sub) ns') H':=λ{ns' e' H'} a=>⟨Du.trans a.mov,λk n ob hk1 hk2 qm ht=>a.keep n ob qm ht λ⟨j,s,z1,z2,z3⟩=>by
     obtain⟨i,y1,y2⟩:=cB z1
     have:=S1.inj i k n y2 hk2
     subst this;obtain⟨s',w1,w2⟩:=hk i hk1;have hl:(lockO e1 w.2)[i]?=some (gU s'):=by rw[hk1];exact n9 w1
     rcases i7 z2 with ⟨z,_⟩ |⟨i',z,y⟩
     .rw[y1] at z;cases z
     .rw[y1] at z;cases z;rcases y with ⟨y,_⟩ |⟨t,y,rfl⟩
      .rw[hl] at y;cases y
      .rw[hl] at y;cases y;cases s' <;> first |cases w2;done |cases z3;done⟩
    refine⟨λi m acc σ' H'=>m=w.1.length-i/\i<=w.1.length/\∃ns' e' av,Stp (ba sub ns1) (bZ sub (lockO e1 w.2)) H1 ns' e' H'/\Sat K mg (Xin Y ns1 sub) N0 ns' e' σ' H'/\Rds K mg (Oc (Xin Y ns1 sub) ns') H' acc av/\lcV g.G t.G p.G (w.1.drop i) av e'=.ok ys e2,⟨_,rfl,NM _,_,_,[],.refl,S3,.nil,q⟩,?_⟩;rintro i m acc σ' H' ⟨rfl,hi,ns',e',av,a',S',ra,q'⟩;by_cases hlt:i<w.1.length
    .rw[O7 hlt] at q';unfold lcV at q';split at q'
     .rename_i hla;obtain⟨go,yl⟩:=(it _ _ (kp a')).1 i _ (y_ hlt);refine .inr ⟨go,by rw[ra.len];exact hla,λacc' σ2 H2=>i+1<=w.1.length/\∃ns' e' av,Stp (ba sub ns1) (bZ sub (lockO e1 w.2)) H1 ns' e' H2/\Sat K mg (Xin Y ns1 sub) N0 ns' e' σ2 H2/\Rds K mg (Oc (Xin Y ns1 sub) ns') H2 acc' av/\lcV g.G t.G p.G (w.1.drop (i+1)) av e'=.ok ys e2,λacc' σ2 H2 n=>⟨_,by omega,rfl,n⟩,λx H2 y=>?_⟩;obtain⟨gr,rx⟩:=yl x H2 y;have a2:=a'.trans S3 (.gr gr);have S4:=S'.gr gr;have ra2:=ra.mono gr.mov;split at q'
      .cases q'
      .rename_i e3 qg;refine⟨_,N0,ns',e',_,e3,S4,rx,qg,λσ3 ns3 a3 S5=>⟨_,N0,ns3,e3,S5,?_⟩⟩;have a4:=a2.trans S3 a3;have ra3:=ra2.mono a3.mov;cases qc:t.G e3 with
       |stuck=>rw[qc] at q';cases q'
       |exc _ _=>rw[qc] at q';cases q'
       |
        ok b e4=>
        rw[qc] at q';intro H4 ns4 a5 S6;have a6:=a4.trans S3 a5;have ra4:=ra3.mono a5.mov;show if b=true then _ else _
        have q':(if b=true then (p.G e4).bind λtt e3=>(match cU e3 tt with
         |some (e4,y)=>lcV g.G t.G p.G (w.1.drop (i+1)) (av++[y]) e4
         |none=>.stuck) else lcV g.G t.G p.G (w.1.drop (i+1)) av e4)=.ok ys e2:=q'
        by_cases hb:b=true
        .rw[if_pos hb] at q' ⊢;refine⟨_,N0,λ_=>True,ns4,e4,S6,λ_ _=>trivial,?_⟩;cases qp:p.G e4 with
         |stuck=>rw[qp] at q';cases q'
         |exc _ _=>rw[qp] at q';cases q'
         |
          ok tt e5=>
          rw[qp] at q';intro H5 ns5 a7 S7 v rv;have q':(match cU e5 tt with
           |some (e4,y)=>lcV g.G t.G p.G (w.1.drop (i+1)) (av++[y]) e4
           |none=>.stuck)=.ok ys e2:=q'
          split at q'
          .rename_i e6 u qd;obtain⟨ns6,S8,a8,r8⟩:=fK S7 rv qd;exact⟨hlt,ns6,e6,_,(a6.trans S3 a7).trans S3 a8,S8,((ra4.mono a7.mov).mono a8.mov).append (.cons r8 .nil),q'⟩
          .cases q'
        .rw[if_neg hb] at q' ⊢;exact⟨hlt,ns4,e4,av,a6,S6,ra4,q'⟩
     .cases q'
    .have hi2:i=w.1.length:=by omega
     subst hi2;rw[List.drop_length] at q';cases q';have k3:∀n,Oc (Xin Y ns1 sub) ns' n->Oc Y ns1 n:=λn z=>⟨λy=>z.1 (.inl y),λy=>by
      by_cases w:some n∈ba sub ns1
      .obtain⟨j,w⟩:=aW.mp w;obtain⟨s,v,o,b1,b2,_⟩:=S3.own w;rcases b2 with b2 |b2
       .obtain⟨v',rfl⟩:=(vw (e:=lockO e1 _) hs').mt j s b1 b2;obtain⟨u,c1,c2⟩:=a'.mu' j v' b1;exact z.2 (aW.mpr ⟨j,by rw[c2];exact w⟩)
       .obtain⟨c1,c2⟩:=a'.lk j s b1 b2;exact z.2 (aW.mpr ⟨j,by rw[c2];exact w⟩)
      .exact z.1 (.inr ⟨y,w⟩)⟩
     obtain⟨S5,a5⟩:=S2.back (Y:=Y) (vw hs') a' S'.bs (λn z=>by
      obtain⟨ob,z'⟩:=S2.xl n z;exact⟨by
       cases qh:H' n with
       |none=>rw[a'.dom n qh] at z';cases z'
       |some o'=>exact⟨o',rfl⟩,.inl z⟩) (λ_ z=>z) λj v n q1 q2=>by
      obtain⟨s,u,o,b1,b2,b3,b4,b5,b6,b7⟩:=S'.own q2;rw[q1] at b1;cases b1;cases b3;exact⟨o,b5,b6,b7.mono (.of k3)⟩
     have f_:∀e'',Sat K mg Y N0 ns1 e'' σ H'->Stp ns1 e1 H1 ns1 e'' H'->PG3 K mg Y N0 ns1 e1 σ H1 (ES σ) (KE K mg Y N0 L σ Q) (.ok (.new (.lst ys)) e'')->∀D,H' D=none->Q (.ref D) (upd H' D (.lst acc)):=λe'' S6 a6 p6 D hD=>
      PG3.bv (b:=.new (.lst ys)) (p6.after S1 a6) S6 (λa z=>hl a (a1.dom a (a6.dom a z))) H' D _ .refl hD trivial (.lst (ra.mono (.of k3)))
     refine .inl ⟨(it _ _ (kp a')).2,by rw[ra.len];exact hy,?_⟩;cases hp:w.2 with
     |none=>rw[hp] at S5 a5 p1;exact f_ _ S5 a5 p1
     |some k=>rw[hp] at S5 a5 p1;obtain⟨s,w1,w2⟩:=hk k hp;exact f_ _ (S5.unlock k) (a5.unlock w1 w2) p1
   .exact p1.elim
  .exact p1.elim⟩
def gR{scope:Scope}(M:List Str)(kn:List (Str×NameKind))(N:List Str)(sub:Qe){hsb:(sub.filterMap id).Nodup}(hi:DI K mg X ES tg iter I)(hg:N.Nodup->∀cl C s₂ H fp,DG K mg (bT X N scope cl C s₂ H fp) tg g)(ht:N.Nodup->∀cl C s₂ H fp,DTs K mg (bT X N scope cl C s₂ H fp) (λ_=>E0) ifs t)(he:N.Nodup->∀cl C s₂ H fp,DE K mg (bT X N scope cl C s₂ H fp) (λ_=>E0) elt p)(hnd:N.Nodup:=by decide)(hc:X.calm=true:=by rfl)(hM:X.N=M:=by rfl)(hkn:X.env.scope.names=kn:=by rfl)(hsub:qr M scope.names sub N=true:=by decide)(hk:scope.kind=.function:=by rfl)(hnc:∀x∈scope.names,x.2 ≠ .cell:=by decide)(h_:∀x∈scope.names,x.2=.local->scope.names.lookup x.1=some .local:=by decide)(hfr:yw kn scope.names=true:=by decide)(hsl:sub.length=N.length:=by rfl)(hs:∀x,foldedSetIterable iter X.env x=pure x:=by intro _;rfl):DE K mg X ES (.ListComp elt [⟨tg,iter,ifs,0⟩] scope pos) (pLC I sub hsb g t p):=
 ⟨PE.imp (Jk hc hi.ok hk hnc h_ (by subst hkn;exact vg hfr) hsl (by subst hM;exact uo hsub) (λcl C s H f=>(hg hnd cl C s H f).ok) (λcl C s H f=>(ht hnd cl C s H f).ok) (λcl C s H f=>(he hnd cl C s H f).ok) hs) Ex⟩
def zSlc{ow:Bool}{px spos:Pos}{iT:Nat}{xT:Str}{scope:Scope}(hN:X.N.Nodup)(M:List Str)(kn:List (Str×NameKind))(N:List Str)(sub:Qe){hsb:(sub.filterMap id).Nodup}(hi:DI K mg X ES tg iter I)(hg:N.Nodup->∀cl C s₂ H fp,DG K mg (bT X N scope cl C s₂ H fp) tg g)(ht:N.Nodup->∀cl C s₂ H fp,DTs K mg (bT X N scope cl C s₂ H fp) (λ_=>E0) ifs t)(he:N.Nodup->∀cl C s₂ H fp,DE K mg (bT X N scope cl C s₂ H fp) (λ_=>E0) elt p)(hsw:swapsWith (.ListComp elt [⟨tg,iter,ifs,0⟩] scope pos) (some (.Name xT px)) spos.line X.env=pure true:=by rfl)(hnd:N.Nodup:=by decide)(hc:X.calm=true:=by rfl)(hix:X.N[iT]?=some xT:=by rfl)(hxl:Loc X.env.scope xT:=by first |exact Or.inl rfl |exact Or.inr rfl)(hM:X.N=M:=by rfl)(hkn:X.env.scope.names=kn:=by rfl)(hsub:qr M scope.names sub N=true:=by decide)(hk:scope.kind=.function:=by rfl)(hnc:∀x∈scope.names,x.2 ≠ .cell:=by decide)(h_:∀x∈scope.names,x.2=.local->scope.names.lookup x.1=some .local:=by decide)(hfr:yw kn scope.names=true:=by decide)(hsl:sub.length=N.length:=by rfl)(hs:∀x,foldedSetIterable iter X.env x=pure x:=by intro _;rfl)(hf:X.fn xT=true\/X.env.scope.names.lookup xT=some .local:=by first |exact .inl rfl |exact .inr rfl |assumption):DS K mg X ES (.Assign [.Name xT px] (.ListComp elt [⟨tg,iter,ifs,0⟩] scope pos) spos) (ax ow iT (pLC I sub hsb g t p)):=
 ⟨PS.imp (Jt hc hN hix hxl hi.ok hk hnc h_ (by subst hkn;exact vg hfr) hsl (by subst hM;exact uo hsub) (λcl C s H f=>(hg hnd cl C s H f).ok) (λcl C s H f=>(ht hnd cl C s H f).ok) (λcl C s H f=>(he hnd cl C s H f).ok) hsw hs hf) λD σ H q=>Ex σ H _ (zL D σ H q)⟩
end
inductive R3F where
 |ok (r:Rt) (mv:List Val) |exc (c:Str) (mv:List Val) |stuck
abbrev Fn3:=List Val->R3F
noncomputable def sl1 (b:Bool) (v:Val):Sl:=if b=true then .mu v else .sh v
noncomputable def sls (ms:List Bool) (vs:List Val):E3:=List.zipWith sl1 ms vs
noncomputable def az:List Bool->List Val->E3
 |true::ms,v::vs=>.mu v::az ms vs
 |true::ms,[]=>.no::az ms []
 |false::ms,vs=>.no::az ms vs
 | [],_=>[]
noncomputable def muV:List Bool->E3->Option (List Val)
 |true::ms,.mu v::e=>(muV ms e).map (v :: ·)
 |true::_,_=>none
 |false::ms,_::e=>muV ms e
 |false::_,[]=>none
 | [],_=>some []
noncomputable def fnV (ms:List Bool) (N:Nat) (F:MS3):Fn3:=λvs=>if vs.length=ms.length then (match F (sls ms vs++List.replicate (N-vs.length) .no) with
 |.nx e=>(match muV ms e with |some mv=>.ok (.val .non) mv |none=>.stuck)
 |.rt r e=>(match muV ms e with |some mv=>.ok r mv |none=>.stuck)
 |.exc c e=>(match muV ms e with |some mv=>.exc c mv |none=>.stuck)
 |_=>.stuck) else .stuck
def eZ{ms:List Bool}{vs:List Val}{i:Nat}{s:Sl}(q:(sls ms vs)[i]?=some s):∃b v,ms[i]?=some b/\vs[i]?=some v/\s=sl1 b v:=by
 unfold sls at q;rw[OH] at q;cases h1:ms[i]? with
 |none=>rw[h1] at q;cases q
 |
  some b=>
  cases h2:vs[i]? with
  |none=>rw[h1,h2] at q;cases q
  |some v=>rw[h1,h2] at q;cases q;exact⟨b,v,rfl,rfl,rfl⟩
theorem gG:∀{ms:List Bool}{e:E3}{mv:List Val}{i:Nat}{s:Sl},muV ms e=some mv->(az ms mv)[i]?=some s->(ms[i]?=some false/\s=.no)\/(ms[i]?=some true/\∃v,e[i]?=some (.mu v)/\s=.mu v)
 | [],_,_,_,_,_,q=>by unfold az at q;simp at q
 |
  true::ms,.mu v::e,mv,i,s,q,q2=>by
  obtain⟨mv',z1,z2⟩:=Nd.mp (show (muV ms e).map (v :: ·)=some mv from q);subst z2;cases i with
  |zero=>
   right;have:Sl.mu v=s:=by simpa [az] using q2
   subst this;exact⟨rfl,v,rfl,rfl⟩
  |
   succ i=>
   have:=gG (i:=i) (s:=s) z1 (by simpa [az] using q2)
   simpa using this
 |true::ms,[],mv,i,s,q,q2=>by cases q
 |true::ms,.no::e,mv,i,s,q,q2=>by cases q
 |true::ms,.sh v::e,mv,i,s,q,q2=>by cases q
 |true::ms,.ow v::e,mv,i,s,q,q2=>by cases q
 |true::ms,.lo v::e,mv,i,s,q,q2=>by cases q
 |true::ms,.lm v::e,mv,i,s,q,q2=>by cases q
 |false::ms,[],mv,i,s,q,q2=>by cases q
 |
  false::ms,t::e,mv,i,s,q,q2=>by
  cases i with
  |zero=>
   left;have:Sl.no=s:=by simpa [az] using q2
   exact⟨rfl,this.symm⟩
  |
   succ i=>
   have:=gG (i:=i) (s:=s) (show muV ms e=some mv from q) (by simpa [az] using q2)
   simpa using this
theorem og:∀{ms:List Bool}{e:E3}{mv:List Val}{i:Nat},muV ms e=some mv->ms[i]?=some true->∃v,e[i]?=some (.mu v)/\(az ms mv)[i]?=some (.mu v)
 | [],_,_,i,_,q=>by simp at q
 |
  true::ms,.mu v::e,mv,i,q,q2=>by
  obtain⟨mv',z1,z2⟩:=Nd.mp (show (muV ms e).map (v :: ·)=some mv from q);subst z2;cases i with
  |zero=>exact⟨v,rfl,rfl⟩
  |succ i=>obtain⟨u,y1,y2⟩:=og (i:=i) z1 (by simpa using q2);exact⟨u,by simpa using y1,by simpa [az] using y2⟩
 |true::ms,[],mv,i,q,q2=>by cases q
 |true::ms,.no::e,mv,i,q,q2=>by cases q
 |true::ms,.sh v::e,mv,i,q,q2=>by cases q
 |true::ms,.ow v::e,mv,i,q,q2=>by cases q
 |true::ms,.lo v::e,mv,i,q,q2=>by cases q
 |true::ms,.lm v::e,mv,i,q,q2=>by cases q
 |false::ms,[],mv,i,q,q2=>by cases q
 |
  false::ms,t::e,mv,i,q,q2=>by
  cases i with
  |zero=>simp at q2
  |succ i=>obtain⟨u,y1,y2⟩:=og (i:=i) (show muV ms e=some mv from q) (by simpa using q2);exact⟨u,by simpa using y1,by simpa [az] using y2⟩
theorem gC:∀{ms:List Bool}{mv:List Val},(az ms mv).length=ms.length
 | [],_=>rfl
 |true::ms,v::mv=>by show (az ms mv).length+1=ms.length+1;rw[gC]
 |true::ms,[]=>by show (az ms []).length+1=ms.length+1;rw[gC]
 |false::ms,mv=>by show (az ms mv).length+1=ms.length+1;rw[gC]
noncomputable def iD (i:Nat):List Tm->Bool
 |.bor j::ts=>(i==j) || iD i ts
 |_::ts=>iD i ts
 | []=>false
noncomputable def nI (i:Nat):List Bool->List Tm->Bool
 |true::ms,.bor j::ts=>(i==j) || nI i ms ts
 |_::ms,_::ts=>nI i ms ts
 |_,_=>false
noncomputable def okA (e:E3):List Bool->List Tm->Bool
 |true::ms,.bor i::ts=>((e[i]?).bind Sl.mv).isSome && !(iD i ts)&&okA e ms ts
 |true::_,_::_=>false
 |false::ms,.bor i::ts=>!(nI i ms ts)&&okA e ms ts
 |false::ms,_::ts=>okA e ms ts
 | [],[]=>true
 |_,_=>false
noncomputable def nF (b:Bool) (t:Tm):Option Nat:=match b,t with
 |true,.bor i=>some i
 |_,_=>none
noncomputable def aN (ms:List Bool) (ts:List Tm):List (Option Nat):=List.zipWith nF ms ts
noncomputable def aR (e:E3):List Bool->List Tm->List Nat
 |false::ms,.bor i::ts=>(match e[i]? with
  |some (.sh _)=>aR e ms ts
  |_=>i::aR e ms ts)
 |_::ms,_::ts=>aR e ms ts
 |_,_=>[]
mutual
def flatV:Val->Bool
 |.tup xs=>cN xs
 |.lst _=>false
 |.kl _=>false
 |.dct _=>false
 |.set _=>false
 |_=>true
def cN:List Val->Bool
 | []=>true
 |v::vs=>flatV v&&cN vs
end
noncomputable def lT:List (Key×Val)->Bool
 | []=>true
 |(_,v)::vs=>flatV v&&lT vs
noncomputable def cE:Val->Bool
 |.lst xs=>cN xs
 |.dct xs=>lT xs
 |.set _=>true
 |_=>false
noncomputable def ka:Rt->Bool
 |.val v=>flatV v
 |.new v=>cE v
 |.par _=>true
 |.pr v u=>flatV v&&cE u
noncomputable def nV (e:E3):List Nat->Option E3
 | []=>some e
 |i::is=>match cU e (.bor i) with
  |some (e1,_)=>nV e1 is
  |none=>none
noncomputable def Rt.tm (ts:List Tm):Rt->Tm
 |.val v=>.val v
 |.new v=>.new v
 |.par i=>(ts[i]?).getD (.val .non)
 |.pr v u=>.val (.tup [v,u])
noncomputable def Ds (ms:List Bool) (G:Fn3) (A:MA3) (e:E3):R3 Tm:=(A e).bind λts e1=>match rss e1 ts with
 |none=>.stuck
 |some vs=>if okA e1 ms ts=true then (match G vs with
  |.stuck=>.stuck
  |.ok r mv=>if (aR e1 ms ts).isEmpty || (ka r&&mv.all cE) then .ok (r.tm ts) (aU (aN ms ts) (az ms mv) e1) else (match nV e1 (aR e1 ms ts) with
   |some e2=>.ok (r.tm ts) (aU (aN ms ts) (az ms mv) e2)
   |none=>.stuck)
  |.exc c mv=>if (aR e1 ms ts).isEmpty || mv.all cE then .exc c (aU (aN ms ts) (az ms mv) e1) else .stuck) else .stuck
section
variable{K:W.Frag}{mg:Qb}{P P':Addr->Prop}{H H':Hp}
def Rd.flat(l:LeH H H')(f:flatV v=true)(r:Rd K mg P H d v):Rd K mg P' H' d v:=
 @Rd.rec K mg P H (λd v _=>flatV v=true->Rd K mg P' H' d v) (λo v _=>flatV v=true->Rd K mg P' H' .non v) (λds vs _=>cN vs=true->Rds K mg P' H' ds vs) (λws us _=>True) (λ_=>.non) (λb _=>.bl b) (λi _=>.int i) (λx _=>.str x) (λn _=>.ty n) (λm _=>.glb m) (λm e _=>.exc m (l.ext _ _ e)) (λh _ ih f=>.tup (l.sqT h) (ih f)) (λ_ _ _ f=>absurd f x_) (λ_ _ r _ f=>by cases r <;> exact absurd f x_) (λ_ _ f=>absurd f x_) (λ_ _ f=>absurd f x_) (λ_ _ f=>absurd f x_) (λ_ _ f=>absurd f x_) (λ_=>.nil) (λ_ _ a b f=>.cons (a (u_ .. ▸ f).1) (b (u_ .. ▸ f).2)) trivial (λ_ _ _ _=>trivial) d v r f
def Rds.flat(l:LeH H H')(f:cN v=true)(r:Rds K mg P H ds v):Rds K mg P' H' ds v:=
 r.ind (M:=λds vs=>cN vs=true->Rds K mg P' H' ds vs) (λ_=>.nil) (λr _ ih f=>by rw[cN,u_] at f;exact .cons (Rd.flat l f.1 r) (ih f.2)) f
def Rk.flat(l:LeH H H')(f:lT v=true)(r:Rk K mg P H ds v):Rk K mg P' H' ds v:=
 r.ind (M:=λds vs=>lT vs=true->Rk K mg P' H' ds vs) (λ_=>.nil) (λr _ ih f=>by rw[lT,u_] at f;exact .cons (Rd.flat l f.1 r) (ih f.2)) f
def Rc.flat(l:LeH H H')(f:cE v=true)(r:Rc K mg P H o v):Rc K mg P' H' o v:=by
 cases r with
 |lst r=>exact .lst (Rds.flat l (by simpa [cE] using f) r)
 |fz r=>simp [cE] at f
 |dct r=>exact .dct (Rk.flat l (by simpa [cE] using f) r)
 |set xs nd=>exact .set xs nd
end
structure PFn where
 ms:List Bool
 G:Fn3
def nn(H:Hp)(a:Addr):Prop:=H a=none
def sp3(K:W.Frag)(mg:Qb)(f:PFn):Sp:=λvs H Q E=>∃Y ps us,us.length=f.ms.length/\Sat K mg Y (nn H) ps (sls f.ms us) (vs.map some) H/\match f.G us with
 |.ok r mv=>∀x H',Stp ps (sls f.ms us) H ps (az f.ms mv) H'->RtR K mg Y (nn H) ps (az f.ms mv) (vs.map some) H' x r->Q x H'
 |.exc c mv=>∀C H',Stp ps (sls f.ms us) H ps (az f.ms mv) H'->Sat K mg Y (nn H) ps (az f.ms mv) (vs.map some) H'->mg c=some (.ref C)->E (.ref C) none H'
 |.stuck=>False
noncomputable def fnP (ms:List Bool) (N:Nat) (c:PSt):PFn:=⟨ms,fnV ms N c.G⟩
section
variable{K:W.Frag}{mg:Qb}{X N0:Addr->Prop}{ps:Ns}{e:E3}{H H':Hp}{ms:List Bool}{us:List Val}{vs:List V}{k:Nat}
def Fw(S:Sat K mg X N0 ps e σ H):Sat K mg X N0 (ps++List.replicate k none) (e++List.replicate k .no) (σ++List.replicate k none) H:=by
 have gns:∀{i n:Nat},(ps++List.replicate k (none:Option Addr))[i]?=some (some n)->ps[i]?=some (some n):=λ{i n} q=>by
  rw[PC] at q;split at q
  .exact q
  .rw[N9] at q;split at q <;> cases q
 refine⟨?_,?_,S.lh,S.xl,λi j n q1 q2=>S.inj i j n (gns q1) (gns q2),λi n q=>S.nx i n (gns q),λi s q=>?_,S.bs⟩
 .rw[J_,J_,NU,NU,S.l1]
 .rw[J_,J_,NU,NU,S.l2]
 .rw[PC] at q;split at q
  .rename_i hi;rw[NF (by rw[S.l2];exact hi),NF (by rw[S.l1];exact hi)];exact (S.sl i s q).mono (.of λn p=>⟨p.1,λz=>p.2 (by obtain⟨j,z⟩:=aW.mp z;exact aW.mpr ⟨j,gns z⟩)⟩) λ_ _ _ q _=>q
  .rename_i hi;rw[N9] at q;split at q
   .cases q;rw[OK (by rw[S.l2];exact Nat.le_of_not_lt hi),N9,if_pos (by rw[S.l2];assumption)];rfl
   .cases q
def iU{Y:Addr->Prop}(hl:us.length=ms.length)(S:Sat K mg X N0 ps (sls ms us) σ H)(hXY:∀n,X n->Y n)(a:Stp (ps++List.replicate k none) (sls ms us++List.replicate k .no) H ns' e' H')(S2:Sat K mg Y N0 ns' e' σ' H')(qm:muV ms e'=some mv):
 Stp ps (sls ms us) H ps (az ms mv) H'/\Sat K mg Y N0 ps (az ms mv) σ H'/\∀n,Oc Y ns' n->Oc Y ps n:=by
 have lS:(sls ms us).length=ms.length:=by unfold sls;rw[OA];omega
 have ltS:∀{i:Nat},i<ms.length->i<(sls ms us).length:=λh=>by omega
 have ltP:∀{i:Nat},i<(sls ms us).length->i<ps.length:=λh=>S.l2.symm ▸ h;have kmu:∀{i:Nat},ms[i]?=some true->∃v u n o,e'[i]?=some (.mu v)/\(az ms mv)[i]?=some (.mu v)/\(sls ms us)[i]?=some (.mu u)/\ns'[i]?=ps[i]?/\ps[i]?=some (some n)/\σ[i]?=some (some (.ref n))/\H' n=some o/\NotFz o/\Rc K mg (Oc Y ns') H' o v:=by intro i hi;obtain⟨v,y1,y2⟩:=og qm hi;have hil:i<ms.length:=(D_.mp hi).1;obtain⟨u,y3,y4⟩:=a.mu i v y1;rw[NF (ltS hil)] at y3;rw[NF (ltP (ltS hil))] at y4;obtain⟨n,o,z1,z2,_⟩:=S.sl i _ y3;obtain⟨n',o',w1,w2,w3,w4,w5⟩:=S2.sl i _ y1;rw[y4,z1] at w1;cases w1;exact⟨v,u,n,o',y1,y2,y3,y4,z1,z2,w3,w4,w5⟩
 have kown:∀{i n:Nat},ps[i]?=some (some n)->ms[i]?=some true:=λ{i n} q=>by
  obtain⟨s,v,o,z1,z2,_⟩:=S.own q;obtain⟨b,u,y1,_,y2⟩:=eZ z1;cases b with
  |true=>exact y1
  |false=>subst y2;rcases z2 with z2 |z2 <;> cases z2
 have koc:∀n,Oc Y ns' n->Oc Y ps n:=λn z=>⟨z.1,λy=>by obtain⟨i,y⟩:=aW.mp y;obtain⟨v,u,n',o,_,_,_,k1,k2,_⟩:=kmu (kown y);exact z.2 (aW.mpr ⟨i,by rw[k1];exact y⟩)⟩;refine⟨⟨a.le,a.dom,λm o q ht hm=>a.keep m o q ht λ⟨i,s,z1,z2,z3⟩=>hm ?_,λ_ _ q=>.inl q,λi s q hl'=>?_,λi s q hl'=>?_,λi v q=>?_,λi v q=>?_⟩,⟨?_,?_,λn z=>S.lh n (a.dom n z),S2.xl,S.inj,λi n q z=>?_,λi s q=>?_,S2.bs⟩,koc⟩
 .rw[PC] at z1;split at z1
  .rename_i hi;rw[NF (by rw[<- S.l2];exact hi)] at z2;exact⟨i,s,z1,z2,z3⟩
  .rw[N9] at z1;split at z1 <;> cases z1
 .obtain⟨b,u,_,_,y⟩:=eZ q;subst y;cases b <;> cases hl'
 .rcases gG qm q with ⟨_,z⟩ |⟨_,v,_,z⟩ <;> subst z <;> cases hl'
 .rcases gG qm q with ⟨_,z⟩ |⟨z,_⟩
  .cases z
  .obtain⟨v',u,n,o,_,_,k1,_⟩:=kmu z;exact⟨u,k1,rfl⟩
 .obtain⟨b,u,y1,_,y2⟩:=eZ q;cases b with
  |false=>cases y2
  |true=>obtain⟨v',u,n,o,_,k0,k1,_⟩:=kmu y1;exact⟨v',k0,rfl⟩
 .rw[S.l1,gC];exact lS
 .rw[S.l2,gC];exact lS
 .obtain⟨v,u,n',o,_,_,_,k1,k2,_⟩:=kmu (kown q);exact S2.nx i n (by rw[k1];exact q) z
 .rcases gG qm q with ⟨z,rfl⟩ |⟨z,v,z2,rfl⟩
  .have hil:i<ms.length:=(D_.mp z).1;have hi:i<(sls ms us).length:=ltS hil;obtain⟨b,u,y1,_,y2⟩:=eZ (y_ hi);rw[z] at y1;cases y1;have k:=S.sl i _ (y_ hi);rw[y2] at k;exact k.1
  .obtain⟨v',u,n,o,k0,_,_,k1,k2,k3,k4,k5,k6⟩:=kmu z;rw[z2] at k0;cases k0;exact⟨n,o,k2,k3,k4,k5,k6.mono (.of koc)⟩
variable{P:Program}{w:World}{base:Heap}{fx:Str}{b_:Stmt}{n m:Nat}{pn N:List Str}{x:PSt}
def sO(sp:sp3 K mg (fnP ms m x) vs H Q E):vs.length=ms.length:=by obtain⟨Y,ps,us,hl,S,_⟩:=sp;have q:=S.l1;unfold sls at q;rw[p_,OA] at q;have hl':us.length=ms.length:=hl;have:(fnP ms m x).ms=ms:=rfl;rw[this] at q;omega
def tS{Q:VK}{E:XK}(sp:sp3 K mg (fnP ms N.length x) vs H Q E):rdS K mg (λ_=>E) x.G { nx:=λ_ H'=>Q .non H',rt:=Q } (fZ N vs) H:=by
 have hv:=sO sp;obtain⟨Y,ps,us,hl,S0,p⟩:=sp;have hl:us.length=ms.length:=hl;have S0:Sat K mg Y (nn H) ps (sls ms us) (vs.map some) H:=S0;have S1:=Fw (k:=N.length-vs.length) S0;refine⟨Y,nn H,_,_,S1,?_⟩;have p:match fnV ms N.length x.G us with
  |.ok r mv=>∀y H',Stp ps (sls ms us) H ps (az ms mv) H'->RtR K mg Y (nn H) ps (az ms mv) (vs.map some) H' y r->Q y H'
  |.exc c mv=>∀C H',Stp ps (sls ms us) H ps (az ms mv) H'->Sat K mg Y (nn H) ps (az ms mv) (vs.map some) H'->mg c=some (.ref C)->E (.ref C) none H'
  |.stuck=>False:=p
 unfold fnV at p;rw[if_pos hl] at p;have hvu:us.length=vs.length:=by omega
 rw[hvu] at p;cases q:x.G (sls ms us++List.replicate (N.length-vs.length) .no) with
 |stuck=>rw[q] at p;exact p.elim
 |bk _=>rw[q] at p;exact p.elim
 |ct _=>rw[q] at p;exact p.elim
 |
  nx e'=>
  rw[q] at p;intro H' σ' ns' a S2;try dsimp only at p
  cases qm:muV ms e' with
  |none=>rw[qm] at p;exact p.elim
  |some mv=>rw[qm] at p;obtain⟨a3,S3,koc⟩:=iU hl S0 (λ_ z=>z) a S2 qm;exact p _ _ a3 ⟨S3,.non⟩
 |
  exc c e'=>
  rw[q] at p;intro H' σ' ns' C a S2 hC;try dsimp only at p
  cases qm:muV ms e' with
  |none=>rw[qm] at p;exact p.elim
  |some mv=>rw[qm] at p;obtain⟨a3,S3,koc⟩:=iU hl S0 (λ_ z=>z) a S2 qm;exact p _ _ a3 S3 hC
 |
  rt r e'=>
  rw[q] at p;intro H' σ' ns' y a rr;try dsimp only at p
  cases qm:muV ms e' with
  |none=>rw[qm] at p;exact p.elim
  |
   some mv=>
   rw[qm] at p;cases r with
   |val v=>obtain⟨a3,S3,koc⟩:=iU hl S0 (λ_ z=>z) a rr.1 qm;exact p _ _ a3 ⟨S3,rr.2.mono (.of koc)⟩
   |new v=>obtain⟨n,o,z1,z2,z3,z4,z5,z6,z7⟩:=rr;obtain⟨a3,S3,koc⟩:=iU (Y:=Xn Y n) hl S0 (λ_ z=>.inl z) a z6 qm;exact p _ _ a3 ⟨n,o,z1,z2,z3,z4,z5,S3,z7.mono (.of koc)⟩
   |pr v u=>obtain⟨pp,d1,n,o,z0,z1,z2,z3,z4,z5,z6,z7,z8⟩:=rr;obtain⟨a3,S3,koc⟩:=iU (Y:=Xn Y n) hl S0 (λ_ z=>.inl z) a z6 qm;exact p _ _ a3 ⟨pp,d1,n,o,z0,z1,z2,z3,z4,z5,S3,z7.mono (.of koc),z8.mono (.of koc)⟩
   |
    par i=>
    obtain⟨R1,R2,v,R3⟩:=rr;obtain⟨a3,S3,koc⟩:=iU hl S0 (λ_ z=>z) a R1 qm;refine p _ _ a3 ⟨S3,?_,?_⟩;all_goals
     obtain⟨u,k1,k2⟩:=a.mu i v R3;have hi:i<(sls ms us).length:=by apply Decidable.byContradiction;intro hi;rw[OK (Nat.le_of_not_lt hi),N9] at k1;split at k1 <;> cases k1
     rw[NF hi] at k1;rw[NF (by rw[S0.l2];exact hi)] at k2;obtain⟨m,o,w1,w2,_⟩:=S0.sl i _ k1
    .obtain⟨m',o',x1,x2,_⟩:=R1.sl i _ R3;rw[k2,w1] at x1;cases x1;rw[R2] at x2;cases x2;exact w2
    .obtain⟨v',y,_⟩:=a3.mu' i u k1;exact⟨v',y⟩
def okP(D:Def K mg fx b_)(S:FnScope N pn (ar b_))
 (hb:∀(kV doc pm:Value) (an:Option Addr) (cdv ct:Value) (us:List Value),us.length=pn.length->bindArgs (W.fnOf fx fx (c5 b_) (bH b_) (ar b_) .none kV doc pm an cdv ct) ⟨us,[]⟩=pure (pn.zip us))
 (j':N.Nodup->∀(f:Addr) (cdv:Value) (A:Around) (outer:List Env) (s:Shared) (H:Hp) (E:XK),Room k (A.deeper (envOfC fx (ar b_) s.heap.objs.size f cdv))->
  DSs K mg (eE (CX1 P w) P w K mg base N fx (ar b_) f cdv A outer s H E) (λ_=>E) (bH b_) x) (hn:ms.length=pn.length:=by rfl) (hm:N.length=m:=by rfl):Callee P w K mg base fx (k+1) pn (sp3 K mg (fnP ms m x)):=by
 subst hm;exact D.okR S hb (λvs H Q E sp=>by rw[<- hn];exact sO sp) λf cdv A outer s H vs Q E hr sp=>⟨_,(j' S.nd f cdv A outer s H E hr).ok,tS sp⟩
end
theorem oA:∀{ts:List Tm}{k:Nat},ts[k]?=some (.bor i)->iD i ts=true
 | [],_,q=>by simp at q
 |
  t::ts,0,q=>by
  have:t=.bor i:=by simpa using q
  subst this;simp [iD]
 |
  t::ts,k+1,q=>by
  have:=oA (ts:=ts) (k:=k) (by simpa using q)
  cases t <;> simp [iD,this]
theorem wN:∀{ms:List Bool}{ts:List Tm}{k:Nat},ms[k]?=some true->ts[k]?=some (.bor i)->nI i ms ts=true
 | [],_,_,q,_=>by simp at q
 |_::_,[],_,_,q=>by simp at q
 |
  b::ms,t::ts,0,q1,q=>by
  have:t=.bor i:=by simpa using q
  have:b=true:=by simpa using q1
  subst_vars;simp [nI]
 |
  b::ms,t::ts,k+1,q1,q=>by
  have:=wN (ms:=ms) (ts:=ts) (k:=k) (by simpa using q1) (by simpa using q)
  cases b <;> cases t <;> simp [nI,this]
theorem kg:∀{ms:List Bool}{ts:List Tm}{k:Nat},okA e ms ts=true->ms[k]?=some true->∃i,ts[k]?=some (.bor i)/\∃u,(e[i]?).bind Sl.mv=some u
 | [],_,_,_,q=>by simp at q
 |b::ms,[],_,o,_=>by cases b <;> simp [okA] at o
 |
  b::ms,t::ts,0,o,q=>by
  have:b=true:=by simpa using q
  subst this;cases t with
  |bor i=>simp only[okA,u_] at o;exact⟨i,rfl,Ot.mp o.1.1⟩
  |_=>simp [okA] at o
 |
  b::ms,t::ts,k+1,o,q=>by
  have o':okA e ms ts=true:=by cases b <;> cases t <;> simp only[okA,u_] at o <;> first |exact o.2 |exact o |(simp at o;done)
  obtain⟨i,y⟩:=kg (k:=k) o' (by simpa using q);exact⟨i,by simpa using y⟩
theorem iK:∀{ms:List Bool}{ts:List Tm}{k j i:Nat},okA e ms ts=true->ms[k]?=some true->ts[k]?=some (.bor i)->ts[j]?=some (.bor i)->j=k
 | [],_,_,_,_,_,q,_,_=>by simp at q
 |b::ms,[],_,_,_,o,_,_,_=>by cases b <;> simp [okA] at o
 |b::ms,t::ts,0,0,i,o,q1,q2,q3=>rfl
 |
  b::ms,t::ts,0,j+1,i,o,q1,q2,q3=>by
  have h1:b=true:=by simpa using q1
  have h2:t=.bor i:=by simpa using q2
  subst h1 h2;simp only[okA,u_] at o
  have:=oA (i:=i) (ts:=ts) (k:=j) (by simpa using q3)
  rw[this] at o;simp at o
 |
  b::ms,t::ts,k+1,0,i,o,q1,q2,q3=>by
  have h2:t=.bor i:=by simpa using q3
  subst h2;have hm:=wN (i:=i) (ms:=ms) (ts:=ts) (k:=k) (by simpa using q1) (by simpa using q2);have hb:=oA (i:=i) (ts:=ts) (k:=k) (by simpa using q2);cases b <;> simp [okA,hm,hb] at o
 |
  b::ms,t::ts,k+1,j+1,i,o,q1,q2,q3=>by
  have o':okA e ms ts=true:=by cases b <;> cases t <;> simp only[okA,u_] at o <;> first |exact o.2 |exact o |(simp at o;done)
  exact NA (· + 1) (iK (k:=k) (j:=j) (i:=i) o' (by simpa using q1) (by simpa using q2) (by simpa using q3))
theorem oG:∀{ms:List Bool}{ts:List Tm},okA e ms ts=true->ms.length=ts.length
 | [],[],_=>rfl
 | [],_::_,o=>by simp [okA] at o
 |b::ms,[],o=>by cases b <;> simp [okA] at o
 |
  b::ms,t::ts,o=>by
  have o':okA e ms ts=true:=by cases b <;> cases t <;> simp only[okA,u_] at o <;> first |exact o.2 |exact o |(simp at o;done)
  exact NA (· + 1) (oG o')
theorem kW:∀{ms:List Bool}{ts:List Tm}{k i:Nat},ms[k]?=some false->ts[k]?=some (.bor i)->(∀v,e[i]?≠some (.sh v))->i∈aR e ms ts
 | [],_,_,_,q,_,_=>by simp at q
 |_::_,[],_,_,_,q,_=>by simp at q
 |
  b::ms,t::ts,0,i,q1,q2,hn=>by
  have h1:b=false:=by simpa using q1
  have h2:t=.bor i:=by simpa using q2
  subst h1 h2;unfold aR;split
  .rename_i v q;exact absurd q (hn v)
  .exact t_ ..
 |
  b::ms,t::ts,k+1,i,q1,q2,hn=>by
  have ih:=kW (ms:=ms) (ts:=ts) (k:=k) (by simpa using q1) (by simpa using q2) hn;cases b <;> cases t <;> simp only[aR] <;> first |exact ih |(split;exact ih;exact r_ _ ih)
def eU{ms:List Bool}{ts:List Tm}{k i:Nat}(q:(aN ms ts)[k]?=some (some i)):ms[k]?=some true/\ts[k]?=some (.bor i):=by
 unfold aN at q;rw[OH] at q;cases h1:ms[k]? with
 |none=>rw[h1] at q;cases q
 |
  some b=>
  cases h2:ts[k]? with
  |none=>rw[h1,h2] at q;cases q
  |some t=>rw[h1,h2] at q;have q':nF b t=some i:=K_ q;cases b <;> cases t <;> first |(cases q';done) |(cases q';exact⟨rfl,rfl⟩)
def FW{ms:List Bool}{ts:List Tm}{k i:Nat}(q1:ms[k]?=some true)(q2:ts[k]?=some (.bor i)):(aN ms ts)[k]?=some (some i):=by unfold aN;rw[OH,q1,q2];rfl
theorem vU:∀{ts:List Tm}{vs:List Val}{k:Nat}{v:Val},rss e ts=some vs->vs[k]?=some v->∃t,ts[k]?=some t/\rs e t=some v
 | [],_,_,_,q,q2=>by cases q;simp at q2
 |
  t::ts,vs,k,v,q,q2=>by
  unfold rss at q;split at q
  .rename_i u us e1 e2;cases q;cases k with
   |zero=>
    have:u=v:=by simpa using q2
    subst this;exact⟨t,rfl,e1⟩
   |succ k=>obtain⟨t',y1,y2⟩:=vU (k:=k) e2 (by simpa using q2);exact⟨t',by simpa using y1,y2⟩
  .cases q
theorem oD:∀{ts:List Tm}{vs:List Val},rss e ts=some vs->vs.length=ts.length
 | [],_,q=>by cases q;rfl
 |
  t::ts,vs,q=>by
  unfold rss at q;split at q
  .rename_i u us e1 e2;cases q;exact NA (· + 1) (oD e2)
  .cases q
theorem jm:∀{ms:List Bool}{mv:List Val}{j:Nat}{v:Val},(az ms mv)[j]?=some (.mu v)->v∈mv
 | [],_,_,_,q=>by simp [az] at q
 |true::ms,u::mv,0,v,q=>by
  have:Sl.mu u=.mu v:=by simpa [az] using q
  cases this;exact t_ ..
 |true::ms,u::mv,j+1,v,q=>r_ _ (jm (ms:=ms) (mv:=mv) (j:=j) (by simpa [az] using q))
 |true::ms,[],0,v,q=>by simp [az] at q
 |true::ms,[],j+1,v,q=>jm (ms:=ms) (mv:=[]) (j:=j) (by simpa [az] using q)
 |false::ms,mv,0,v,q=>by simp [az] at q
 |false::ms,mv,j+1,v,q=>jm (ms:=ms) (mv:=mv) (j:=j) (by simpa [az] using q)
theorem kQ:∀{ms:List Bool}{ts:List Tm}{i:Nat},i∈aR e ms ts->∃k:Nat,ms[k]?=some false/\ts[k]?=some (.bor i)
 | [],_,_,q=>by simp [aR] at q
 |_::_,[],_,q=>by simp [aR] at q
 |
  b::ms,t::ts,i,q=>by
  have up:i∈aR e ms ts->∃k:Nat,(b::ms)[k]?=some false/\(t::ts)[k]?=some (.bor i):=λz=>by obtain⟨k,y1,y2⟩:=kQ z;exact⟨k+1,by simpa using y1,by simpa using y2⟩
  cases b <;> cases t <;> simp only[aR] at q <;> first |exact up q |skip
  split at q
  .exact up q
  .rcases G_.mp q with rfl |q
   .exact⟨0,rfl,rfl⟩
   .exact up q
def Gm(q:cU e (.bor i)=some (e1,v)):(∀j,j≠i->e1[j]?=e[j]?)/\e1[i]?=some (.sh v)/\(e[i]?).bind Sl.val=some v:=by
 unfold cU at q;dsimp only at q;split at q
 .rename_i u q1;cases q;exact⟨λ_ _=>rfl,q1,by rw[q1];rfl⟩
 .rename_i u q1;cases q;exact⟨λj z=>cF z,c7 (D_.mp q1).1,by rw[q1];rfl⟩
 .cases q
theorem oX:∀{ms:List Bool}{ts:List Tm},(∀(k i:Nat),ms[k]?=some true->ts[k]?=some (.bor i)->e2[i]?=e[i]?)->okA e ms ts=true->okA e2 ms ts=true
 | [],[],_,o=>rfl
 | [],_::_,_,o=>by simp [okA] at o
 |b::ms,[],_,o=>by cases b <;> simp [okA] at o
 |
  b::ms,t::ts,hk,o=>by
  have o':okA e ms ts=true:=by cases b <;> cases t <;> simp only[okA,u_] at o <;> first |exact o.2 |exact o |(simp at o;done)
  have ih:=oX (λk i q1 q2=>hk (k+1) i (by simpa using q1) (by simpa using q2)) o';cases b with
  |false=>cases t <;> simp only[okA,u_] at o ⊢ <;> first |exact⟨o.1,ih⟩ |exact ih
  |
   true=>
   cases t with
   |bor i=>simp only[okA,u_] at o ⊢;rw[hk 0 i rfl rfl];exact⟨o.1,ih⟩
   |_=>simp [okA] at o
theorem uG:∀{ms:List Bool}{ts:List Tm},(∀(k i:Nat),ms[k]?=some false->ts[k]?=some (.bor i)->∃v,e[i]?=some (.sh v))->aR e ms ts=[]
 | [],_,_=>by simp [aR]
 |_::_,[],_=>by simp [aR]
 |
  b::ms,t::ts,hk=>by
  have ih:=uG (λk i q1 q2=>hk (k+1) i (by simpa using q1) (by simpa using q2));cases b <;> cases t <;> simp only[aR] <;> first |exact ih |skip
  rename_i i;obtain⟨v,q⟩:=hk 0 i rfl rfl;rw[q];exact ih
theorem oQ(hv:∀i:Nat,(e2[i]?).bind Sl.val=(e[i]?).bind Sl.val):∀(ts:List Tm),rss e2 ts=rss e ts
 | []=>rfl
 |
  t::ts=>by
  unfold rss;rw[oQ hv ts];have:rs e2 t=rs e t:=by
   cases t with
   |bor i=>exact hv i
   |_=>rfl
  rw[this]
def BG(ok:okA e ms ts=true):Lnk (aN ms ts) e (sls ms vs):=by
 refine⟨λj k i q1 q2=>iK ok (eU q2).1 (eU q2).2 (eU q1).2,λj v q=>?_,λj s q hm=>?_⟩
 .obtain⟨b,u,q1,_,q2⟩:=eZ q;cases b with
  |false=>cases q2
  |true=>obtain⟨i,y1,w,y2⟩:=kg ok q1;obtain⟨s,z1,z2⟩:=Nm.mp y2;exact⟨i,s,FW q1 y1,z1,by cases s <;> first |rfl |cases z2⟩
 .obtain⟨b,u,q1,_,q2⟩:=eZ q;cases b with
  |false=>subst q2;cases hm
  |true=>exact⟨u,q2⟩
section
variable{K:W.Frag}{mg:Qb}{X N0 L:Addr->Prop}{ns:Ns}{e e2:E3}{σ:St}{H H':Hp}{ms:List Bool}{ts:List Tm}{ds:List V}{vs:List Val}{E:XK}{Q:VK}
theorem TsR.get:∀{ds:List V}{ts:List Tm}{k:Nat}{t:Tm},TsR K mg X ns σ H ds ts->ts[k]?=some t->∃d,ds[k]?=some d/\((∃v,t=.val v/\Rd K mg (Oc X ns) H d v)\/∃i,t=.bor i/\σ[i]?=some (some d))
 |_,_,_,_,.nil,q=>by simp at q
 |_,_,0,_,.val r rr,q=>by have:=(by simpa using q:Tm.val _=_);subst this;exact⟨_,rfl,.inl ⟨_,rfl,r⟩⟩
 |_,_,0,_,.bor r rr,q=>by have:=(by simpa using q:Tm.bor _=_);subst this;exact⟨_,rfl,.inr ⟨_,rfl,r⟩⟩
 |_,_,k+1,t,.val r rr,q=>by obtain⟨d,y⟩:=rr.get (k:=k) (by simpa using q);exact⟨d,by simpa using y⟩
 |_,_,k+1,t,.bor r rr,q=>by obtain⟨d,y⟩:=rr.get (k:=k) (by simpa using q);exact⟨d,by simpa using y⟩
def Xc(X:Addr->Prop)(ns:Ns)(e:E3)(ms:List Bool)(ts:List Tm)(n:Addr):Prop:=(X n\/some n∈ns)/\some n∉ba (aN ms ts) ns/\∀i∈aR e ms ts,ns[i]?≠some (some n)
def k8(S:Sat K mg X N0 ns e σ H)(rt:TsR K mg X ns σ H ds ts)(qv:rss e ts=some vs)(ok:okA e ms ts=true):
 Sat K mg (Xc X ns e ms ts) (nn H) (ba (aN ms ts) ns) (sls ms vs) (ds.map some) H:=by
 have l1:=oG ok;have l2:=oD qv;have l3:=TsR.len rt;have hs:mD (aN ms ts):=λj k i q1 q2=>iK ok (eU q2).1 (eU q2).2 (eU q1).2;have mv:Mov (Oc X ns) (Oc (Xc X ns e ms ts) (ba (aN ms ts) ns)) H H:=.of λn p=>⟨λz=>by
  rcases z.1 with z |z
  .exact p.1 z
  .exact p.2 z,λz=>p.2 (r9 z)⟩
 refine⟨?_,?_,λ_ z=>z,λn z=>?_,λj k n q1 q2=>?_,λj n q z=>z.2.1 (aW.mpr ⟨j,q⟩),λk s q=>?_,S.bs⟩
 .unfold sls;rw[p_,OA];omega
 .unfold ba aN sls;rw[p_,OA,OA];omega
 .rcases z.1 with z |z
  .exact S.xl n z
  .obtain⟨i,z⟩:=aW.mp z;obtain⟨_,_,o,_,_,_,_,q',_⟩:=S.own z;exact⟨o,q'⟩
 .obtain⟨i,y1,y2⟩:=cB q1;obtain⟨i',y3,y4⟩:=cB q2
  have:=S.inj i i' n y2 y4
  subst this;exact hs j k i y1 y3
 .obtain⟨b,v,q1,q2,rfl⟩:=eZ q;obtain⟨t,q3,q4⟩:=vU qv q2;obtain⟨d,q5,q6⟩:=rt.get q3;have qd:(ds.map some)[k]?=some (some d):=by rw[Nf,q5];rfl
  rw[qd];have qn:(ba (aN ms ts) ns)[k]?=some ((nF b t).bind λi=>(ns[i]?).bind id):=by unfold ba aN;rw[Nf,OH,q1,q3];rfl
  rw[qn];cases b with
  |
   true=>
   obtain⟨i,y1,u,y2⟩:=kg ok q1;rw[q3] at y1;cases y1;have q4':(e[i]?).bind Sl.val=some v:=q4;obtain⟨s,z1,z2⟩:=Nm.mp y2;rw[z1] at q4';have hv:s.val=some v:=q4';have huv:u=v:=by cases s <;> first |cases z2;done |(cases z2;cases hv;rfl)
   subst huv;have hns:∃n,ns[i]?=some (some n):=by
    have y:=S.sl i s z1;cases s with
    |ow v=>obtain⟨n,o,y1,_⟩:=y;exact⟨n,y1⟩
    |mu v=>obtain⟨n,o,y1,_⟩:=y;exact⟨n,y1⟩
    |_=>cases z2
   obtain⟨n,hn⟩:=hns;obtain⟨n',o,k1,k0,k2,k3,k4,_⟩:=S.write z1 z2;rcases q6 with ⟨_,z,_⟩ |⟨i',z,q6⟩
   .cases z
   .cases z;rw[q6] at k1;cases k1;obtain⟨_,_,_,_,_,_,w,_⟩:=S.own hn;rw[q6] at w;cases w;exact⟨n,o,by show some ((ns[i]?).bind id)=_;rw[hn];rfl,rfl,k2,k3,k4.mono mv⟩
  |
   false=>
   refine⟨by cases t <;> rfl,d,rfl,?_⟩;rcases q6 with ⟨u,rfl,q6⟩ |⟨i,rfl,q6⟩
   .cases q4;exact q6.mono mv
   .obtain⟨s,z1,z2⟩:=Nm.mp (show (e[i]?).bind Sl.val=some v from q4);have y:=S.sl i s z1;by_cases hsh:∃w,s=.sh w
    .obtain⟨w,rfl⟩:=hsh;cases z2;obtain⟨_,x,w1,w2⟩:=y;rw[q6] at w1;cases w1;exact w2.mono mv
    .have hl:=kW q1 q3 λw z=>hsh ⟨w,by rw[z1] at z;exact K_ z⟩;have:∃n o,ns[i]?=some (some n)/\σ[i]?=some (some (.ref n))/\H n=some o/\Rc K mg (Oc X ns) H o v:=by
      cases s with
      |no=>cases z2
      |sh w=>exact absurd ⟨w,rfl⟩ hsh
      |ow w=>cases z2;obtain⟨n,o,y1,y2,_,y3,_,y4⟩:=y;exact⟨n,o,y1,y2,y3,y4⟩
      |lo w=>cases z2;obtain⟨n,o,y1,y2,_,y3,_,y4⟩:=y;exact⟨n,o,y1,y2,y3,y4⟩
      |mu w=>cases z2;obtain⟨n,o,y1,y2,y3,_,y4⟩:=y;exact⟨n,o,y1,y2,y3,y4⟩
      |lm w=>cases z2;obtain⟨n,o,y1,y2,y3,_,y4⟩:=y;exact⟨n,o,y1,y2,y3,y4⟩
     obtain⟨n,o,w1,w2,w3,w4⟩:=this;rw[q6] at w2;cases w2;refine .cell ⟨λy=>y.2.2 i hl w1,λy=>?_⟩ w3 (w4.mono mv);obtain⟨j,y⟩:=aW.mp y;obtain⟨i',y1,y2⟩:=cB y;obtain⟨y3,y4⟩:=eU y1
     have:=S.inj i' i n y2 w1
     subst this
     have:=iK ok y3 y4 q3
     subst this;rw[q1] at y3;cases y3
theorem sT:∀{is:List Nat}{ns:Ns}{e e2:E3},Sat K mg X N0 ns e σ H->(∀i∈is,∃d,σ[i]?=some (some d))->nV e is=some e2->∃e_,Sat K mg X N0 e_ e2 σ H/\Stp ns e H e_ e2 H/\(∀i,i∉is->e2[i]?=e[i]?)/\(∀i∈is,∃v,e2[i]?=some (.sh v))/\∀i:Nat,(e2[i]?).bind Sl.val=(e[i]?).bind Sl.val
 | [],ns,e,e2,S,_,q=>by cases q;exact⟨ns,S,.refl,λ_ _=>rfl,(λ_ z=>by cases z),λ_=>rfl⟩
 |
  i::is,ns,e,e2,S,hd,q=>by
  unfold nV at q;split at q
  .rename_i e1 v q1;obtain⟨d,hd0⟩:=hd i (t_ ..);obtain⟨ns1,S1,a1,r1⟩:=fK (L:=X) (t:=.bor i) S hd0 q1;obtain⟨e_,S2,a2,k1,k2,k3⟩:=sT S1 (λj z=>hd j (r_ _ z)) q;obtain⟨y1,y2,y3⟩:=Gm q1;refine⟨e_,S2,a1.trans S a2,λj hj=>?_,λj hj=>?_,λj=>?_⟩
   .rw[G_,not_or] at hj;rw[k1 j hj.2,y1 j hj.1]
   .by_cases z:j∈is
    .exact k2 j z
    .rcases G_.mp hj with rfl |hj
     .exact⟨v,by rw[k1 j z];exact y2⟩
     .exact absurd hj z
   .rw[k3 j];by_cases z:j=i
    .subst z;rw[y2,y3];rfl
    .rw[y1 j z]
  .cases q
def v8(hl:aR e ms ts=[])(z:¬ Xc X ns e ms ts n)(z2:some n∉ba (aN ms ts) ns):Oc X ns n:=
 ⟨λy=>z ⟨.inl y,z2,λi hi=>by rw[hl] at hi;cases hi⟩,λy=>z ⟨.inr y,z2,λi hi=>by rw[hl] at hi;cases hi⟩⟩
def lH{Y:Addr->Prop}(S:Sat K mg X N0 ns e σ H)(ok:okA e ms ts=true)(a:Stp (ba (aN ms ts) ns) (sls ms vs) H (ba (aN ms ts) ns) (az ms mv) H')(hf:aR e ms ts=[]\/mv.all cE=true)(hY:∀n,Y n->(∃o,H' n=some o)/\H n=none)(S3:Sat K mg (λn=>Xc X ns e ms ts n\/Y n) N1 (ba (aN ms ts) ns) (az ms mv) (ds.map some) H'):
 Sat K mg (λn=>X n\/Y n) N0 ns (aU (aN ms ts) (az ms mv) e) σ H'/\Stp ns e H ns (aU (aN ms ts) (az ms mv) e) H'/\(aR e ms ts=[]->∀m,Oc (λn=>Xc X ns e ms ts n\/Y n) (ba (aN ms ts) ns) m->Oc (λn=>X n\/Y n) ns m):=by
 have kk:aR e ms ts=[]->∀m,Oc (λn=>Xc X ns e ms ts n\/Y n) (ba (aN ms ts) ns) m->Oc (λn=>X n\/Y n) ns m:=λhf m z=>by
  have:=v8 hf (λy=>z.1 (.inl y)) z.2
  exact⟨λy=>by
   rcases y with y |y
   .exact this.1 y
   .exact z.1 (.inr y),this.2⟩
 obtain⟨S4,a4⟩:=S.back (Y:=λn=>X n\/Y n) (BG (vs:=vs) ok) a S3.bs (λm z=>by
  rcases z with z |z
  .obtain⟨o,z'⟩:=S.xl m z;refine⟨?_,.inl z⟩;cases qh:H' m with
   |none=>rw[a.dom m qh] at z';cases z'
   |some o'=>exact⟨o',rfl⟩
  .exact⟨(hY m z).1,.inr (hY m z).2⟩) (λ_ z=>.inl z) λj w n' q1 q2=>by
  obtain⟨s,u,o,b1,b2,b3,b4,b5,b6,b7⟩:=S3.own q2;rw[q1] at b1;cases b1;cases b3;rcases hf with hf |hf
  .exact⟨o,b5,b6,b7.mono (.of (kk hf))⟩
  .exact⟨o,b5,b6,b7.flat .refl (Ni.mp hf w (jm q1))⟩
 exact⟨S4,a4,kk⟩
def Sat.eqX{X Y:Addr->Prop}(S:Sat K mg X N0 ns e σ H)(h:∀n,X n ↔ Y n):Sat K mg Y N0 ns e σ H:=by have:X=Y:=funext λn=>propext (h n);exact this ▸ S
def oK(S:Sat K mg X N0 ns e σ H)(ok:okA e ms ts=true)(a:Stp (ba (aN ms ts) ns) (sls ms vs) H (ba (aN ms ts) ns) (az ms mv) H')(hf:aR e ms ts=[]\/mv.all cE=true)(S3:Sat K mg (Xc X ns e ms ts) N1 (ba (aN ms ts) ns) (az ms mv) (ds.map some) H'):
 Sat K mg X N0 ns (aU (aN ms ts) (az ms mv) e) σ H'/\Stp ns e H ns (aU (aN ms ts) (az ms mv) e) H'/\(aR e ms ts=[]->∀m,Oc (Xc X ns e ms ts) (ba (aN ms ts) ns) m->Oc X ns m):=by
 obtain⟨S4,a4,_⟩:=lH (Y:=λ_=>False) S ok a hf (λ_ z=>z.elim) (S3.eqX λn=>⟨.inl,λz=>z.elim id (·.elim)⟩);exact⟨S4.eqX λn=>⟨λz=>z.elim id (·.elim),.inl⟩,a4,λhf m z=>v8 hf z.1 z.2⟩
def wF(S:Sat K mg X N0 ns e σ H)(hL:∀a,H a=none->L a)(rt:TsR K mg X ns σ H ds ts)(ok:okA e ms ts=true)(hf:aR e ms ts=[]\/(ka r=true/\mv.all cE=true))(p:PG3 K mg X N0 ns e σ H E (KE K mg X N0 L σ Q) (.ok (r.tm ts) (aU (aN ms ts) (az ms mv) e)))
 (a:Stp (ba (aN ms ts) ns) (sls ms vs) H (ba (aN ms ts) ns) (az ms mv) H') (rr:RtR K mg (Xc X ns e ms ts) (nn H) (ba (aN ms ts) ns) (az ms mv) (ds.map some) H' x r):Q x H':=by
 have hf2:aR e ms ts=[]\/mv.all cE=true:=hf.imp id (·.2);cases r with
 |
  val v=>
  obtain⟨S3,rv⟩:=rr;obtain⟨S4,a4,kk⟩:=oK S ok a hf2 S3;refine p _ _ a4 S4 x ?_;rcases hf with hf |hf
  .exact rv.mono (.of (kk hf))
  .exact rv.flat .refl hf.1
 |
  new v=>
  obtain⟨n,o,rfl,z2,z3,z4,z5,S3,z7⟩:=rr;obtain⟨S4,a4,kk⟩:=lH (Y:=λm=>m=n) S ok a hf2 (λm z=>by subst z;exact⟨⟨o,z4⟩,z2⟩) S3;refine p _ _ a4 (S4.weak λ_ z=>.inl z) _ ⟨n,o,rfl,hL n z2,λy=>?_,z4,z5,S4,?_⟩
  .obtain⟨u,y⟩:=S.xl n y;rw[show H n=none from z2] at y;cases y
  .rcases hf with hf |hf
   .exact z7.mono (.of (kk hf))
   .exact z7.flat .refl hf.1
 |
  pr v u=>
  obtain⟨pp,d1,n,o,rfl,z1,z2,z3,z4,z5,S3,z6,z7⟩:=rr;obtain⟨S4,a4,kk⟩:=lH (Y:=λm=>m=n) S ok a hf2 (λm z=>by subst z;exact⟨⟨o,z4⟩,z2⟩) S3;have on:Oc X ns n:=⟨λy=>(by
   obtain⟨u,y⟩:=S.xl n y;rw[show H n=none from z2] at y;cases y),λy=>by
   obtain⟨i,y⟩:=aW.mp y;exact S4.nx i n y (.inr rfl)⟩
  have wk:Mov (Oc (λm=>X m\/m=n) ns) (Oc X ns) H' H':=.of λm z=>⟨λc=>z.1 (.inl c),z.2⟩;refine p _ _ a4 (S4.weak λ_ z=>.inl z) _ (.tup z1 (.cons ?_ (.cons (.cell on z4 ?_) .nil)))
  .rcases hf with hf |hf
   .exact (z6.mono (.of (kk hf))).mono wk
   .exact z6.flat .refl (u_ _ _ ▸ hf.1).1
  .rcases hf with hf |hf
   .exact (z7.mono (.of (kk hf))).mono wk
   .exact z7.flat .refl (u_ _ _ ▸ hf.1).2
 |
  par i=>
  obtain⟨S3,w1,w,w2⟩:=rr;obtain⟨S4,a4,_⟩:=oK S ok a hf2 S3;refine p _ _ a4 S4 x ?_;obtain⟨u,x1,_⟩:=a.mu i w w2;obtain⟨b,u',x2,_,x3⟩:=eZ x1;cases b with
  |false=>cases x3
  |
   true=>
   obtain⟨k,y1,_⟩:=kg ok x2;obtain⟨d',y2,z⟩:=rt.get y1;have e1:(Rt.par i).tm ts=.bor k:=by show (ts[i]?).getD _=_;rw[y1];rfl
   rw[e1];rcases z with ⟨_,z,_⟩ |⟨j,z,z2⟩
   .cases z
   .cases z;rw[Nf,y2] at w1;cases w1;exact z2
theorem BC{f:PFn}(S:Sat K mg X N0 ns e σ H)(hL:∀a,H a=none->L a)(rt:TsR K mg X ns σ H ds ts)(p:PG3 K mg X N0 ns e σ H E (KE K mg X N0 L σ Q) (match rss e ts with
 |none=>.stuck
 |some vs=>if okA e f.ms ts=true then (match f.G vs with
  |.stuck=>.stuck
  |.ok r mv=>if (aR e f.ms ts).isEmpty || (ka r&&mv.all cE) then .ok (r.tm ts) (aU (aN f.ms ts) (az f.ms mv) e) else (match nV e (aR e f.ms ts) with
   |some e2=>.ok (r.tm ts) (aU (aN f.ms ts) (az f.ms mv) e2)
   |none=>.stuck)
  |.exc c mv=>if (aR e f.ms ts).isEmpty || mv.all cE then .exc c (aU (aN f.ms ts) (az f.ms mv) e) else .stuck) else .stuck)):sp3 K mg f ds H Q E:=by
 split at p
 .exact p.elim
 .rename_i vs
   qv
  split at p
  .rename_i ok;have a_:vs.length=f.ms.length:=by rw[oD qv,oG ok]
   split at p
   .exact p.elim
   .rename_i r mv q;split at p
    .rename_i hf;rw[OF,u_] at hf;exact⟨_,_,vs,a_,k8 S rt qv ok,by rw[q];exact λx H' a rr=>wF S hL rt ok (hf.imp List.isEmpty_iff.mp id) p a rr⟩
    .split
      at p
     .rename_i e2 qd;obtain⟨e_,S2,a2,k1,k2,k3⟩:=sT S (λi hi=>by
       obtain⟨k,_,y⟩:=kQ hi;obtain⟨d,_,z⟩:=rt.get y;rcases z with ⟨_,z,_⟩ |⟨j,z,z2⟩
       .cases z
       .cases z;exact⟨d,z2⟩) qd
      have ok2:okA e2 f.ms ts=true:=oX (λk i q1 q2=>k1 i λz=>by
       obtain⟨k',y1,y2⟩:=kQ z
       have:=iK ok q1 q2 y2
       subst this;rw[q1] at y1;cases y1) ok
      have ln:aR e2 f.ms ts=[]:=uG λk i q1 q2=>by
       by_cases z:i∈aR e f.ms ts
       .exact k2 i z
       .rw[k1 i z];exact Classical.byContradiction λw=>z (kW q1 q2 λv y=>w ⟨v,y⟩)
      exact⟨_,_,vs,a_,k8 S2 (rt.stp a2) (by rw[oQ k3];exact qv) ok2,by rw[q];exact λx H' a rr=>wF S2 (λb z=>hL b z) (rt.stp a2) ok2 (.inl ln) (p.after S a2) a rr⟩
     .exact p.elim
   .rename_i c mv q;split at p
    .rename_i hf;rw[OF] at hf;refine⟨_,_,vs,a_,k8 S rt qv ok,?_⟩;rw[q];intro C H' a S3 hC;obtain⟨S4,a4,_⟩:=oK S ok a (hf.imp List.isEmpty_iff.mp id) S3;exact p _ _ C a4 S4 hC
    .exact p.elim
  .exact p.elim
end
noncomputable def ak (f:PFn) (a:PAs):PEx:=⟨22,Ds f.ms f.G a.G⟩
section
variable{K:W.Frag}{mg:Qb}{X:Cx}{ES:St->XK}{e:Expr}{es:List Expr}{A:PAs}{pos:Pos}{k:Nat}{ps:List Str}
def vD{f:PFn}(σ:St)(H:Hp)(Q:VK):rdE K mg ES (ak f A).G σ H Q->rdA K mg ES A.G σ H λvs H1=>sp3 K mg f vs H1 Q (ES σ):=λzz=>zz.el λY N0 L ns e S hl p=>
 ⟨Y,N0,ns,e,S,PG3.imp p S λts e1 ns1 H1 a1 S1 p1 xs r1=>BC S1 (λa z=>hl a (a1.dom a z)) r1 p1⟩
def CI{f:PFn}{x:Str}{p0:Pos}(C:Callee X.prog X.w X.K X.mg X.base x k ps (sp3 K mg f))(hr:Room k X.A)(hg:Gl X x)(hx:ny X ES)(ha:DA K mg X ES (e::es) A)
 (hdb:(x==("__debug__" : Str))=false) (he:starEach (e::es) X.env=(false,eval e X.env)::starEach es X.env) (hpl:(backTo pos (starEach es X.env)).any (·.1)=false):
 DE K mg X ES (.Call (.Name x p0) (e::es) [] pos) (ak f A):=by
 obtain⟨fa,fd,F',m,kp,bb,_⟩:=C.ex;refine⟨λpins s σ H Q I hh=>NR (nT I hg m ?_ hdb)⟩;refine W.callWith_K (h₀:=X.base) I.ok.mod.kin kp (Nu (ha.ok pos pins s σ H _ I (vD σ H Q hh)) (λus s1 ⟨vs,H1,I1,r,q⟩=>⟨I1.kIn,?_⟩) λ_ _ z=>z) he hpl;have hl:(us++[]).length=ps.length:=by rw[Nv,<- r.length];exact F'.len _ _ _ _ q
 refine wpAny_call (PN (F'.run X.A X.stack s1 H1 ⟨us,[]⟩ us vs Q (ES σ) hr I1.env0 (by simpa using bb s1 us I1.kIn hl) r q) λr s' hq=>?_);cases r with
 |error ex=>exact hx pins σ H1 s1 ex s' I1 hq
 |
  ok fl=>
  cases fl with
  |ret u=>exact I1.after hq
  |next=>exact False.elim hq
  |brk=>exact False.elim hq
  |cont=>exact False.elim hq
def Ee(hp:so (CX1 X.prog X.w) X E):ny X (λ_=>E):=λpins σ H s e s' I h=>hp pins σ H s e s' I h
def Mq:ny X (λ_=>E0):=λpins σ H s e s' I h=>KS pins σ H s e s' I h
def zcF{f:PFn}{x:Str}{p0:Pos}{k j:Nat}{ps:List Str}(C:Callee X.prog X.w X.K X.mg X.base x j ps (sp3 K mg f))(hr:Room k X.A)(ha:DA K mg X ES (e::es) A)(hk:j<=k:=by omega)(hg:Gl X x:=by exact rfl)(hx:ny X ES:=by first |exact Ee DL |exact Mq |assumption)(hdb:(x==("__debug__" : Str))=false:=by decide)(he:starEach (e::es) X.env=(false,eval e X.env)::starEach es X.env:=by rfl)(hpl:(backTo pos (starEach es X.env)).any (·.1)=false:=by rfl):DE K mg X ES (.Call (.Name x p0) (e::es) [] pos) (ak f A):=CI C (hr.mono hk) hg hx ha hdb he hpl
end
noncomputable def aI (f:Int->Int->Val):Val->Val->Bv:=λx y=>match x,y with
 |.int i,.int j=>.val (f i j)
 |_,_=>.stuck
open Classical in
def aIc(C:Int->Int->Prop)(f:Int->Int->Val):Val->Val->Bv:=λx y=>match x,y with
 |.int i,.int j=>if C i j then .val (f i j) else .stuck
 |_,_=>.stuck
noncomputable def aCat:Val->Val->Bv:=λx y=>match x,y with
 |.lst xs,.lst ys=>if xs.length+ys.length<=16777216 then .new (.lst (xs++ys)) else .stuck
 |.tup xs,.tup ys=>if xs.length+ys.length<=16777216 then .val (.tup (xs++ys)) else .stuck
 |_,_=>.stuck
noncomputable def A0:Val->Val->Bv:=λx y=>match x,y with
 |.int i,.int j=>.val (.int (i+j))
 |x,y=>aCat x y
noncomputable def aMin:=aI λi j=>.int (i-j)
def Cq:=aIc CMulA λi j=>.int (i*j)
def Bh:=aIc CDivB λi j=>.int (i.fdiv j)
def BR:=aIc (λ_ j=>j≠0) λi j=>.int (i.fmod j)
def CL:=aIc xi λi j=>.int (i^j.toNat)
noncomputable def aLt:=aI λi j=>.bl (decide (i<j))
noncomputable def aLe:=aI λi j=>.bl (decide (i<=j))
noncomputable def aGt:=aI λi j=>.bl (decide (j<i))
noncomputable def aGe:=aI λi j=>.bl (decide (j<=i))
noncomputable def C4:Val->Bv:=λx=>match x with
 |.int i=>.val (.int (-i))
 |_=>.stuck
noncomputable def sN:Val->Val->Bv:=λx y=>match x,y with
 |.lst xs,.int k=>if -(2^63)<=k/\k<2^63/\xs.length*k.toNat<=16777216 then .new (.lst (List.replicate k.toNat xs).flatten) else .stuck
 |_,_=>.stuck
noncomputable def aIx:Val->Val->Bv:=λx y=>match x.items,y with
 |some xs,.int i=>(match atI xs i with
  |some v=>.val v
  |none=>.stuck)
 |_,_=>.stuck
mutual
def cH:Nat->Val->Option PyData
 |0,_=>none
 |_+1,.non=>some .none
 |_+1,.bl b=>some (.bool b)
 |_+1,.int i=>some (.int i)
 |_+1,.str x=>some (.str x)
 |k+1,.tup xs=>(d5 k xs).map .tuple
 |k+1,.lst xs=>(d5 k xs).map .list
 |_+1,_=>none
def d5:Nat->List Val->Option (List PyData)
 |_,[]=>some []
 |k,x::xs=>match cH k x,d5 k xs with
  |some a,some b=>some (a::b)
  |_,_=>none
end
noncomputable def aS (x y:Val):Option Bool:=match cH 164 x,cH 164 y with
 |some a,some b=>if shp a=true/\shp b=true then some (PyData.eqv a b) else none
 |_,_=>none
noncomputable def aEq (neg:Bool):Val->Val->Bv:=λx y=>match aS x y with
 |some b=>.val (.bl (if neg then !b else b))
 |none=>.stuck
noncomputable def m9:Val->Bool
 |.non=>true
 |.bl _=>true
 |.int _=>true
 |.str _=>true
 |_=>false
noncomputable def rA:Val->V
 |.bl b=>.bl b
 |.int i=>.int i
 |.str x=>.str x
 |_=>.non
noncomputable def eq1 (x y:Val):Bool:=eqV (rA x) (rA y)
noncomputable def aIn (neg:Bool):Val->Val->Bv:=λx y=>match y.items with
 |some xs=>if m9 x=true/\xs.all m9=true then .val (.bl (if neg then !(xs.any λd=>eq1 d x) else xs.any λd=>eq1 d x)) else .stuck
 |none=>.stuck
noncomputable def xP (neg:Bool):Val->Val->Bv:=λx y=>match x,y with
 |.non,.non=>.val (.bl (!neg))
 |_,.non=>.val (.bl neg)
 |_,_=>.stuck
noncomputable def Ct:List Val->Bv:=λvs=>match vs with
 | [v]=>(match v.items with
  |some xs=>.val (.int xs.length)
  |none=>(match v with
   |.str z=>if z.length<=16777216 then .val (.int z.length) else .stuck
   |_=>.stuck))
 |_=>.stuck
noncomputable def Ca:List Val->Bv:=λvs=>match vs with
 | [.int i]=>.val (.int (if i<0 then -i else i))
 |_=>.stuck
noncomputable def xQ:List Val->Bv:=λvs=>match vs with
 | [.int i,.int j]=>.val (.int (if j<i then j else i))
 |_=>.stuck
noncomputable def jk:List Val->Option (List Bool)
 | []=>some []
 |.bl b::r=>(jk r).map (b :: ·)
 |_=>none
noncomputable def fk:List Val->Option (List Int)
 | []=>some []
 |.int b::r=>(fk r).map (b :: ·)
 |_=>none
noncomputable def Bo:List Val->Bv:=λvs=>match vs with
 | [.lst xs]=>(match jk xs with
  |some bs=>.val (.bl (bs.all id))
  |none=>.stuck)
 |_=>.stuck
noncomputable def B0:List Val->Bv:=λvs=>match vs with
 | [.lst xs]=>(match fk xs with
  |some bs=>.val (.int bs.sum)
  |none=>.stuck)
 |_=>.stuck
noncomputable def xF:List Val->Bv:=λvs=>match vs with
 | [v]=>(match v.items with
  |some xs=>.new (.lst xs)
  |none=>.stuck)
 |_=>.stuck
noncomputable def rH:List Val->Bv:=λvs=>match vs with
 | [v]=>(match v.items with
  |some xs=>.val (.tup xs)
  |none=>.stuck)
 |_=>.stuck
noncomputable def BE:List Val->Bv:=λvs=>match vs with
 | [.int i]=>.val (.int i)
 | [.bl b]=>.val (.int (if b then 1 else 0))
 |_=>.stuck
noncomputable def tyC:Val->Option Cl
 |.non=>some (.b "NoneType")
 |.bl _=>some (.b "bool")
 |.int _=>some (.b "int")
 |.str _=>some (.b "str")
 |.tup _=>some (.b "tuple")
 |.exc x=>some (.o x)
 |.lst _=>some (.b "list")
 |.dct _=>some (.b "dict")
 |_=>none
noncomputable def clV:Val->Option Cl
 |.ty n=>some (.b n)
 |.glb x=>some (.o x)
 |_=>none
noncomputable def uA:List Val->Option (List Cl)
 | []=>some []
 |v::vs=>match clV v,uA vs with
  |some c,some cs=>some (c::cs)
  |_,_=>none
noncomputable def Le:Val->Option (List Cl)
 |.tup cs=>uA cs
 |v=>(clV v).map ([·])
noncomputable def A5 (kt:je):List Val->Bv:=λvs=>match vs with
 | [v,c]=>(match tyC v,Le c with
  |some t,some (c0::cr)=>(match gy kt t (c0::cr),kit kt t c0 with
   |some b,some _=>.val (.bl b)
   |_,_=>.stuck)
  |_,_=>.stuck)
 |_=>.stuck
noncomputable def gL (xs:List Val) (lo hi:Option Int):List Val:=(xs.drop (HT.sIx xs.length 0 lo)).take (HT.sIx xs.length xs.length hi-HT.sIx xs.length 0 lo)
noncomputable def aSl (x:Val) (lo hi:Option Int):Bv:=match x with
 |.tup xs=>if HT.sIx xs.length 0 lo=0/\HT.sIx xs.length xs.length hi=xs.length then .stuck else .val (.tup (gL xs lo hi))
 |.lst xs=>.new (.lst (gL xs lo hi))
 |.kl xs=>.new (.lst (gL xs lo hi))
 |.str z=>if z.length<=16777216 then .val (.str (Txt.slice z lo hi)) else .stuck
 |_=>.stuck
noncomputable def n5:Val->List Val->Option (Val×Val):=λu vs=>match u,vs with
 |.lst xs,[v]=>if xs.length<16777216 then some (.lst (xs++[v]),.non) else none
 |_,_=>none
noncomputable def uI:Val->List Val->Option (Val×Val):=λu vs=>match u,vs with
 |.lst xs,[]=>(match xs[xs.length-1]? with
  |some v=>some (.lst xs.dropLast,v)
  |none=>none)
 |_,_=>none
noncomputable def gM (d:Val):List Val->Option (List Bool)
 | []=>some []
 |x::r=>match aS x d,gM d r with
  |some b,some bs=>some (b::bs)
  |_,_=>none
noncomputable def fW:Val->List Val->Bv:=λx vs=>match x,vs with
 |.lst xs,[d]=>(match gM d xs with
  |some bs=>if bs.idxOf true<bs.length then .val (.int (bs.idxOf true:Nat)) else .stuck
  |none=>.stuck)
 |_,_=>.stuck
noncomputable def aY:PO2:=⟨A0⟩
noncomputable def dN:PO2:=⟨aMin⟩
def aG:PO2:=⟨Cq⟩
def ip:PO2:=⟨Bh⟩
def cx:PO2:=⟨BR⟩
def ij:PO2:=⟨CL⟩
noncomputable def bLt:PO2:=⟨aLt⟩
noncomputable def bLe:PO2:=⟨aLe⟩
noncomputable def bGt:PO2:=⟨aGt⟩
noncomputable def bGe:PO2:=⟨aGe⟩
noncomputable def nX:PO2:=⟨sN⟩
noncomputable def bIx:PO2:=⟨aIx⟩
noncomputable def bEq:PO2:=⟨aEq false⟩
noncomputable def bNe:PO2:=⟨aEq true⟩
noncomputable def bIn:PO2:=⟨aIn false⟩
noncomputable def Bw:PO2:=⟨aIn true⟩
noncomputable def bIs:PO2:=⟨xP false⟩
noncomputable def oI:PO2:=⟨xP true⟩
noncomputable def rW:PO2:=⟨aI λi j=>.int (i+j)⟩
noncomputable def nE:PU1:=⟨C4⟩
noncomputable def bq:PBf:=⟨Ct⟩
noncomputable def hX:PBf:=⟨Ca⟩
noncomputable def rT:PBf:=⟨xQ⟩
noncomputable def qW:PBf:=⟨Bo⟩
noncomputable def aO:PBf:=⟨B0⟩
noncomputable def uD:PBf:=⟨xF⟩
noncomputable def n8:PBf:=⟨rH⟩
noncomputable def xh:PBf:=⟨BE⟩
noncomputable def bE (kt:je):PBf:=⟨A5 kt⟩
noncomputable def ja:PMm:=⟨n5⟩
noncomputable def qN:PMm:=⟨uI⟩
noncomputable def fY:PMv:=⟨fW⟩
section
variable{K:W.Frag}{mg:Qb}{P:Addr->Prop}{H:Hp}{Q:VK}{v:Val}{vs:List Val}{x:V}{ds:List V}{neg:Bool}
def bv(p:∀H1 x,Gr H H1->Rd K mg P H1 x v->Q x H1)(r:Rd K mg P H x v):Q x H:=p H x .refl r
def bvL(p:∀H1 a o,Gr H H1->H1 a=none->NotFz o->Rc K mg P H1 o (.lst vs)->Q (.ref a) (upd H1 a o))(r:Rds K mg P H ds vs):∀l,H l=none->Q (.ref l) (upd H l (.lst ds)):=λl hl=>p H l _ .refl hl trivial (.lst r)
def bvT(p:∀H1 x,Gr H H1->Rd K mg P H1 x (.tup vs)->Q x H1)(r:Rds K mg P H ds vs):∀l,H l=none->Q (.ref l) (upd H l (.tup ds)):=λl hl=>p _ _ (Gr.upd hl) (.tup (SqT.of aF) (r.mono (Gr.upd hl).mov))
def kj{f:Int->Int->V}{g:Int->Int->Val}(hr:∀i j P H,Rd K mg P H (f i j) (g i j)):OpD K mg (rI0 f) (aI g):=λP H x y v u Q rx ry p=>by
 unfold aI at p;split at p
 .obtain rfl:=rx.int;obtain rfl:=ry.int;exact⟨_,_,rfl,rfl,bv p (hr _ _ _ _)⟩
 .exact p.elim
def yt{f:Int->Int->V}{g:Int->Int->Val}{C:Int->Int->Prop}(hr:∀i j P H,Rd K mg P H (f i j) (g i j)):OpD K mg (rI C f) (aIc C g):=λP H x y v u Q rx ry p=>by
 unfold aIc at p;split at p
 .obtain rfl:=rx.int;obtain rfl:=ry.int;split at p
  .rename_i hc;exact⟨_,_,rfl,rfl,hc,bv p (hr _ _ _ _)⟩
  .exact p.elim
 .exact p.elim
def Ks:OpD K mg (λx y H Q=>rI0 (λi j=>.int (i+j)) x y H Q\/(yb x y H Q\/(qL K x y H Q\/qR K x y H Q))) aY.G:=λP H x y v u Q rx ry p=>by
 replace p:BvP K mg P H Q (A0 v u):=p;unfold A0 at p;split at p
 .obtain rfl:=rx.int;obtain rfl:=ry.int;exact .inl ⟨_,_,rfl,rfl,bv p (.int _)⟩
 .right;unfold aCat at p;split at p
  .obtain⟨a,xs,rfl,e1,q1⟩:=rx.lst;obtain⟨b,ys,rfl,e2,q2⟩:=ry.lst;split at p
   .rename_i hl;exact .inl ⟨_,_,xs,ys,rfl,rfl,e1,e2,by rw[q1.len,q2.len];exact hl,bvL p (q1.append q2)⟩
   .exact p.elim
  .obtain⟨a,xs,rfl,e1,q1⟩:=rx.tup;obtain⟨b,ys,rfl,e2,q2⟩:=ry.tup;split at p
   .rename_i hl;cases q1 with
    |nil=>exact .inr (.inr ⟨_,_,_,rfl,rfl,e1,e2,bv p (.tup e2 q2)⟩)
    |cons r0 r1=>refine .inr (.inl ⟨_,_,_,_,rfl,rfl,e1,e2,(λz=>nomatch z),by rw[(Rds.cons r0 r1).len,q2.len];exact hl,λz=>?_,λ_=>bvT p ((Rds.cons r0 r1).append q2)⟩);subst z;cases q2;rw[Nv] at p;exact bv p (.tup e1 (.cons r0 r1))
   .exact p.elim
  .exact p.elim
def J1:OpD K mg (rI0 λi j=>.int (i-j)) dN.G:=kj λ_ _ _ _=>.int _
def GW:OpD K mg (rI CMulA λi j=>.int (i*j)) aG.G:=yt λ_ _ _ _=>.int _
def JB:OpD K mg (rI CDivB λi j=>.int (i.fdiv j)) ip.G:=yt λ_ _ _ _=>.int _
def HA:OpD K mg (rI (λ_ j=>j≠0) λi j=>.int (i.fmod j)) cx.G:=yt λ_ _ _ _=>.int _
def HG:OpD K mg (rI xi λi j=>.int (i^j.toNat)) ij.G:=yt λ_ _ _ _=>.int _
def Eo:OpD K mg (rI0 λi j=>.bl (decide (i<j))) bLt.G:=kj λ_ _ _ _=>.bl _
def Me:OpD K mg (rI0 λi j=>.bl (decide (i<=j))) bLe.G:=kj λ_ _ _ _=>.bl _
def D8:OpD K mg (rI0 λi j=>.bl (decide (j<i))) bGt.G:=kj λ_ _ _ _=>.bl _
def En:OpD K mg (rI0 λi j=>.bl (decide (j<=i))) bGe.G:=kj λ_ _ _ _=>.bl _
def JN:IpD K mg (ipI λi j=>i+j) rW.G:=kj λ_ _ _ _=>.int _
def Hj:UnD K mg (rU λi=>.int (-i)) nE.G:=λP H x v Q r p=>by
 replace p:BvP K mg P H Q (C4 v):=p;unfold C4 at p;split at p
 .obtain rfl:=r.int;exact⟨_,rfl,bv p (.int _)⟩
 .exact p.elim
def GB:OpD K mg rRep nX.G:=λP H x y v u Q rx ry p=>by
 replace p:BvP K mg P H Q (sN v u):=p;unfold sN at p;split at p
 .obtain⟨a,xs,rfl,e1,q1⟩:=rx.lst;obtain rfl:=ry.int;split at p
  .rename_i hl;exact⟨_,_,xs,rfl,rfl,e1,hl.1,hl.2.1,by rw[q1.len];exact hl.2.2,bvL p (q1.rep _)⟩
  .exact p.elim
 .exact p.elim
def Lq(r:Rds K mg P H ds vs)(e:atI vs i=some v):∃d,atI ds i=some d/\Rd K mg P H d v:=by
 unfold atI at e ⊢;rw[r.len];cases q:ixN vs.length i with
 |none=>rw[q] at e;cases e
 |some j=>rw[q] at e;exact r.get e
def MN:OpD K mg (λx y H Q=>BU K x y H Q\/BI K x y H Q) bIx.G:=λP H x y v u Q rx ry p=>by
 replace p:BvP K mg P H Q (aIx v u):=p;unfold aIx at p;split at p
 .rename_i xs i e1;obtain⟨a,ys,rfl,h,q⟩:=rx.items e1;obtain rfl:=ry.int;split at p
  .rename_i w e3;obtain⟨d,e4,q2⟩:=Lq q e3;rcases h with h |h
   .exact .inl ⟨_,_,_,d,rfl,rfl,h,e4,bv p q2⟩
   .exact .inr ⟨_,_,_,d,rfl,rfl,h,e4,bv p q2⟩
  .exact p.elim
 .exact p.elim
def Bi{k:Nat}(hk:∀d v pd,Rd K mg P H d v->cH k v=some pd->Rep K H d pd){ps:List PyData}(r:Rds K mg P H ds vs):d5 k vs=some ps->Reps K H ds ps:=
 r.ind (M:=λds vs=>∀ps,d5 k vs=some ps->Reps K H ds ps) (λ_ q=>by unfold d5 at q;cases q;exact .nil) (λr _ ih ps q=>by
  unfold d5 at q;split at q
  .rename_i a b e1 e2;cases q;exact .cons (hk _ _ _ r e1) (ih _ e2)
  .cases q) ps
theorem iG:∀(k:Nat) (d:V) (v:Val) (pd:PyData),ShR K mg P H d v->cH k v=some pd->Rep K H d pd
 |0,_,_,_,_,q=>by unfold cH at q;cases q
 |
  k+1,d,v,pd,r,q=>by
  have ih:∀{ds:List V}{vs:List Val}{ps:List PyData},Rds K mg P H ds vs->d5 k vs=some ps->Reps K H ds ps:=λr=>Bi (λd v pd r q=>iG k d v pd (.inl r) q) r;cases v with
  |non=>obtain rfl:=r.non;simp only[cH] at q;cases q;exact .non
  |bl b=>obtain rfl:=r.bl;simp only[cH] at q;cases q;exact .bl b
  |int b=>obtain rfl:=r.int;simp only[cH] at q;cases q;exact .int b
  |str b=>obtain rfl:=r.str;simp only[cH] at q;cases q;exact .str b
  |tup xs=>obtain⟨a,ds,rfl,e,r2⟩:=r.tup;simp only[cH] at q;obtain⟨ps,q1,rfl⟩:=Nd.mp q;exact .tup e (ih r2 q1)
  |lst xs=>obtain⟨a,ds,rfl,e,r2⟩:=r.lstL;simp only[cH] at q;obtain⟨ps,q1,rfl⟩:=Nd.mp q;exact .lst e (ih r2 q1)
  |_=>simp only[cH] at q;cases q
def J3{x y:V}{u:Val}{b:Bool}(r1:ShR K mg P H x v)(r2:ShR K mg P H y u)(q:aS v u=some b):∃a c,Rep K H x a/\Rep K H y c/\shp a=true/\shp c=true/\PyData.eqv a c=b:=by
 unfold aS at q;split at q
 .rename_i a c e1 e2;split at q
  .rename_i hs;cases q;exact⟨a,c,iG 164 _ _ _ r1 e1,iG 164 _ _ _ r2 e2,hs.1,hs.2,rfl⟩
  .cases q
 .cases q
def Dv{x y:V}{u:Val}(r1:ShR K mg P H x v)(r2:ShR K mg P H y u)(p:BvP K mg P H Q (aEq neg v u)):∃a c,Rep K H x a/\Rep K H y c/\shp a=true/\shp c=true/\Q (.bl (if neg then !PyData.eqv a c else PyData.eqv a c)) H:=by
 unfold aEq at p;split at p
 .rename_i b q;obtain⟨a,c,h1,h2,h3,h4,rfl⟩:=J3 r1 r2 q;exact⟨a,c,h1,h2,h3,h4,bv p (.bl _)⟩
 .exact p.elim
def Dt:OpD K mg (C9 K) bEq.G:=λP H x y v u Q rx ry p=>Dv rx ry p
def DZ:OpD K mg (B8 K) bNe.G:=λP H x y v u Q rx ry p=>Dv rx ry p
def vh(r:ShR K mg P H x v)(f:m9 v=true):x=rA v/\L2.flatV x=true:=by
 cases v with
 |non=>obtain rfl:=r.non;exact⟨rfl,rfl⟩
 |bl b=>obtain rfl:=r.bl;exact⟨rfl,rfl⟩
 |int b=>obtain rfl:=r.int;exact⟨rfl,rfl⟩
 |str b=>obtain rfl:=r.str;exact⟨rfl,rfl⟩
 |_=>cases f
def C7(y:Val)(r:Rds K mg P H ds vs):vs.all m9=true->ds.all L2.flatV=true/\inV (rA y) ds=vs.any λd=>eq1 d y:=
 r.ind (M:=λds vs=>vs.all m9=true->ds.all L2.flatV=true/\inV (rA y) ds=vs.any λd=>eq1 d y) (λ_=>⟨rfl,rfl⟩) λr _ ih f=>by rw[P5,u_] at f;obtain⟨rfl,h2⟩:=vh (.inl r) f.1;obtain⟨h3,h4⟩:=ih f.2;refine⟨by rw[P5,h2,h3];rfl,?_⟩;unfold inV at h4 ⊢;rw[N7,N7,h4];rfl
def Ef:OpD K mg (rIn K neg) (aIn neg):=λP H x y v u Q rx ry p=>by
 unfold aIn at p;split at p
 .rename_i xs e;obtain⟨a,ys,rfl,h,q⟩:=ry.items e;split at p
  .rename_i hf;obtain⟨rfl,f2⟩:=vh rx hf.1;obtain⟨f3,f4⟩:=C7 v q hf.2;exact⟨a,ys,rfl,h,f2,f3,by rw[f4];exact bv p (.bl _)⟩
  .exact p.elim
 .exact p.elim
def K8:OpD K mg (rIn K false) bIn.G:=Ef
def JV:OpD K mg (rIn K true) Bw.G:=Ef
def Eb(rx:ShR K mg P H x v)(ry:ShR K mg P H y u)(p:BvP K mg P H Q (xP neg v u)):y=.non/\Q (.bl (if neg then !decide (x=.non) else decide (x=.non))) H:=by
 unfold xP at p;split at p
 .obtain rfl:=rx.non;obtain rfl:=ry.non;exact⟨rfl,by cases neg <;> exact bv p (.bl _)⟩
 .rename_i hn;obtain rfl:=ry.non;have:decide (x=V.non)=false:=by
   rw[Ow];rintro rfl;rcases rx with r |⟨n,o,z,_⟩
   .cases r;exact hn rfl
   .cases z
  rw[this];exact⟨rfl,by cases neg <;> exact bv p (.bl _)⟩
 .exact p.elim
def Ep:OpD K mg (λx y H Q=>y=.non/\Q (.bl (decide (x=.non))) H) bIs.G:=λP H x y v u Q rx ry p=>Eb (neg:=false) rx ry p
def JS:OpD K mg (λx y H Q=>y=.non/\Q (.bl (!decide (x=.non))) H) oI.G:=λP H x y v u Q rx ry p=>Eb (neg:=true) rx ry p
def Jc:cG K mg (λxs H Q=>(∃p ys,xs=[.ref p]/\(SqL K H p ys\/SqT K H p ys)/\Q (.int ys.length) H)\/(∃z,xs=[.str z]/\z.length<=sizeLine/\Q (.int z.length) H)) bq.G:=λP H xs vs Q r0 p=>by
 replace p:BvP K mg P H Q (Ct vs):=p;unfold Ct at p;split at p
 .obtain⟨d,rfl,r⟩:=cW r0;split at p
  .rename_i xs e;obtain⟨a,ys,rfl,h,q⟩:=r.items e;exact .inl ⟨_,_,rfl,h,by rw[q.len];exact bv p (.int _)⟩
  .split at p
   .obtain rfl:=r.str;split at p
    .rename_i hl;exact .inr ⟨_,rfl,hl,bv p (.int _)⟩
    .exact p.elim
   .exact p.elim
 .exact p.elim
def JQ:cG K mg (λxs H Q=>∃i,xs=[.int i]/\Q (.int (if i<0 then -i else i)) H) hX.G:=λP H xs vs Q r0 p=>by
 replace p:BvP K mg P H Q (Ca vs):=p;unfold Ca at p;split at p
 .obtain⟨d,rfl,r⟩:=cW r0;obtain rfl:=r.int;exact⟨_,rfl,bv p (.int _)⟩
 .exact p.elim
def EZ:cG K mg (λxs H Q=>∃i j,xs=[.int i,.int j]/\Q (.int (if j<i then j else i)) H) rT.G:=λP H xs vs Q r0 p=>by
 replace p:BvP K mg P H Q (xQ vs):=p;unfold xQ at p;split at p
 .obtain⟨d,d',rfl,r,r'⟩:=xD r0;obtain rfl:=r.int;obtain rfl:=r'.int;exact⟨_,_,rfl,bv p (.int _)⟩
 .exact p.elim
def KI{bs:List Bool}(r:Rds K mg P H ds vs):jk vs=some bs->ds=bs.map V.bl:=
 r.ind (M:=λds vs=>∀bs,jk vs=some bs->ds=bs.map V.bl) (λbs q=>by cases q;rfl) (λ{d v ds vs} r _ ih bs q=>by
  cases v with
  |bl b=>obtain rfl:=ShR.bl (.inl r);obtain⟨b',q1,rfl⟩:=Nd.mp (show (jk vs).map (b :: ·)=some bs from q);rw[ih _ q1];rfl
  |_=>cases q) bs
def me{bs:List Int}(r:Rds K mg P H ds vs):fk vs=some bs->ds=bs.map V.int:=
 r.ind (M:=λds vs=>∀bs,fk vs=some bs->ds=bs.map V.int) (λbs q=>by cases q;rfl) (λ{d v ds vs} r _ ih bs q=>by
  cases v with
  |int b=>obtain rfl:=ShR.int (.inl r);obtain⟨b',q1,rfl⟩:=Nd.mp (show (fk vs).map (b :: ·)=some bs from q);rw[ih _ q1];rfl
  |_=>cases q) bs
def zk:cG K mg (λxs H Q=>∃(a:Addr) (bs:List Bool),xs=[.ref a]/\SqL K H a (bs.map V.bl)/\Q (.bl (bs.all id)) H) qW.G:=λP H xs vs Q r0 p=>by
 replace p:BvP K mg P H Q (Bo vs):=p;unfold Bo at p;split at p
 .obtain⟨d,rfl,r⟩:=cW r0;obtain⟨a,ys,rfl,h,q⟩:=r.lstL;split at p
  .rename_i bs e;exact⟨a,bs,rfl,KI q e ▸ h,bv p (.bl _)⟩
  .exact p.elim
 .exact p.elim
def zi:cG K mg (λxs H Q=>∃(a:Addr) (ns:List Int),xs=[.ref a]/\SqL K H a (ns.map V.int)/\Q (.int ns.sum) H) aO.G:=λP H xs vs Q r0 p=>by
 replace p:BvP K mg P H Q (B0 vs):=p;unfold B0 at p;split at p
 .obtain⟨d,rfl,r⟩:=cW r0;obtain⟨a,ys,rfl,h,q⟩:=r.lstL;split at p
  .rename_i bs e;exact⟨a,bs,rfl,me q e ▸ h,bv p (.int _)⟩
  .exact p.elim
 .exact p.elim
def Gs:cG K mg (λxs H Q=>∃p ys,xs=[.ref p]/\(SqL K H p ys\/SqT K H p ys)/\∀l,H l=none->Q (.ref l) (upd H l (.lst ys))) uD.G:=λP H xs vs Q r0 p=>by
 replace p:BvP K mg P H Q (xF vs):=p;unfold xF at p;split at p
 .obtain⟨d,rfl,r⟩:=cW r0;split at p
  .rename_i xs e;obtain⟨a,ys,rfl,h,q⟩:=r.items e;exact⟨_,_,rfl,h,bvL p q⟩
  .exact p.elim
 .exact p.elim
def C6:cG K mg (λxs H Q=>∃p ys,xs=[.ref p]/\((SqL K H p ys/\∀l,H l=none->Q (.ref l) (upd H l (.tup ys)))\/(SqT K H p ys/\Q (.ref p) H))) n8.G:=λP H xs vs Q r0 p=>by
 replace p:BvP K mg P H Q (rH vs):=p;unfold rH at p;split at p
 .obtain⟨d,rfl,r⟩:=cW r0;split at p
  .rename_i xs e;obtain⟨a,ys,rfl,h,q⟩:=r.items e;rcases h with h |h
   .exact⟨_,_,rfl,.inl ⟨h,bvT p q⟩⟩
   .exact⟨_,_,rfl,.inr ⟨h,bv p (.tup h q)⟩⟩
  .exact p.elim
 .exact p.elim
def J2:cG K mg (λxs H Q=>(∃i,xs=[.int i]/\Q (.int i) H)\/∃k,xs=[.bl k]/\Q (.int (if k then 1 else 0)) H) xh.G:=λP H xs vs Q r0 p=>by
 replace p:BvP K mg P H Q (BE vs):=p;unfold BE at p;split at p
 .obtain⟨d,rfl,r⟩:=cW r0;obtain rfl:=r.int;exact .inl ⟨_,rfl,bv p (.int _)⟩
 .obtain⟨d,rfl,r⟩:=cW r0;obtain rfl:=r.bl;exact .inr ⟨_,rfl,bv p (.int _)⟩
 .exact p.elim
def LG{kt:je}{t c:Cl}{b:Bool}(ok:KitsOk K mg kt)(r:ShR K mg P H x v)(q:tyC v=some t)(k:kit kt t c=some b):∃tv,TyX K H x tv/\ClV mg t tv:=by
 cases v with
 |non=>obtain rfl:=r.non;cases q;exact⟨_,.of .non,rfl⟩
 |bl b=>obtain rfl:=r.bl;cases q;exact⟨_,.of (.bl _),rfl⟩
 |int b=>obtain rfl:=r.int;cases q;exact⟨_,.of (.int _),rfl⟩
 |str b=>obtain rfl:=r.str;cases q;exact⟨_,.of (.str _),rfl⟩
 |exc b=>obtain⟨a,C,rfl,m,e⟩:=r.exc;cases q;exact⟨_,.exc e (ok.xc _ (oB k) _ _ rfl m),_,rfl,m⟩
 |tup b=>obtain⟨a,ds,rfl,h,_⟩:=r.tup;cases q;exact⟨_,.sqT h,rfl⟩
 |lst b=>obtain⟨a,ds,rfl,e,_⟩:=r.lst;cases q;exact⟨_,.of (.lst e),rfl⟩
 |dct b=>obtain⟨a,ds,rfl,e,_⟩:=r.dct;cases q;exact⟨_,.of (.dK e),rfl⟩
 |_=>cases q
def Ej{c:Cl}(r:ShR K mg P H x v)(q:clV v=some c):∃cv,fS x=some cv/\ClV mg c cv:=by
 cases v with
 |ty b=>obtain rfl:=r.ty;cases q;exact⟨_,rfl,rfl⟩
 |glb b=>obtain⟨a,rfl,m⟩:=r.glb;cases q;exact⟨_,rfl,_,rfl,m⟩
 |_=>cases q
def JD{cs:List Cl}(r:Rds K mg P H ds vs):uA vs=some cs->∃cvs,ds.mapM fS=some cvs/\Paired (ClV mg) cs cvs:=
 r.ind (M:=λds vs=>∀cs,uA vs=some cs->∃cvs,ds.mapM fS=some cvs/\Paired (ClV mg) cs cvs) (λcs q=>by cases q;exact⟨[],rfl,.nil⟩) (λr _ ih cs q=>by
  unfold uA at q;split at q
  .rename_i c cs' e1 e2;cases q;obtain⟨cv,h1,h2⟩:=Ej (.inl r) e1;obtain⟨cvs,h3,h4⟩:=ih _ e2;refine⟨cv::cvs,?_,.cons h2 h4⟩;rw[List.mapM_cons,h1,h3];rfl
  .cases q) cs
def Kl{kt:je}(ok:KitsOk K mg kt):cG K mg (λxs H Q=>(∃x c t v b,xs=[x,c]/\TyX K H x t/\fS c=some v/\W.kitOne K t v=some b/\Q (.bl b) H)\/
 (∃x tp cs t vs b,xs=[x,.ref tp]/\SqT K H tp cs/\TyX K H x t/\cs.mapM fS=some vs/\W.kitAny K t vs=some b/\Q (.bl b) H)) (bE kt).G:=λP H xs vs Q r0 p=>by
 replace p:BvP K mg P H Q (A5 kt vs):=p;unfold A5 at p;split at p
 .rename_i v c;obtain⟨d,d',rfl,r1,r2⟩:=xD r0;split at p
  .rename_i t c0 cr e1 e2;split at p
   .rename_i b b' e4 e5;obtain⟨tv,h1,h2⟩:=LG ok r1 e1 e5;by_cases ht:∃cs,c=.tup cs
    .obtain⟨cs,rfl⟩:=ht;obtain⟨a,es,rfl,h,q⟩:=r2.tup;obtain⟨cvs,h3,h4⟩:=JD q e2;exact .inr ⟨_,_,_,tv,cvs,b,rfl,h,h1,h3,yM ok h2 h4 e4,bv p (.bl _)⟩
    .have e2':(clV c).map ([·])=some (c0::cr):=by
      cases c with
      |tup cs=>exact absurd ⟨cs,rfl⟩ ht
      |_=>exact e2
     obtain⟨cl,y1,y2⟩:=Nd.mp e2';cases y2;obtain⟨cv,h3,h4⟩:=Ej r2 y1;have:kit kt t c0=some b:=by
      unfold gy at e4;rw[e5] at e4 ⊢;cases b' with
      |true=>exact e4
      |false=>unfold gy at e4;exact e4
     exact .inl ⟨_,_,tv,cv,b,rfl,h1,h3,ok.one _ (oB this) _ _ h2 h4,bv p (.bl _)⟩
   .exact p.elim
  .exact p.elim
 .exact p.elim
def uj(r:Rc K mg P H o (.lst us)):∃vs,o=.lst vs/\Rds K mg P H vs us:=by cases r with |lst r=>exact⟨_,rfl,r⟩
def C0(r:Rds K mg P H ds [v]):∃d,ds=[d]/\Rd K mg P H d v:=by cases r with |cons r rr=>cases rr;exact⟨_,rfl,r⟩
def Aw:MmD K mg wO ja.G:=λP H n o u ds vs u' v Q np e hf r0 rs q k=>by
 replace q:n5 u vs=some (u',v):=q;unfold n5 at q;split at q
 .split at q
  .rename_i hl;cases q;obtain⟨xs,rfl,r⟩:=uj r0;obtain⟨d,rfl,rd⟩:=C0 rs;exact⟨n,xs,d,rfl,rfl,e,by rw[r.len];exact hl,k _ _ trivial (.lst (r.append (.cons rd .nil))) .non⟩
  .cases q
 .cases q
def Hz:MmD K mg rPop qN.G:=λP H n o u ds vs u' v Q np e hf r0 rs q k=>by
 replace q:uI u vs=some (u',v):=q;unfold uI at q;split at q
 .split at q
  .rename_i w hw;cases q;obtain⟨xs,rfl,r⟩:=uj r0;cases rs;obtain⟨d,e2,rd⟩:=r.get hw;refine⟨n,xs,d,rfl,rfl,e,by rw[r.len];exact e2,k _ _ trivial (.lst ?_) rd⟩;rw[List.dropLast_eq_take,List.dropLast_eq_take,r.len];exact r.take _
  .cases q
 .cases q
def MP{y:V}{w:Val}{pd:PyData}(ry:Rep K H y pd)(es:cH 164 w=some pd){bs:List Bool}(r:Rds K mg P H ds vs):gM w vs=some bs->EqsR K H y pd ds bs:=
 r.ind
  (M:=λds vs=>∀bs,gM w vs=some bs->EqsR K H y pd ds bs) (λbs q=>by cases q;exact .nil) (λr _ ih bs q=>by
  unfold gM at q;split at q
  .rename_i b bs' e1 e2;cases q;unfold aS at e1;rw[es] at e1;split at e1
   .rename_i a c e3 e4;cases e4;split at e1
    .rename_i hs;cases e1;exact .cons (iG 164 _ _ _ (.inl r) e3) hs.1 (ih _ e2)
    .cases e1
   .cases e1
  .cases q) bs
theorem BL{w:Val}:∀{vs:List Val}{bs:List Bool},gM w vs=some bs->vs=[]\/∃pd,cH 164 w=some pd/\shp pd=true
 | [],_,_=>.inl rfl
 |
  x::xs,bs,e=>by
  right;unfold gM at e;split at e
  .rename_i b bs' e1 e2;unfold aS at e1;split at e1
   .rename_i a c e3 e4;split at e1
    .rename_i hs;exact⟨c,e4,hs.2⟩
    .cases e1
   .cases e1
  .cases e
def CO:MtD K mg (ou K) fY.G:=λP H d v ds vs Q r hv rs p=>by
 replace p:BvP K mg P H Q (fW v vs):=p;unfold fW at p;split at p
 .obtain⟨a,xs,rfl,h,q⟩:=r.lstL;obtain⟨y,rfl,ry⟩:=cW rs;split at p
  .rename_i bs eb;split at p
   .rename_i hl;rcases BL eb with rfl |⟨pd,h3,h4⟩
    .cases eb;exact absurd hl (by simp)
    .have r3:=iG 164 _ _ _ ry h3;exact⟨a,y,bs,rfl,rfl,⟨xs,pd,h,r3,h4,MP r3 h3 q eb⟩,hl,bv p (.int _)⟩
   .exact p.elim
  .exact p.elim
 .exact p.elim
end
abbrev MO3:=E3->R3 (Option Int)
noncomputable def Hw (e:E3):R3 (Option Int):=.ok none e
noncomputable def I0 (F:ME3) (e:E3):R3 (Option Int):=(F e).bind λt e1=>match rs e1 t with
 |some (.int i)=>.ok (some i) e1
 |_=>.stuck
noncomputable def vSl (F:ME3) (L U:MO3) (e:E3):R3 Tm:=(F e).bind λt e1=>(L e1).bind λlo e2=>(U e2).bind λhi e3=>match rs e3 t.drop with
 |some v=>(aSl v lo hi).at e3
 |none=>.stuck
structure POp where
 t:Nat
 G:MO3
noncomputable def oN:POp:=⟨1,Hw⟩
noncomputable def oS (a:PEx):POp:=⟨2,I0 a.G⟩
noncomputable def pSl (a:PEx) (l u:POp):PEx:=⟨23,vSl a.G l.G u.G⟩
noncomputable def vD0 (e:E3):R3 Tm:=.ok (.new (.dct [])) e
noncomputable def pD0:PEx:=⟨24,vD0⟩
def rdO(K:W.Frag)(mg:Qb)(ES:St->XK)(G:MO3):TO:=λσ H Q=>∃X N0 ns e,Sat K mg X N0 ns e σ H/\PG3 K mg X N0 ns e σ H (ES σ) (λo _ _ H'=>Q o H') (G e)
def rdO.el{K:W.Frag}{mg:Qb}{G:MO3}(h:rdO K mg ES G σ H Q){Z:Prop}(k:∀X N0 ns e,Sat K mg X N0 ns e σ H->PG3 K mg X N0 ns e σ H (ES σ) (λo _ _ H'=>Q o H') (G e)->Z):Z:=by obtain⟨X,N0,ns,e,S,p⟩:=h;exact k X N0 ns e S p
structure DO(K:W.Frag)(mg:Qb)(X:Cx)(ES:St->XK)(e:Option Expr)(F:POp):Prop where
 ok:PO X e (rdO K mg ES F.G)
section
variable{K:W.Frag}{mg:Qb}{X:Cx}{ES:St->XK}{e a:Expr}{p:PEx}{l u:POp}{lo hi:Option Expr}{pos p2:Pos}
def vZ:DO K mg X ES none oN:=⟨PO.imp EN λσ H Q zz=>rdO.el zz λY N0 ns e S p=>PG3.ret p S⟩
def wH(he:DE K mg X ES e p):DO K mg X ES (some e) (oS p):=⟨PO.imp (FZ he.ok) λσ H Q zz=>rdO.el zz λY N0 ns e S p=>
 ⟨Y,
  N0,λ_=>True,ns,e,S,λ_ _=>trivial,PG3.imp p S λt e1 ns1 H1 a1 S1 p1 x r1=>by
  try dsimp only at p1
  split at p1
  .rename_i i q;obtain rfl:=(r1.sh S1 q).int;exact⟨_,rfl,p1.ret S1⟩
  .exact p1.elim⟩⟩
def L6{P:Addr->Prop}{H:Hp}{Q:VK}{x:V}{v:Val}{lo hi:Option Int}(r:ShR K mg P H x v)(p:BvP K mg P H Q (aSl v lo hi)):(Cm K x lo hi H Q\/Dc K x lo hi H Q)\/Cv x lo hi H Q:=by
 have cut:∀{vs us},Rds K mg P H vs us->Rds K mg P H (jM vs lo hi) (gL us lo hi):=λr=>by unfold jM gL;rw[r.len];exact (r.drop _).take _
 unfold aSl at p;split at p
 .obtain⟨a,ds,rfl,h,q⟩:=r.tup;split at p
  .exact p.elim
  .rename_i hn;exact .inl (.inr ⟨_,_,rfl,h,by rw[q.len];exact hn,bvT p (cut q)⟩)
 .obtain⟨a,ds,rfl,h,q⟩:=r.lstL;exact .inl (.inl ⟨_,_,rfl,h,bvL p (cut q)⟩)
 .obtain⟨a,ds,rfl,h,q⟩:=r.kl;exact .inl (.inl ⟨_,_,rfl,h,bvL p (cut q)⟩)
 .obtain rfl:=r.str;split at p
  .rename_i hz;exact .inr ⟨_,rfl,hz,bv p (.str _)⟩
  .exact p.elim
 .exact p.elim
def rj(hK:X.K=K)(he:DE K mg X ES e p)(hl:DO K mg X ES lo l)(hu:DO K mg X ES hi u):DE K mg X ES (.Subscript e (.Slice lo hi none p2) pos) (pSl p l u):=
 ⟨PE.imp (Dp (slK hK) he.ok hl.ok hu.ok) λσ H Q zz=>zz.el λY N0 L ns e S hL p=>⟨Y,N0,L,ns,e,S,hL,PG3.imp p S λt e1 ns1 H1 a1 S1 p1 x rx=>⟨Y,N0,ns1,e1,S1,PG3.imp p1 S1 λlo e2 e_ H2 a2 S2 p2=>⟨Y,N0,e_,e2,S2,PG3.imp p2 S2 λhi e3 ns3 H3 a3 S3 p3=>by
  try dsimp only at p3
  split at p3
  .rename_i v q;exact L6 ((rx.drop (a2.trans S1 a3)).sh S3 q) (p3.bv S3 λa z=>hL a (a1.dom a (a2.dom a (a3.dom a z))))
  .exact p3.elim⟩⟩⟩⟩
def KO:DE K mg X ES (.Dict [] [] pos) pD0:=⟨PE.imp B3 λσ H Q ⟨Y,N0,L,ns,e,S,hl,p⟩ a ha=>PG3.bv (b:=.new (.dct [])) p S hl H a (.dK []) .refl ha trivial (.dct .nil)⟩
def CS(hK:X.K=K)(ha:DE K mg X ES a p)(he:∀g_,isTrue a X.env g_=(do let v <- g_;standAt a.pos;holding [v] (truthy v)):=by intro _;rfl):DT K mg X ES a (qTr p):=by
 subst hK;exact
  ⟨PT.imp (BH ha.ok he) λσ H Q zz=>zz.el λY N0 ns e S p=>⟨Y,N0,λ_=>True,ns,e,S,λ_ _=>trivial,PG3.imp p S λt e1 ns1 H1 a1 S1 p1 x r1=>by
  try dsimp only at p1
  split at p1
  .rename_i b q;obtain⟨v,q1,q2⟩:=Nm.mp q;have r:=r1.sh S1 q1;have k:=p1.ret S1;have items:∀{us:List Val},v.items=some us->some (!us.isEmpty)=some b->∃k,BM X.K x H1 k/\Q k H1:=λ{us} e e2=>by
    obtain⟨a,vs,rfl,hq,rr⟩:=r.items e;have ee:us.isEmpty=vs.isEmpty:=by cases rr <;> rfl
    cases e2;rw[ee] at k;rcases hq with hq |hq
    .exact⟨_,.inl ⟨vs,hq,rfl⟩,k⟩
    .exact⟨_,.inr (.inl ⟨vs,hq,rfl⟩),k⟩
   cases v with
   |non=>obtain rfl:=r.non;cases q2;exact⟨_,rfl,k⟩
   |bl b=>obtain rfl:=r.bl;cases q2;exact⟨_,rfl,k⟩
   |int b=>obtain rfl:=r.int;cases q2;exact⟨_,rfl,k⟩
   |tup us=>exact items rfl q2
   |lst us=>exact items rfl q2
   |kl us=>exact items rfl q2
   |_=>cases q2
  .exact p1.elim⟩⟩
end
theorem oC{K:W.Frag}{mg:Qb}{P:Addr->Prop}{H:Hp}:∀(ns:List Int),Rds K mg P H (ns.map V.int) (ns.map Val.int)
 | []=>.nil
 |_::r=>.cons (.int _) (oC r)
structure PFx(ms:List Bool) where
 G:Fn3
noncomputable def PFx.fn {ms:List Bool} (p:PFx ms):PFn:=⟨ms,p.G⟩
noncomputable def PFx.none (ms:List Bool) (N:Nat:=0):PFx ms:=⟨λ_=>.stuck⟩
noncomputable def PFx.of (ms:List Bool) (N:Nat) (c:PSt):PFx ms:=⟨fnV ms N c.G⟩
section
variable{K:W.Frag}{mg:Qb}{P:Program}{w:World}{base:Heap}{fx:Str}{b_:Stmt}{k m:Nat}{ps N:List Str}{ms:List Bool}{x:PSt}
def okX(D:Def K mg fx b_)(S:FnScope N ps (ar b_))
 (hb:∀(kV doc pm:Value) (an:Option Addr) (cdv ct:Value) (us:List Value),us.length=ps.length->bindArgs (W.fnOf fx fx (c5 b_) (bH b_) (ar b_) .none kV doc pm an cdv ct) ⟨us,[]⟩=pure (ps.zip us))
 (j':N.Nodup->∀(f:Addr) (cdv:Value) (A:Around) (outer:List Env) (s:Shared) (H:Hp) (E:XK),Room k (A.deeper (envOfC fx (ar b_) s.heap.objs.size f cdv))->
  DSs K mg (eE (CX1 P w) P w K mg base N fx (ar b_) f cdv A outer s H E) (λ_=>E) (bH b_) x) (hn:ms.length=ps.length:=by rfl) (hm:N.length=m:=by rfl):Callee P w K mg base fx (k+1) ps (sp3 K mg (PFx.of ms m x).fn):=okP D S hb j' hn hm
def ok0(D:Def K mg fx b_)(S:FnScope N ps (ar b_))
 (hb:∀(kV doc pm:Value) (an:Option Addr) (cdv ct:Value) (us:List Value),us.length=ps.length->bindArgs (W.fnOf fx fx (c5 b_) (bH b_) (ar b_) .none kV doc pm an cdv ct) ⟨us,[]⟩=pure (ps.zip us)) (hn:ms.length=ps.length:=by rfl):Callee P w K mg base fx (k+1) ps (sp3 K mg (PFx.none ms).fn):=
 (okP (x:=xNo) (ms:=ms) (m:=N.length) D S hb (λ_ _ _ _ _ _ _ _ _=>⟨λ_ _ _ _ _ _ ⟨_,_,_,_,_,p⟩=>p.elim⟩) hn).imp λ_ _ _ _ ⟨_,_,_,_,_,p⟩=>p.elim
end
section
variable{K:W.Frag}{mg:Qb}{X:Cx}{ES:St->XK}{e:Expr}{p:PEx}{pos:Pos}
def zsS{ow:Bool}(i:Nat){x:Str}{l_:Pos}(hN:X.N.Nodup)(he:DE K mg X ES e p)(hi:X.N[i]?=some x:=by exact rfl)(hx:Loc X.env.scope x:=by first |exact Or.inl rfl |exact Or.inr rfl)(hs:swapsWith e (some (.Name x l_)) pos.line X.env=pure false:=by rfl)(hf:X.fn x=true\/X.env.scope.names.lookup x=some .local:=by first |exact .inl rfl |exact .inr rfl |assumption):DS K mg X ES (.Assign [.Name x l_] e pos) (ax ow i p):=HS hN hi hx he hs hf
def zgN(i:Nat){x:Str}(hN:X.N.Nodup)(hi:X.N[i]?=some x:=by exact rfl)(hx:Loc X.env.scope x:=by first |exact Or.inl rfl |exact Or.inr rfl)(hf:X.fn x=true\/X.env.scope.names.lookup x=some .local:=by first |exact .inl rfl |exact .inr rfl |assumption):DG K mg X (.Name x pos) (gtN i):=EA hN hi hx hf
end
section
variable(e:E3)
@[simp] theorem eP(a:α)(f:α->E3->R3 β):(R3.ok a e).bind f=f a e:=rfl
@[simp] theorem MH(a:α)(f:α->E3->SR3):(R3.ok a e).toS f=f a e:=rfl
@[simp] theorem L4(f:E3->SR3):(SR3.nx e).then f=f e:=rfl
@[simp] theorem La(r:Rt)(f:E3->SR3):(SR3.rt r e).then f=.rt r e:=rfl
@[simp] theorem L8(f:E3->SR3):(SR3.bk e).then f=.bk e:=rfl
@[simp] theorem GZ(c:Str)(f:E3->SR3):(SR3.exc c e).then f=.exc c e:=rfl
@[simp] theorem qt(f:E3->SR3):(SR3.nx e).loop f=f e:=rfl
@[simp] theorem M0(f:E3->SR3):(SR3.bk e).loop f=.nx e:=rfl
@[simp] theorem K1(r:Rt)(f:E3->SR3):(SR3.rt r e).loop f=.rt r e:=rfl
@[simp] theorem L5(r:SR3):r.unl none=r:=by cases r <;> rfl
@[simp] theorem Cy:lockO e none=e:=rfl
@[simp] theorem yq:eY e none=e:=rfl
@[simp] theorem Kc(v:Val):(Bv.val v).at e=.ok (.val v) e:=rfl
@[simp] theorem Jx(v:Val):(Bv.new v).at e=.ok (.new v) e:=rfl
@[simp] theorem JM(v:Val):rs e (.val v)=some v:=rfl
@[simp] theorem Jr(v:Val):rs e (.new v)=some v:=rfl
@[simp] theorem Io(i:Nat):rs e (.bor i)=(e[i]?).bind Sl.val:=rfl
@[simp] theorem GD(v:Val):(Tm.val v).drop=.val v:=rfl
@[simp] theorem Jj(v:Val):(Tm.new v).drop=.val v:=rfl
@[simp] theorem Il(i:Nat):(Tm.bor i).drop=.bor i:=rfl
@[simp] theorem Fv:rss e []=some []:=rfl
@[simp] theorem B6(t:Tm)(ts:List Tm):rss e (t::ts)=match rs e t,rss e ts with
 |some v,some vs=>some (v::vs)
 |_,_=>none:=rfl
@[simp] theorem IH(v:Val):cU e (.val v)=some (e,v):=rfl
@[simp] theorem HH(v:Val):cU e (.new v)=some (e,v):=rfl
@[simp] theorem zy:dem e []=some (e,[]):=rfl
@[simp] theorem E4(t:Tm)(ts:List Tm):dem e (t::ts)=match cU e t with
 |some (e1,v)=>match dem e1 ts with
  |some (e2,vs)=>some (e2,v::vs)
  |none=>none
 |none=>none:=rfl
@[simp] theorem Kq(b:Bool):bOf (some (.bl b))=some b:=rfl
@[simp] theorem K9(i:Nat):(af i).G e=match e[i]? with
 |some (.sh v)=>.ok (.val v) e
 |some .no=>.stuck
 |some _=>.ok (.bor i) e
 |none=>.stuck:=rfl
@[simp] theorem Lf(i:Int):(ah i).G e=.ok (.val (.int i)) e:=rfl
@[simp] theorem v_bl(i:Bool):(pBl i).G e=.ok (.val (.bl i)) e:=rfl
@[simp] theorem MC(i:Str):(aP i).G e=.ok (.val (.str i)) e:=rfl
@[simp] theorem LA:jv.G e=.ok (.val .non) e:=rfl
@[simp] theorem v_ty(i:String):(pTy i).G e=.ok (.val (.ty i)) e:=rfl
@[simp] theorem Ld(i:Str):(yg i).G e=.ok (.val (.glb i)) e:=rfl
@[simp] theorem v_un(o:PU1)(a:PEx):(pUn o a).G e=(a.G e).bind λt e1=>match rs e1 t with
 |some v=>(o.G v).at e1
 |none=>.stuck:=rfl
@[simp] theorem v_op(o:PO2)(a b:PEx):(pOp o a b).G e=(a.G e).bind λt1 e1=>(b.G e1).bind λt2 e2=>match rs e2 t1.drop,rs e2 t2 with
 |some v1,some v2=>(o.G v1 v2).at e2
 |_,_=>.stuck:=rfl
@[simp] theorem Lk:ag.G e=.ok [] e:=rfl
@[simp] theorem Km(a:PEx)(r:PAs):(aa a r).G e=(a.G e).bind λt e1=>(r.G e1).bind λts e2=>.ok (t.drop::ts) e2:=rfl
@[simp] theorem v_fn(o:PBf)(a:PAs):(pFn o a).G e=(a.G e).bind λts e1=>match rss e1 ts with
 |some vs=>(o.G vs).at e1
 |none=>.stuck:=rfl
@[simp] theorem Mh(a:PAs):(cD a).G e=(a.G e).bind λts e1=>match dem e1 ts with
 |some (e2,vs)=>if vs.length<=16777216 then .ok (.val (.tup vs)) e2 else .stuck
 |none=>.stuck:=rfl
@[simp] theorem MD(a:PAs):(eD a).G e=(a.G e).bind λts e1=>match dem e1 ts with
 |some (e2,vs)=>if vs.length<=16777216 then .ok (.new (.lst vs)) e2 else .stuck
 |none=>.stuck:=rfl
@[simp] theorem LQ(a b:PEx):(i8 a b).G e=(a.G e).bind λt e1=>match bOf (rs e1 t) with
 |some true=>b.G e1
 |some false=>.ok (.val (.bl false)) e1
 |none=>.stuck:=rfl
@[simp] theorem y_or(a b:PEx):(pOr a b).G e=(a.G e).bind λt e1=>match bOf (rs e1 t) with
 |some true=>.ok (.val (.bl true)) e1
 |some false=>b.G e1
 |none=>.stuck:=rfl
@[simp] theorem LD(a:PEx):(B5 a).G e=(a.G e).bind λt e1=>match bOf (rs e1 t) with
 |some b=>.ok (.val (.bl (!b))) e1
 |none=>.stuck:=rfl
@[simp] theorem c_of(a:PEx):(qOf a).G e=(a.G e).bind λt e1=>match bOf (rs e1 t) with
 |some b=>.ok b e1
 |none=>.stuck:=rfl
@[simp] theorem c_tr(a:PEx):(qTr a).G e=(a.G e).bind λt e1=>match (rs e1 t).bind oM with
 |some b=>.ok b e1
 |none=>.stuck:=rfl
@[simp] theorem c_an(a b:PTs):(qAn a b).G e=(a.G e).bind λk e1=>if k=true then b.G e1 else .ok false e1:=rfl
@[simp] theorem c_o(a b:PTs):(qO a b).G e=(a.G e).bind λk e1=>if k=true then .ok true e1 else b.G e1:=rfl
@[simp] theorem c_no(a:PTs):(qNo a).G e=(a.G e).bind λk e1=>.ok (!k) e1:=rfl
@[simp] theorem x_nx:xNx.G e=.nx e:=rfl
@[simp] theorem x_bk:xBk.G e=.bk e:=rfl
@[simp] theorem Hl:xg.G e=.rt (.val .non) e:=rfl
@[simp] theorem KY(a:PEx):(aq a).G e=(a.G e).toS oF:=rfl
@[simp] theorem Gi(v:Val):oF (.val v) e=.rt (.val v) e:=rfl
@[simp] theorem Fb(v:Val):oF (.new v) e=.rt (.new v) e:=rfl
@[simp] theorem F9(i:Nat):oF (.bor i) e=match e[i]? with
 |some (.sh v)=>.rt (.val v) e
 |some (.ow v)=>.rt (.new v) (e.set i .no)
 |some (.mu _)=>.rt (.par i) e
 |_=>.stuck:=rfl
@[simp] theorem Hv(a:PEx):(aV a).G e=(a.G e).toS λ_ e1=>.nx e1:=rfl
@[simp] theorem DM(a b:PSt):(ao a b).G e=(a.G e).then b.G:=rfl
@[simp] theorem x_if(c:PTs)(a b:PSt):(xIf c a b).G e=(c.G e).toS λk e1=>if k=true then a.G e1 else b.G e1:=rfl
@[simp] theorem Mc(o:Bool)(i:Nat)(a:PEx):(ax o i a).G e=(a.G e).toS (js o i):=rfl
@[simp] theorem LB:Sl.no.pl=true:=rfl
@[simp] theorem LL(v:Val):(Sl.sh v).pl=true:=rfl
@[simp] theorem FV(o:Bool)(i:Nat)(v:Val):js o i (.val v) e=match e[i]? with
 |some s0=>if s0.pl=true then .nx (e.set i (.sh v)) else .stuck
 |none=>.stuck:=by unfold js;rfl
@[simp] theorem Bl(i:Nat)(v:Val):js true i (.new v) e=match e[i]? with
 |some s0=>if s0.pl=true then .nx (e.set i (.ow v)) else .stuck
 |none=>.stuck:=by unfold js;rfl
@[simp] theorem BV(i:Nat)(v:Val):js false i (.new v) e=match e[i]? with
 |some s0=>if s0.pl=true then .nx (e.set i (.sh v)) else .stuck
 |none=>.stuck:=by unfold js;rfl
@[simp] theorem g_n(i:Nat)(v:Val):(gtN i).G v e=match e[i]? with
 |some s=>if s.pl=true then some (e.set i (.sh v)) else none
 |none=>none:=rfl
@[simp] theorem g_sn:fD.G [] e=some e:=rfl
@[simp] theorem g_sc(a:PGt)(b:PGs)(v:Val)(vs:List Val):(bL a b).G (v::vs) e=(a.G v e).bind λe1=>b.G vs e1:=rfl
@[simp] theorem g_t(n:Nat)(a:PGs)(vs:List Val):(gtT n a).G (.tup vs) e=if vs.length=n then a.G vs e else none:=rfl
@[simp] theorem Hq(a:PEx)(g:PGt):(jl a g).G e=(a.G e).toS λt e1=>match cU e1 t with
 |some (e2,v)=>match g.G v e2 with
  |some e3=>.nx e3
  |none=>.stuck
 |none=>.stuck:=rfl
@[simp] theorem K4(i j:Nat)(a:PAs):(iu i j a).G e=(a.G e).toS λts e1=>match dem e1 ts with
 |some (e2,[v,u])=>match (pN i v e2).bind (pN j u) with
  |some e3=>.nx e3
  |none=>.stuck
 |_=>.stuck:=rfl
@[simp] theorem MV(i:Nat)(v:Val):pN i v e=match e[i]? with
 |some s=>if s.pl=true then some (e.set i (.sh v)) else none
 |none=>none:=rfl
@[simp] theorem M5(i:Nat)(o:PO2)(a:PEx):(sU i o a).G e=match e[i]? with
 |some (.sh x)=>(a.G e).toS λt e1=>match rs e1 t with
  |some y=>match o.G x y with
   |.val z=>match pN i z e1 with
    |some e2=>.nx e2
    |none=>.stuck
   |_=>.stuck
  |none=>.stuck
 |_=>.stuck:=rfl
@[simp] theorem EJ(c:Str)(a:PAs):(dW c a).G e=(a.G e).toS λts e1=>if ts.length<=16777216 then .exc c e1 else .stuck:=rfl
@[simp] theorem Ml(i:Nat)(w:PSe)(k a:PEx):(nZ i w k a).G e=(a.G e).toS λt e1=>match (e1[i]?).bind Sl.mv with
 |none=>.stuck
 |some _=>(k.G e1).toS λt2 e2=>match rs e2 t2 with
  |none=>.stuck
  |some vi=>match cU e2 t.drop with
   |none=>.stuck
   |some (e3,v)=>match e3[i]? with
    |none=>.stuck
    |some s=>match s.mv with
     |none=>.stuck
     |some u=>match w.G u vi v with
      |some u'=>.nx (e3.set i (s.re u'))
      |none=>.stuck:=rfl
@[simp] theorem MY(v:Val):(Sl.ow v).mv=some v:=rfl
@[simp] theorem Na(v:Val):(Sl.mu v).mv=some v:=rfl
@[simp] theorem My(v u:Val):(Sl.ow v).re u=.ow u:=rfl
@[simp] theorem ML(v u:Val):(Sl.mu v).re u=.mu u:=rfl
@[simp] theorem IS(v:Val):(Sl.ow v).val=some v:=rfl
@[simp] theorem IX(v:Val):(Sl.mu v).val=some v:=rfl
@[simp] theorem KJ(i:Nat)(m:PMm)(a:PAs):(nJ i m a).G e=match e[i]? with
 |some s=>if (s.mv.map fC)=some true then (a.G e).bind λts e1=>match dem e1 ts with
  |some (e2,vs)=>match e2[i]? with
   |some s2=>match s2.mv with
    |some u=>match m.G u vs with
     |some (u',v)=>.ok (.val v) (e2.set i (s2.re u'))
     |none=>.stuck
    |none=>.stuck
   |none=>.stuck
  |none=>.stuck else .stuck
 |none=>.stuck:=rfl
@[simp] theorem G0(i:Nat)(m:PMm):(qP i m).G e=match e[i]? with
 |some s=>if (s.mv.map fC)=some true then (match s.mv with
  |some u=>match m.G u [] with
   |some (u',v)=>.ok (.val v) (e.set i (s.re u'))
   |none=>.stuck
  |none=>.stuck) else .stuck
 |none=>.stuck:=by
 show nO i m.G nL e=_;unfold nO;cases q:e[i]? with
 |none=>rfl
 |
  some s=>
  dsimp only;split
  .simp only[nL,eP,zy,sG,q];try rfl
  .rfl
@[simp] theorem BK(xs:List Val):fC (.lst xs)=true:=rfl
@[simp] theorem Ic(m:PMv)(a:PEx)(b:PAs):(qU m a b).G e=(a.G e).bind λt e1=>if (rs e1 t).map fC=some true then (b.G e1).bind λts e2=>(match rs e2 t.drop,rss e2 ts with
 |some v,some vs=>if fC v=true then (m.G v vs).at e2 else .stuck
 |_,_=>.stuck) else .stuck:=rfl
@[simp] theorem M4(a:PEx):(dk a).G e=(a.G e).bind λt e1=>match iq t e1 with
 |some p=>.ok p e1
 |none=>.stuck:=rfl
@[simp] theorem Lb(a:PAs):(yj a).G e=(a.G e).bind λts e1=>match ts with
 | [t,u]=>(match iq t e1,iq u e1 with
  |some (xs,k),some (ys,none)=>.ok (List.zipWith (λx y=>.tup [x,y]) xs ys,k) e1
  |_,_=>.stuck)
 |_=>.stuck:=rfl
@[simp] theorem JI(v:Val):iq (.val v) e=(gu v).map λxs=>(xs,none):=rfl
@[simp] theorem Jw(v:Val):iq (.new v) e=(gu v).map λxs=>(xs,none):=rfl
@[simp] theorem Hx(xs:List Val):gu (.tup xs)=some xs:=rfl
@[simp] theorem JH(xs:List Val):gu (.lst xs)=some xs:=rfl
@[simp] theorem Mi(a:PAs):(mw a).G e=(a.G e).bind λts e1=>match (rss e1 ts).bind jc with
 |some xs=>.ok (xs,none) e1
 |none=>.stuck:=rfl
@[simp] theorem Kz(a:PAs):(ye a).G e=(a.G e).bind λts e1=>match (rss e1 ts).bind uk with
 |some xs=>.ok (xs,none) e1
 |none=>.stuck:=rfl
@[simp] theorem KC(i:PIt)(g:PGt)(b:PSt):(lI i g b).G e=(i.G e).toS λp e1=>(fj g.G b.G p.1 (lockO e1 p.2)).unl p.2:=rfl
@[simp] theorem oh(g:MG3)(B:MS3):fj g B [] e=.nx e:=rfl
theorem fT(g:MG3)(B:MS3)(v:Val)(vs:List Val):fj g B (v::vs) e=match g v e with
 |some e1=>(B e1).loop (fj g B vs)
 |none=>.stuck:=rfl
def eJ(c:PTs)(b:PSt):(xWh c b).G e=(c.G e).toS λk e1=>if k=true then (b.G e1).loop (xWh c b).G else .nx e1:=Cp c.G b.G e
@[simp] theorem v_lc(i:PIt)(sub:Qe)(hs:(sub.filterMap id).Nodup)(g:PGt)(c:PTs)(a:PEx):(pLC i sub hs g c a).G e=(i.G e).bind λp e1=>match lcV g.G c.G a.G p.1 [] (bZ sub (lockO e1 p.2)) with
 |.ok ys e2=>if ys.length<=16777216 then .ok (.new (.lst ys)) (eY (aU sub e2 (lockO e1 p.2)) p.2) else .stuck
 |_=>.stuck:=rfl
@[simp] theorem GS(f:PFn)(a:PAs):(ak f a).G e=(a.G e).bind λts e1=>match rss e1 ts with
 |none=>.stuck
 |some vs=>if okA e1 f.ms ts=true then (match f.G vs with
  |.stuck=>.stuck
  |.ok r mv=>if (aR e1 f.ms ts).isEmpty || (ka r&&mv.all cE) then .ok (r.tm ts) (aU (aN f.ms ts) (az f.ms mv) e1) else (match nV e1 (aR e1 f.ms ts) with
   |some e2=>.ok (r.tm ts) (aU (aN f.ms ts) (az f.ms mv) e2)
   |none=>.stuck)
  |.exc c mv=>if (aR e1 f.ms ts).isEmpty || mv.all cE then .exc c (aU (aN f.ms ts) (az f.ms mv) e1) else .stuck) else .stuck:=rfl
@[simp] theorem Kg(ts:List Tm)(v:Val):(Rt.val v).tm ts=.val v:=rfl
@[simp] theorem JP(ts:List Tm)(v:Val):(Rt.new v).tm ts=.new v:=rfl
@[simp] theorem o_n:oN.G e=.ok none e:=rfl
@[simp] theorem o_s(a:PEx):(oS a).G e=(a.G e).bind λt e1=>match rs e1 t with
 |some (.int i)=>.ok (some i) e1
 |_=>.stuck:=rfl
@[simp] theorem v_sl(a:PEx)(l u:POp):(pSl a l u).G e=(a.G e).bind λt e1=>(l.G e1).bind λlo e2=>(u.G e2).bind λhi e3=>match rs e3 t.drop with
 |some v=>(aSl v lo hi).at e3
 |none=>.stuck:=rfl
@[simp] theorem v_d0:pD0.G e=.ok (.new (.dct [])) e:=rfl
theorem ay(ms:List Bool)(N:Nat)(c:PSt)(vs:List Val):(fnP ms N c).G vs=if vs.length=ms.length then (match c.G (sls ms vs++List.replicate (N-vs.length) .no) with
 |.nx e=>(match muV ms e with |some mv=>.ok (.val .non) mv |none=>.stuck)
 |.rt r e=>(match muV ms e with |some mv=>.ok r mv |none=>.stuck)
 |.exc c e=>(match muV ms e with |some mv=>.exc c mv |none=>.stuck)
 |_=>.stuck) else .stuck:=rfl
theorem j9(ms:List Bool)(N:Nat)(c:PSt)(vs:List Val):(PFx.of ms N c).G vs=if vs.length=ms.length then (match c.G (sls ms vs++List.replicate (N-vs.length) .no) with
 |.nx e=>(match muV ms e with |some mv=>.ok (.val .non) mv |none=>.stuck)
 |.rt r e=>(match muV ms e with |some mv=>.ok r mv |none=>.stuck)
 |.exc c e=>(match muV ms e with |some mv=>.exc c mv |none=>.stuck)
 |_=>.stuck) else .stuck:=rfl
@[simp] theorem K3(p:PFx ms):p.fn.ms=ms:=rfl
@[simp] theorem fx_G(p:PFx ms)(vs:List Val):p.fn.G vs=p.G vs:=rfl
end
@[simp] theorem LU(i j:Int):aY.G (.int i) (.int j)=.val (.int (i+j)):=rfl
@[simp] theorem Lv(i j:Int):dN.G (.int i) (.int j)=.val (.int (i-j)):=rfl
@[simp] theorem k_lt(i j:Int):bLt.G (.int i) (.int j)=.val (.bl (decide (i<j))):=rfl
@[simp] theorem k_le(i j:Int):bLe.G (.int i) (.int j)=.val (.bl (decide (i<=j))):=rfl
@[simp] theorem k_gt(i j:Int):bGt.G (.int i) (.int j)=.val (.bl (decide (j<i))):=rfl
@[simp] theorem k_ge(i j:Int):bGe.G (.int i) (.int j)=.val (.bl (decide (j<=i))):=rfl
@[simp] theorem MB(i j:Int):rW.G (.int i) (.int j)=.val (.int (i+j)):=rfl
@[simp] theorem LR(i:Int):nE.G (.int i)=.val (.int (-i)):=rfl
def bz(c:CMulA i j):aG.G (.int i) (.int j)=.val (.int (i*j)):=by show Cq (.int i) (.int j)=_;unfold Cq aIc;dsimp only;rw[if_pos c]
def j3(c:CDivB i j):ip.G (.int i) (.int j)=.val (.int (i.fdiv j)):=by show Bh (.int i) (.int j)=_;unfold Bh aIc;dsimp only;rw[if_pos c]
def f9(c:j≠0):cx.G (.int i) (.int j)=.val (.int (i.fmod j)):=by show BR (.int i) (.int j)=_;unfold BR aIc;dsimp only;rw[if_pos c]
def xM(c:xi i j):ij.G (.int i) (.int j)=.val (.int (i^j.toNat)):=by show CL (.int i) (.int j)=_;unfold CL aIc;dsimp only;rw[if_pos c]
@[simp] theorem k_ix(x:Val)(i:Int):bIx.G x (.int i)=match x.items with
 |some xs=>(match atI xs i with
  |some v=>.val v
  |none=>.stuck)
 |none=>.stuck:=by show aIx x (.int i)=_;unfold aIx;cases x.items <;> rfl
@[simp] theorem II(xs:List Val):(Val.tup xs).items=some xs:=rfl
@[simp] theorem G5(xs:List Val):(Val.lst xs).items=some xs:=rfl
@[simp] theorem k_eq(x y:Val):bEq.G x y=match aS x y with
 |some b=>.val (.bl b)
 |none=>.stuck:=by show aEq false x y=_;unfold aEq;cases aS x y <;> rfl
@[simp] theorem k_ne(x y:Val):bNe.G x y=match aS x y with
 |some b=>.val (.bl (!b))
 |none=>.stuck:=by show aEq true x y=_;unfold aEq;cases aS x y <;> rfl
@[simp] theorem D3(x y:Int):aS (.int x) (.int y)=some (x==y):=rfl
def eq_str(hx:PyData.strOk x=true)(hy:PyData.strOk y=true):aS (.str x) (.str y)=some (x==y):=by unfold aS;show (if shp (.str x)=true/\shp (.str y)=true then _ else _)=_;rw[if_pos ⟨hU hx (NM _),hU hy (NM _)⟩];rfl
@[simp] theorem k_is(x:Val):bIs.G x .non=match x with
 |.non=>.val (.bl true)
 |_=>.val (.bl false):=by cases x <;> rfl
@[simp] theorem MW(x:Val):oI.G x .non=match x with
 |.non=>.val (.bl false)
 |_=>.val (.bl true):=by cases x <;> rfl
@[simp] theorem MM(v:Val):bq.G [v]=match v.items with
 |some xs=>.val (.int xs.length)
 |none=>(match v with
  |.str z=>if z.length<=16777216 then .val (.int z.length) else .stuck
  |_=>.stuck):=rfl
@[simp] theorem KD(i:Int):hX.G [.int i]=.val (.int (if i<0 then -i else i)):=rfl
@[simp] theorem Mb(i j:Int):rT.G [.int i,.int j]=.val (.int (if j<i then j else i)):=rfl
@[simp] theorem Lx(xs:List Val):qW.G [.lst xs]=match jk xs with
 |some bs=>.val (.bl (bs.all id))
 |none=>.stuck:=rfl
@[simp] theorem LZ(xs:List Val):aO.G [.lst xs]=match fk xs with
 |some bs=>.val (.int bs.sum)
 |none=>.stuck:=rfl
@[simp] theorem Ii(v:Val):uD.G [v]=match v.items with
 |some xs=>.new (.lst xs)
 |none=>.stuck:=rfl
@[simp] theorem F8(v:Val):n8.G [v]=match v.items with
 |some xs=>.val (.tup xs)
 |none=>.stuck:=rfl
@[simp] theorem Hg(b:Bool):xh.G [.bl b]=.val (.int (if b then 1 else 0)):=rfl
@[simp] theorem A3(xs:List Val)(v:Val):ja.G (.lst xs) [v]=if xs.length<16777216 then some (.lst (xs++[v]),.non) else none:=rfl
@[simp] theorem bp:∀(bs:List Int),fk (bs.map Val.int)=some bs
 | []=>rfl
 |b::r=>by show (fk (r.map Val.int)).map (b :: ·)=_;rw[bp r];rfl
def HM(b:Bool)(ms:List Bool)(v:Val)(vs:List Val):sls (b::ms) (v::vs)=sl1 b v::sls ms vs:=rfl
def FK:sls [] []=[]:=rfl
def K0(v:Val):sl1 true v=.mu v:=rfl
def Ma(v:Val):sl1 false v=.sh v:=rfl
section
variable(e:E3)
def Gh:okA e [] []=true:=rfl
def Kb(i:Nat)(ms:List Bool)(ts:List Tm):okA e (true::ms) (.bor i::ts)=(((e[i]?).bind Sl.mv).isSome && !(iD i ts)&&okA e ms ts):=rfl
def Ij(v:Val)(ms:List Bool)(ts:List Tm):okA e (false::ms) (.val v::ts)=okA e ms ts:=rfl
def BO(i:Nat):iD i []=false:=rfl
def Ja(i:Nat)(v:Val)(ts:List Tm):iD i (.val v::ts)=iD i ts:=rfl
def zM:aR e [] []=[]:=rfl
def EK(v:Val)(ms:List Bool)(ts:List Tm):aR e (false::ms) (.val v::ts)=aR e ms ts:=rfl
def Kt(t:Tm)(ms:List Bool)(ts:List Tm):aR e (true::ms) (t::ts)=aR e ms ts:=by cases t <;> rfl
end
def AZ:aN [] []=[]:=rfl
def FE(b:Bool)(t:Tm)(ms:List Bool)(ts:List Tm):aN (b::ms) (t::ts)=nF b t::aN ms ts:=rfl
def Fg(i:Nat):nF true (.bor i)=some i:=rfl
def GI(t:Tm):nF false t=none:=by cases t <;> rfl
def B4(e:E3):aU [] [] e=e:=rfl
def Jz(o:Option Nat)(sub:Qe)(s:Sl)(i e:E3):aU (o::sub) (s::i) e=aU sub i (fQ o s e):=rfl
theorem F4(i:Nat)(v:Val)(e:E3):fQ (some i) (.mu v) e=match e[i]? with
 |some t=>e.set i (t.re v)
 |none=>e:=rfl
def ID(s:Sl)(e:E3):fQ none s e=e:=rfl
def Dk(vs:List Val):az [] vs=[]:=rfl
def JO(ms:List Bool)(v:Val)(vs:List Val):az (true::ms) (v::vs)=.mu v::az ms vs:=rfl
def HE(ms:List Bool)(vs:List Val):az (false::ms) vs=.no::az ms vs:=by cases vs <;> rfl
def FH(e:E3):muV [] e=some []:=by cases e <;> rfl
def L9(ms:List Bool)(v:Val)(e:E3):muV (true::ms) (.mu v::e)=(muV ms e).map (v :: ·):=rfl
def Lu(ms:List Bool)(s:Sl)(e:E3):muV (false::ms) (s::e)=muV ms e:=by cases s <;> rfl
def y9(v:Val):ka (.val v)=flatV v:=rfl
def Ap(v:Val):ka (.new v)=cE v:=rfl
def Aq(xs:List Val):cE (.lst xs)=cN xs:=rfl
def yk:cN []=true:=by simp [cN]
def uO(v:Val)(vs:List Val):cN (v::vs)=(flatV v&&cN vs):=by simp [cN]
def yB(i:Int):flatV (.int i)=true:=by simp [flatV]
def A7(i:Bool):flatV (.bl i)=true:=by simp [flatV]
def Ai(i:Str):flatV (.str i)=true:=by simp [flatV]
def Ag:flatV .non=true:=by simp [flatV]
def AR(xs:List Val):flatV (.tup xs)=cN xs:=by simp [flatV]
def bj(h0:0<=i)(h:l[i.toNat]?=some x):atI l i=some x:=by have hl:=(D_.mp h).1;unfold atI ixN;rw[if_pos h0,if_pos (by omega)];exact h
section
variable(a b c d:α)(l:List α)
def ati0:atI (a::l) 0=some a:=bj (by decide) rfl
def ati1:atI (a::b::l) 1=some b:=bj (by decide) rfl
def ati2:atI (a::b::c::l) 2=some c:=bj (by decide) rfl
def ati3:atI (a::b::c::d::l) 3=some d:=bj (by decide) rfl
end
mutual
def vq:Val->Val->Bool
 |.non,.non=>true
 |.bl a,.bl b=>a==b
 |.bl a,.int j=>(if a then 1 else 0)==j
 |.int i,.bl b=>i==(if b then 1 else 0)
 |.int i,.int j=>i==j
 |.str x,.str y=>x==y
 |.tup xs,.tup ys=>vqs xs ys
 |.lst xs,.lst ys=>vqs xs ys
 |_,_=>false
def vqs:List Val->List Val->Bool
 | [],[]=>true
 |x::xs,y::ys=>vq x y&&vqs xs ys
 |_,_=>false
end
mutual
def wfV:Nat->Val->Bool
 |_,.non=>true
 |_,.bl _=>true
 |_,.int _=>true
 |_,.str x=>PyData.strOk x
 |k+1,.tup xs=>eS k xs
 |k+1,.lst xs=>eS k xs
 |_,_=>false
def eS:Nat->List Val->Bool
 |_,[]=>true
 |k,x::xs=>wfV k x&&eS k xs
end
mutual
def gj:Val->PyData
 |.bl b=>.bool b
 |.int i=>.int i
 |.str x=>.str x
 |.tup xs=>.tuple (d9 xs)
 |.lst xs=>.list (d9 xs)
 |_=>.none
def d9:List Val->List PyData
 | []=>[]
 |x::xs=>gj x::d9 xs
end
mutual
theorem nH:∀(k:Nat) (v:Val),wfV k v=true->(∀j,k<j->cH j v=some (gj v))/\(gj v).canLay0=true/\(gj v).depth<=k
 |k,.non,_=>⟨λj hj=>by cases j with |zero=>exact absurd hj (Oq _) |succ j=>rfl,rfl,NM _⟩
 |k,.bl b,_=>⟨λj hj=>by cases j with |zero=>exact absurd hj (Oq _) |succ j=>rfl,rfl,NM _⟩
 |k,.int b,_=>⟨λj hj=>by cases j with |zero=>exact absurd hj (Oq _) |succ j=>rfl,rfl,NM _⟩
 |k,.str b,w=>⟨λj hj=>by cases j with |zero=>exact absurd hj (Oq _) |succ j=>rfl,by cases k <;> exact w,NM _⟩
 |0,.tup xs,w=>absurd w x_
 |0,.lst xs,w=>absurd w x_
 |
  k+1,.tup xs,w=>by
  obtain⟨h1,h2,h3⟩:=lG k xs w;exact⟨λj hj=>by cases j with |zero=>exact absurd hj (Oq _) |succ j=>simp only[cH,gj,h1 j (Nat.lt_of_succ_lt_succ hj),Option.map_some],h2,by simpa [gj,PyData.depth] using h3⟩
 |
  k+1,.lst xs,w=>by
  obtain⟨h1,h2,h3⟩:=lG k xs w;exact⟨λj hj=>by cases j with |zero=>exact absurd hj (Oq _) |succ j=>simp only[cH,gj,h1 j (Nat.lt_of_succ_lt_succ hj),Option.map_some],h2,by simpa [gj,PyData.depth] using h3⟩
 |k,.ty _,w=>by cases k <;> exact absurd w x_
 |k,.glb _,w=>by cases k <;> exact absurd w x_
 |k,.exc _,w=>by cases k <;> exact absurd w x_
 |k,.kl _,w=>by cases k <;> exact absurd w x_
 |k,.dct _,w=>by cases k <;> exact absurd w x_
 |k,.set _,w=>by cases k <;> exact absurd w x_
theorem lG:∀(k:Nat) (vs:List Val),eS k vs=true->(∀j,k<j->d5 j vs=some (d9 vs))/\PyData.canLayAll0 (d9 vs)=true/\PyData.depthAll (d9 vs)<=k
 |k,[],_=>⟨λj hj=>by simp [d5,d9],rfl,NM _⟩
 |
  k,v::vs,w=>by
  have w':(wfV k v&&eS k vs)=true:=w;rw[u_] at w';obtain⟨h1,h2,h3⟩:=nH k v w'.1;obtain⟨i1,i2,i3⟩:=lG k vs w'.2;exact⟨λj hj=>by simp [d5,d9,h1 j hj,i1 j hj],by simp [d9,PyData.canLayAll0,h2,i2],Nat.max_le.mpr ⟨h3,i3⟩⟩
end
mutual
theorem zS:∀(k:Nat) (v u:Val),wfV k v=true->wfV k u=true->PyData.eqv (gj v) (gj u)=vq v u
 |
  k,v,u,hv,hu=>by
  cases v <;> first |(cases k <;> exact absurd hv x_) |skip
  all_goals (cases u <;> first |(cases k <;> exact absurd hu x_) |rfl |(cases k with |zero=>exact absurd hv x_ |succ k=>exact vA k _ _ hv hu))
theorem vA:∀(k:Nat) (v u:List Val),eS k v=true->eS k u=true->PyData.eqvAll (d9 v) (d9 u)=vqs v u
 |_,[],[],_,_=>rfl
 |_,[],_::_,_,_=>rfl
 |_,_::_,[],_,_=>rfl
 |
  k,x::xs,y::ys,hv,hu=>by
  have h1:(wfV k x&&eS k xs)=true:=hv;have h2:(wfV k y&&eS k ys)=true:=hu;rw[u_] at h1 h2;show (PyData.eqv (gj x) (gj y)&&PyData.eqvAll (d9 xs) (d9 ys))=(vq x y&&vqs xs ys);rw[zS k x y h1.1 h2.1,vA k xs ys h1.2 h2.2]
end
def Jg(hk:k<=160)(hx:wfV k x=true)(hy:wfV k y=true):aS x y=some (vq x y):=by obtain⟨h1,h2,h3⟩:=nH k x hx;obtain⟨i1,i2,i3⟩:=nH k y hy;unfold aS;rw[h1 164 (by omega),i1 164 (by omega)];dsimp only;rw[if_pos ⟨hU h2 (by omega),hU i2 (by omega)⟩,zS k x y hx hy]
def qw(hx:wfV 60 x=true)(hy:wfV 60 y=true):aS x y=some (vq x y):=Jg (by decide) hx hy
mutual
def kM:Val->Bool
 |.bl _=>false
 |.tup xs=>gT xs
 |.lst xs=>gT xs
 |.non=>true
 |.int _=>true
 |.str _=>true
 |_=>false
def gT:List Val->Bool
 | []=>true
 |x::xs=>kM x&&gT xs
end
mutual
theorem zG:∀(v u:Val),kM v=true->kM u=true->(vq v u=true ↔ v=u)
 |
  v,u,hv,hu=>by
  cases v <;> first |exact absurd hv x_ |skip
  all_goals (cases u <;> first |exact absurd hu x_ |exact⟨λz=>absurd z x_,λz=>nomatch z⟩ |(simp [vq];done) |skip)
  all_goals
   refine Iff.trans (vX _ _ hv hu) ?_;constructor
   .rintro rfl;rfl
   .intro z;cases z;rfl
theorem vX:∀(v u:List Val),gT v=true->gT u=true->(vqs v u=true ↔ v=u)
 | [],[],_,_=>⟨λ_=>rfl,λ_=>rfl⟩
 | [],_::_,_,_=>⟨λz=>absurd z x_,λz=>nomatch z⟩
 |_::_,[],_,_=>⟨λz=>absurd z x_,λz=>nomatch z⟩
 |
  x::xs,y::ys,hv,hu=>by
  have h1:(kM x&&gT xs)=true:=hv;have h2:(kM y&&gT ys)=true:=hu;rw[u_] at h1 h2;show (vq x y&&vqs xs ys)=true ↔ _;rw[u_,zG x y h1.1 h2.1,vX xs ys h1.2 h2.2,List.cons.injEq]
end
noncomputable def fV (q:Rat):Val:=.tup [.int q.num,.int q.den]
structure Bx where
 l:Rat
 t:Rat
 w:Rat
 h:Rat
structure Bx.Ok(b:Bx):Prop where
 w:0<b.w
 h:0<b.h
structure Bx.Sz(n:Nat)(b:Bx):Prop where
 l:L2.Sz n b.l
 t:L2.Sz n b.t
 w:L2.Sz n b.w
 h:L2.Sz n b.h
noncomputable def bV (b:Bx):Val:=.tup [fV b.l,fV b.t,fV b.w,fV b.h]
def Kn(e:fV p=fV q):p=q:=by unfold fV at e;simp only[Val.tup.injEq,List.cons.injEq,Val.int.injEq,and_true] at e;rw[eA p,eA q,e.1,e.2]
def DB(q:Rat)(k:Nat):wfV (k+1) (fV q)=true:=by simp [fV,wfV,eS]
def DD(q:Rat):kM (fV q)=true:=by simp [fV,kM,gT]
def MU(p q:Rat):aS (fV p) (fV q)=some (decide (p=q)):=by rw[qw (DB p 59) (DB q 59)];congr 1;rw[Pw,zG _ _ (DD p) (DD q),Ou];exact⟨Kn,λz=>by rw[z]⟩
noncomputable def knV:Val->Bool
 |.exc _=>false
 |v=>(tyC v).isSome
noncomputable def ir:Nat->Val->Bool
 |k+1,.tup xs=>xs.all (ir k)
 |_,v=>knV v
noncomputable def jh:Val->Bool
 |.int _=>true
 |_=>false
noncomputable def aQ:Val->Bool
 |.tup [.int a,.int b]=>decide (1<=b)&&decide (Int.gcd a b=1)
 |_=>false
noncomputable def jj:Val->Bool
 |.tup (.int a::_)=>decide (0<a)
 |_=>false
noncomputable def gc:Val->Bool
 |.tup [a,b,c,d]=>aQ a&&(aQ b&&(aQ c&&(aQ d&&(jj c&&jj d))))
 |_=>false
noncomputable def hJ:Val->Bool
 |.int i=>decide (1<=i)
 |_=>false
noncomputable def fi:Val->Bool
 |.tup _=>true
 |_=>false
def Lc(h1:1<=b)(h2:Int.gcd a b=1):Val.tup [.int a,.int b]=fV ((a:Rat)/(b:Rat)):=by
 have hb:b≠0:=by omega
 have h:=lY (a:=a) hb;have s:=Fr.self (by omega) h2;unfold fV;rw[<- h.1,<- h.2,s.1,s.2]
def jg(q:Rat):aQ (fV q)=true:=by
 show (decide (1<=(q.den:Int))&&decide (Int.gcd q.num q.den=1))=true
 have:=q.den_pos
 rw[Em (by omega),Em (vj q)];rfl
def yQ(h:aQ d=true):∃q,d=fV q:=by
 unfold aQ at h;split at h
 .simp only[u_,Ou] at h;exact⟨_,Lc h.1 h.2⟩
 .cases h
def wM(q:Rat):jj (fV q)=decide (0<q):=by show decide (0<q.num)=decide (0<q);rw[Oh];exact ko
def Cf(h:b.Ok):gc (bV b)=true:=by show (aQ (fV b.l)&&(aQ (fV b.t)&&(aQ (fV b.w)&&(aQ (fV b.h)&&(jj (fV b.w)&&jj (fV b.h))))))=true;rw[jg,jg,jg,jg,wM,wM,Em h.w,Em h.h];rfl
def Ju(b:Bx):ir 2 (bV b)=true:=by simp [bV,fV,ir,knV,tyC]
theorem nN(P:E3->Prop):∀(vs acc:List Val) (e:E3),P e->(∀v∈vs,∀e,P e->∃e1 t e2,g v e=some e1/\F e1=.ok t e2/\cU e2 t=some (e2,f v)/\P e2)->acc.length+vs.length<=16777216->∃e',P e'/\lcV g cY F vs acc e=.ok (acc++vs.map f) e'
 | [],acc,e,hp,_,_=>⟨e,hp,by simp [lcV]⟩
 |
  v::vs,acc,e,hp,hf,hl=>by
  obtain⟨e1,t,e2,q1,q2,q3,q4⟩:=hf v (t_ ..) e hp;obtain⟨e',p',q5⟩:=nN P vs (acc++[f v]) e2 q4 (λu hu=>hf u (r_ _ hu)) (by simp at hl ⊢;omega);refine⟨e',p',?_⟩;unfold lcV;rw[if_pos (by simp at hl;omega),q1];simp only[cY,eP,OO,q2,q3,q5];simp
noncomputable def rgV (k:Nat):List Val:=(List.range k).map λj=>Val.int (j:Nat)
def ox(h:k<1000000):jc [.int (k:Nat)]=some (rgV k):=by simp only[jc];rw[if_pos (⟨by omega,by omega⟩:RgB _),NB];unfold lj rgV;simp only[Int.zero_add]
def E9(h0:0<=i)(h:i<1000000):jc [.int i]=some (rgV i.toNat):=by
 have:=ox (k:=i.toNat) (by omega)
 rwa [show ((i.toNat:Nat):Int)=i from by omega] at this
theorem dZ(fv fw:α->Val)(P:E3->Prop):∀(l:List α) (acc:List Val) (e:E3),P e->(∀a∈l,∀e,P e->∃e1 t e2,g (fv a) e=some e1/\F e1=.ok t e2/\cU e2 t=some (e2,fw a)/\P e2)->acc.length+l.length<=16777216->∃e',P e'/\lcV g qY.G F (l.map fv) acc e=.ok (acc++l.map fw) e'
 | [],acc,e,hp,_,_=>⟨e,hp,by simp [lcV]⟩
 |
  v::vs,acc,e,hp,hf,hl=>by
  obtain⟨e1,t,e2,q1,q2,q3,q4⟩:=hf v (t_ ..) e hp;obtain⟨e',p',q5⟩:=dZ fv fw P vs (acc++[fw v]) e2 q4 (λu hu=>hf u (r_ _ hu)) (by simp at hl ⊢;omega);refine⟨e',p',?_⟩;rw[v_];unfold lcV;have cy:qY.G=cY:=rfl;rw[cy] at q5 ⊢;rw[if_pos (by simp at hl;omega),q1];simp only[cY,eP,OO,q2,q3,q5];simp
def GK(v:Val):inS (.sh v)=.sh v:=rfl
theorem lM(k:Nat):∀xs:List Val,eS k xs=xs.all (wfV k)
 | []=>by simp [eS]
 |x::xs=>by simp [eS,lM k xs]
def Ft(i:Nat)(v:Val)(e:E3):fQ (some i) (.sh v) e=e:=rfl
noncomputable def gk (ms:List Bool) (r:SR3):R3F:=match r with
 |.nx e=>(match muV ms e with |some mv=>.ok (.val .non) mv |none=>.stuck)
 |.rt r e=>(match muV ms e with |some mv=>.ok r mv |none=>.stuck)
 |.exc c e=>(match muV ms e with |some mv=>.exc c mv |none=>.stuck)
 |_=>.stuck
def lP(h:vs.length=ms.length):(fnP ms N c).G vs=gk ms (c.G (sls ms vs++List.replicate (N-vs.length) .no)):=by rw[ay,if_pos h];rfl
def Ko(h:vs.length=ms.length):(PFx.of ms N c).G vs=gk ms (c.G (sls ms vs++List.replicate (N-vs.length) .no)):=by rw[j9,if_pos h];rfl
def gb(ms:List Bool)(r:Rt)(e:E3):gk ms (.rt r e)=match muV ms e with |some mv=>.ok r mv |none=>.stuck:=rfl
def aC{Q:SR3->Prop}(I:E3->Prop){a b:PSt}{e:E3}(h1:∃e1,a.G e=.nx e1/\I e1)(h2:∀e1,I e1->Q (b.G e1)):Q ((ao a b).G e):=by obtain⟨e1,q,i⟩:=h1;rw[DM,q];exact h2 e1 i
def sm8(h:m.natAbs<1099511627776):Sm 8000 m:=I_ (show m.natAbs<2^40 from h) (NG (by decide) (by decide))
def oE{m:Int}(h:0<m):(0:Rat)<(m:Rat):=Rat.intCast_pos.mpr h
def jx{a b:Int}(h1:0<a)(h2:0<b):(0:Rat)<(a:Rat)/(b:Rat):=by rw[Pk];exact Rat.mul_pos (oE h1) (Rat.inv_pos.mpr (oE h2))
structure Good(b:Bx):Prop where
 ok:b.Ok
 sz:b.Sz 101
noncomputable def IE (cs:List (Str×PFn)) (F:ME3) (A:MA3) (e:E3):R3 Tm:=(F e).bind λt e1=>match rs e1 t with
 |some (.glb x)=>(match cs.lookup x with
  |some p=>Ds p.ms p.G A e1
  |none=>.stuck)
 |_=>.stuck
noncomputable def lZ (cs:List (Str×PFn)) (f:PEx) (a:PAs):PEx:=⟨25,IE cs f.G a.G⟩
theorem FJ(e:E3)(cs:List (Str×PFn))(f:PEx)(a:PAs):(lZ cs f a).G e=(f.G e).bind λt e1=>match rs e1 t with
 |some (.glb x)=>(match cs.lookup x with
  |some p=>(ak p a).G e1
  |none=>.stuck)
 |_=>.stuck:=rfl
theorem mz{β:Type}{x:Str}{b:β}:∀{l:List (Str×β)},l.lookup x=some b->(x,b)∈l
 | [],h=>by simp at h
 |
  (y,c)::l,h=>by
  rw[Og] at h;split at h
  .rename_i q
   have:=eq_of_beq q
   subst this;cases h;exact t_ ..
  .exact r_ _ (mz h)
section
variable{K:W.Frag}{mg:Qb}{X:Cx}{ES:St->XK}{e:Expr}{es:List Expr}{A:PAs}{pos:Pos}
def xH(K:W.Frag)(mg:Qb)(X:Cx)(cs:List (Str×PFn)):Prop:=∀c∈cs,∃k ps,Callee X.prog X.w X.K X.mg X.base c.1 k ps (sp3 K mg c.2)/\Room k X.A
def HZ:xH K mg X []:=λ_ h=>nomatch h
def wm{f:PFn}{x:Str}{k:Nat}{ps:List Str}{cs:List (Str×PFn)}(C:Callee X.prog X.w X.K X.mg X.base x k ps (sp3 K mg f))(hr:Room k X.A)(h:xH K mg X cs):xH K mg X ((x,f)::cs):=λc hc=>by
 rcases G_.mp hc with rfl |hc
 .exact⟨k,ps,C,hr⟩
 .exact h c hc
def BP{ef:Expr}{cs:List (Str×PFn)}{p:PEx}(hc:xH K mg X cs)(hf:DE K mg X ES ef p)(hx:ny X ES)(ha:DA K mg X ES (e::es) A)(hm:X.mg=mg:=by rfl)
 (harm:eval (.Call ef (e::es) [] pos) X.env=(do callWith pos (<- eval ef X.env) [] (backTo pos (starEach (e::es) X.env)) (backToKw pos (keywordEach [] X.env))):=by rfl)
 (he:starEach (e::es) X.env=(false,eval e X.env)::starEach es X.env:=by rfl) (hpl:(backTo pos (starEach es X.env)).any (·.1)=false:=by rfl):DE K mg X ES (.Call ef (e::es) [] pos) (lZ cs p A):=by
 subst hm;refine⟨λpins s σ H Q I ⟨Y,N0,L,ns,e,S,hl,p⟩=>?_⟩;rw[harm];refine o_ ?_;have rd
  : rdE K X.mg ES _ σ H (λv H1=>∃x c f,(x,c)∈cs/\v=.ref f/\X.mg x=some (.ref f)/\rdA K X.mg ES A.G σ H1 (λvs H2=>sp3 K X.mg c vs H2 Q (ES σ))):=
  ⟨Y,
   N0,L,ns,e,S,hl,PG3.imp p S λt e1 ns1 H1 a1 S1 p1 x r1=>by
   try dsimp only at p1
   split at p1
   .rename_i y q;split at p1
    .rename_i c q2;obtain⟨a,rfl,m⟩:=(r1.sh S1 q).glb;exact⟨y,c,a,mz q2,rfl,m,vD (f:=c) σ H1 Q ⟨Y,N0,L,ns1,e1,S1,λa z=>hl a (a1.dom a z),p1⟩⟩
    .exact p1.elim
   .exact p1.elim⟩
 refine Nu (hf.ok pins s σ H _ I rd) (λu s1 ⟨v,H1,I1,rv,x,c,f,hmem,ev,m,ra⟩=>?_) λ_ _ z=>z;subst ev;obtain rfl:u=Value.ref f:=rv;obtain⟨k,ps,C,hr⟩:=hc (x,c) hmem;obtain⟨f',fd,F',m',kp,bb,_⟩:=C.ex;rw[m] at m';cases m';refine W.callWith_K (h₀:=X.base) I.ok.mod.kin kp (Nu (ha.ok pos pins s1 σ H1 _ I1 ra) (λus s2 ⟨vs,H2,I2,r,q⟩=>⟨I2.kIn,?_⟩) λ_ _ z=>z) he hpl;have hl:(us++[]).length=ps.length:=by rw[Nv,<- r.length];exact F'.len _ _ _ _ q
 refine wpAny_call (PN (F'.run X.A X.stack s2 H2 ⟨us,[]⟩ us vs Q (ES σ) hr I2.env0 (by simpa using bb s2 us I2.kIn hl) r q) λr s' hq=>?_);cases r with
 |error ex=>exact hx pins σ H2 s2 ex s' I2 hq
 |
  ok fl=>
  cases fl with
  |ret u=>exact I2.after hq
  |next=>exact False.elim hq
  |brk=>exact False.elim hq
  |cont=>exact False.elim hq
end
def HC(xs ys:List Val):aY.G (.lst xs) (.lst ys)=if xs.length+ys.length<=16777216 then .new (.lst (xs++ys)) else .stuck:=rfl
section
variable{K:W.Frag}{mg:Qb}{P:Addr->Prop}{H:Hp}{ws ws':List (Key×V)}{us us':List (Key×Val)}{k:Key}
def xZ(r:Rk K mg P H ws us):lkD us k=some v->∃d,lkD ws k=some d/\Rd K mg P H d v:=
 r.ind (M:=λws us=>lkD us k=some v->∃d,lkD ws k=some d/\Rd K mg P H d v) (λq=>by cases q) (λ{k2 d v2 ds vs} r _ ih q=>by
  unfold lkD at q ih ⊢;rw[NO] at q ⊢;dsimp only at q ⊢;by_cases hk:k2=k
  .rw[Em hk] at q ⊢;cases q;exact⟨d,rfl,r⟩
  .rw[w_ hk] at q ⊢;exact ih q)
def FN(r:Rk K mg P H ws us):us.map (·.1)=ws.map (·.1):=
 r.ind (M:=λws us=>us.map (·.1)=ws.map (·.1)) rfl λ_ _ ih=>by rw[v_,v_,ih]
def zT(r:Rk K mg P H ws us):ws.length=us.length:=
 r.ind (M:=λws us=>ws.length=us.length) rfl λ_ _ ih=>NA (· + 1) ih
def Ir(r:Rk K mg P H ws us)(q:Rk K mg P H ws' us'):Rk K mg P H (ws++ws') (us++us'):=
 r.ind (M:=λws us=>Rk K mg P H (ws++ws') (us++us')) q λr _ ih=>.cons r ih
def zb(rd:Rd K mg P H d v)(r:Rk K mg P H ws us):Rk K mg P H (eV ws k d) (eV us k v):=by
 unfold eV;rw[Cw (FN r)];by_cases hc:(ws.any λkv=>decide (kv.1=k))=true
 .rw[if_pos hc,if_pos hc];exact r.ind (M:=λws us=>Rk K mg P H (ws.map λkv=>if kv.1=k then (kv.1,d) else kv) (us.map λkv=>if kv.1=k then (kv.1,v) else kv)) .nil (λ{k2 d2 v2 ds vs} r _ ih=>by
   rw[v_,v_];dsimp only;by_cases hk:k2=k
   .rw[if_pos hk,if_pos hk];exact .cons rd ih
   .rw[if_neg hk,if_neg hk];exact .cons r ih)
 .rw[if_neg hc,if_neg hc];exact Ir r (.cons rd .nil)
def IA:∀{ks:List Key}{ds:List V}{vs:List Val},Rds K mg P H ds vs->Rk K mg P H (ks.zip ds) (ks.zip vs):=by
 intro ks;induction ks with
 |nil=>intro ds vs _;exact .nil
 |
  cons k ks ih=>
  intro ds vs r;cases r with
  |nil=>exact .nil
  |cons r rr=>exact .cons r (ih rr)
end
noncomputable def B9:Val->Val->Bv:=λx y=>match x with
 |.dct kvs=>(match y with
  |.str k=>(match lkD kvs (.inr k) with
   |some v=>.val v
   |none=>.stuck)
  |_=>.stuck)
 |_=>.stuck
noncomputable def gh:PO2:=⟨B9⟩
noncomputable def sD:Val->Val->Val->Option Val:=λo i v=>match o with
 |.dct kvs=>(match i with
  |.str k=>if kvs.length<16777216 then some (.dct (eV kvs (.inr k) v)) else none
  |_=>none)
 |_=>none
noncomputable def seD:PSe:=⟨sD⟩
noncomputable def xA (ks:List Str) (A:MA3) (e:E3):R3 Tm:=(A e).bind λts e1=>match dem e1 ts with
 |some (e2,vs)=>if ks.length=vs.length then .ok (.new (.dct ((ks.map Sum.inr).zip vs))) e2 else .stuck
 |none=>.stuck
noncomputable def qE (ks:List Str) (a:PAs):PEx:=⟨26,xA ks a.G⟩
theorem uE(e:E3)(ks:List Str)(a:PAs):(qE ks a).G e=(a.G e).bind λts e1=>match dem e1 ts with
 |some (e2,vs)=>if ks.length=vs.length then .ok (.new (.dct ((ks.map Sum.inr).zip vs))) e2 else .stuck
 |none=>.stuck:=rfl
noncomputable def aL:List (Str×PEx)->PAs
 | []=>ag
 |p::r=>aa p.2 (aL r)
section
variable{K:W.Frag}{mg:Qb}{X N0:Addr->Prop}{ns ns0:Ns}{e e0:E3}{σ:St}{H H0:Hp}
def Sat.fill(S:Sat K mg (Xn X n) N0 ns e σ H)(q:H n=some o)(hf:NotFz o):Mov (Oc (Xn X n) ns) (Oc (Xn X n) ns) H (upd H n o')/\Sat K mg (Xn X n) N0 ns e σ (upd H n o'):=by
 have up:∀m,m≠n->upd H n o' m=H m:=λm z=>aA z;have mv:Mov (Oc (Xn X n) ns) (Oc (Xn X n) ns) H (upd H n o'):=⟨LeH.wr q hf,λm ob p q' _=>⟨p,by rw[up m λz=>p.1 (.inr z)];exact q'⟩⟩;refine⟨mv,⟨S.l1,S.l2,λa z=>S.lh a ?_,λm z=>?_,S.inj,S.nx,λj s qj=>(S.sl j s qj).mono mv λm ob qm qo _=>?_,S.bs.wr q hf⟩⟩
 .rw[up a λy=>by subst y;rw[aF] at z;cases z] at z;exact z
 .by_cases y:m=n
  .subst y;exact⟨o',aF⟩
  .rw[up m y];exact S.xl m z
 .rw[up m λy=>by subst y;exact S.nx j m qm (.inr rfl)];exact qo
def Stp.fill(a:Stp ns0 e0 H0 ns e H)(hn:H0 n=none)(q:H n=some o)(hf:NotFz o):Stp ns0 e0 H0 ns e (upd H n o'):=by
 have up:∀m,m≠n->upd H n o' m=H m:=λm z=>aA z;refine⟨a.le.trans (LeH.wr q hf),λm z=>a.dom m ?_,λm ob qm ht hM=>?_,a.nw,a.lk,a.lk',a.mu,a.mu'⟩
 .rw[up m λy=>by subst y;rw[aF] at z;cases z] at z;exact z
 .rw[up m λy=>by subst y;rw[hn] at qm;cases qm];exact a.keep m ob qm ht hM
def TsR.cons'{L:Addr->Prop}{t:Tm}(r:relE K mg X N0 L σ ns e H d t.drop)(rs:TsR K mg X ns σ H ds ts):TsR K mg X ns σ H (d::ds) (t.drop::ts):=by
 generalize hg:t.drop=t' at *;cases t' with
 |val v=>exact .val r rs
 |new v=>cases t <;> cases hg
 |bor i=>exact .bor r rs
end
section
variable{K:W.Frag}{mg:Qb}{X:Cx}{ES:St->XK}{a b v:Expr}{keys:List (Option Expr)}{ks:List (Option Expr)}{values vs:List Expr}{p q F:PEx}{A:PAs}{prs:List (Str×PEx)}{pos kp:Pos}
noncomputable def tps (K:W.Frag) (mg:Qb) (ES:St->XK) (prs:List (Str×PEx)):List (TE×TE):=prs.map λp=>(tC (.str p.1),rdE K mg ES p.2.G)
theorem rK:∀(prs:List (Str×PEx)) {Y N0:Addr->Prop}{ns:Ns}{e:E3}{σ:St}{H:Hp}{Q:List (V×V)->Hp->Prop},Sat K mg Y N0 ns e σ H->PG3 K mg Y N0 ns e σ H (ES σ) (λts _ ns' H'=>∀vs,TsR K mg Y ns' σ H' vs ts->Q ((prs.map λp=>V.str p.1).zip vs) H') ((aL prs).G e)->mj (tps K mg ES prs) σ H Q
 | [],Y,N0,ns,e,σ,H,Q,S,p=>PG3.ret p S [] .nil
 |pr::r,Y,N0,ns,e,σ,H,Q,S,p=>⟨Y,N0,λ_=>True,ns,e,S,λ_ _=>trivial,PG3.imp p S λt e1 ns1 H1 a1 S1 p1 y ry=>rK r S1 (PG3.imp p1 S1 λts e2 e_ H2 a2 S2 p2 vs rs=>p2.ret S2 (y::vs) (TsR.cons' (ry.drop a2) rs))⟩
def EU(hu:X.A.units+1<cLine)(ha:DE K mg X ES a p)(hb:DE K mg X ES b q)(hs:xb b):DE K mg X ES (.Subscript a b pos) (pOp gh p q):=⟨PE.imp (vt hu ha.ok hb.ok hs) λσ H Q zz=>zz.el λY N0 L ns e S hl p=>
 ⟨Y,
  N0,L,ns,e,S,hl,PG3.imp p S λt1 e1 ns1 H1 a1 S1 p1 x r1=>⟨Y,N0,L,ns1,e1,S1,λa z=>hl a (a1.dom a z),PG3.imp p1 S1 λt2 e2 e_ H2 a2 S2 p2 y r2=>by
  try dsimp only at p2
  split at p2
  .rename_i v u q1 q2;replace p2:PG3 K mg Y N0 e_ e2 σ H2 (ES σ) (KE K mg Y N0 L σ Q) ((B9 v u).at e2):=p2;unfold B9 at p2;split at p2
   .split at p2
    .split at p2
     .rename_i q3;obtain⟨a,ws,rfl,h,rk⟩:=((r1.drop a2).sh S2 q1).dct;obtain rfl:=(r2.sh S2 q2).str;obtain⟨d,q4,rd⟩:=xZ rk q3;exact⟨a,d,rfl,q4 ▸ DGet.k (k:=.inr _) h,p2.ret S2 _ rd⟩
     .exact p2.elim
    .exact p2.elim
   .exact p2.elim
  .exact p2.elim⟩⟩⟩
def wa:PPs X pos [] [] (tps K mg ES []):=F5
def gI(hv:DE K mg X ES v F)(hr:PPs X pos ks vs (tps K mg ES prs)):PPs X pos (some (.Constant (.str k) j kp)::ks) (v::vs) (tps K mg ES ((k,F)::prs)):=Bg AW hv.ok hr
def vF{ns:List Str}(hp:PPs X pos keys values (tps K mg ES prs))(h1:ns=prs.map (·.1):=by rfl)(h2:A=aL prs:=by rfl)(hn:ns.Nodup:=by decide)(hall:keys.all (·.isSome)=true:=by rfl)(hl:keys.length=values.length:=by rfl)(h0:keys≠[]:=by intro h;cases h)(h15:keys.length<=15:=by decide)(hp15:prs.length<=15:=by decide):DE K mg X ES (.Dict keys values pos) (qE ns A):=by
 subst h1 h2;refine⟨PE.imp (EF hp hall hl h0 h15) λσ H Q ⟨Y,N0,L,ns,e,S,hL,p⟩ pp hpp=>?_⟩;have g:=Gr.upd (u:=.dK []) hpp;have SG:=S.grow g hpp aF;refine rK prs SG ?_;replace p:PG3 K mg Y N0 ns e σ H (ES σ) (KE K mg Y N0 L σ Q) (xA (prs.map (·.1)) (aL prs).G e):=p;unfold xA at p;cases q:(aL prs).G e with
 |stuck=>rw[q] at p;exact p
 |exc c e'=>rw[q] at p;exact λH' ns' C a S' m=>p H' ns' C ((Stp.gr g).trans S a) (S'.weak λ_ z=>.inl z) m
 |
  ok ts e1=>
  rw[q] at p;intro H2 ns1 a1 S1 vs rs;replace p:PG3 K mg Y N0 ns e σ H (ES σ) (KE K mg Y N0 L σ Q) (match dem e1 ts with
   |some (e2,vs)=>if (prs.map (·.1)).length=vs.length then .ok (.new (.dct (((prs.map (·.1)).map Sum.inr).zip vs))) e2 else .stuck
   |none=>.stuck):=p
  split at p
  .rename_i e2 us qd;split at p
   .rename_i a_;obtain⟨e_,S2,a2,r2⟩:=gA S1 rs qd;have k1:H2 pp=some (.dK []):=a1.keep pp _ aF (λ_ z=>nomatch z) λ⟨i,s,z,_⟩=>SG.nx i _ z (.inr rfl);have hlv:vs.length=prs.length:=by rw[r2.len,<- a_,p_]
    refine⟨k1,((prs.map (·.1)).map Sum.inr).zip vs,?_,?_,?_⟩
    .rw[<- tI,NV];rfl
    .rw[List.length_zip,p_,p_];omega
    .have hz:(((prs.map (·.1)).map Sum.inr).zip vs:List (Key×V)).map (·.1)=(prs.map (·.1)).map Sum.inr:=List.map_fst_zip (by rw[p_,p_];omega);rw[uC _ [] (by rw[Ny,hz];exact List.Pairwise.map _ (λa b hab z=>hab (Sum.inr.inj z)) hn),Ny];obtain⟨mv,S3⟩:=S2.fill (o':=.dK (((prs.map (·.1)).map Sum.inr).zip vs)) k1 trivial;exact p _ e_ ((((Stp.gr g).trans S a1).trans S a2).fill hpp k1 trivial) (S3.weak λ_ z=>.inl z) _ ⟨pp,_,rfl,hL pp hpp,λz=>(by obtain⟨o,z⟩:=S.xl _ z;rw[hpp] at z;cases z),aF,trivial,S3,.dct ((IA r2).mono mv)⟩
   .exact p.elim
  .exact p.elim
def yK:BZ K mg yu seD.G:=λP H n o u di vi d v u' Q np e hf r0 ri rd q k=>by
 replace q:sD u vi v=some u':=q;unfold sD at q;split at q
 .split at q
  .split at q
   .rename_i hl;cases q;obtain rfl:=ri.str;cases r0 with
    |dct rk=>exact⟨n,_,rfl,DPut.k (k:=.inr _) e (by rw[zT rk];exact hl),k _ trivial (.dct (zb rd rk))⟩
   .cases q
  .cases q
 .cases q
end
noncomputable def pU (n:Nat) (u:jP):MG3:=λv e=>match v with
 |.tup vs=>if vs.length=n then u vs e else none
 |.lst vs=>if vs.length=n then u vs e else none
 |_=>none
noncomputable def gtU (n:Nat) (a:PGs):PGt:=⟨3,pU n a.G⟩
section
variable{e:E3}
def g_uL(n:Nat)(a:PGs)(vs:List Val):(gtU n a).G (.lst vs) e=if vs.length=n then a.G vs e else none:=rfl
end
section
variable{K:W.Frag}{mg:Qb}{X:Cx}{es:List Expr}{gs:PGs}{pos:Pos}
def Kj{k n:Nat}(hK:X.K=K)(hc:X.calm=true)(h:DGs K mg X es gs)(hn:(assignEach es X.env).length=n:=by rfl)(hst:(assignEach es X.env).findIdx? (·.1)=none:=by rfl):DG K mg X (.Tuple es k pos) (gtU n gs):=by
 subst hK;exact
  ⟨PG.imp (J5 hc h.ok hn hst) λv σ H Q zz=>zz.el λY N0 ns e u e' S r q k=>by
  replace q:pU n gs.G u e=some e':=q;unfold pU at q;split at q
  .split at q
   .rename_i hl;obtain⟨a,vs,rfl,z,rr⟩:=ShR.tup (.inl r);exact⟨a,vs,rfl,.inl z,by rw[rr.len];exact hl,Y,N0,ns,e,_,e',S,rr,q,k⟩
   .cases q
  .split at q
   .rename_i hl;obtain⟨a,vs,rfl,z,rr⟩:=ShR.lstL (.inl r);exact⟨a,vs,rfl,.inr z,by rw[rr.len];exact hl,Y,N0,ns,e,_,e',S,rr,q,k⟩
   .cases q
  .cases q⟩
end
theorem ar1{α:Type}{P:List α->Prop}(h:∀a,P [a]):∀us:List α,us.length=1->P us
 | [a],_=>h a
theorem ar2{α:Type}{P:List α->Prop}(h:∀a b,P [a,b]):∀us:List α,us.length=2->P us
 | [a,b],_=>h a b
theorem ar3{α:Type}{P:List α->Prop}(h:∀a b c,P [a,b,c]):∀us:List α,us.length=3->P us
 | [a,b,c],_=>h a b c
theorem ar4{α:Type}{P:List α->Prop}(h:∀a b c d,P [a,b,c,d]):∀us:List α,us.length=4->P us
 | [a,b,c,d],_=>h a b c d
section
variable{K:W.Frag}{mg:Qb}{P:Addr->Prop}{H:Hp}
theorem kq:∀l:List Nat,Rds K mg P H (l.map λi:Nat=>V.int (i:Nat)) (l.map λi:Nat=>Val.int (i:Nat))
 | []=>.nil
 |i::l=>.cons (.int _) (kq l)
end
noncomputable def Dr:List Val->Bv:=λvs=>match vs with
 | [.int j]=>if -(2^62)<=j/\j<=16777216 then .new (.lst (rgV j.toNat)) else .stuck
 |_=>.stuck
noncomputable def jz:PBf:=⟨Dr⟩
def Et{j:Int}(h:-(2^62)<=j/\j<=16777216):jz.G [.int j]=.new (.lst (rgV j.toNat)):=if_pos h
noncomputable def Cr:List Val->Bv:=λvs=>match vs with
 | [.int j]=>if 0<=j/\j<=1000000 then .val (.tup (rgV j.toNat)) else .stuck
 |_=>.stuck
noncomputable def mI:PBf:=⟨Cr⟩
def Kv{j:Int}(h:0<=j/\j<=1000000):mI.G [.int j]=.val (.tup (rgV j.toNat)):=if_pos h
noncomputable def rF (f:List Int->Int):List Val->Bv:=λvs=>match vs with
 | [.lst xs]=>(match fk xs with
  |some bs=>if bs≠[] then .val (.int (f bs)) else .stuck
  |none=>.stuck)
 |_=>.stuck
noncomputable def rO:PBf:=⟨rF mnI⟩
def Mn{f:List Int->Int}{ns:List Int}(h:ns≠[]):rF f [.lst (ns.map .int)]=.val (.int (f ns)):=by unfold rF;dsimp only;rw[bp];exact if_pos h
def Ji{ns:List Int}(h:ns≠[]):rO.G [.lst (ns.map .int)]=.val (.int (mnI ns)):=Mn h
noncomputable def Lr (e:E3):R3 Tm:=.ok (.new (.set [])) e
noncomputable def w9:PEx:=⟨27,Lr⟩
def JX(e:E3):w9.G e=.ok (.new (.set [])) e:=rfl
noncomputable def BD:Val->Val->Bv:=λx y=>match x,y with
 |.int i,.set xs=>.val (.bl (decide (i∈xs)))
 |_,_=>.stuck
noncomputable def Cd:PO2:=⟨BD⟩
def K5(i:Int)(xs:List Int):Cd.G (.int i) (.set xs)=.val (.bl (decide (i∈xs))):=rfl
noncomputable def xo:List Val->Bv:=λvs=>match vs with
 | [.set xs]=>.val (.int (xs.length:Nat))
 |_=>.stuck
noncomputable def qX:PBf:=⟨xo⟩
def Jp(xs:List Int):qX.G [.set xs]=.val (.int (xs.length:Nat)):=rfl
noncomputable def CA:Val->Option (List Int)
 |.set xs=>some xs
 |_=>none
noncomputable def uz (i:Nat) (A:MA3) (e:E3):R3 Tm:=match e[i]? with
 |some s=>match s.mv.bind CA with
  |some _=>(A e).bind λts e1=>match dem e1 ts with
   |some (e2,[.int k])=>match e2[i]? with
    |some s2=>match s2.mv.bind CA with
     |some xs=>if xs.length<4000 then .ok (.val .non) (e2.set i (s2.re (.set (fU xs k)))) else .stuck
     |none=>.stuck
    |none=>.stuck
   |_=>.stuck
  |none=>.stuck
 |none=>.stuck
noncomputable def A8 (i:Nat) (a:PAs):PEx:=⟨28,uz i a.G⟩
def Iv(e:E3)(i:Nat)(a:PAs):(A8 i a).G e=uz i a.G e:=rfl
noncomputable def sY:Val->Val->Bv:=λx y=>match x with
 |.dct kvs=>(match y with
  |.int k=>(match lkD kvs (.inl k) with
   |some v=>.val v
   |none=>.stuck)
  |_=>.stuck)
 |_=>.stuck
noncomputable def xr:PO2:=⟨sY⟩
def LW(h:lkD kvs (.inl k)=some v):xr.G (.dct kvs) (.int k)=.val v:=by show sY (.dct kvs) (.int k)=_;unfold sY;dsimp only;rw[h]
noncomputable def sDI:Val->Val->Val->Option Val:=λo i v=>match o with
 |.dct kvs=>(match i with
  |.int k=>if kvs.length<16777216 then some (.dct (eV kvs (.inl k) v)) else none
  |_=>none)
 |_=>none
noncomputable def seI:PSe:=⟨sDI⟩
def IP(kvs:List (Key×Val))(k:Int)(v:Val):seI.G (.dct kvs) (.int k) v=if kvs.length<16777216 then some (.dct (eV kvs (.inl k) v)) else none:=rfl
noncomputable def kU:Val->List Val->Option (Val×Val):=λu vs=>match u,vs with
 |.lst xs,[.tup ys]=>if xs.length+ys.length<=16777216 then some (.lst (xs++ys),.non) else none
 |_,_=>none
noncomputable def g6:PMm:=⟨kU⟩
def o9(xs ys:List Val):g6.G (.lst xs) [.tup ys]=if xs.length+ys.length<=16777216 then some (.lst (xs++ys),.non) else none:=rfl
section
variable{K:W.Frag}{mg:Qb}{P:Addr->Prop}{H:Hp}
def Ke:cG K mg rLrg jz.G:=λP H xs vs Q r0 p=>by
 replace p:BvP K mg P H Q (Dr vs):=p;unfold Dr at p;split at p
 .obtain⟨d,rfl,r⟩:=cW r0;obtain rfl:=r.int;split at p
  .rename_i hb;exact⟨_,rfl,hb.1,hb.2,bvL p (kq _)⟩
  .exact p.elim
 .exact p.elim
def G6:cG K mg rTrg mI.G:=λP H xs vs Q r0 p=>by
 replace p:BvP K mg P H Q (Cr vs):=p;unfold Cr at p;split at p
 .obtain⟨d,rfl,r⟩:=cW r0;obtain rfl:=r.int;split at p
  .rename_i hb;exact⟨_,rfl,hb.1,hb.2,bvT p (kq _)⟩
  .exact p.elim
 .exact p.elim
def Jl{f:List Int->Int}:cG K mg (CP f K) (rF f):=λP H xs vs Q r0 p=>by
 unfold rF at p;split at p
 .obtain⟨d,rfl,r⟩:=cW r0;obtain⟨a,ys,rfl,h,q⟩:=r.lstL;split at p
  .rename_i bs e;split at p
   .rename_i hb;exact⟨a,bs,rfl,me q e ▸ h,hb,bv p (.int _)⟩
   .exact p.elim
  .exact p.elim
 .exact p.elim
def Fx:cG K mg (CP mnI K) rO.G:=Jl
def IC:OpD K mg yD Cd.G:=λP H x y v u Q rx ry p=>by
 replace p:BvP K mg P H Q (BD v u):=p;unfold BD at p;split at p
 .obtain rfl:=rx.int;obtain⟨a,rfl,_,e⟩:=ry.set;exact⟨_,_,_,_,rfl,rfl,e,bv p (.bl _)⟩
 .exact p.elim
def Gu:cG K mg (λxs H Q=>∃a S n,xs=[.ref a]/\H a=some (.set S n)/\Q (.int (n:Nat)) H) qX.G:=λP H xs vs Q r0 p=>by
 replace p:BvP K mg P H Q (xo vs):=p;unfold xo at p;split at p
 .obtain⟨d,rfl,r⟩:=cW r0;obtain⟨a,rfl,_,e⟩:=r.set;exact⟨_,_,_,rfl,e,bv p (.int _)⟩
 .exact p.elim
def BX:BZ K mg yu seI.G:=λP H n o u di vi d v u' Q np e hf r0 ri rd q k=>by
 replace q:sDI u vi v=some u':=q;unfold sDI at q;split at q
 .split at q
  .split at q
   .rename_i hl;cases q;obtain rfl:=ri.int;cases r0 with
    |dct rk=>exact⟨n,_,rfl,DPut.k (k:=.inl _) e (by rw[zT rk];exact hl),k _ trivial (.dct (zb rd rk))⟩
   .cases q
  .cases q
 .cases q
def xy:MmD K mg (rh K) g6.G:=λP H n o u ds vs u' v Q np e hf r0 rs q k=>by
 replace q:kU u vs=some (u',v):=q;unfold kU at q;split at q
 .split at q
  .rename_i hl;cases q;obtain⟨xs,rfl,r⟩:=uj r0;obtain⟨d,rfl,rd⟩:=C0 rs;obtain⟨b,ys,rfl,e2,q5⟩:=ShR.tup (.inl rd);exact⟨n,b,xs,ys,rfl,rfl,e,e2,by rw[r.len,q5.len];exact hl,k _ _ trivial (.lst (r.append q5)) .non⟩
  .cases q
 .cases q
variable{X:Cx}{ES:St->XK}{e o a b:Expr}{es:List Expr}{p q:PEx}{A:PAs}{pos cpos apos q1 q2 p0 p1 p2:Pos}
def Hr(hc:X.calm=true)(hl:Gl X "list")(hml:mg "list"=none)(hg:Gl X "range")(hm:mg "range"=none)(ha:DA K mg X ES [a] A)(hk:X.mg=mg:=by rfl)(hs:starEach [a] X.env=[(false,eval a X.env)]:=by rfl)
 (hs1:starEach [.Call (.Name "range" p2) [a] [] q2] X.env=[(false,eval (.Call (.Name "range" p2) [a] [] q2) X.env)]:=by rfl):
 DE K mg X ES (.Call (.Name "list" p1) [.Call (.Name "range" p2) [a] [] q2] [] pos) (pFn jz A):=by
 subst hk;exact⟨PE.imp (Je hc hl hml hg hm ha.ok hs hs1) (qQ Ke)⟩
def Kf(hc:X.calm=true)(hl:Gl X "tuple")(hml:mg "tuple"=none)(hg:Gl X "range")(hm:mg "range"=none)(ha:DA K mg X ES [a] A)(hk:X.mg=mg:=by rfl)(hs:starEach [a] X.env=[(false,eval a X.env)]:=by rfl)
 (hs1:starEach [.Call (.Name "range" p2) [a] [] q2] X.env=[(false,eval (.Call (.Name "range" p2) [a] [] q2) X.env)]:=by rfl):
 DE K mg X ES (.Call (.Name "tuple" p1) [.Call (.Name "range" p2) [a] [] q2] [] pos) (pFn mI A):=by
 subst hk;exact⟨PE.imp (J7 hc hl hml hg hm ha.ok hs hs1) (qQ G6)⟩
def FR(hg:Gl X x)(hm:mg x=none)(hv:bootBuiltins x=some (.type "set"))(hk:X.mg=mg:=by rfl)(hn:x ≠ "__name__":=by decide)(hdb:(x==("__debug__" : Str))=false:=by decide):DE K mg X ES (.Call (.Name x p0) [] [] pos) w9:=by
 subst hk;exact⟨PE.imp (yf yY hg hm hv hn hdb) λσ H Q zz=>zz.el λY N0 L ns e S hl p=>⟨rfl,λl hl'=>by
  have:=PG3.bv (b:=.new (.set [])) p S hl H l (.set (λi=>decide (i∈([]:List Int))) 0) .refl hl' trivial (.set [] List.nodup_nil)
  have e:(λ_:Int=>false)=λi:Int=>decide (i∈([]:List Int)):=by funext i;simp
  rw[e];exact this⟩⟩
def G9{xs:List Int}{i:Int}(nd:xs.Nodup):(fU xs i).Nodup/\HO.set (λk=>decide (k∈xs) || decide (k=i)) (if decide (i∈xs)=true then xs.length else xs.length+1)=.set (λk=>decide (k∈fU xs i)) (fU xs i).length:=by
 unfold fU;by_cases hi:i∈xs
 .rw[if_pos (Em hi),if_pos hi];refine⟨nd,?_⟩;congr 1;funext k;by_cases hk:k∈xs
  .rw[Em hk];rfl
  .rw[w_ hk,w_ (show ¬ k=i from λz=>hk (by rw[z];exact hi))];rfl
 .rw[if_neg (show ¬ decide (i∈xs)=true by rw[w_ hi];exact x_),if_neg hi];refine⟨OR.mpr ⟨hi,nd⟩,?_⟩;congr 1;funext k;rw[Pw,OF,Oi,Oi,Oi,G_];exact Or.comm
def GO{j:Nat}(hK:X.K=K)(ho:DE K mg X ES o (af j))(ha:DA K mg X ES (e::es) A)
 (j_:attributeBase o "add" X.env (eval o X.env)=eval o X.env:=by rfl)
 (hfew:((backTo cpos (starEach (e::es) X.env)).all (λx=>!x.1)&&(backToKw cpos (keywordEach [] X.env)).all (λx=>x.1.isSome)
  && decide ((e::es).length+([]:List Keyword).length+(if ([]:List Keyword).isEmpty then 0 else 1)<30))=true:=by rfl)
 (k_:(apos.endLine==cpos.line)=true:=by rfl) (hs:starEach (e::es) X.env=(false,eval e X.env)::starEach es X.env:=by rfl) (d_:(backTo cpos (starEach es X.env)).any (·.1)=false:=by rfl):
 DE K mg X ES (.Call (.Attribute o "add" apos) (e::es) [] cpos) (A8 j A):=by
 subst hK;exact
  ⟨PE.imp (yc PySem.F.plainAttrs_set PySem.F.slot_set_add PySem.F.type_set_add yF ho.ok ha.ok j_ hfew k_ hs d_) λσ H Q zz=>zz.el λY N0 L ns e S hl p=>⟨Y,N0,L,ns,e,S,hl,by
  replace p:PG3 X.K mg Y N0 ns e σ H (ES σ) (KE X.K mg Y N0 L σ Q) (uz j A.G e):=p;unfold uz at p;split at p
  .rename_i s0
    q0
   split at p
   .rename_i xs0 hz;obtain⟨u0,z1,z2⟩:=Nm.mp hz;show PG3 X.K mg Y N0 ns e σ H (ES σ) _ (eF j e);rw[uH q0 z1];intro H1 ns1 a1 S1 ov ro;have ty:tyV X.K "set" ov H1:=by
     have rs:=S1.bor (i:=j) (v:=u0) ro (by rw[q0];cases s0 <;> first |exact z1 |cases z1);cases u0 with
     |set ys=>obtain⟨a,rfl,_,h⟩:=rs.set;exact .inr (.inr (.inr ⟨rfl,_,_,h⟩))
     |_=>cases z2
    refine⟨ty,Y,N0,ns1,e,S1,PG3.imp (p.after S a1) S1 λts e1 e_ H2 a2 S2 p2 xs r2=>?_⟩;split at p2
    .rename_i e2 k q1;obtain⟨ns3,S3,a3,r3⟩:=gA S2 r2 q1;split at p2
     .rename_i s2 q2;split at p2
      .rename_i ys q3;split at p2
       .rename_i a_;obtain⟨u,y1,y2⟩:=Nm.mp q3;obtain⟨n,ob,k1,k0,k2,k3,k4,k5⟩:=S3.write q2 y1;have ro':σ[j]?=some (some ov):=ro;rw[k1] at ro';cases ro';obtain⟨d,rfl,rd⟩:=C0 r3;obtain rfl:=ShR.int (.inl rd);cases u with
        |
         set zs=>
         cases y2;cases k4 with
         |set _ nd=>obtain⟨i1,i2⟩:=G9 (i:=k) nd;refine⟨n,k,_,_,rfl,rfl,k2,a_,?_⟩;rw[i2];obtain⟨mv,S4,a4⟩:=k5 (.set (λz=>decide (z∈fU ys k)) (fU ys k).length) (.set (fU ys k)) trivial (.set _ i1);exact p2 _ _ (a3.trans S2 a4) S4 _ .non
        |_=>cases y2
       .exact p2.elim
      .exact p2.elim
     .exact p2.elim
    .exact p2.elim
   .exact p.elim
  .exact p.elim⟩⟩
def By(hu:X.A.units+1<cLine)(ha:DE K mg X ES a p)(hb:DE K mg X ES b q)(hs:xb b):DE K mg X ES (.Subscript a b pos) (pOp xr p q):=⟨PE.imp (vt hu ha.ok hb.ok hs) λσ H Q zz=>zz.el λY N0 L ns e S hl p=>
 ⟨Y,
  N0,L,ns,e,S,hl,PG3.imp p S λt1 e1 ns1 H1 a1 S1 p1 x r1=>⟨Y,N0,L,ns1,e1,S1,λa z=>hl a (a1.dom a z),PG3.imp p1 S1 λt2 e2 e_ H2 a2 S2 p2 y r2=>by
  try dsimp only at p2
  split at p2
  .rename_i v u q1 q2;replace p2:PG3 K mg Y N0 e_ e2 σ H2 (ES σ) (KE K mg Y N0 L σ Q) ((sY v u).at e2):=p2;unfold sY at p2;split at p2
   .split at p2
    .split at p2
     .rename_i q3;obtain⟨a,ws,rfl,h,rk⟩:=((r1.drop a2).sh S2 q1).dct;obtain rfl:=(r2.sh S2 q2).int;obtain⟨d,q4,rd⟩:=xZ rk q3;exact⟨a,d,rfl,q4 ▸ DGet.k (k:=.inl _) h,p2.ret S2 _ rd⟩
     .exact p2.elim
    .exact p2.elim
   .exact p2.elim
  .exact p2.elim⟩⟩⟩
end
open PySem PySem.Spec PyProof.Rows L2 PySem.W
noncomputable def adr (K:Frag) (x:Str):Addr:=match nsIn K mainGlobals x with
 |some (some (.ref a))=>a
 |_=>0
noncomputable def ig (K:Frag) (x:Str):Bool:=match nsIn K mainGlobals x with
 |some (some (.ref _))=>true
 |_=>false
noncomputable def uh (K:Frag) (x:Str):Bool:=match nsIn K mainGlobals x with
 |some none=>true
 |_=>false
noncomputable def xcB (K:Frag) (C:Addr):Bool:=(clsIn K C).isSome&&(findIn K (.ref C) "__getattribute__" == some (some (.builtin "BaseException.__getattribute__"))&&(findIn K (.ref C) "__getattr__" == some none&&(findIn K (.ref C) "__class__" == some (some (.builtin "object.__class__"))&&(specialIn K (.builtin "object.__class__") "__get__" == some (some (.builtin "getset_descriptor.__get__"))&&(takesIn K (.builtin "object.__class__")==some true&&(mroIn K C (.type "object")==some true&&mroIn K C (.type "BaseException")==some true))))))
noncomputable def hdB (K:Frag) (C:Addr):Bool:=typeIn K (.ref C)==some (.type "type")&&((clsIn K C).isSome&&mroIn K C (.type "BaseException")==some true)
noncomputable def clA (K:Frag):Cl->Value
 |.b n=>.type n
 |.o x=>.ref (adr K x)
noncomputable def Bk (K:Frag):Cl->Bool
 |.b _=>true
 |.o x=>ig K x
noncomputable def CC (K:Frag) (p:Cl×Cl×Bool):Bool:=kitOne K (clA K p.1) (clA K p.2.1)==some p.2.2&&(Bk K p.1&&Bk K p.2.1)
noncomputable def xkB (K:Frag):Cl->Bool
 |.b _=>true
 |.o x=>xcB K (adr K x)
noncomputable def xj:Val->Value->Bool
 |.int i,.int j _=>i==j
 |.str x,.str y _=>x==y
 |.non,.none=>true
 |.bl b,.bool c=>b==c
 |_,_=>false
noncomputable def dV:Val->V
 |.int i=>.int i
 |.str x=>.str x
 |.bl b=>.bl b
 |_=>.non
noncomputable def qS:List Val->List Value->Bool
 | [],[]=>true
 |d::ds,v::vs=>xj d v&&qS ds vs
 |_,_=>false
noncomputable def gcB (K:Frag) (x:Str):Val->Bool
 |.tup ds=>(match nsIn K mainGlobals x with
  |some (some (.ref a))=>(match K.lookup a with
   |some ⟨.type "tuple",_,.seq its _,_⟩=>decide (its.size<=1000)&&qS ds its.toList
   |_=>false)
  |_=>false)
 |d=>match nsIn K mainGlobals x with
  |some (some v)=>xj d v
  |_=>false
noncomputable def bFn:List String:=["abs", "all", "any", "isinstance", "len", "max", "min", "sorted", "sum"]
noncomputable def bTy:List String:=["bool", "dict", "int", "list", "set", "str", "tuple", "ValueError"]
noncomputable def bIt:List String:=["range", "zip", "enumerate"]
def Ki:(bFn.all λn=>bootBuiltins (Str.ofString n)==some (.builtin n))=true:=by decide
def JF:(bTy.all λn=>bootBuiltins (Str.ofString n)==some (.type n))=true:=by decide
def boF{n:String}(h:bFn.contains n=true):bootBuiltins (Str.ofString n)=some (.builtin n):=Nr.mp (Ni.mp Ki n (NK.mp h))
def boT{n:String}(h:bTy.contains n=true):bootBuiltins (Str.ofString n)=some (.type n):=Nr.mp (Ni.mp JF n (NK.mp h))
structure Tb where
 us:List Str
 rs:List Str
 hs:List (Str×List Str)
 kt:je
 gs:List (Str×Val)
noncomputable def Tb.ok (b:Tb) (K:Frag):Bool:=(bFn++(bTy++bIt)).all (λn=>uh K (Str.ofString n))&&(b.us.all (ig K)&&(b.rs.all (λx=>excIn K (adr K x) om "ValueError.__new__" && ig K x)&&(b.hs.all (λp=>hdB K (adr K p.1)&&p.2.all λc=>mroIn K (adr K c) (.ref (adr K p.1))==some true&&ig K c)&&(b.kt.all (λp=>CC K p&&xkB K p.1)&&b.gs.all λp=>gcB K p.1 p.2))))
structure Tx(b:Tb)(K:Frag)(mg:Qb):Prop where
 n:∀{n:String},(bFn++(bTy++bIt)).contains n=true->mg (Str.ofString n)=none
 m:∀{x:Str},b.us.contains x=true->mg x=some (.ref (adr K x))
 x:∀{x:Str},b.rs.contains x=true->excIn K (adr K x) om "ValueError.__new__"=true
 h:∀{x:Str}{l:List Str},(x,l)∈b.hs->XHand K (adr K x)/\∀c∈l,∀Ce,mg c=some (.ref Ce)->mroIn K Ce (.ref (adr K x))=some true
 k:KitsOk K mg b.kt
 g:∀{x:Str}{d:Val},b.gs.lookup x=some d->GC K mg x d
section
variable{K:Frag}{h:Heap}{mg:Qb}{x:Str}(X:K.In h)(G:h.Ns mainGlobals mg)
include X G
def ke(e:ig K x=true):mg x=some (.ref (adr K x)):=by
 unfold ig at e;split at e
 .rename_i a q;unfold adr;rw[q];exact mg_of X G q
 .cases e
def xC(e:uh K x=true):mg x=none:=by
 unfold uh at e;split at e
 .rename_i q;exact mg_none_of X G q
 .cases e
omit X G in
def KN{C:Addr}(e:xcB K C=true):XCls K C:=by simp only[xcB,u_,Nr] at e;obtain⟨e1,e2,e3,e4,e5,e6,e7,e8⟩:=e;exact⟨e1,e2,e3,e4,e5,e6,e7,e8⟩
def DY{c:Cl}{v:Value}(e:Bk K c=true)(q:ClV mg c v):v=clA K c:=by
 cases c with
 |b n=>exact q
 |o y=>obtain⟨a,rfl,m⟩:=q;rw[ke X G (show ig K y=true from e)] at m;cases m;rfl
omit X G in
def yA{d:Val}{v:Value}(e:xj d v=true):RelV (dV d) v/\∀P H,Rd K mg P H (dV d) d:=by
 unfold xj at e;split at e
 .cases Nr.mp e;exact⟨⟨_,rfl⟩,λ_ _=>.int _⟩
 .cases Nr.mp e;exact⟨⟨_,rfl⟩,λ_ _=>.str _⟩
 .exact⟨rfl,λ_ _=>.non⟩
 .cases Nr.mp e;exact⟨rfl,λ_ _=>.bl _⟩
 .cases e
omit X G in
theorem vk:∀{ds:List Val}{vs:List Value},qS ds vs=true->Vals (ds.map dV) vs/\∀P H,Rds K mg P H (ds.map dV) ds
 | [],[],_=>⟨.nil,λ_ _=>.nil⟩
 |
  d::ds,v::vs,e=>by
  rw[qS,u_] at e;obtain⟨a1,a2⟩:=yA (K:=K) (mg:=mg) e.1;obtain⟨b1,b2⟩:=vk e.2;exact⟨.cons a1 b1,λP H=>.cons (a2 P H) (b2 P H)⟩
 | [],_::_,e=>nomatch e
 |_::_,[],e=>nomatch e
def KL{d:Val}(e:gcB K x d=true):GC K mg x d:=by
 unfold gcB at e;split at e
 .rename_i ds;split at e
  .rename_i a q;split at e
   .rename_i dd its n sl l;rw[u_] at e;obtain⟨v1,v2⟩:=vk (K:=K) (mg:=mg) e.2;exact⟨_,.ref a,mg_of X G q,rfl,λP H=>.tup (.inr ⟨_,its,n,l,rfl,rfl,Nl (Oa e.1) (by decide),v1⟩) (v2 P H)⟩
   .cases e
  .cases e
 .split at e
  .rename_i v q;obtain⟨v1,v2⟩:=yA (K:=K) (mg:=mg) e;exact⟨_,_,mg_of X G q,v1,v2⟩
  .cases e
omit X G in
theorem yR{d:Val}:∀{l:List (Str×Val)},l.lookup x=some d->(x,d)∈l
 | [],h=>nomatch h
 |
  (y,e)::l,h=>by
  rw[Og] at h;split at h
  .rename_i q;cases h;rw[Nr.mp q];exact t_
  .exact r_ _ (yR h)
def KR{b:Tb}(e:b.ok K=true):Tx b K mg:=by
 unfold Tb.ok at e;simp only[u_] at e;obtain⟨e1,e2,e3,e4,e5,e6⟩:=e;simp only[Ni,u_] at e1 e2 e3 e4 e5 e6;refine⟨λh=>xC X G (e1 _ (NK.mp h)),λh=>ke X G (e2 _ (NK.mp h)),λh=>(e3 _ (NK.mp h)).1,λh=>?_,⟨λp hp t v h1 h2=>?_,λp hp x C e' m=>?_⟩,λh=>KL X G (e6 _ (yR h))⟩
 .obtain⟨a1,a2⟩:=e4 _ h;refine⟨?_,λc hc Ce m=>?_⟩
  .simp only[hdB,u_,Nr] at a1;exact⟨a1.1,a1.2.1,a1.2.2⟩
  .obtain⟨b1,b2⟩:=a2 c hc;rw[ke X G b2] at m;cases m;exact Nr.mp b1
 .obtain⟨a1,_⟩:=e5 p hp;simp only[CC,u_,Nr] at a1;rw[DY X G a1.2.1 h1,DY X G a1.2.2 h2];exact a1.1
 .obtain⟨a1,a2⟩:=e5 p hp;simp only[CC,u_,Nr] at a1;have a3:=a1.2.1;rw[e'] at a2 a3;rw[ke X G (show ig K x=true from a3)] at m;cases m;exact KN a2
end
def dNm(s:Stmt):Str:=match s with
 |.FunctionDef n ..=>n
 |_=>""
def AllD(K:Frag)(mg:Qb)(top:Nat->Stmt):List Nat->Prop
 | []=>True
 |i::l=>Def K mg (dNm (top i)) (top i)/\AllD K mg top l
theorem AllD.get{K:Frag}{mg:Qb}{top:Nat->Stmt}:∀{l:List Nat},AllD K mg top l->∀i,l.contains i=true->Def K mg (dNm (top i)) (top i)
 | [],_,i,h=>nomatch h
 |
  j::l,⟨a,b⟩,i,h=>by
  rcases G_.mp (NK.mp h) with rfl |h
  .exact a
  .exact b.get i (NK.mpr h)
def _root_.L2.Def.gl{K:Frag}{mg:Qb}{x:Str}{st:Stmt}(D:Def K mg x st):∃a,mg x=some (.ref a):=let ⟨f,_,_,m⟩:=D.ex;⟨f,m⟩
structure Ty(b:Tb)(top:Nat->Stmt)(ds:List Nat)(K:Frag)(mg:Qb):Prop extends Tx b K mg where
 d:AllD K mg top ds
noncomputable def scB (N P:List Str) (sc:Scope):Bool:=decide (sc.kind=.function)&&(!sc.isCoroutine&&(!sc.isGenerator&&(decide N.Nodup&&(decide (N.take P.length=P)&&(P.all (λx=>decide (sc.names.lookup x=some .local\/sc.names.lookup x=some .cell))&&sc.names.all λy=>decide (y.2 ≠ .free))))))
def au{N P:List Str}{sc:Scope}(e:scB N P sc=true):FnScope N P sc:=by simp only[scB,u_,Ou,Ni,OV] at e;obtain⟨e1,e2,e3,e4,e5,e6,e7⟩:=e;exact⟨e1,e2,e3,e4,e5,e6,e7⟩
def A1(K:Frag)(mg:Qb)(x:Str):Prop:=x∈lJ/\(∀y∈lJ,y≠x->mg y=none)/\∀f oc od fd sl,mg x=some (.ref f)->K.lookup f=some ⟨oc,od,.func fd,sl⟩->∃c P,fd.code=.ref c/\codeHdIn K c P=true
noncomputable def xJ (K:Frag) (a:Addr):Option (Addr×Addr):=match K.lookup a with
 |some ⟨_,_,.func fd,_⟩=>(match fd.code with
  |.ref c=>(match K.lookup c with
   |some ⟨_,_,.fields vs,_⟩=>(match (vs[11]?:Option Value) with
    |some (.ref P)=>if codeHdIn K c P=true then some (c,P) else none
    |_=>none)
   |_=>none)
  |_=>none)
 |_=>none
noncomputable def lamB (K:Frag) (x:Str):Bool:=lJ.contains x&&(lJ.all (λy=>y==x || uh K y)&&(ig K x&&(xJ K (adr K x)).isSome))
noncomputable def MK (K:Frag) (ts:List Addr):Bool:=lJ.all λx=>uh K x || (ig K x&&(match xJ K (adr K x) with
 |some (_,P)=>ts.contains P
 |none=>false))
noncomputable def DX (K:Frag) (ts:List Addr):Bool:=ts.all λP=>(K.lookup P).isNone&&K.any λp=>codeHdIn K p.1 P
def wW{K:Frag}{a c P:Addr}(e:xJ K a=some (c,P)):∃oc od fd sl,K.lookup a=some ⟨oc,od,.func fd,sl⟩/\fd.code=.ref c/\codeHdIn K c P=true:=by
 unfold xJ at e;split at e
 .rename_i oc od fd sl h1;split at e
  .rename_i c' h2;split at e
   .split at e
    .split at e
     .rename_i h3;cases e;exact⟨_,_,fd,_,h1,h2,h3⟩
     .cases e
    .cases e
   .cases e
  .cases e
 .cases e
def JJ{K:Frag}{c P P':Addr}(h:codeHdIn K c P=true)(h':codeHdIn K c P'=true):P=P':=by
 unfold codeHdIn at h h';split at h
 .rename_i vs hk;rw[hk] at h';simp only[u_] at h h';have a:=h.1.1.1.1.1;have b:=h'.1.1.1.1.1;split at a
  .rename_i x hx;rw[hx] at b;rw[Nr] at a b;exact a.symm.trans b
  .cases a
 .cases h
section
variable{K:Frag}{h:Heap}{mg:Qb}(X:K.In h)(G:h.Ns mainGlobals mg)
include X G
def GF{x:Str}(e:lamB K x=true):A1 K mg x:=by
 simp only[lamB,u_,Ni,OF] at e;obtain⟨e1,e2,e3,e4⟩:=e;refine⟨NK.mp e1,λy hy hne=>?_,λf oc od fd sl m lk=>?_⟩
 .rcases e2 y hy with z |z
  .exact absurd (Nr.mp z) hne
  .exact xC X G z
 .obtain⟨⟨c,P⟩,ec⟩:=Ot.mp e4;obtain⟨oc',od',fd',sl',l1,l2,l3⟩:=wW ec;have m':=ke X G e3;rw[m] at m';cases m';rw[lk] at l1;cases l1;exact⟨c,P,l2,l3⟩
def GQ{ts:List Addr}(e:MK K ts=true)(P:Addr)(q:Str)(l:LamT K mg P q):P∈ts:=by
 obtain⟨x,f,oc,od,fd,sl,c,a1,a2,a3,a4,a5,a6,_⟩:=l;have z:=Ni.mp e x a1;rw[OF] at z;rcases z with z |z
 .have:=xC X G z
  rw[a3] at this;cases this
 .rw[u_] at z;obtain⟨z1,z2⟩:=z;have m':=ke X G z1;rw[a3] at m';cases m';split at z2
  .rename_i c' P' ec;obtain⟨oc',od',fd',sl',l1,l2,l3⟩:=wW ec;rw[a4] at l1;cases l1;rw[a5] at l2;cases l2;rw[JJ a6 l3];exact NK.mp z2
  .cases z2
end
def E8{K:Frag}{ts:List Addr}{h:Heap}(e:DX K ts=true)(a:∀P∈ts,h.get? P=some (tabObj #[])):TabsOk K ts h:=by
 simp only[DX,Ni,u_,List.any_eq_true] at e;refine⟨a,λP hP=>?_,λP hP=>?_⟩
 .have:=(e P hP).1
  rw[Option.isNone_iff_eq_none] at this;exact this
 .obtain⟨p,_,q⟩:=(e P hP).2;exact⟨p.1,q⟩
structure TyL(b:Tb)(top:Nat->Stmt)(ds:List Nat)(K:Frag)(mg:Qb):Prop extends Ty b top ds K mg where
 l:A1 K mg "by_falling_weights"
section
variable{K:W.Frag}{mg:Qb}{P:Program}{w:World}{base:Heap}{fx:Str}{b_:Stmt}{k m:Nat}{ps N:List Str}{ms:List Bool}{x:PSt}
def okPL(D:Def K mg fx b_)(L:A1 K mg fx)(S:FnScope N ps (ar b_))
 (hb:∀(kV doc pm:Value) (an:Option Addr) (cdv ct:Value) (us:List Value),us.length=ps.length->bindArgs (W.fnOf fx fx (c5 b_) (bH b_) (ar b_) .none kV doc pm an cdv ct) ⟨us,[]⟩=pure (ps.zip us))
 (j':N.Nodup->∀(f:Addr) (A:Around) (outer:List Env) (s:Shared) (H:Hp) (E:XK) (c T:Addr),codeHdIn K c T=true->LamT K mg T (fx ++ ".<locals>." ++ "<lambda>")->Room k (A.deeper (envOfC fx (ar b_) s.heap.objs.size f (.ref c)))->
  DSs K mg (eE (CX1 P w) P w K mg base N fx (ar b_) f (.ref c) A outer s H E) (λ_=>E) (bH b_) x) (hn:ms.length=ps.length:=by rfl) (hm:N.length=m:=by rfl):Callee P w K mg base fx (k+1) ps (sp3 K mg (fnP ms m x)):=by
 subst hm;obtain⟨f,fd,Ff,mm⟩:=D.ex;have bd:=Ff.binds hb;have kp:=Ff.kp;obtain⟨oc,od,kV,doc,pm,an,cdv,ct,osl,rfl,lk,n_⟩:=Ff.ex;obtain⟨c,T,e1,e2⟩:=L.2.2 f _ _ _ _ mm lk;have e1:cdv=.ref c:=e1;subst e1;have LT:LamT K mg T (fx ++ ".<locals>." ++ "<lambda>"):=⟨fx,f,oc,od,_,osl,c,L.1,L.2.1,mm,lk,rfl,e2,rfl⟩;exact⟨f,_,D6 lk n_ S (λvs H Q E sp=>by rw[<- hn];exact sO sp) λA outer s H vs Q E hr sp=>⟨_,(j' S.nd f A outer s H E c T e2 LT hr).ok,tS sp⟩,mm,kp,bd,oc,od,osl,lk⟩
end
noncomputable def jb:List Val->Bv:=λvs=>match vs with
 | [.int j,.lst us]=>match fk us with
  |some ws=>if j=(ws.length:Nat)/\ws.length<64 then .new (.lst ((aM ws).map λi:Nat=>.int (i:Nat))) else .stuck
  |none=>.stuck
 |_=>.stuck
noncomputable def um:PBf:=⟨jb⟩
def Ah(ws:List Int)(h:ws.length<64):um.G [.int (ws.length:Nat),.lst (ws.map .int)]=.new (.lst ((aM ws).map λi:Nat=>.int (i:Nat))):=by show jb [.int (ws.length:Nat),.lst (ws.map .int)]=_;unfold jb;dsimp only;rw[bp];dsimp only;rw[if_pos ⟨rfl,h⟩]
section
variable{K:W.Frag}{mg:Qb}{Y N0:Addr->Prop}{ns:Ns}{e:E3}{σ:St}{H H2:Hp}{P:Addr}{q:Str}{ps:Array Value}{pos:Pos}
def Lp(S:Sat K mg Y N0 ns e σ H)(g:yh H H2 P q ps pos)(hT:LamT K mg P q)(hP:H P=some (.tbl ps)):Sat K mg Y N0 ns e σ H2/\Stp ns e H ns e H2:=by
 rcases g with rfl |⟨c',hc,am,rfl⟩
 .exact⟨S,.refl⟩
 .have nPc:P≠c':=bS hP hc;have at_:∀b,b≠P->b≠c'->upd (upd H P (.tbl (ps++#[rawInt pos.line,rawInt pos.col,.ref c']))) c' (.ext (fJ c' q)) b=H b:=λb n1 n2=>by rw[aA n2,aA n1]
  have atP:upd (upd H P (.tbl (ps++#[rawInt pos.line,rawInt pos.col,.ref c']))) c' (.ext (fJ c' q)) P=some (.tbl (ps++#[rawInt pos.line,rawInt pos.col,.ref c'])):=by rw[aA nPc,aF]
  have nc:∀b u,H b=some u->b≠c':=λb u e=>bS e hc;have kp:∀b u,H b=some u->nK u->upd (upd H P (.tbl (ps++#[rawInt pos.line,rawInt pos.col,.ref c']))) c' (.ext (fJ c' q)) b=some u:=λb u e n=>by rw[at_ b (λz=>by rw[z,hP] at e;cases e;exact n _ rfl) (nc b _ e)];exact e
  have l:LeH H (upd (upd H P (.tbl (ps++#[rawInt pos.line,rawInt pos.col,.ref c']))) c' (.ext (fJ c' q))):=⟨λb xs e=>kp b _ e λ_ z=>(nomatch z),λb o u e=>kp b _ e λ_ z=>(nomatch z),λb φ e=>kp b _ e λ_ z=>(nomatch z)⟩;have dom:∀a,upd (upd H P (.tbl (ps++#[rawInt pos.line,rawInt pos.col,.ref c']))) c' (.ext (fJ c' q)) a=none->H a=none:=λa z=>by
   by_cases z1:a=c'
   .subst z1;exact hc
   .by_cases z2:a=P
    .subst z2;rw[atP] at z;cases z
    .rw[at_ a z2 z1] at z;exact z
  have mv:Mov (Oc Y ns) (Oc Y ns) H (upd (upd H P (.tbl (ps++#[rawInt pos.line,rawInt pos.col,.ref c']))) c' (.ext (fJ c' q))):=⟨l,λa o p e n=>⟨p,kp a o e n⟩⟩;refine⟨⟨S.l1,S.l2,λa z=>S.lh a (dom a z),λa z=>?_,S.inj,S.nx,λi s qi=>(S.sl i s qi).mono mv λj o _ e f=>kp j o e f.nt,λP' q' l'=>?_⟩,⟨l,dom,λm o e n _=>kp m o e n,λ_ _ q=>.inl q,λ_ _ q _=>⟨q,rfl⟩,λ_ _ q _=>⟨q,rfl⟩,λ_ _ q=>⟨_,q,rfl⟩,λ_ _ q=>⟨_,q,rfl⟩⟩⟩
  .obtain⟨o,z⟩:=S.xl a z;cases y:upd (upd H P (.tbl (ps++#[rawInt pos.line,rawInt pos.col,.ref c']))) c' (.ext (fJ c' q)) a with
   |none=>rw[dom a y] at z;cases z
   |some u=>exact⟨u,rfl⟩
  .obtain⟨⟨ps',t2,t3,t4⟩,bm⟩:=S.bs P' q' l';refine⟨?_,DN bm l⟩;have eq:=hT.one l';by_cases z:P'=P
   .subst z;rw[hP] at t2;cases t2;refine⟨_,atP,?_,λl_ cv e=>?_⟩
    .rw[Array.toList_append];exact TriplesOk_snoc _ _ _ _ t3
    .rw[Array.toList_append] at e;rcases xY _ t3 e with z |rfl
     .obtain⟨c,e1,e2⟩:=t4 l_ cv z;exact⟨c,e1,l.ext _ _ e2⟩
     .exact⟨c',rfl,by rw[aF,eq]⟩
   .exact⟨ps',by rw[at_ P' z (nc P' _ t2)];exact t2,t3,λl_ cv e=>by obtain⟨c,e1,e2⟩:=t4 l_ cv e;exact⟨c,e1,l.ext _ _ e2⟩⟩
variable{X:Cx}{ES:St->XK}{a:Expr}{p:PEx}{iW:Nat}{c:Addr}{q1 q2 q6 q7 q8 q9 p0 p1 p2 p3 p4 p5 p6:Pos}
def Fn(hc:X.calm=true)(hdp:X.A.depth<recursionLimit)(hl:Gl X "sorted")(hml:mg "sorted"=none)(hg:Gl X "range")(hm:mg "range"=none)(hN:X.N[iW]?=some "weights")(hv:X.env.scope.names.lookup ("weights" : Str)=some .cell)(n_:X.env.code=.ref c)(hh:W.codeHdIn K c P=true)(hT:LamT K mg P (X.env.qual ++ "<lambda>"))(ha:DE K mg X ES a p)(hK:X.K=K:=by rfl)(hk:X.mg=mg:=by rfl)(hs:starEach [a] X.env=[(false,eval a X.env)]:=by rfl):
 DE K mg X ES (.Call (.Name "sorted" q1) [.Call (.Name "range" q2) [a] [] q6] [⟨some "key",.Lambda (ff p0) (eB p1 p2 p3 p4 p5 p6) bo q7,q8⟩] q9) (pFn um (aa p (aa (af iW) ag))):=by
 subst hK hk;refine⟨PE.imp (FG hc hdp hl hml hg hm (bJ ha rV hs).ok hN hv n_ hh hs) λσ H Q zz=>zz.el λY N0 L ns e S hL p3=>⟨Y,N0,ns,e,S,?_⟩⟩;replace p3:PG3 X.K X.mg Y N0 ns e σ H (ES σ) (KE X.K X.mg Y N0 L σ Q) ((mU p.G (mU (eF iW) nL) e).bind λts e1=>match rss e1 ts with
  |some vs=>(jb vs).at e1
  |none=>.stuck):=p3
 show PG3 X.K X.mg Y N0 ns e σ H (ES σ) _ (mU p.G nL e);unfold mU at p3 ⊢;cases q0:p.G e with
 |stuck=>rw[q0] at p3;exact p3.elim
 |exc c e'=>rw[q0] at p3;exact p3
 |
  ok t e1=>
  rw[q0] at p3;intro H1 ns1 a1 S1 vs rts;replace p3:PG3 X.K X.mg Y N0 ns e σ H (ES σ) (KE X.K X.mg Y N0 L σ Q) (((eF iW e1).bind λt2 e2=>.ok (t.drop::[t2.drop]) e2).bind λts e1=>match rss e1 ts with
   |some vs=>(jb vs).at e1
   |none=>.stuck):=by
   refine Eq.mp ?_ p3;congr 1;show (R3.bind (R3.bind (R3.bind (eF iW e1) _) _) _)=_;cases eF iW e1 <;> rfl
  have f_:∀t2,eF iW e1=.ok t2 e1->(∀v,rs e1 t2.drop=some v->∃d,σ[iW]?=some (some d)/\ShR X.K X.mg (Oc Y ns1) H1 d v)->yp X.K X.mg P (X.env.qual ++ "<lambda>") q7 σ[iW]? vs H1 Q:=λt2 e2 hd=>by
   rw[e2] at p3;replace p3:PG3 X.K X.mg Y N0 ns e σ H (ES σ) (KE X.K X.mg Y N0 L σ Q) (match rss e1 [t.drop,t2.drop] with
    |some vs=>(jb vs).at e1
    |none=>.stuck):=p3
   unfold rss at p3;split at p3
   .rename_i vs' hvs;split at hvs
    .rename_i v1 vr hv1 hvr;cases hvs;unfold rss at hvr;split at hvr
     .rename_i v2 vr2 hv2 hvr2;cases hvr;cases hvr2;obtain⟨d,sd,rd⟩:=hd v2 hv2;have r1:=TsR.sh (ts:=[t.drop]) (vs:=[v1]) S1 rts (by unfold rss;rw[hv1];rfl);obtain⟨x,rfl,rx⟩:=cW r1;unfold jb at p3;split at p3
      .rename_i j us he;cases he;split at p3
       .rename_i ws hws;split at p3
        .rename_i hb;obtain rfl:=rx.int;obtain⟨b,ds,rfl,h,qq⟩:=rd.lst;obtain rfl:=me qq hws;obtain⟨⟨ps,t2,t3,t4⟩,bm⟩:=S1.bs P _ hT;refine⟨b,ws,ps,by rw[hb.1],sd,SqL.of h,hb.2,t2,t3,t4,bm,λH2 l g hl2=>?_⟩;obtain⟨S2,a2⟩:=Lp S1 g hT t2;exact PG3.bv (b:=.new (.lst ((aM ws).map λi:Nat=>.int (i:Nat)))) (p3.after S (a1.trans S a2)) S2 (λa z=>hL a (a1.dom a (a2.dom a z))) H2 l _ .refl hl2 trivial (.lst (kq _))
        .exact p3.elim
       .exact p3.elim
      .exact p3.elim
     .cases hvr
    .cases hvs
   .exact p3.elim
  unfold eF at p3;cases q1:e1[iW]? with
  |none=>rw[q1] at p3;exact p3.elim
  |
   some s=>
   have fb:∀u,s.val=some u->(∀v,s ≠ .sh v)->yp X.K X.mg P (X.env.qual ++ "<lambda>") q7 σ[iW]? vs H1 Q:=λu hu hn=>f_ (.bor iW) (by
    unfold eF;rw[q1];cases s <;> first |rfl |cases hu;done |exact absurd rfl (hn _)) λv hv=>by
    have y:=S1.sl iW s q1;have:∃x,σ[iW]?=some (some x):=by
     cases s with
     |no=>cases hu
     |sh v=>exact absurd rfl (hn v)
     |ow v=>obtain⟨m,_,_,y,_⟩:=y;exact⟨_,y⟩
     |lo v=>obtain⟨m,_,_,y,_⟩:=y;exact⟨_,y⟩
     |mu v=>obtain⟨m,_,_,y,_⟩:=y;exact⟨_,y⟩
     |lm v=>obtain⟨m,_,_,y,_⟩:=y;exact⟨_,y⟩
    obtain⟨x,hx⟩:=this;exact⟨x,hx,S1.bor hx hv⟩
   cases s with
   |no=>rw[q1] at p3;exact p3.elim
   |sh v=>exact f_ (.val v) (by unfold eF;rw[q1]) λu hu=>by cases hu;obtain⟨_,x,e1,r⟩:=S1.sl iW _ q1;exact⟨x,e1,.inl r⟩
   |ow v=>exact fb v rfl λ_ z=>nomatch z
   |lo v=>exact fb v rfl λ_ z=>nomatch z
   |mu v=>exact fb v rfl λ_ z=>nomatch z
   |lm v=>exact fb v rfl λ_ z=>nomatch z
end
def M1{P:Program}{w:World}{K:W.Frag}{mg:Qb}{base:Heap}{x y:Str}{k:Nat}{ts:List Addr}(p:PFn)(C:Callee P w K mg base x k [y] (sp3 K mg p))(hT:∀P q,LamT K mg P q->P∈ts)(hm:p.ms=[false])(hG:∀ns:List Int,ns.length<=63->p.G [.kl (ns.map .int)]=.ok (.val (.bl true)) []):
 Callee P w K mg base x k [y] (spT K mg ts):=C.imp λvs H Q E ⟨a,ns,e,hO,hq,hl,ht,hB,q⟩=>by
 subst e;refine⟨λ_=>False,[none],[.kl (ns.map .int)],by rw[hm];rfl,?_,?_⟩
 .rw[hm];have rd:Rd K mg (Oc (λ_=>False) [none]) H (.ref a) (.kl (ns.map .int)):=by
   rcases hq with (hq |⟨o,hq⟩) |hq
   .rcases hO a with z |⟨o,xs,z⟩ |z <;> rw[hq] at z <;> cases z
   .exact .cell ⟨λz=>z,by simp⟩ hq (.fz (oC ns))
   .exact .kl hq (oC ns)
  refine⟨rfl,rfl,λ_ z=>z,λ_ z=>z.elim,λi j n q=>?_,λi n q z=>z,λi s q=>?_,λP q l=>⟨⟨#[],ht P (hT P q l),trivial,λpos cv z=>by cases z⟩,hB⟩⟩
  .cases i with
   |zero=>simp at q
   |succ i=>simp at q
  .cases i with
   |
    zero=>
    have:sl1 false (.kl (ns.map .int))=s:=by simpa [sls] using q
    subst this;exact⟨rfl,_,rfl,rd⟩
   |succ i=>simp [sls] at q
 .rw[hG ns hl];intro x H' _ rr;rw[ShR.bl (.inl rr.2)];exact q H'
def eL(xs:List Val)(n:Nat):gL xs none (some (n:Int))=xs.take n:=by
 unfold gL;rw[HT.sIx_none,HT.sIx_nat,P0,Nat.sub_zero];by_cases h:n<=xs.length
 .rw[Nat.min_eq_left h]
 .rw[Nat.min_eq_right (by omega),NS (s_ _),NS (by omega)]
def eT(xs:List Val)(n:Nat):gL xs (some (n:Int)) none=xs.drop n:=by
 unfold gL;rw[HT.sIx_none,HT.sIx_nat];by_cases h:n<=xs.length
 .rw[Nat.min_eq_left h,NS (by rw[Nj];exact s_ _)]
 .rw[Nat.min_eq_right (by omega),OT (s_ _),OT (by omega),Pl]
def dU(xs:List Val)(lo hi:Option Int):aSl (.lst xs) lo hi=.new (.lst (gL xs lo hi)):=rfl
def Mz(xs:List Val)(lo hi:Option Int):aSl (.kl xs) lo hi=.new (.lst (gL xs lo hi)):=rfl
@[irreducible] def gtX(a:PGt):PGt:=a
def g_x(a:PGt)(v:Val)(e:E3):(gtX a).G v e=a.G v e:=by unfold gtX;rfl
def ZG.weak{K:W.Frag}{mg:Qb}{X:Cx}{e:PySem.Expr}{g:PGt}(h:DG K mg X e g):DG K mg X e (gtX g):=by unfold gtX;exact h
noncomputable def ju (lo:Int) (k:Nat):List Val:=(List.range k).map λi=>Val.int (lo-(i:Nat))
def wY:List Val->Option (List Val)
 | [.int i,.int j,.int k]=>@ite _ (k=-1/\RgB i/\RgB j) (Classical.propDecidable _) (some (ju i (i-j).toNat)) none
 |_=>none
def w6(a:PAs):PIt:=⟨9,BS wY a.G⟩
theorem D9(a:PAs)(e:E3):(w6 a).G e=(a.G e).bind λts e1=>match (rss e1 ts).bind wY with
 |some xs=>.ok (xs,none) e1
 |none=>.stuck:=rfl
def Kr{i j:Int}(hi:RgB i)(hj:RgB j):wY [.int i,.int j,.int (-1)]=some (ju i (i-j).toNat):=if_pos ⟨rfl,hi,hj⟩
noncomputable def l7:List Val->Bv:=λvs=>match vs with
 | [.tup xs]=>(match fk xs with
  |some bs=>if bs≠[] then .val (.int (mxI bs)) else .stuck
  |none=>.stuck)
 |_=>.stuck
noncomputable def m8:PBf:=⟨l7⟩
def IF{ns:List Int}(h:ns≠[]):m8.G [.tup (ns.map .int)]=.val (.int (mxI ns)):=by show l7 [.tup (ns.map .int)]=_;unfold l7;dsimp only;rw[bp];exact if_pos h
def FL{K:W.Frag}{mg:Qb}:cG K mg (Eg K) m8.G:=λP H xs vs Q r0 p=>by
 replace p:BvP K mg P H Q (l7 vs):=p;unfold l7 at p;split at p
 .obtain⟨d,rfl,r⟩:=cW r0;obtain⟨a,ys,rfl,h,q⟩:=r.tup;split at p
  .rename_i bs e;split at p
   .rename_i hb;exact⟨a,bs,rfl,me q e ▸ h,hb,bv p (.int _)⟩
   .exact p.elim
  .exact p.elim
 .exact p.elim
noncomputable def Mp (F A B:ME3) (e:E3):R3 Tm:=(F e).bind λt e1=>match rs e1 t with
 |some (.dct _)=>(A e1).bind λt2 e2=>(B e2).bind λt3 e3=>(match rs e3 t.drop,rs e3 t2.drop,t3 with
  |some (.dct kvs),some (.str k),.val v=>.ok (.val ((lkD kvs (.inr k)).getD v)) e3
  |_,_,_=>.stuck)
 |_=>.stuck
noncomputable def xk (a b c:PEx):PEx:=⟨41,Mp a.G b.G c.G⟩
theorem IL(e:E3)(a b c:PEx):(xk a b c).G e=(a.G e).bind λt e1=>match rs e1 t with
 |some (.dct _)=>(b.G e1).bind λt2 e2=>(c.G e2).bind λt3 e3=>(match rs e3 t.drop,rs e3 t2.drop,t3 with
  |some (.dct kvs),some (.str k),.val v=>.ok (.val ((lkD kvs (.inr k)).getD v)) e3
  |_,_,_=>.stuck)
 |_=>.stuck:=rfl
section
variable{K:W.Frag}{mg:Qb}{P:Addr->Prop}{H:Hp}{ws:List (Key×V)}{us:List (Key×Val)}{k:Key}
def Mv(r:Rk K mg P H ws us):lkD us k=none->lkD ws k=none:=
 r.ind (M:=λws us=>lkD us k=none->lkD ws k=none) (λ_=>rfl) (λ{k2 d v2 ds vs} r _ ih q=>by
  unfold lkD at q ih ⊢;rw[NO] at q ⊢;dsimp only at q ⊢;by_cases hk:k2=k
  .rw[Em hk] at q;cases q
  .rw[w_ hk] at q ⊢;exact ih q)
end
section
variable{K:W.Frag}{mg:Qb}{X:Cx}{ES:St->XK}{tg a b c:Expr}{p q r:PEx}{p0 pos apos cpos:Pos}{A:PAs}
def MR{P:Addr->Prop}{H:Hp}{xs:List V}{u v w:Val}(r:ShRs K mg P H xs [u,v,w]):∃x y z,xs=[x,y,z]/\ShR K mg P H x u/\ShR K mg P H y v/\ShR K mg P H z w:=by cases r with |cons r rr=>cases rr with |cons r' rr=>cases rr with |cons r'' rr=>cases rr;exact⟨_,_,_,rfl,r,r',r''⟩
def Ao(hg:Gl X "range")(hm:mg "range"=none)(ha:DA K mg X ES [a,b,c] A)(hk:X.mg=mg:=by rfl)(hs:starEach [a,b,c] X.env=[(false,eval a X.env),(false,eval b X.env),(false,eval c X.env)]:=by rfl)(hs2:starEach [b,c] X.env=[(false,eval b X.env),(false,eval c X.env)]:=by rfl):DI K mg X ES tg (.Call (.Name "range" p0) [a,b,c] [] pos) (w6 A):=by
 subst hk;exact
  ⟨PI.imp (yz hg hm ha.ok hs hs2) λσ H R zz=>rdI.el zz λY N0 ns e S q=>⟨Y,N0,ns,e,S,PG3.imp q S λts e1 ns1 H1 a1 S1 p1 xs r1=>by
  try dsimp only at p1
  split at p1
  .rename_i us z;obtain⟨vs,z1,z2⟩:=Nm.mp z;have rr:=r1.sh S1 z1;unfold wY at z2;split at z2
   .split at z2
    .rename_i hb;obtain⟨rfl,hb⟩:=hb;cases z2;obtain⟨x,y,z,rfl,r,r',r''⟩:=MR rr;obtain rfl:=r.int;obtain rfl:=r'.int;obtain rfl:=r''.int;exact⟨_,_,rfl,⟨hb.1.lo,hb.1.hi,hb.2.lo,hb.2.hi⟩,p1.ret S1 _ (ItS.nums (λi H hi=>⟨hi,λx H' z=>z⟩) λH=>s_ _) λ_ z=>nomatch z⟩
    .cases z2
   .cases z2
  .exact p1.elim⟩⟩
def BW(hu:X.A.units+1<cLine)(ha:DE K mg X ES a p)(hb:DE K mg X ES b q)(hc:DE K mg X ES c r)(m1:attributeBase a "get" X.env (eval a X.env)=eval a X.env:=by rfl)(m2:((backTo cpos (starEach [b,c] X.env)).all (λx=>!x.1)&&(backToKw cpos (keywordEach [] X.env)).all (λx=>x.1.isSome)&&decide (([b,c]:List Expr).length+([]:List Keyword).length+(if ([]:List Keyword).isEmpty then 0 else 1)<30))=true:=by rfl)(m3:(apos.endLine==cpos.line)=true:=by rfl)(m4:backTo cpos (starEach [b,c] X.env)=[(false,eval b X.env),(false,eval c X.env)]:=by rfl):DE K mg X ES (.Call (.Attribute a "get" apos) [b,c] [] cpos) (xk p q r):=
 ⟨PE.imp (Cg hu ha.ok hb.ok hc.ok ⟨m1,m2,m3,m4⟩) λσ H Q zz=>zz.el λY N0 L ns e S hl p0=>
 ⟨Y,
  N0,L,ns,e,S,hl,PG3.imp p0 S λt1 e1 ns1 H1 a1 S1 p1 x r1=>by
  try dsimp only at p1
  split at p1
  .rename_i kvs0 q0;obtain⟨d,ws0,rfl,h0,_⟩:=(r1.sh S1 q0).dct;refine⟨d,rfl,.inl ⟨ws0,.inl h0⟩,Y,N0,L,ns1,e1,S1,λa z=>hl a (a1.dom a z),PG3.imp p1 S1 λt2 e2 e_ H2 a2 S2 p2 y r2=>?_⟩;refine⟨Y,N0,L,e_,e2,S2,λa z=>hl a (a1.dom a (a2.dom a z)),PG3.imp p2 S2 λt3 e3 ns3 H3 a3 S3 p3 z r3=>?_⟩;try dsimp only at p3
   split at p3
   .rename_i kvs k v q1 q2;obtain⟨d',ws,e',h,rk⟩:=((r1.drop (a2.trans S1 a3)).sh S3 q1).dct;cases e';obtain rfl:=((r2.drop a3).sh S3 q2).str;cases hk:lkD kvs (.inr k) with
    |none=>rw[hk] at p3;exact⟨none,.inl ⟨ws,.inr k,.inl h,rfl,(Mv rk hk).symm⟩,p3.ret S3 _ r3⟩
    |some u=>rw[hk] at p3;obtain⟨du,q4,rd⟩:=xZ rk hk;exact⟨some du,.inl ⟨ws,.inr k,.inl h,rfl,q4.symm⟩,p3.ret S3 _ rd⟩
   .exact p3.elim
  .exact p1.elim⟩⟩
end
end L3
namespace Wb
open L2
noncomputable def lc (qs:List Rat) (c:Nat):Nat:=qs.foldl (λc q=>Nat.lcm c q.den) c
noncomputable def wh (L:Nat) (qs:List Rat):List Int:=qs.map λq=>q.num*((L/q.den:Nat):Int)
noncomputable def ws (qs:List Rat):List Int:=wh (lc qs 1) qs
end Wb
namespace L3
open PySem L2
noncomputable def aD (b:Bx):Rat:=if b.w<b.h then b.h/b.w else b.w/b.h
noncomputable def shL (s l:Rat) (W:Int):Int->List Int->List (Rat×Rat)
 |_,[]=>[]
 |a,w::ws=>(s+l*((a:Rat)/(W:Rat)),l*((w:Rat)/(W:Rat)))::shL s l W (a+w) ws
theorem iM(s l:Rat)(W:Int):∀(ws:List Int) (a:Int),(shL s l W a ws).length=ws.length
 | [],_=>rfl
 |w::ws,a=>by unfold shL;rw[F_,F_,iM s l W ws (a+w)]
noncomputable def aT (b:Bx) (way:Str) (ws:List Int):List Bx:=if way="across" then (shL b.l b.w ws.sum 0 ws).map λp=>⟨p.1,b.t,p.2,b.h⟩ else (shL b.t b.h ws.sum 0 ws).map λp=>⟨b.l,p.1,b.w,p.2⟩
theorem eK:∀{l:List Int},(∀w∈l,1<=w)->(l.length:Int)<=l.sum
 | [],_=>by simp
 |
  x::l,h=>by
  rw[Nq,F_]
  have:=h x (t_ ..)
  have:=eK (l:=l) λw hw=>h w (r_ _ hw)
  omega
theorem wb:∀(ws:List Int) (a:Int),0<=a->(∀w∈ws,1<=w)->a+ws.sum<=W->p∈shL s l W a ws->∃a' w:Int,0<=a'/\a'<=W/\1<=w/\w<=W/\p=(s+l*((a':Rat)/(W:Rat)),l*((w:Rat)/(W:Rat)))
 | [],_,_,_,_,h=>nomatch h
 |
  w::ws,a,ha,hw,hs,h=>by
  have h1:=hw w (t_ ..);have h2:=eK (l:=ws) λx hx=>hw x (r_ _ hx);rw[Nq] at hs;unfold shL at h;rcases G_.mp h with rfl |h
  .exact⟨a,w,ha,by omega,h1,by omega,rfl⟩
  .exact wb ws (a+w) (by omega) (λx hx=>hw x (r_ _ hx)) (by omega) h
noncomputable def liV (l:List Int):Val:=.lst (l.map .int)
noncomputable def wsAt (ws:List Int) (i:Int):Int:=ws.getD i.toNat 0
noncomputable def wt (ws l:List Int):Int:=(l.map (wsAt ws)).sum
noncomputable def mx (x y:Rat):Rat:=if x<y then y else x
open PySem PySem.Spec PyProof.Rows L2
inductive AT where
 |lf (k:Nat)
 |nd (w:Bool) (ts:List AT)
noncomputable def wy (w:Bool):Str:=if w=true then "across" else "down"
def AT.ind{P:AT->Prop}(h1:∀k,P (.lf k))(h2:∀w ts,(∀t∈ts,P t)->P (.nd w ts))(t:AT):P t:=
 @AT.rec P (λts=>∀t∈ts,P t) h1 (λw ts ih=>h2 w ts ih) (λt h=>nomatch h) (λt ts i1 i2 u hu=>by
  rcases G_.mp hu with rfl |hu
  .exact i1
  .exact i2 u hu) t
mutual
def AT.val(f:Nat->Val):AT->Val
 |.lf k=>f k
 |.nd w ts=>.tup [.str (wy w),.tup (AT.vals f ts)]
def AT.vals(f:Nat->Val):List AT->List Val
 | []=>[]
 |t::ts=>AT.val f t::AT.vals f ts
end
mutual
def AT.lvs:AT->List Nat
 |.lf k=>[k]
 |.nd _ ts=>AT.lvsL ts
def AT.lvsL:List AT->List Nat
 | []=>[]
 |t::ts=>AT.lvs t++AT.lvsL ts
end
mutual
def AT.dep:AT->Nat
 |.lf _=>1
 |.nd _ ts=>AT.depL ts+1
def AT.depL:List AT->Nat
 | []=>0
 |t::ts=>max (AT.dep t) (AT.depL ts)
end
mutual
def AT.ok:AT->Bool
 |.lf _=>true
 |.nd _ ts=>decide (2<=ts.length)&&AT.okL ts
def AT.okL:List AT->Bool
 | []=>true
 |t::ts=>AT.ok t&&AT.okL ts
end
theorem AT.vals_map(f:Nat->Val):∀ts,AT.vals f ts=ts.map (AT.val f)
 | []=>rfl
 |t::ts=>by rw[AT.vals,AT.vals_map f ts];rfl
theorem AT.lvsL_mem:∀{ts:List AT},x∈AT.lvsL ts ↔ ∃t∈ts,x∈t.lvs
 | []=>by simp [AT.lvsL]
 |t::ts=>by rw[AT.lvsL,Om,AT.lvsL_mem (ts:=ts)];simp
theorem AT.lvsL_flat:∀ts:List AT,AT.lvsL ts=(ts.map AT.lvs).flatten
 | []=>rfl
 |t::ts=>by rw[AT.lvsL,AT.lvsL_flat ts];rfl
theorem AT.depL_le:∀{ts:List AT},AT.depL ts<=m ↔ ∀t∈ts,t.dep<=m
 | []=>by simp [AT.depL]
 |t::ts=>by rw[AT.depL,Nat.max_le,AT.depL_le (ts:=ts)];simp
theorem AT.okL_mem:∀{ts:List AT},AT.okL ts=true ↔ ∀t∈ts,t.ok=true
 | []=>by simp [AT.okL]
 |t::ts=>by rw[AT.okL,u_,AT.okL_mem (ts:=ts)];simp
noncomputable def wd (w b:Bool):Str:=if w=true then (if b=true then "left" else "right") else (if b=true then "above" else "below")
def vy{t:AT}(h:t.ok=true):1<=t.lvs.length:=by
 induction t using AT.ind with
 |h1 k=>simp [AT.lvs]
 |
  h2 w ts ih=>
  rw[AT.ok,u_] at h;cases ts with
  |nil=>exact absurd h.1 (by decide)
  |
   cons t ts=>
   have:=ih t (t_ ..) (AT.okL_mem.mp h.2 t (t_ ..))
   rw[AT.lvs,AT.lvsL,J_];omega
theorem sq{α β:Type}{f:α->List β}:∀{l:List α},(∀a∈l,1<=(f a).length)->l.length<=((l.map f).flatten).length
 | [],_=>s_ _
 |
  a::l,h=>by
  have h1:=h a (t_ ..);have h2:=sq (l:=l) λb hb=>h b (r_ _ hb);rw[v_,N_,J_,F_];omega
noncomputable def lfV:Val->Bool
 |.int _=>true
 |.str _=>true
 |_=>false
def xN(v:Val)(l:List Val):atI (v::l) 0=some v:=bj (by decide) rfl
noncomputable def inB (x:Nat) (t:AT):Bool:=decide (x∈t.lvs)
noncomputable def itV (l:List Nat):Val:=.lst (l.map λk:Nat=>.int k)
structure TOk(t:AT)(l:List Nat):Prop where
 ok:t.ok=true
 mem:∀k,k∈t.lvs ↔ k∈l
 dep:t.dep<=l.length
 len:t.lvs.length=l.length
noncomputable def atV (t:AT):Val:=t.val λk=>.int (k:Nat)
mutual
def AT.cnt:AT->Nat
 |.lf _=>1
 |.nd _ ts=>AT.cntL ts+1
def AT.cntL:List AT->Nat
 | []=>0
 |t::ts=>AT.cnt t+AT.cntL ts
end
theorem AT.cntL_app:∀(a b:List AT),AT.cntL (a++b)=AT.cntL a+AT.cntL b
 | [],b=>by simp [AT.cntL]
 |t::a,b=>by rw[Po,AT.cntL,AT.cntL,AT.cntL_app a b];omega
theorem AT.lvsL_app:∀(a b:List AT),AT.lvsL (a++b)=AT.lvsL a++AT.lvsL b
 | [],b=>by simp [AT.lvsL]
 |t::a,b=>by rw[Po,AT.lvsL,AT.lvsL,AT.lvsL_app a b,OX]
def ma(xs:List Val)(x:Val):qN.G (.lst (xs++[x])) []=some (.lst xs,x):=by show uI (.lst (xs++[x])) []=_;unfold uI;dsimp only;rw[J_,Pt,Nat.add_sub_cancel,OK (s_ _),Nat.sub_self,List.dropLast_concat];rfl
theorem AT.cnt_le:∀{ts:List AT}{t:AT},t∈ts->t.cnt<=AT.cntL ts
 | [],t,h=>nomatch h
 |
  u::ts,t,h=>by
  rw[AT.cntL];rcases G_.mp h with rfl |h
  .omega
  .have:=AT.cnt_le h;omega
def AT.lvs_le(h:t∈ts):t.lvs.length<=(AT.lvsL ts).length:=by rw[AT.lvsL_flat];exact List.Sublist.length_le (List.sublist_flatten_of_mem (PZ (f:=AT.lvs) h))
noncomputable def wtA (ws:List Int) (l:List Nat):Int:=(l.map λk=>ws.getD k 0).sum
noncomputable def wtT (ws:List Int) (t:AT):Int:=wtA ws t.lvs
mutual
def AT.bx(ws:List Int):AT->Bx->List (Nat×Bx)
 |.lf k,b=>[(k,b)]
 |.nd w ts,b=>AT.bxL ws ts (aT b (wy w) (ts.map (wtT ws)))
def AT.bxL(ws:List Int):List AT->List Bx->List (Nat×Bx)
 |t::ts,b::bs=>AT.bx ws t b++AT.bxL ws ts bs
 |_,_=>[]
end
mutual
def AT.lay(ws:List Int)(n m:Nat):AT->Bx->Prop
 |.lf _,b=>b.Ok/\b.Sz n
 |.nd w ts,b=>b.Ok/\b.Sz n/\ts≠[]/\ts.length<=40/\(∀t∈ts,1<=wtT ws t)/\Sm m (ts.map (wtT ws)).sum/\AT.layL ws n m ts (aT b (wy w) (ts.map (wtT ws)))
def AT.layL(ws:List Int)(n m:Nat):List AT->List Bx->Prop
 |t::ts,b::bs=>AT.lay ws n m t b/\AT.layL ws n m ts bs
 |_,_=>True
end
noncomputable def cT (kvs:List (Key×Val)) (l:List (Nat×Bx)):List (Key×Val):=l.foldl (λkvs p=>eV kvs (.inl (p.1:Nat)) (bV p.2)) kvs
def Dm(kvs:List (Key×Val))(a b:List (Nat×Bx)):cT kvs (a++b)=cT (cT kvs a) b:=by unfold cT;rw[List.foldl_append]
def Dq(h:a.Perm b):wtA ws a=wtA ws b:=by
 unfold wtA;induction h with
 |nil=>rfl
 |cons x _ ih=>rw[v_,v_,Nq,Nq,ih]
 |swap x y l=>simp only[v_,Nq];omega
 |trans _ _ h1 h2=>rw[h1,h2]
theorem tZ(ws:List Int):∀ts:List AT,wtA ws (AT.lvsL ts)=(ts.map (wtT ws)).sum
 | []=>rfl
 |
  t::ts=>by
  rw[AT.lvsL,v_,Nq,<- tZ ws ts];unfold wtT wtA;rw[NC,OS]
def Ck(kvs:List (Key×Val))(k:Key)(v:Val):(eV kvs k v).length<=kvs.length+1:=by
 unfold eV;split
 .rw[p_];omega
 .rw[J_];exact s_ _
theorem rn:∀(l:List (Nat×Bx)) (kvs:List (Key×Val)),(cT kvs l).length<=kvs.length+l.length
 | [],kvs=>s_ _
 |
  p::l,kvs=>by
  have h1:=Ck kvs (.inl (p.1:Nat)) (bV p.2);have h2:=rn l (eV kvs (.inl (p.1:Nat)) (bV p.2));unfold cT at h2 ⊢;rw[O8,F_];omega
def AT.bx_fst(ws:List Int)(t:AT):∀b,(AT.bx ws t b).length<=t.lvs.length/\∀p∈AT.bx ws t b,p.1∈t.lvs:=by
 induction t using AT.ind with
 |h1 k=>intro b;simp [AT.bx,AT.lvs]
 |
  h2 w ts ih=>
  intro b;rw[AT.bx,AT.lvs];generalize aT b (wy w) (ts.map (wtT ws))=bs;induction ts generalizing bs with
  |nil=>simp [AT.bxL]
  |
   cons t ts ih2=>
   cases bs with
   |nil=>simp [AT.bxL]
   |
    cons b bs=>
    obtain⟨h1,h2⟩:=ih t (t_ ..) b;obtain⟨h3,h4⟩:=ih2 (λu hu=>ih u (r_ _ hu)) bs;rw[AT.bxL,AT.lvsL,J_,J_];refine⟨by omega,λp hp=>?_⟩;rcases Om.mp hp with hp |hp
    .exact PF _ (h2 p hp)
    .exact Nn _ (h4 p hp)
def AK(kvs:List (Key×Val))(k k':Key)(v:Val):lkD (eV kvs k v) k'=if k=k' then some v else lkD kvs k':=by
 unfold eV;induction kvs with
 |
  nil=>
  rw[if_neg (by simp)];unfold lkD;by_cases h:k=k'
  .simp [h]
  .simp [h]
 |
  cons p kvs ih=>
  obtain⟨pk,pv⟩:=p;by_cases hp:pk=k
  .subst
    hp
   rw[if_pos (by simp)];by_cases h:pk=k'
   .subst h;simp [lkD]
   .rw[if_neg h];rw[if_neg h] at ih;simp only[v_,OO];unfold lkD;simp only[NO,w_ h];by_cases ha:(kvs.any λkv=>decide (kv.1=pk))=true
    .rw[if_pos ha] at ih;unfold lkD at ih;exact ih
    .have:(kvs.map λkv=>if kv.1=pk then (kv.1,v) else kv)=kvs:=by
      conv=>rhs;rw[<- List.map_id kvs]
      refine PX λq hq=>?_;rw[if_neg]
      .rfl
      .intro z;exact ha (List.any_eq_true.mpr ⟨q,hq,Em z⟩)
     rw[this]
  .by_cases ha:(kvs.any λkv=>decide (kv.1=k))=true
   .rw[if_pos ha] at ih;rw[if_pos (by rw[N7,ha,Bool.or_true])];simp only[v_,if_neg hp];by_cases h:pk=k'
    .subst h;rw[if_neg (λz=>hp z.symm)];simp [lkD]
    .unfold lkD at ih ⊢;simp only[NO,w_ h];exact ih
   .rw[if_neg ha] at ih;rw[if_neg (by rw[N7,w_ hp,Bool.false_or];exact ha)];rw[Po];by_cases h:pk=k'
    .subst h;rw[if_neg (λz=>hp z.symm)];simp [lkD]
    .unfold lkD at ih ⊢;simp only[NO,w_ h];exact ih
noncomputable def bxO (l:List (Nat×Bx)) (k:Nat):Bx:=((l.find? λp=>p.1==k).map (·.2)).getD ⟨0,0,0,0⟩
theorem vv:∀(l:List (Nat×Bx)) (kvs:List (Key×Val)),(l.map (·.1)).Nodup->(k∈l.map (·.1)->lkD (cT kvs l) (.inl (k:Nat))=some (bV (bxO l k)))/\(k∉l.map (·.1)->lkD (cT kvs l) (.inl (k:Nat))=lkD kvs (.inl (k:Nat)))
 | [],kvs,_=>⟨(λh=>nomatch h),λ_=>rfl⟩
 |
  p::l,kvs,nd=>by
  rw[v_,OR] at nd;obtain⟨h1,h2⟩:=vv (k:=k) l (eV kvs (.inl (p.1:Nat)) (bV p.2)) nd.2;have e:cT kvs (p::l)=cT (eV kvs (.inl (p.1:Nat)) (bV p.2)) l:=rfl;rw[e];by_cases hp:p.1=k
  .have hk:k∉l.map (·.1):=hp ▸ nd.1;rw[h2 hk,AK,if_pos (by rw[hp])];refine⟨λ_=>?_,λz=>absurd (by rw[v_,hp];exact t_ ..) z⟩;unfold bxO;rw[NO];simp [hp]
  .have hk:k∈(p::l).map (·.1) ↔ k∈l.map (·.1):=by rw[v_,G_];exact⟨λz=>z.resolve_left (λy=>hp y.symm),.inr⟩
   have hb:bxO (p::l) k=bxO l k:=by unfold bxO;rw[N2 (by simpa using hp)]
   rw[hk,hb];refine⟨h1,λz=>?_⟩;rw[h2 z,AK,if_neg];intro y;injection y with y;exact hp (Int.ofNat.inj y)
def zN(b:Bx)(way:Str)(ws:List Int):(aT b way ws).length=ws.length:=by unfold aT;split <;> rw[p_,iM]
def AT.bx_keys(ws:List Int)(t:AT):∀b,(AT.bx ws t b).map (·.1)=t.lvs:=by
 induction t using AT.ind with
 |h1 k=>intro b;rw[AT.bx,AT.lvs];rfl
 |
  h2 w ts ih=>
  intro b;rw[AT.bx,AT.lvs];have hl:(aT b (wy w) (ts.map (wtT ws))).length=ts.length:=by rw[zN,p_]
  generalize aT b (wy w) (ts.map (wtT ws))=bs at *;induction ts generalizing bs with
  |nil=>cases bs <;> rfl
  |
   cons t ts ih2=>
   cases bs with
   |nil=>exact nomatch hl
   |cons b bs=>rw[AT.bxL,AT.lvsL,NC,ih t (t_ ..) b,ih2 (λu hu=>ih u (r_ _ hu)) bs (by simpa using hl)]
def AT.cnt_lvs(t:AT)(h:t.ok=true):t.cnt+1<=2*t.lvs.length:=by
 induction t using AT.ind with
 |h1 k=>simp [AT.cnt,AT.lvs]
 |
  h2 w ts ih=>
  rw[AT.ok,u_] at h;have hk:=AT.okL_mem.mp h.2;have h2:2<=ts.length:=Oa h.1;rw[AT.cnt,AT.lvs];have:∀ts:List AT,(∀t∈ts,t.cnt+1<=2*t.lvs.length)->AT.cntL ts+ts.length<=2*(AT.lvsL ts).length:=by
   intro ts;induction ts with
   |nil=>intro _;simp [AT.cntL,AT.lvsL]
   |cons t ts ih=>intro h;have h1:=h t (t_ ..);have h2:=ih λu hu=>h u (r_ _ hu);rw[AT.cntL,AT.lvsL,J_,F_];omega
  have:=this ts λt ht=>ih t ht (hk t ht)
  omega
structure Rp(D A B:Nat)(b:Bx):Prop where
 pos:0<D
 l:∃z:Int,b.l=(z:Rat)/((D:Int):Rat)/\z.natAbs<=A*D
 t:∃z:Int,b.t=(z:Rat)/((D:Int):Rat)/\z.natAbs<=A*D
 w:∃z:Int,b.w=(z:Rat)/((D:Int):Rat)/\0<z/\z<=B*D
 h:∃z:Int,b.h=(z:Rat)/((D:Int):Rat)/\0<z/\z<=B*D
def KQ(x y a D W:Rat)(h1:D≠0)(h2:W≠0):x/D+(y/D)*(a/W)=(x*W+y*a)/(D*W):=by grind
def Mm(y a D W:Rat)(h1:D≠0)(h2:W≠0):(y/D)*(a/W)=(y*a)/(D*W):=by grind
def Mj(y D W:Rat)(h1:D≠0)(h2:W≠0):y/D=(y*W)/(D*W):=by grind
def j5{z:Int}(h:z≠0):(z:Rat)≠0:=λe=>h (Rat.intCast_inj.mp e)
def DC{x y a W:Int}{D A B:Nat}(hD:0<D)(hx:x.natAbs<=A*D)(hy:0<y/\y<=B*D)(ha:0<=a/\a<=W)(hW:0<W):∃z:Int,(x:Rat)/((D:Int):Rat)+((y:Rat)/((D:Int):Rat))*((a:Rat)/(W:Rat))=(z:Rat)/(((D*W.toNat:Nat):Int):Rat)/\z.natAbs<=(A+B)*(D*W.toNat):=by
 obtain⟨V,rfl⟩:∃V:Nat,W=V:=⟨W.toNat,by omega⟩;refine⟨x*V+y*a,?_,?_⟩
 .rw[KQ _ _ _ _ _ (j5 (by omega)) (j5 (by omega))];congr 1
  .rw[Rat.intCast_add,NQ,NQ]
  .rw[NB,OG,NQ]
 .rw[NB];have h1:(x*(V:Int)).natAbs<=A*D*V:=by rw[NZ];exact NH hx (s_ _)
  have h2:(y*a).natAbs<=B*D*V:=by
   rw[NZ];refine NH ?_ (by omega)
   have:=hy.2
   omega
  have h3:=Int.natAbs_add_le (x*V) (y*a);rw[Nat.add_mul,<- Pm,<- Pm];omega
def DU{y a W:Int}{D B:Nat}(hD:0<D)(hy:0<y/\y<=B*D)(ha:1<=a/\a<=W):∃z:Int,((y:Rat)/((D:Int):Rat))*((a:Rat)/(W:Rat))=(z:Rat)/(((D*W.toNat:Nat):Int):Rat)/\0<z/\z<=((B:Nat):Int)*((D*W.toNat:Nat):Int):=by
 obtain⟨V,rfl⟩:∃V:Nat,W=V:=⟨W.toNat,by omega⟩;refine⟨y*a,?_,Int.mul_pos hy.1 (by omega),?_⟩
 .rw[Mm _ _ _ _ (j5 (by omega)) (j5 (by omega))];congr 1
  .rw[NQ]
  .rw[NB,OG,NQ]
 .rw[NB,OG,<- N6];exact Int.mul_le_mul hy.2 ha.2 (by omega) (Int.le_trans (Int.le_of_lt hy.1) hy.2)
def mQ{y W:Int}{D:Nat}(hD:0<D)(hW:0<W):(y:Rat)/((D:Int):Rat)=((y*W:Int):Rat)/(((D*W.toNat:Nat):Int):Rat):=by obtain⟨V,rfl⟩:∃V:Nat,W=V:=⟨W.toNat,by omega⟩;rw[Mj _ _ _ (j5 (show ((D:Nat):Int)≠0 by omega)) (j5 (show ((V:Nat):Int)≠0 by omega)),NQ,NB,OG,NQ]
def Aj{z W:Int}{D A B:Nat}(hz:z.natAbs<=A*D)(hW:0<W):(z*W).natAbs<=(A+B)*(D*W.toNat):=by rw[NZ,<- Pm];refine NH ?_ (by omega);rw[Nat.add_mul];omega
def Af{z W:Int}{D B:Nat}(hz:0<z/\z<=B*D)(hW:0<W):0<z*W/\z*W<=((B:Nat):Int)*((D*W.toNat:Nat):Int):=by refine⟨Int.mul_pos hz.1 hW,?_⟩;rw[OG,<- N6,Int.toNat_of_nonneg (by omega)];exact Int.mul_le_mul_of_nonneg_right hz.2 (by omega)
def Rp.parts{D A B:Nat}{b b':Bx}{way:Str}{ws:List Int}(r:Rp D A B b)(hw:∀w∈ws,1<=w)(h:b'∈aT b way ws):Rp (D*ws.sum.toNat) (A+B) B b':=by
 obtain⟨pos,⟨zl,el,bl⟩,⟨zt,et,bt⟩,⟨zw,ew,bw⟩,⟨zh,eh,bh⟩⟩:=r;have key:∀p:Rat×Rat,∀s l:Rat,p∈shL s l ws.sum 0 ws->0<ws.sum/\∃a' w:Int,0<=a'/\a'<=ws.sum/\1<=w/\w<=ws.sum/\p=(s+l*((a':Rat)/(ws.sum:Rat)),l*((w:Rat)/(ws.sum:Rat))):=λp s l hp=>by obtain⟨a',w,h1,h2,h3,h4,h5⟩:=wb ws 0 (by omega) hw (by omega) hp;exact⟨by omega,a',w,h1,h2,h3,h4,h5⟩
 unfold aT at h;split at h
 .obtain⟨p,hp,rfl⟩:=Nw.mp h;obtain⟨hS,a',w,h1,h2,h3,h4,rfl⟩:=key p _ _ hp;have hV:0<D*ws.sum.toNat:=Ol pos (by omega);refine⟨hV,?_,⟨zt*ws.sum,by show b.t=_;rw[et];exact mQ pos hS,Aj bt hS⟩,?_,⟨zh*ws.sum,by show b.h=_;rw[eh];exact mQ pos hS,Af bh hS⟩⟩
  .show ∃z:Int,b.l+b.w*_=_/\_;rw[el,ew];exact DC pos bl bw ⟨h1,h2⟩ hS
  .show ∃z:Int,b.w*_=_/\_;rw[ew];exact DU pos bw ⟨h3,h4⟩
 .obtain⟨p,hp,rfl⟩:=Nw.mp h;obtain⟨hS,a',w,h1,h2,h3,h4,rfl⟩:=key p _ _ hp;have hV:0<D*ws.sum.toNat:=Ol pos (by omega);refine⟨hV,⟨zl*ws.sum,by show b.l=_;rw[el];exact mQ pos hS,Aj bl hS⟩,?_,⟨zw*ws.sum,by show b.w=_;rw[ew];exact mQ pos hS,Af bw hS⟩,?_⟩
  .show ∃z:Int,b.t+b.h*_=_/\_;rw[et,eh];exact DC pos bt bh ⟨h1,h2⟩ hS
  .show ∃z:Int,b.h*_=_/\_;rw[eh];exact DU pos bh ⟨h3,h4⟩
def Rp.ok{D A B:Nat}{b:Bx}(r:Rp D A B b):b.Ok:=by obtain⟨pos,_,_,⟨zw,ew,bw⟩,⟨zh,eh,bh⟩⟩:=r;exact⟨by rw[ew];exact jx bw.1 (by omega),by rw[eh];exact jx bh.1 (by omega)⟩
def Rp.sz{D A B n:Nat}{b:Bx}(r:Rp D A B b)(hA:A*D<2^n)(hB:B*D<2^n)(hD:D<2^n):b.Sz n:=by
 obtain⟨pos,⟨zl,el,bl⟩,⟨zt,et,bt⟩,⟨zw,ew,bw⟩,⟨zh,eh,bh⟩⟩:=r;have sD:Sm n ((D:Nat):Int):=by show ((D:Nat):Int).natAbs<2^n;omega
 have k:∀z:Int,z.natAbs<2^n->Sz n ((z:Rat)/((D:Int):Rat)):=λz hz=>Sz.div (by omega) hz sD n (s_ _) (s_ _);have hb:∀z:Int,0<z/\z<=B*D->z.natAbs<2^n:=λz hz=>by
  have h1:z<=((B*D:Nat):Int):=by rw[OG];exact hz.2
  omega
 exact⟨by rw[el];exact k zl (by omega),by rw[et];exact k zt (by omega),by rw[ew];exact k zw (hb zw bw),by rw[eh];exact k zh (hb zh bh)⟩
theorem nQ{ws:List Int}:∀{l:List Nat},(∀k∈l,1<=ws.getD k 0)->(l.length:Int)<=wtA ws l
 | [],_=>by simp [wtA]
 |
  k::l,h=>by
  have h1:=h k (t_ ..);have h2:=nQ (l:=l) λj hj=>h j (r_ _ hj);unfold wtA at h2 ⊢;rw[v_,Nq,F_];omega
theorem vT{ws:List Int}{n m:Nat}:∀{ts:List AT}{bs:List Bx},(∀t∈ts,∀b∈bs,AT.lay ws n m t b)->AT.layL ws n m ts bs
 | [],_,_=>by rw[AT.layL];trivial;intro t ts b bs z;cases z
 |t::ts,[],_=>by rw[AT.layL];trivial;intro t ts b bs _ z;cases z
 |
  t::ts,b::bs,h=>by
  rw[AT.layL];exact⟨h t (t_ ..) b (t_ ..),vT λu hu c hc=>h u (r_ _ hu) c (r_ _ hc)⟩
def Rp.fine{n m B D A d:Nat}{b:Bx}(r:Rp D A B b)(hBA:B<=A)(hA:1<=A)(hq:(A+d*B)*(D*2^(m*d))<2^n):b.Ok/\b.Sz n:=by have hD1:1<=2^(m*d):=Nat.one_le_two_pow;have z1:A*D<=(A+d*B)*(D*2^(m*d)):=NH (by omega) (Nat.le_mul_of_pos_right _ hD1);have z2:D<=A*D:=Nat.le_mul_of_pos_left _ hA;have z3:B*D<=A*D:=Oo _ hBA;exact⟨r.ok,r.sz (by omega) (by omega) (by omega)⟩
def IG{ws:List Int}{n m B:Nat}(t:AT):∀(b:Bx) (D A:Nat),Rp D A B b->B<=A->1<=A->(A+t.dep*B)*(D*2^(m*t.dep))<2^n->t.ok=true->(∀k∈t.lvs,1<=ws.getD k 0)->wtT ws t<2^m->t.lvs.length<=40->AT.lay ws n m t b:=by
 induction t using AT.ind with
 |h1 k=>intro b D A r hBA hA hn _ _ _ _;rw[AT.lay];exact r.fine hBA hA hn
 |
  h2 w ts ih=>
  intro b D A r hBA hA hn ho hw hm hl;have ho':=ho;rw[AT.ok,u_] at ho';have h2:2<=ts.length:=Oa ho'.1;have hk:=AT.okL_mem.mp ho'.2;rw[AT.lvs] at hw hl;have hws:∀t∈ts,∀k∈t.lvs,1<=ws.getD k 0:=λt ht k hk'=>hw k (AT.lvsL_mem.mpr ⟨t,ht,hk'⟩);have hone:∀t∈ts,1<=wtT ws t:=λt ht=>by have h1:=vy (hk t ht);have h2:=nQ (hws t ht);unfold wtT;omega
  have hsum:wtT ws (.nd w ts)=(ts.map (wtT ws)).sum:=by unfold wtT;rw[AT.lvs];exact tZ ws ts
  rw[hsum] at hm;have hpos:0<=(ts.map (wtT ws)).sum:=by
   rw[<- tZ]
   have:=nQ hw
   omega
  rw[AT.dep] at hn;generalize hq:AT.depL ts=q at *;have fn:=r.fine hBA hA hn;have tl:ts.length<=40:=by rw[AT.lvsL_flat] at hl;have:ts.length<=((ts.map AT.lvs).flatten).length:=sq λt ht=>vy (hk t ht);omega
  rw[AT.lay];refine⟨fn.1,fn.2,λz=>by rw[z] at h2;simp at h2,tl,hone,by
   show (ts.map (wtT ws)).sum.natAbs<2^m;have:(((ts.map (wtT ws)).sum.natAbs:Nat):Int)<((2^m:Nat):Int):=by
    rw[Int.natAbs_of_nonneg hpos]
    push_cast
    exact hm
   omega,vT λt ht c hc=>?_⟩
  have rp:=r.parts (λx hx=>by obtain⟨u,hu,rfl⟩:=Nw.mp hx;exact hone u hu) hc;have hdt:t.dep<=q:=by rw[<- hq];exact AT.depL_le.mp (s_ _) t ht
  have hS:(ts.map (wtT ws)).sum.toNat<=2^m:=by
   have:(((ts.map (wtT ws)).sum.toNat:Nat):Int)<((2^m:Nat):Int):=by
    rw[Int.toNat_of_nonneg hpos]
    push_cast
    exact hm
   omega
  refine ih t ht c _ (A+B) rp (by omega) (by omega) ?_ (hk t ht) (hws t ht) ?_ (by have:=AT.lvs_le ht;omega)
  .refine OD (NH ?_ ?_) hn
   .have:t.dep*B<=q*B:=Oo _ hdt;rw[Nat.add_mul,Nat.one_mul];omega
   .rw[Pm];refine Od _ ?_;have e:2^(m*(q+1))=2^m*2^(m*q):=by rw[<- OC];congr 1;rw[Nat.mul_add,Nat.mul_one,Nat.add_comm]
    rw[e];exact NH hS (NG (by decide) (Od _ hdt))
  .refine Int.lt_of_le_of_lt ?_ hm;have aux:∀us:List AT,(∀u∈us,0<=wtT ws u)->t∈us->wtT ws t<=(us.map (wtT ws)).sum:=by
    intro us;induction us with
    |nil=>intro _ h;exact nomatch h
    |
     cons u us ih=>
     intro h0 hm;have nn:∀us:List AT,(∀u∈us,0<=wtT ws u)->0<=(us.map (wtT ws)).sum:=by
      intro us;induction us with
      |nil=>intro _;simp
      |cons v us ih=>intro h;rw[v_,Nq];have:=h v (t_ ..);have:=ih λu hu=>h u (r_ _ hu);omega
     rw[v_,Nq];rcases G_.mp hm with rfl |hm
     .have:=nn us λu hu=>h0 u (r_ _ hu)
      omega
     .have h1:=ih (λu hu=>h0 u (r_ _ hu)) hm;have h2:=h0 u (t_ ..);omega
   exact aux ts (λu hu=>by have:=hone u hu;omega) ht
def Ie{ws:List Int}{n m:Nat}(t:AT):∀b:Bx,AT.lay ws n m t b->∀p∈AT.bx ws t b,p.2.Ok/\p.2.Sz n:=by
 induction t using AT.ind with
 |h1 k=>intro b h p hp;rw[AT.bx] at hp;rw[Nk.mp hp];rw[AT.lay] at h;exact h
 |
  h2 w ts ih=>
  intro b h p hp;rw[AT.bx] at hp;rw[AT.lay] at h;replace h:=h.2.2.2.2.2.2;generalize aT b (wy w) (ts.map (wtT ws))=bs at *;induction ts generalizing bs with
  |nil=>rw[AT.bxL] at hp;exact nomatch hp;intro _ _ _ _ z;cases z
  |
   cons t ts ih2=>
   cases bs with
   |nil=>rw[AT.bxL] at hp;exact nomatch hp;intro _ _ _ _ _ z;cases z
   |
    cons c cs=>
    rw[AT.bxL] at hp;rw[AT.layL] at h;rcases Om.mp hp with hp |hp
    .exact ih t (t_ ..) c h.1 p hp
    .exact ih2 (λu hu=>ih u (r_ _ hu)) cs hp h.2
noncomputable def bB (b:Bx) (w:Bool) (W a x:Int):Bx:=if w=true then ⟨b.l+b.w*((a:Rat)/(W:Rat)),b.t,b.w*((x:Rat)/(W:Rat)),b.h⟩ else ⟨b.l,b.t+b.h*((a:Rat)/(W:Rat)),b.w,b.h*((x:Rat)/(W:Rat))⟩
noncomputable def frm (b:Bx) (w:Bool) (W:Int):Int->List Int->List Bx
 |_,[]=>[]
 |a,x::xs=>bB b w W a x::frm b w W (a+x) xs
theorem wg(b:Bx)(w:Bool)(W:Int):∀(xs:List Int) (a:Int),(frm b w W a xs).length=xs.length
 | [],_=>rfl
 |x::xs,a=>by rw[frm,F_,F_,wg b w W xs]
def df(b:Bx)(w:Bool)(xs:List Int):aT b (wy w) xs=frm b w xs.sum 0 xs:=by
 have key:∀(W:Int) (xs:List Int) (a:Int),(if wy w="across" then (shL b.l b.w W a xs).map λp=>(⟨p.1,b.t,p.2,b.h⟩:Bx) else (shL b.t b.h W a xs).map λp=>⟨b.l,p.1,b.w,p.2⟩)=frm b w W a xs:=by
  intro W xs;induction xs with
  |nil=>intro a;unfold shL frm;split <;> rfl
  |
   cons x xs ih=>
   intro a;rw[frm,<- ih,shL,shL];unfold bB;cases w with
   |true=>rw[if_pos (show wy true="across" from rfl),if_pos (show wy true="across" from rfl),if_pos rfl];rfl
   |
    false=>
    have hn:¬ (wy false="across"):=by decide
    rw[if_neg hn,if_neg hn,if_neg (by decide)];rfl
 exact key xs.sum xs 0
def pF(ws:List Int):((aM ws).map λk=>ws.getD k 0).Pairwise (· >= ·):=by rw[List.pairwise_map];refine List.Pairwise.imp (λ{i j} h=>?_) (cR ws).up;unfold bC kyF at h;rw[Oi] at h;show ws.getD j 0<=ws.getD i 0;have h:-(ws.getD i 0) < -(ws.getD j 0)\/(-(ws.getD i 0)=-(ws.getD j 0)/\((i:Nat):Int)<(j:Nat)):=h;omega
noncomputable def thN (xs:List Int):Nat->Nat->Nat
 |0,k=>k
 |f+1,k=>if 3*(xs.take k).sum<xs.sum then thN xs f (k+1) else k
noncomputable def jf (xs:List Int):Nat:=thN xs (xs.length-1) 1
theorem zC(xs:List Int):∀f k,k<=thN xs f k
 |0,k=>s_ _
 |
  f+1,k=>by
  rw[thN];split
  .have:=zC xs f (k+1);omega
  .exact s_ _
theorem zK(xs:List Int){m:Nat}(hm:¬ 3*(xs.take m).sum<xs.sum):∀f k,k<=m->thN xs f k<=m
 |0,k,h=>h
 |
  f+1,k,h=>by
  rw[thN];split
  .rename_i z;refine zK xs hm f (k+1) ?_;by_cases e:k=m
   .rw[e] at z;exact absurd z hm
   .omega
  .exact h
def CF{xs:List Int}(h2:2<=xs.length)(hp:∀x∈xs,1<=x)(hd:xs.Pairwise (· >= ·)):1<=jf xs/\jf xs<xs.length:=by
 have key:¬ 3*(xs.take (xs.length-1)).sum<xs.sum:=by
  have e:xs.sum=(xs.take (xs.length-1)).sum+(xs.drop (xs.length-1)).sum:=by rw[<- OS,NL]
  have d1:xs.drop (xs.length-1)=[xs[xs.length-1]]:=by rw[O7 (by omega),List.drop_eq_nil_of_le (by omega)]
  obtain⟨y,ys,ey⟩:∃y ys,xs.take (xs.length-1)=y::ys:=by
   cases z:xs.take (xs.length-1) with
   |
    nil=>
    have:=NA List.length z
    rw[Ng,Nt] at this;omega
   |cons y ys=>exact⟨y,ys,rfl⟩
  have hy:y=xs[0]:=by
   have z:(xs.take (xs.length-1))[0]?=some y:=by rw[ey];rfl
   rw[List.getElem?_take_of_lt (by omega),y_ (by omega)] at z;exact (K_ z).symm
  have hge:xs[0] >= xs[xs.length-1]:=Oj.mp hd 0 (xs.length-1) (by omega) (by omega) (by omega);have hz:=hp xs[xs.length-1] (NX _);have hs:0<=ys.sum:=by
   have:=eK (l:=ys) λx hx=>hp x (NP (i:=xs.length-1) (by rw[ey];exact r_ _ hx))
   omega
  rw[e,d1,ey,Nq,Nq,List.sum_nil];generalize xs[0]=x0 at *;generalize xs[xs.length-1]=xl at *;omega
 refine⟨zC xs _ 1,?_⟩
 have:=zK xs key (xs.length-1) 1 (by omega)
 unfold jf;omega
noncomputable def Bx.trn (b:Bx):Bx:=⟨b.t,b.l,b.h,b.w⟩
end L3
namespace KK
open PySem PySem.Spec PyProof.Rows L2 L3
def top(i:Nat):Stmt:=PySem.Challenge.pw_weightrooms_k64_whole_held_against_one_a.main.body.getD i (.Pass ⟨0,0,0,0⟩)
noncomputable def cA:je:=[((.b "NoneType"),(.b "bool"),false),((.b "bool"),(.b "bool"),true),((.b "int"),(.b "bool"),false),((.b "str"),(.b "bool"),false),((.b "tuple"),(.b "bool"),false),((.b "list"),(.b "bool"),false),((.b "dict"),(.b "bool"),false),((.b "NoneType"),(.b "int"),false),((.b "bool"),(.b "int"),true),((.b "int"),(.b "int"),true),((.b "str"),(.b "int"),false),((.b "tuple"),(.b "int"),false),((.b "list"),(.b "int"),false),((.b "dict"),(.b "int"),false),((.b "NoneType"),(.b "list"),false),((.b "bool"),(.b "list"),false),((.b "int"),(.b "list"),false),((.b "str"),(.b "list"),false),((.b "tuple"),(.b "list"),false),((.b "list"),(.b "list"),true),((.b "dict"),(.b "list"),false),((.b "NoneType"),(.b "str"),false),((.b "bool"),(.b "str"),false),((.b "int"),(.b "str"),false),((.b "str"),(.b "str"),true),((.b "tuple"),(.b "str"),false),((.b "list"),(.b "str"),false),((.b "dict"),(.b "str"),false),((.b "NoneType"),(.b "tuple"),false),((.b "bool"),(.b "tuple"),false),((.b "int"),(.b "tuple"),false),((.b "str"),(.b "tuple"),false),((.b "tuple"),(.b "tuple"),true),((.b "list"),(.b "tuple"),false),((.b "dict"),(.b "tuple"),false)]
noncomputable def mZ:Val:=(.int 8)
noncomputable def iL:Val:=(.int 40)
noncomputable def we:Val:=(.tup [(.str "across"),(.str "down"),(.str "halves"),(.str "rows"),(.str "greatest"),(.str "thirds")])
noncomputable def zu:Val:=(.tup [(.str "across"),(.str "down")])
abbrev tb:Tb:=⟨["NoFraction", "NoBox", "NoWay", "NoWeights", "TooMany", "NoTree", "NoRule"],["NoFraction", "NoBox", "NoWay", "NoWeights", "TooMany", "NoTree", "NoRule"],[],cA,[("MOST_SUM",mZ),("MOST_WEIGHTS",iL),("RULES",we),("WAYS",zu)]⟩
abbrev TT(K:W.Frag)(mg:Qb):Prop:=TyL tb top [10,11,12,13,14,15,16,17,18,22,23,24,25,26,27,28,29,30,31,32,33,35,36,37,38,39,40,41,43,44,45,46,47,48,49,52,53,54,55,56,57,58,59,60,62,65,66,67,68,70,71,72,73,74,75,76,77,78,79] K mg
section
variable{P:Program}{w:World}{K:W.Frag}{mg:Qb}{base:Heap}
def kB:PEx:=jZ mZ
def u7(e:E3):kB.G e=.ok (.val (.int 8)) e:=rfl
def fF:PEx:=jZ iL
def lX(e:E3):fF.G e=.ok (.val (.int 40)) e:=rfl
def tP:PEx:=jZ we
def Bq(e:E3):tP.G e=.ok (.val (.tup [(.str "across"),(.str "down"),(.str "halves"),(.str "rows"),(.str "greatest"),(.str "thirds")])) e:=rfl
def vn:PEx:=jZ zu
def Ey(e:E3):vn.G e=.ok (.val (.tup [(.str "across"),(.str "down")])) e:=rfl
def dI(s:String):Lean.TSyntax `term:=⟨Lean.mkIdent (s.replace "%" "").toName⟩
def dA(f:String)(a:Lean.TSyntax `term):Lean.TSyntax `term:=Lean.Syntax.mkApp (dI f) #[a]
def dF:List (Lean.TSyntax `tactic)->Lean.MacroM (Lean.TSyntax `tactic)
 | []=>`(tactic|fail)
 |a::l=>do `(tactic|first | $a:tactic | $(<- dF l):tactic)
def dL(f:String->Lean.MacroM (Lean.TSyntax `tactic)):List String->Lean.MacroM (List (Lean.TSyntax `tactic))
 | []=>pure []
 |s::l=>do return (<- f s)::(<- dL f l)
set_option hygiene false in
def dQ(ap:String->Lean.TSyntax `term)(s:String):Lean.MacroM (Lean.TSyntax `tactic):=match (s.splitOn ";").map ap with
 | [d,c,a,b]=>`(tactic|((case d=>with_reducible exact $d);(case c=>exact $c);(case a=>exact $a);(case b=>exact $b)))
 |d::c::_=>`(tactic|((case d=>with_reducible exact $d);(case c=>exact $c)))
 |_=>`(tactic|fail)
set_option hygiene false in
def dR(ap:String->Lean.TSyntax `term)(g:String):Lean.MacroM (Lean.TSyntax `tactic):=match g.splitOn ":" with
 | [r]=>`(tactic|refine $(ap r))
 |r::l=>do `(tactic|(refine' $(ap r);$(<- dF (<- dL (dQ ap) l)):tactic))
 | []=>`(tactic|fail)
set_option hygiene false in
local macro_rules | `('d')=>do
 let h <- `(?_)
 let u <- `(_)
 let R:=dI "rfl"
 let qA <- `(?a)
 let qB <- `(?b)
 let qC <- `(?c)
 let qD <- `(?d)
 let qp <- `((λ_ _=>rfl))
 let ap:=λ(s:String)=>let w:=s.splitOn " ";Lean.Syntax.mkApp (dI (w.getD 0 "")) (((w.getD 1 "").toList.map λc=>([('1',dI "hr.u100"),('8',dI "hr.u180"),('A',qA),('B',qB),('C',qC),('D',qD),('K',dI "T.k"),('_',u),('b',dA "%boT" R),('f',dA "%boF" R),('g',dA "T.g" R),('k',dA "T.n" R),('m',dA "T.m" R),('n',dI "nd"),('o',dI "%own1"),('p',qp),('r',R),('t',dI "T"),('u',dA "%Ei" (dI "hr")),('v',dA "%s9" u),('x',dA "T.x" R),('z',dI "%rz1")].lookup c).getD h).toArray)
 let rd:=λ(s:String)=>dL (dR ap) (s.splitOn "|")
 let e0 <- `(tactic|refine zcF (by $(<- dF (<- rd "%ih|t9 t|sM t|vc t|pZ t|oo t|ug t|oH t|sV t|jR t|ng t|xV t|pG t|va t|sE t|uu t|Dh t|AO t|g9 t|Ac t|pR t|ky t|xI t|pO t|u9 t|oa t|pI t|zf t|Ad t|ya t|mB t|p7 t|rP t|mq t_|sL t|fH t|fI t|nG t|eW t_|ni t|pX t|lC t|nD t|mP t|eG t_|pK t|ie t|kA t|mO t|lg t|pL t|uV t|tX t|nM t|mr t|kZ t|uf t|kx t|sP t")):tactic) hr ?_)
 let e3 <- `(tactic|exact Jq rfl (by first |exact T.e rfl |exact (T.d.get 60 rfl).gl |exact (T.d.get 59 rfl).gl))
 `(by repeat' $(<- dF ((<- rd "%s9 _|lU|rV|bJ ??|aw ??|c8 ?|zsS _n?|qz ???|d8 ?|GU ?|uq ?|rG|MF|EB|Jb ?")++[e0,e3]++(<- rd "%MJ CD??:MN;ixK r|Iz CD??:D8;DP:En;Ew:Eo;DJ:Dt;eqDK r8:JV;G7 r:DZ;neDK r8:IC;C2:Me;MZ:JS;F1:Ep;zQ|jn CDrkf?:Jc;L7 r:JQ;BJ:Gu;u3:zi;o6 rr:Fx;zB rr:FL;Am rr:EZ;AJ r:Kl K;Mu r|Mo CD??:HA;ET:JB;A6:Ks;Iw r:HG;HR:GW;Js:J1;Jy:GB;HY|pb CDrkb?:C6;Gd r:J2;AA|IJ CD??:En;Ew:Dt;eqDK r8:D8;DP:Eo;DJ:K8;inK r:Ep;zQ:DZ;neDK r8|FU rABCD??:CO;JE r1;PySem.F.slot_list_index;PySem.F.type_list_index|JA rABCDv?:xy;x9 r;PySem.F.slot_list_extend;PySem.F.type_list_extend:Aw;zU;PySem.F.slot_list_append;PySem.F.type_list_append|Fp rABCDv:Hz;Kh;PySem.F.slot_list_pop;PySem.F.type_list_pop|Mf CD?:Hj;IT|Hi n?CD:JN;JY|Fz ?v?CD:yK;tM u:BX;tM u|ZG.weak ?|zt_w ?|GO rv?|HK ??|KO|EU u??p|By u??p|M8 rg|Hr rrkrk?|GA|GY ?|HI ?|KW ??|FR rkb|rj r???|Kf rrkrk?|KG rkb|zgN _n|Hk rr?|Kj rr?|Dl ??|FA|AY rk?|Ay rk?|Ao rk?|GV r?|J9 rrk?|vZ|wH ?|v9 ??|Bp|Gq ?|GG or???|HB n?|CD rzrmx?|Gp|Bj o??|su ?|CS r?|Jh ??|Fy ?|Ll ??|Ig ?"))):tactic)
def nB:PSt:=
 (aq (qE ["cells", "at", "left"] (aa (pFn uD (aa (pSl (af 0) oN (oS (ah 63))) ag)) (aa (ah 0) (aa (ah 0) ag)))))
def fE:PFn:=fnP [false] 1 nB
def uX:fE.ms=[false]:=rfl
def t9(T:TT K mg):Callee P w K mg base "_law_feed" 1 ["_law_script"] (sp3 K mg fE):=okP (T.d.get 70 rfl) (au (N:=["_law_script"]) (by decide)) (λ_ _ _ _ _ _=>ar1 λ_=>rfl) λnd _ _ _ _ _ _ _ hr=>(c8 (d8 (vF (gI (pb (HP (K:=K) rfl) Gs rfl (T.n rfl) (by first |exact boF rfl |exact boT rfl) (bJ (rj rfl (s9 0) vZ (wH lU)) rV)) (gI lU (gI lU wa))))))
def mC:PSt:=
 (ao (xIf (qOf (pOp bGt (pOp gh (af 0) (aP "left")) (ah 0))) (ao (ax false 2 (pOp cx (pOp gh (af 0) (aP "left")) (af 1)))
  (ao (nZ 0 seD (aP "left") (pOp ip (pOp gh (af 0) (aP "left")) (af 1)))
  (aq (af 2)))) xNx)
  (ao (ax false 3 (pOp gh (af 0) (aP "at")))
  (ao (nZ 0 seD (aP "at") (pOp aY (af 3) (ah 1)))
  (ao (ax false 4 (af 3))
  (ao (xIf (qOf (pOp bGt (pFn bq (aa (pOp gh (af 0) (aP "cells")) ag)) (ah 0))) (ax false 4 (pOp bIx (pOp gh (af 0) (aP "cells")) (pOp cx (af 3) (pFn bq (aa (pOp gh (af 0) (aP "cells")) ag))))) xNx)
  (ao (xIf (qAn (qOf (pOp bGe (af 4) (pOp ij (ah 10) (ah 18)))) (qOf (pOp bLt (af 3) (pFn bq (aa (pOp gh (af 0) (aP "cells")) ag))))) (ao (nZ 0 seD (aP "left") (pOp ip (af 4) (af 1)))
  (aq (pOp cx (af 4) (af 1)))) xNx)
  (ao (ax false 5 (pOp cx (pOp aG (pOp aY (pOp aY (pOp aY (pOp cx (af 4) (ah 1000003)) (pOp aG (pOp aG (ah 61) (af 3)) (af 3))) (pOp aG (ah 7) (af 3))) (ah 1)) (ah 48271)) (ah 999983)))
  (aq (pOp cx (pOp ip (pOp cx (pOp aG (pOp cx (pOp aY (pOp aG (af 5) (ah 69623)) (pOp aG (ah 7919) (af 3))) (ah 1999993)) (ah 16811)) (ah 524287)) (ah 5)) (af 1))))))))))
def aH:PFn:=fnP [true,false] 6 mC
def uS:aH.ms=[true,false]:=rfl
def sM(T:TT K mg):Callee P w K mg base "_law_draw" 1 ["_law_feed_here", "_law_many"] (sp3 K mg aH):=okP (T.d.get 71 rfl) (au (N:=["_law_feed_here", "_law_many", "_law_found", "_law_at", "_law_cell", "_law_number_here"]) (by decide)) (λ_ _ _ _ _ _=>ar2 λ_ _=>rfl) λnd _ _ _ _ _ _ _ hr=>'d'
def gw:PSt:=
 (iu 2 3 (aa (af 3) (aa (pOp cx (af 2) (af 3)) ag)))
def oO:PSt:=
 (ao (iu 2 3 (aa (pFn hX (aa (af 0) ag)) (aa (af 1) ag)))
  (ao (xWh (qOf (pOp bGt (af 3) (ah 0))) (gw))
  (aq (cD (aa (pOp ip (af 0) (af 2)) (aa (pOp ip (af 1) (af 2)) ag))))))
def cc:PFn:=fnP [false,false] 4 oO
def yd:cc.ms=[false,false]:=rfl
def vc(T:TT K mg):Callee P w K mg base "_law_low" 1 ["_law_top", "_law_bottom"] (sp3 K mg cc):=okP (T.d.get 73 rfl) (au (N:=["_law_top", "_law_bottom", "_law_one", "_law_other"]) (by decide)) (λ_ _ _ _ _ _=>ar2 λ_ _=>rfl) λnd _ _ _ _ _ _ _ hr=>'d'
def jX:PSt:=
 (ax false 2 (pOp aY (pOp aG (af 2) (ah 100000)) (ak aH (aa (af 0) (aa (ah 100000) ag)))))
def kE:PSt:=
 (ao (ax false 2 (ah 0))
  (ao (lI (mw (aa (af 1) ag)) (gtN 3) (jX))
  (aq (af 2))))
def dE:PFn:=fnP [true,false] 4 kE
def sW:dE.ms=[true,false]:=rfl
def pZ(T:TT K mg):Callee P w K mg base "_law_great" 2 ["_law_feed_here", "_law_pieces"] (sp3 K mg dE):=okP (T.d.get 72 rfl) (au (N:=["_law_feed_here", "_law_pieces", "_law_number_here", "_law_k"]) (by decide)) (λ_ _ _ _ _ _=>ar2 λ_ _=>rfl) λnd _ _ _ _ _ _ _ hr=>'d'
def jU:PSt:=
 (ao (ax false 1 (ak aH (aa (af 0) (aa (ah 7) ag))))
  (ao (xIf (qOf (pOp bLt (af 1) (ah 3))) (aq (cD (aa (pOp aY (ah 1) (ak aH (aa (af 0) (aa (ah 12) ag)))) (aa (ah 1) ag)))) xNx)
  (ao (xIf (qOf (pOp bEq (af 1) (ah 3))) (aq (cD (aa (ah 1) (aa (ah 1) ag)))) xNx)
  (ao (xIf (qOf (pOp bLt (af 1) (ah 6))) (aq (ak cc (aa (pOp aY (ah 1) (ak aH (aa (af 0) (aa (ah 60) ag)))) (aa (pOp aY (ah 1) (ak aH (aa (af 0) (aa (ah 12) ag)))) ag)))) xNx)
  (aq (ak cc (aa (pOp aY (ah 1) (pOp cx (ak dE (aa (af 0) (aa (ah 6) ag))) (pOp dN (pOp ij (ah 10) (ah 30)) (ah 1)))) (aa (pOp aY (ah 1) (pOp cx (ak dE (aa (af 0) (aa (ah 6) ag))) (pOp dN (pOp ij (ah 10) (ah 30)) (ah 1)))) ag))))))))
def da:PFn:=fnP [true] 2 jU
def pS:da.ms=[true]:=rfl
def oo(T:TT K mg):Callee P w K mg base "_law_number" 3 ["_law_feed_here"] (sp3 K mg da):=okP (T.d.get 75 rfl) (au (N:=["_law_feed_here", "_law_way"]) (by decide)) (λ_ _ _ _ _ _=>ar1 λ_=>rfl) λnd _ _ _ _ _ _ _ hr=>'d'
def gx:PSt:=
 (ao (iu 1 2 (aa (ak da (aa (af 0) ag)) (aa (ak da (aa (af 0) ag)) ag)))
  (ao (xIf (qOf (pOp bEq (ak aH (aa (af 0) (aa (ah 5) ag))) (ah 0))) (ax false 2 (af 1)) xNx)
  (ao (jl (pLC (mw (aa (ah 2) ag)) [none,some 0] (by decide) (gtN 0) qY (ak cc (aa (pOp dN (ak aH (aa (af 1) (aa (ah 41) ag))) (ah 20)) (aa (pOp aY (ah 1) (ak aH (aa (af 1) (aa (ah 9) ag)))) ag)))) (gtX (gtU 2 (bL (gtN 3) (bL (gtN 4) fD)))))
  (aq (cD (aa (af 3) (aa (af 4) (aa (af 1) (aa (af 2) ag)))))))))
def fo:PFn:=fnP [true] 5 gx
def uQ:fo.ms=[true]:=rfl
def ug(T:TT K mg):Callee P w K mg base "_law_room" 4 ["_law_feed_here"] (sp3 K mg fo):=okP (T.d.get 76 rfl) (au (N:=["_law_feed_here", "_law_wide", "_law_high", "_law_left", "_law_top"]) (by decide)) (λ_ _ _ _ _ _=>ar1 λ_=>rfl) λnd _ _ _ _ _ _ _ hr=>(aw 'd' (aw 'd' (aw (v9 (gR ["_law_feed_here", "_law_wide", "_law_high", "_law_left", "_law_top"] (ar (top 76)).names ["_law_k", "_law_feed_here"] [none,some 0] 'd' (λnd _ _ _ _ _=>'d') (λ_ _ _ _ _ _=>cq) (λnd _ _ _ _ _=>'d')) 'd') 'd')))
def jL:PSt:=
 (xIf (qOf (pOp Bw (af 0) tP)) (dW "NoRule" (aa (aP "this is no rule") ag)) xNx)
def bA:PFn:=fnP [false] 1 jL
def qa:bA.ms=[false]:=rfl
def oH(T:TT K mg):Callee P w K mg base "check_rule" 1 ["rule"] (sp3 K mg bA):=okP (T.d.get 52 rfl) (au (N:=["rule"]) (by decide)) (λ_ _ _ _ _ _=>ar1 λ_=>rfl) λnd _ _ _ _ _ _ _ hr=>'d'
def jq:PSt:=
 (aq (i8 (pFn (bE cA) (aa (af 0) (aa (pTy "int") ag))) (B5 (pFn (bE cA) (aa (af 0) (aa (pTy "bool") ag))))))
def bg:PFn:=fnP [false] 1 jq
def uU:bg.ms=[false]:=rfl
def sV(T:TT K mg):Callee P w K mg base "is_whole" 1 ["thing"] (sp3 K mg bg):=okP (T.d.get 10 rfl) (au (N:=["thing"]) (by decide)) (λ_ _ _ _ _ _=>ar1 λ_=>rfl) λnd _ _ _ _ _ _ _ hr=>'d'
def cZ:PSt:=
 (iu 0 1 (aa (af 1) (aa (pOp cx (af 0) (af 1)) ag)))
def gH:PSt:=
 (ao (iu 0 1 (aa (pFn hX (aa (af 0) ag)) (aa (pFn hX (aa (af 1) ag)) ag)))
  (ao (xWh (qOf (pOp bNe (af 1) (ah 0))) (cZ))
  (aq (af 0))))
def bP:PFn:=fnP [false,false] 2 gH
def kz:bP.ms=[false,false]:=rfl
def jR(T:TT K mg):Callee P w K mg base "common_divisor" 1 ["one", "other"] (sp3 K mg bP):=okP (T.d.get 11 rfl) (au (N:=["one", "other"]) (by decide)) (λ_ _ _ _ _ _=>ar2 λ_ _=>rfl) λnd _ _ _ _ _ _ _ hr=>'d'
def jD:PSt:=
 (ao (xIf (qO (qNo (qOf (pFn (bE cA) (aa (af 0) (aa (pTy "tuple") ag))))) (qOf (pOp bNe (pFn bq (aa (af 0) ag)) (ah 2)))) (aq (pBl false)) xNx)
  (ao (jl (af 0) (gtX (gtT 2 (bL (gtN 1) (bL (gtN 2) fD)))))
  (ao (xIf (qO (qNo (qOf (ak bg (aa (af 1) ag)))) (qNo (qOf (ak bg (aa (af 2) ag))))) (aq (pBl false)) xNx)
  (aq (i8 (pOp bGe (af 2) (ah 1)) (pOp bEq (ak bP (aa (af 1) (aa (af 2) ag))) (ah 1)))))))
def cK:PFn:=fnP [false] 3 jD
def n0:cK.ms=[false]:=rfl
def ng(T:TT K mg):Callee P w K mg base "is_fraction" 2 ["thing"] (sp3 K mg cK):=okP (T.d.get 12 rfl) (au (N:=["thing", "top", "bottom"]) (by decide)) (λ_ _ _ _ _ _=>ar1 λ_=>rfl) λnd _ _ _ _ _ _ _ hr=>'d'
def uc:PSt:=
 (ao (xIf (qO (qNo (qOf (pFn (bE cA) (aa (af 0) (aa (pTy "tuple") ag))))) (qOf (pOp bNe (pFn bq (aa (af 0) ag)) (ah 4)))) (aq (pBl false)) xNx)
  (ao (xIf (qNo (qOf (pFn qW (aa (pLC (dk (af 0)) [none] (by decide) (gtN 0) qY (ak cK (aa (af 0) ag))) ag)))) (aq (pBl false)) xNx)
  (aq (i8 (pOp bGt (pOp bIx (pOp bIx (af 0) (ah 2)) (ah 0)) (ah 0)) (pOp bGt (pOp bIx (pOp bIx (af 0) (ah 3)) (ah 0)) (ah 0))))))
def gF:PFn:=fnP [false] 1 uc
def zO:gF.ms=[false]:=rfl
def xV(T:TT K mg):Callee P w K mg base "is_box" 3 ["thing"] (sp3 K mg gF):=okP (T.d.get 22 rfl) (au (N:=["thing"]) (by decide)) (λ_ _ _ _ _ _=>ar1 λ_=>rfl) λnd _ _ _ _ _ _ _ hr=>(aw 'd' (aw (qz (su (uq (jn (allK (K:=K) rfl rfl) zk rfl (T.n rfl) (by first |exact boF rfl |exact boT rfl) (bJ (gR ["thing"] (ar (top 22)).names ["part"] [none] 'd' (λnd _ _ _ _ _=>'d') (λ_ _ _ _ _ _=>cq) (λnd _ _ _ _ _=>'d')) 'd')))) 'd' 'd') 'd'))
def kD:PSt:=
 (xIf (qNo (qOf (ak gF (aa (af 0) ag)))) (dW "NoBox" (aa (aP "this is no box") ag)) xNx)
def aK:PFn:=fnP [false] 1 kD
def ui:aK.ms=[false]:=rfl
def pG(T:TT K mg):Callee P w K mg base "check_box" 4 ["thing"] (sp3 K mg aK):=okP (T.d.get 23 rfl) (au (N:=["thing"]) (by decide)) (λ_ _ _ _ _ _=>ar1 λ_=>rfl) λnd _ _ _ _ _ _ _ hr=>'d'
def pq:PSt:=
 (aq (pOp bLt (pOp aG (pOp bIx (af 0) (ah 0)) (pOp bIx (af 1) (ah 1))) (pOp aG (pOp bIx (af 1) (ah 0)) (pOp bIx (af 0) (ah 1)))))
def de:PFn:=fnP [false,false] 2 pq
def xx:de.ms=[false,false]:=rfl
def va(T:TT K mg):Callee P w K mg base "is_less" 1 ["one", "other"] (sp3 K mg de):=okP (T.d.get 17 rfl) (au (N:=["one", "other"]) (by decide)) (λ_ _ _ _ _ _=>ar2 λ_ _=>rfl) λnd _ _ _ _ _ _ _ hr=>'d'
def mX:PSt:=
 (ao (aV (ak aK (aa (af 0) ag)))
  (ao (xIf (qOf (ak de (aa (pOp bIx (af 0) (ah 2)) (aa (pOp bIx (af 0) (ah 3)) ag)))) (aq (aP "down")) xNx)
  (aq (aP "across"))))
def bQ:PFn:=fnP [false] 1 mX
def vd:bQ.ms=[false]:=rfl
def sE(T:TT K mg):Callee P w K mg base "long_way" 5 ["box"] (sp3 K mg bQ):=okP (T.d.get 29 rfl) (au (N:=["box"]) (by decide)) (λ_ _ _ _ _ _=>ar1 λ_=>rfl) λnd _ _ _ _ _ _ _ hr=>'d'
def lW:PSt:=
 (ao (xIf (qOf (pOp bEq (af 1) (ah 0))) (dW "NoFraction" (aa (aP "a fraction has no bottom of 0") ag)) xNx)
  (ao (ax false 2 (ak bP (aa (af 0) (aa (af 1) ag))))
  (ao (xIf (qOf (pOp bLt (af 1) (ah 0))) (ax false 2 (pUn nE (af 2))) xNx)
  (aq (cD (aa (pOp ip (af 0) (af 2)) (aa (pOp ip (af 1) (af 2)) ag)))))))
def b9:PFn:=fnP [false,false] 3 lW
def uR:b9.ms=[false,false]:=rfl
def uu(T:TT K mg):Callee P w K mg base "fraction" 2 ["top", "bottom"] (sp3 K mg b9):=okP (T.d.get 13 rfl) (au (N:=["top", "bottom", "divisor"]) (by decide)) (λ_ _ _ _ _ _=>ar2 λ_ _=>rfl) λnd _ _ _ _ _ _ _ hr=>'d'
def AN:PSt:=
 (aq (ak b9 (aa (pOp aG (pOp bIx (af 0) (ah 0)) (pOp bIx (af 1) (ah 1))) (aa (pOp aG (pOp bIx (af 0) (ah 1)) (pOp bIx (af 1) (ah 0))) ag))))
def iV:PFn:=fnP [false,false] 2 AN
def Fj:iV.ms=[false,false]:=rfl
def Dh(T:TT K mg):Callee P w K mg base "over" 3 ["one", "other"] (sp3 K mg iV):=okP (T.d.get 16 rfl) (au (N:=["one", "other"]) (by decide)) (λ_ _ _ _ _ _=>ar2 λ_ _=>rfl) λnd _ _ _ _ _ _ _ hr=>'d'
def vJ:PSt:=
 (ao (xIf (qOf (pOp bEq (ak bQ (aa (af 0) ag)) (aP "across"))) (aq (ak iV (aa (pOp bIx (af 0) (ah 2)) (aa (pOp bIx (af 0) (ah 3)) ag)))) xNx)
  (aq (ak iV (aa (pOp bIx (af 0) (ah 3)) (aa (pOp bIx (af 0) (ah 2)) ag)))))
def fL:PFn:=fnP [false] 1 vJ
def AO(T:TT K mg):Callee P w K mg base "shape" 6 ["box"] (sp3 K mg fL):=okP (T.d.get 30 rfl) (au (N:=["box"]) (by decide)) (λ_ _ _ _ _ _=>ar1 λ_=>rfl) λnd _ _ _ _ _ _ _ hr=>'d'
def eg:PSt:=
 (xIf (qOf (ak de (aa (af 1) (aa (af 2) ag)))) (ax false 1 (af 2)) xNx)
def jC:PSt:=
 (ao (ax false 1 (pOp bIx (af 0) (ah 0)))
  (ao (lI (dk (af 0)) (gtN 2) (eg))
  (aq (af 1))))
def cJ:PFn:=fnP [false] 3 jC
def oJ:cJ.ms=[false]:=rfl
def g9(T:TT K mg):Callee P w K mg base "greatest_of" 2 ["fractions"] (sp3 K mg cJ):=okP (T.d.get 18 rfl) (au (N:=["fractions", "found", "one"]) (by decide)) (λ_ _ _ _ _ _=>ar1 λ_=>rfl) λnd _ _ _ _ _ _ _ hr=>'d'
def vE:PSt:=
 (ao (ax false 1 (pLC (dk (af 0)) [none] (by decide) (gtN 0) qY (ak fL (aa (af 0) ag))))
  (ao (ax false 2 (ak cJ (aa (af 1) ag)))
  (aq (cD (aa (af 2) (aa (qU fY (af 1) (aa (af 2) ag)) ag))))))
def eX:PFn:=fnP [false] 3 vE
def CB:eX.ms=[false]:=rfl
def Ac(T:TT K mg):Callee P w K mg base "worst" 7 ["boxes"] (sp3 K mg eX):=okP (T.d.get 62 rfl) (au (N:=["boxes", "shapes", "greatest"]) (by decide)) (λ_ _ _ _ _ _=>ar1 λ_=>rfl) λnd _ _ _ _ _ _ _ hr=>(aw (zSlc nd ["boxes", "shapes", "greatest"] (ar (top 62)).names ["box"] [none] 'd' (λnd _ _ _ _ _=>'d') (λ_ _ _ _ _ _=>cq) (λnd _ _ _ _ _=>'d')) 'd')
def kH:PSt:=
 (aq (i8 (ak bg (aa (af 0) ag)) (pOp bGe (af 0) (ah 1))))
def dC:PFn:=fnP [false] 1 kH
def sf:dC.ms=[false]:=rfl
def pR(T:TT K mg):Callee P w K mg base "is_weight" 2 ["thing"] (sp3 K mg dC):=okP (T.d.get 27 rfl) (au (N:=["thing"]) (by decide)) (λ_ _ _ _ _ _=>ar1 λ_=>rfl) λnd _ _ _ _ _ _ _ hr=>'d'
def gW:PSt:=
 (ao (xIf (qO (qNo (qOf (pFn (bE cA) (aa (af 0) (aa (pTy "list") ag))))) (qOf (pOp bEq (pFn bq (aa (af 0) ag)) (ah 0)))) (dW "NoWeights" (aa (aP "this is no list of weights") ag)) xNx)
  (ao (xIf (qNo (qOf (pFn qW (aa (pLC (dk (af 0)) [none] (by decide) (gtN 0) qY (ak dC (aa (af 0) ag))) ag)))) (dW "NoWeights" (aa (aP "a weight is a whole number from 1 on") ag)) xNx)
  (xIf (qOf (pOp bGt (pFn bq (aa (af 0) ag)) fF)) (dW "TooMany" (aa (aP "these are more weights than forty") ag)) xNx)))
def aB:PFn:=fnP [false] 1 gW
def kO:aB.ms=[false]:=rfl
def ky(T:TT K mg):Callee P w K mg base "check_weights" 3 ["thing"] (sp3 K mg aB):=okP (T.d.get 28 rfl) (au (N:=["thing"]) (by decide)) (λ_ _ _ _ _ _=>ar1 λ_=>rfl) λnd _ _ _ _ _ _ _ hr=>(aw 'd' (aw (qz (su (uq (jn (allK (K:=K) rfl rfl) zk rfl (T.n rfl) (by first |exact boF rfl |exact boT rfl) (bJ (gR ["thing"] (ar (top 28)).names ["weight"] [none] 'd' (λnd _ _ _ _ _=>'d') (λ_ _ _ _ _ _=>cq) (λnd _ _ _ _ _=>'d')) 'd')))) 'd' 'd') 'd'))
def lE:PSt:=
 (aq (i8 (pFn (bE cA) (aa (af 0) (aa (pTy "str") ag))) (pOp bIn (af 0) vn)))
def d6:PFn:=fnP [false] 1 lE
def yS:d6.ms=[false]:=rfl
def xI(T:TT K mg):Callee P w K mg base "is_way" 1 ["thing"] (sp3 K mg d6):=okP (T.d.get 24 rfl) (au (N:=["thing"]) (by decide)) (λ_ _ _ _ _ _=>ar1 λ_=>rfl) λnd _ _ _ _ _ _ _ hr=>'d'
def iz:PSt:=
 (ao (xIf (qO (qNo (qOf (pFn (bE cA) (aa (af 0) (aa (pTy "tuple") ag))))) (qOf (pOp bNe (pFn bq (aa (af 0) ag)) (ah 2)))) (aq (pBl false)) xNx)
  (aq (i8 (ak d6 (aa (pOp bIx (af 0) (ah 0)) ag)) (i8 (pFn (bE cA) (aa (pOp bIx (af 0) (ah 1)) (aa (pTy "tuple") ag))) (pOp bGe (pFn bq (aa (pOp bIx (af 0) (ah 1)) ag)) (ah 2))))))
def cV:PFn:=fnP [false] 1 iz
def tQ:cV.ms=[false]:=rfl
def pO(T:TT K mg):Callee P w K mg base "is_branch" 2 ["thing"] (sp3 K mg cV):=okP (T.d.get 43 rfl) (au (N:=["thing"]) (by decide)) (λ_ _ _ _ _ _=>ar1 λ_=>rfl) λnd _ _ _ _ _ _ _ hr=>'d'
def dg:PSt:=
 (ao (ax false 4 (qP 3 qN))
  (xIf (qOf (ak cV (aa (af 4) ag))) (aV (nJ 3 g6 (aa (pOp bIx (af 4) (ah 1)) ag))) (xIf (qO (qNo (qOf (ak bg (aa (af 4) ag)))) (qO (qOf (pOp bLt (af 4) (ah 0))) (qO (qOf (pOp bGe (af 4) (af 1))) (qOf (pOp Cd (af 4) (af 2)))))) (aq (pBl false)) (aV (A8 2 (aa (af 4) ag))))))
def o7:PSt:=
 (ao (ax true 2 w9)
  (ao (ax true 3 (eD (aa (af 0) ag)))
  (ao (xWh (qTr (af 3)) (dg))
  (aq (pOp bEq (pFn qX (aa (af 2) ag)) (af 1))))))
def gf:PFn:=fnP [false,false] 5 o7
def xq:gf.ms=[false,false]:=rfl
def u9(T:TT K mg):Callee P w K mg base "is_tree" 3 ["thing", "many"] (sp3 K mg gf):=okP (T.d.get 44 rfl) (au (N:=["thing", "many", "seen", "waiting", "part"]) (by decide)) (λ_ _ _ _ _ _=>ar2 λ_ _=>rfl) λnd _ _ _ _ _ _ _ hr=>'d'
def jV:PSt:=
 (xIf (qNo (qOf (ak gf (aa (af 0) (aa (af 1) ag))))) (dW "NoTree" (aa (aP "this is no tree for the things") ag)) xNx)
def dS:PFn:=fnP [false,false] 2 jV
def p8:dS.ms=[false,false]:=rfl
def oa(T:TT K mg):Callee P w K mg base "check_tree" 4 ["thing", "many"] (sp3 K mg dS):=okP (T.d.get 45 rfl) (au (N:=["thing", "many"]) (by decide)) (λ_ _ _ _ _ _=>ar2 λ_ _=>rfl) λnd _ _ _ _ _ _ _ hr=>'d'
def kG:PSt:=
 (xIf (qNo (qOf (ak d6 (aa (af 0) ag)))) (dW "NoWay" (aa (aP "this is no way") ag)) xNx)
def eM:PFn:=fnP [false] 1 kG
def uw:eM.ms=[false]:=rfl
def pI(T:TT K mg):Callee P w K mg base "check_way" 2 ["way"] (sp3 K mg eM):=okP (T.d.get 25 rfl) (au (N:=["way"]) (by decide)) (λ_ _ _ _ _ _=>ar1 λ_=>rfl) λnd _ _ _ _ _ _ _ hr=>'d'
def vP:PSt:=
 (aq (ak b9 (aa (pOp aY (pOp aG (pOp bIx (af 0) (ah 0)) (pOp bIx (af 1) (ah 1))) (pOp aG (pOp bIx (af 1) (ah 0)) (pOp bIx (af 0) (ah 1)))) (aa (pOp aG (pOp bIx (af 0) (ah 1)) (pOp bIx (af 1) (ah 1))) ag))))
def iJ:PFn:=fnP [false,false] 2 vP
def A2:iJ.ms=[false,false]:=rfl
def zf(T:TT K mg):Callee P w K mg base "added" 3 ["one", "other"] (sp3 K mg iJ):=okP (T.d.get 14 rfl) (au (N:=["one", "other"]) (by decide)) (λ_ _ _ _ _ _=>ar2 λ_ _=>rfl) λnd _ _ _ _ _ _ _ hr=>'d'
def wx:PSt:=
 (aq (ak b9 (aa (pOp aG (pOp bIx (af 0) (ah 0)) (pOp bIx (af 1) (ah 0))) (aa (pOp aG (pOp bIx (af 0) (ah 1)) (pOp bIx (af 1) (ah 1))) ag))))
def gz:PFn:=fnP [false,false] 2 wx
def Co:gz.ms=[false,false]:=rfl
def Ad(T:TT K mg):Callee P w K mg base "times" 3 ["one", "other"] (sp3 K mg gz):=okP (T.d.get 15 rfl) (au (N:=["one", "other"]) (by decide)) (λ_ _ _ _ _ _=>ar2 λ_ _=>rfl) λnd _ _ _ _ _ _ _ hr=>'d'
def gX:PSt:=
 (ao (ax false 7 (ak iJ (aa (af 0) (aa (ak gz (aa (af 1) (aa (ak b9 (aa (af 4) (aa (af 3) ag))) ag))) ag))))
  (ao (aV (nJ 5 ja (aa (cD (aa (af 7) (aa (ak gz (aa (af 1) (aa (ak b9 (aa (af 6) (aa (af 3) ag))) ag))) ag))) ag)))
  (sU 4 rW (af 6))))
def rE:PSt:=
 (ao (ax false 3 (pFn aO (aa (af 2) ag)))
  (ao (ax false 4 (ah 0))
  (ao (ax true 5 (eD ag))
  (ao (lI (dk (af 2)) (gtN 6) (gX))
  (aq (af 5))))))
def fP:PFn:=fnP [false,false,false] 8 rE
def zq:fP.ms=[false,false,false]:=rfl
def ya(T:TT K mg):Callee P w K mg base "shares" 4 ["start", "length", "weights"] (sp3 K mg fP):=okP (T.d.get 31 rfl) (au (N:=["start", "length", "weights", "whole", "ahead", "found", "weight", "begin"]) (by decide)) (λ_ _ _ _ _ _=>ar3 λ_ _ _=>rfl) λnd _ _ _ _ _ _ _ hr=>'d'
def tN:PSt:=
 (ao (aV (ak aK (aa (af 0) ag)))
  (ao (aV (ak eM (aa (af 1) ag)))
  (ao (aV (ak aB (aa (af 2) ag)))
  (ao (jl (af 0) (gtX (gtT 4 (bL (gtN 3) (bL (gtN 4) (bL (gtN 5) (bL (gtN 6) fD)))))))
  (ao (xIf (qOf (pOp bEq (af 1) (aP "across"))) (aq (pLC (dk (ak fP (aa (af 3) (aa (af 5) (aa (af 2) ag))))) [none,none,some 4,some 6] (by decide) (gtT 2 (bL (gtN 0) (bL (gtN 1) fD))) qY (cD (aa (af 0) (aa (af 2) (aa (af 1) (aa (af 3) ag))))))) xNx)
  (aq (pLC (dk (ak fP (aa (af 4) (aa (af 6) (aa (af 2) ag))))) [none,none,some 3,some 5] (by decide) (gtT 2 (bL (gtN 0) (bL (gtN 1) fD))) qY (cD (aa (af 2) (aa (af 0) (aa (af 3) (aa (af 1) ag))))))))))))
def dY:PFn:=fnP [false,false,false] 7 tN
def AB:dY.ms=[false,false,false]:=rfl
def mB(T:TT K mg):Callee P w K mg base "parted" 5 ["box", "way", "weights"] (sp3 K mg dY):=okP (T.d.get 32 rfl) (au (N:=["box", "way", "weights", "left", "top", "wide", "high"]) (by decide)) (λ_ _ _ _ _ _=>ar3 λ_ _ _=>rfl) λnd _ _ _ _ _ _ _ hr=>(aw 'd' (aw 'd' (aw 'd' (aw 'd' (aw (qz 'd' (c8 (d8 (gR ["box", "way", "weights", "left", "top", "wide", "high"] (ar (top 32)).names ["begin", "length", "top", "high"] [none,none,some 4,some 6] 'd' (λnd _ _ _ _ _=>'d') (λ_ _ _ _ _ _=>cq) (λnd _ _ _ _ _=>'d')))) 'd') (c8 (d8 (gR ["box", "way", "weights", "left", "top", "wide", "high"] (ar (top 32)).names ["begin", "length", "left", "wide"] [none,none,some 3,some 5] 'd' (λnd _ _ _ _ _=>'d') (λ_ _ _ _ _ _=>cq) (λnd _ _ _ _ _=>'d')))))))))
def cC:PSt:=
 (ao (ax false 3 (qP 2 qN))
  (xIf (qOf (pFn (bE cA) (aa (af 3) (aa (pTy "tuple") ag)))) (aV (nJ 2 g6 (aa (pOp bIx (af 3) (ah 1)) ag))) (aV (nJ 1 ja (aa (af 3) ag)))))
def kJ:PSt:=
 (ao (ax true 1 (eD ag))
  (ao (ax true 2 (eD (aa (af 0) ag)))
  (ao (xWh (qTr (af 2)) (cC))
  (aq (af 1)))))
def dH:PFn:=fnP [false] 4 kJ
def rb:dH.ms=[false]:=rfl
def p7(T:TT K mg):Callee P w K mg base "things_in" 1 ["tree"] (sp3 K mg dH):=okP (T.d.get 46 rfl) (au (N:=["tree", "found", "waiting", "part"]) (by decide)) (λ_ _ _ _ _ _=>ar1 λ_=>rfl) λnd _ _ _ _ _ _ _ hr=>'d'
def mY:PSt:=
 (ao (jl (af 2) (gtX (gtT 2 (bL (gtN 3) (bL (gtN 4) fD)))))
  (aq (ak dY (aa (af 0) (aa (af 3) (aa (pLC (dk (af 4)) [none,some 1] (by decide) (gtN 0) qY (pFn aO (aa (pLC (dk (ak dH (aa (af 0) ag))) [none,some 1] (by decide) (gtN 0) qY (pOp bIx (af 1) (af 0))) ag))) ag))))))
def fG:PFn:=fnP [false,false,false] 5 mY
def uP:fG.ms=[false,false,false]:=rfl
def rP(T:TT K mg):Callee P w K mg base "parts_of" 6 ["room", "weights", "tree"] (sp3 K mg fG):=okP (T.d.get 49 rfl) (au (N:=["room", "weights", "tree", "way", "trees"]) (by decide)) (λ_ _ _ _ _ _=>ar3 λ_ _ _=>rfl) λnd _ _ _ _ _ _ _ hr=>(aw 'd' (c8 (d8 (zcF (mB T) hr (bJ 'd' (bJ 'd' (bJ (gR ["room", "weights", "tree", "way", "trees"] (ar (top 49)).names ["part", "weights"] [none,some 1] 'd' (λnd _ _ _ _ _=>'d') (λ_ _ _ _ _ _=>cq) (λnd _ _ _ _ _=>(jn (o6 (K:=K) rfl rfl) zi rfl (T.n rfl) (by first |exact boF rfl |exact boT rfl) (bJ (gR ["part", "weights"] [(PySem.Str.ofString ".0",PySem.NameKind.local),(PySem.Str.ofString "part",PySem.NameKind.local),(PySem.Str.ofString "sum",PySem.NameKind.globalImplicit),(PySem.Str.ofString "things_in",PySem.NameKind.globalImplicit),(PySem.Str.ofString "weights",PySem.NameKind.cell)] ["thing", "weights"] [none,some 1] 'd' (λnd _ _ _ _ _=>'d') (λ_ _ _ _ _ _=>cq) (λnd _ _ _ _ _=>'d')) 'd')))) 'd')))))))
def jt(s:PFx [false,false,false,true]):PSt:=
 (aV (ak s.fn (aa (af 5) (aa (af 1) (aa (af 4) (aa (af 3) ag))))))
def gB(s:PFx [false,false,false,true]):PSt:=
 (ao (xIf (qNo (qOf (pFn (bE cA) (aa (af 2) (aa (pTy "tuple") ag))))) (ao (nZ 3 seI (af 2) (af 0))
  xg) xNx)
  (lI (yj (aa (pOp bIx (af 2) (ah 1)) (aa (ak fG (aa (af 0) (aa (af 1) (aa (af 2) ag)))) ag))) (gtX (gtT 2 (bL (gtN 4) (bL (gtN 5) fD)))) (jt s)))
def dG:Nat->PFx [false,false,false,true]
 |0=>PFx.none [false,false,false,true]
 |n+1=>PFx.of [false,false,false,true] 6 (gB (dG n))
theorem mq(T:TT K mg):∀n,Callee P w K mg base "place" (8+n) ["room", "weights", "tree", "placed"] (sp3 K mg (dG n).fn)
 |0=>ok0 (T.d.get 48 rfl) (au (N:=["room", "weights", "tree", "placed", "part", "box"]) (by decide)) (λ_ _ _ _ _ _=>ar4 λ_ _ _ _=>rfl)
 |
  n+1=>by
  have ih:=mq T n;show Callee _ _ _ _ _ _ _ _ (sp3 _ _ (PFx.of [false,false,false,true] 6 (gB (dG n))).fn);exact okX (k:=8+n) (T.d.get 48 rfl) (au (N:=["room", "weights", "tree", "placed", "part", "box"]) (by decide)) (λ_ _ _ _ _ _=>ar4 λ_ _ _ _=>rfl) λnd _ _ _ _ _ _ _ hr=>'d'
def my:PSt:=
 (ao (aV (ak aK (aa (af 0) ag)))
  (ao (aV (ak aB (aa (af 1) ag)))
  (ao (aV (ak dS (aa (af 2) (aa (pFn bq (aa (af 1) ag)) ag))))
  (ao (ax true 3 pD0)
  (ao (aV (ak (dG 42).fn (aa (af 0) (aa (af 1) (aa (af 2) (aa (af 3) ag))))))
  (aq (pLC (mw (aa (pFn bq (aa (af 1) ag)) ag)) [none,some 3] (by decide) (gtN 0) qY (pOp xr (af 1) (af 0)))))))))
def fA:PFn:=fnP [false,false,false] 4 my
def uY:fA.ms=[false,false,false]:=rfl
def sL(T:TT K mg):Callee P w K mg base "boxes_by" 51 ["room", "weights", "tree"] (sp3 K mg fA):=okP (T.d.get 47 rfl) (au (N:=["room", "weights", "tree", "placed"]) (by decide)) (λ_ _ _ _ _ _=>ar3 λ_ _ _=>rfl) λnd _ _ _ _ _ _ _ hr=>(aw 'd' (aw 'd' (aw 'd' (aw 'd' (aw 'd' (c8 (d8 (gR ["room", "weights", "tree", "placed"] (ar (top 47)).names ["number", "placed"] [none,some 3] 'd' (λnd _ _ _ _ _=>'d') (λ_ _ _ _ _ _=>cq) (λnd _ _ _ _ _=>'d')))))))))
def gn:PSt:=
 (ao (ax false 1 (pLC (ye (aa (ah 1) (aa (pFn bq (aa (af 0) ag)) ag))) [none,some 0] (by decide) (gtN 0) qY (pFn hX (aa (pOp dN (pOp aG (ah 2) (pFn aO (aa (pSl (af 1) oN (oS (af 0))) ag))) (pFn aO (aa (af 1) ag))) ag))))
  (aq (pOp aY (qU fY (af 1) (aa (pFn rO (aa (af 1) ag)) ag)) (ah 1))))
def bG:PFn:=fnP [false] 2 gn
def jJ:bG.ms=[false]:=rfl
def fH(T:TT K mg):Callee P w K mg base "nearest_to_half" 1 ["weights"] (sp3 K mg bG):=okP (T.d.get 59 rfl) (au (N:=["weights", "apart"]) (by decide)) (λ_ _ _ _ _ _=>ar1 λ_=>rfl) λnd _ _ _ _ _ _ _ hr=>(aw (zSlc nd ["weights", "apart"] (ar (top 59)).names ["many", "weights"] [none,some 0] 'd' (λnd _ _ _ _ _=>'d') (λ_ _ _ _ _ _=>cq) (λnd _ _ _ _ _=>'d')) 'd')
def cQ:PSt:=
 (sU 1 rW (ah 1))
def gm:PSt:=
 (ao (ax false 1 (ah 1))
  (ao (xWh (qOf (pOp bLt (pOp aG (ah 3) (pFn aO (aa (pSl (af 0) oN (oS (af 1))) ag))) (pFn aO (aa (af 0) ag)))) (cQ))
  (aq (af 1))))
def bI:PFn:=fnP [false] 2 gm
def jO:bI.ms=[false]:=rfl
def fI(T:TT K mg):Callee P w K mg base "fewest_to_third" 1 ["weights"] (sp3 K mg bI):=okP (T.d.get 60 rfl) (au (N:=["weights", "many"]) (by decide)) (λ_ _ _ _ _ _=>ar1 λ_=>rfl) λnd _ _ _ _ _ _ _ hr=>'d'
def jH:PSt:=
 (aq (ak dY (aa (af 0) (aa (ak bQ (aa (af 0) ag)) (aa (eD (aa (pFn aO (aa (pSl (af 1) oN (oS (af 2))) ag)) (aa (pFn aO (aa (pSl (af 1) (oS (af 2)) oN) ag)) ag))) ag)))))
def cu:PFn:=fnP [false,false,false] 3 jH
def pW:cu.ms=[false,false,false]:=rfl
def nG(T:TT K mg):Callee P w K mg base "cut_in_two" 6 ["room", "weights", "many"] (sp3 K mg cu):=okP (T.d.get 33 rfl) (au (N:=["room", "weights", "many"]) (by decide)) (λ_ _ _ _ _ _=>ar3 λ_ _ _=>rfl) λnd _ _ _ _ _ _ _ hr=>'d'
def bW(s:PFx [false,false,false,false]):PSt:=
 (ao (xIf (qOf (pOp bEq (pFn bq (aa (af 1) ag)) (ah 1))) (aq (pOp bIx (af 1) (ah 0))) xNx)
  (ao (ax false 4 (lZ [("nearest_to_half",bG),("fewest_to_third",bI)] (af 3) (aa (af 2) ag)))
  (ao (jl (ak cu (aa (af 0) (aa (af 2) (aa (af 4) ag)))) (gtX (gtU 2 (bL (gtN 5) (bL (gtN 6) fD)))))
  (ao (ax false 7 (ak s.fn (aa (af 5) (aa (pSl (af 1) oN (oS (af 4))) (aa (pSl (af 2) oN (oS (af 4))) (aa (af 3) ag))))))
  (ao (ax false 8 (ak s.fn (aa (af 6) (aa (pSl (af 1) (oS (af 4)) oN) (aa (pSl (af 2) (oS (af 4)) oN) (aa (af 3) ag))))))
  (aq (cD (aa (ak bQ (aa (af 0) ag)) (aa (cD (aa (af 7) (aa (af 8) ag))) ag)))))))))
def aX:Nat->PFx [false,false,false,false]
 |0=>PFx.none [false,false,false,false]
 |n+1=>PFx.of [false,false,false,false] 9 (bW (aX n))
theorem eW(T:TT K mg):∀n,Callee P w K mg base "tree_in_two" (8+n) ["room", "numbers", "weights", "how_many"] (sp3 K mg (aX n).fn)
 |0=>ok0 (T.d.get 58 rfl) (au (N:=["room", "numbers", "weights", "how_many", "many", "first", "second", "ahead", "behind"]) (by decide)) (λ_ _ _ _ _ _=>ar4 λ_ _ _ _=>rfl)
 |
  n+1=>by
  have ih:=eW T n;show Callee _ _ _ _ _ _ _ _ (sp3 _ _ (PFx.of [false,false,false,false] 9 (bW (aX n))).fn);exact okX (k:=8+n) (T.d.get 58 rfl) (au (N:=["room", "numbers", "weights", "how_many", "many", "first", "second", "ahead", "behind"]) (by decide)) (λ_ _ _ _ _ _=>ar4 λ_ _ _ _=>rfl) λnd _ _ _ _ _ _ _ hr=>(aw 'd' (aw (zsS 4 nd (BP (wm (fH T) (hr.mono (by omega)) (wm (fI T) (hr.mono (by omega)) HZ)) 'd' (Ee DL) 'd')) 'd'))
def jB:PSt:=
 (ao (aV (ak aK (aa (af 0) ag)))
  (ao (aV (ak aB (aa (af 1) ag)))
  (aq (ak (aX 42).fn (aa (af 0) (aa (pFn jz (aa (pFn bq (aa (af 1) ag)) ag)) (aa (af 1) (aa (yg "nearest_to_half") ag))))))))
def bX:PFn:=fnP [false,false] 2 jB
def nS:bX.ms=[false,false]:=rfl
def ni(T:TT K mg):Callee P w K mg base "halves_tree" 51 ["room", "weights"] (sp3 K mg bX):=okP (T.d.get 56 rfl) (au (N:=["room", "weights"]) (by decide)) (λ_ _ _ _ _ _=>ar2 λ_ _=>rfl) λnd _ _ _ _ _ _ _ hr=>'d'
def kK:PSt:=
 (ao (xIf (qOf (pOp bEq (af 0) (aP "across"))) (aq (aP "down")) xNx)
  (aq (aP "across")))
def dM:PFn:=fnP [false] 1 kK
def tV:dM.ms=[false]:=rfl
def pX(T:TT K mg):Callee P w K mg base "other_way" 1 ["way"] (sp3 K mg dM):=okP (T.d.get 26 rfl) (au (N:=["way"]) (by decide)) (λ_ _ _ _ _ _=>ar1 λ_=>rfl) λnd _ _ _ _ _ _ _ hr=>'d'
def iP:PSt:=
 (ao (ax false 3 (af 0))
  (ao (xIf (qOf (pOp bLt (af 2) (pFn bq (aa (af 1) ag)))) (ax false 3 (pOp bIx (ak cu (aa (af 0) (aa (af 1) (aa (af 2) ag)))) (ah 0))) xNx)
  (ao (ax false 4 (ak dY (aa (af 3) (aa (ak dM (aa (ak bQ (aa (af 0) ag)) ag)) (aa (pSl (af 1) oN (oS (af 2))) ag)))))
  (aq (ak cJ (aa (pLC (dk (af 4)) [none] (by decide) (gtN 0) qY (ak fL (aa (af 0) ag))) ag))))))
def cm:PFn:=fnP [false,false,false] 5 iP
def l9:cm.ms=[false,false,false]:=rfl
def lC(T:TT K mg):Callee P w K mg base "worst_of_row" 7 ["room", "weights", "many"] (sp3 K mg cm):=okP (T.d.get 41 rfl) (au (N:=["room", "weights", "many", "part", "boxes"]) (by decide)) (λ_ _ _ _ _ _=>ar3 λ_ _ _=>rfl) λnd _ _ _ _ _ _ _ hr=>(aw 'd' (aw 'd' (aw 'd' (c8 (d8 (zcF (g9 T) hr (bJ (gR ["room", "weights", "many", "part", "boxes"] (ar (top 41)).names ["box"] [none] 'd' (λnd _ _ _ _ _=>'d') (λ_ _ _ _ _ _=>cq) (λnd _ _ _ _ _=>'d')) 'd')))))))
def dB:PSt:=
 (ao (ax false 4 (ak cm (aa (af 0) (aa (af 1) (aa (pOp aY (af 2) (ah 1)) ag)))))
  (ao (xIf (qOf (ak de (aa (af 3) (aa (af 4) ag)))) xBk xNx)
  (ao (ax false 3 (af 4))
  (sU 2 rW (ah 1)))))
def jY:PSt:=
 (ao (ax false 2 (ah 1))
  (ao (ax false 3 (ak cm (aa (af 0) (aa (af 1) (aa (af 2) ag)))))
  (ao (xWh (qOf (pOp bLt (af 2) (pFn bq (aa (af 1) ag)))) (dB))
  (aq (af 2)))))
def dX:PFn:=fnP [false,false] 5 jY
def pP:dX.ms=[false,false]:=rfl
def nD(T:TT K mg):Callee P w K mg base "row_length" 8 ["room", "weights"] (sp3 K mg dX):=okP (T.d.get 40 rfl) (au (N:=["room", "weights", "many", "before", "behind"]) (by decide)) (λ_ _ _ _ _ _=>ar2 λ_ _=>rfl) λnd _ _ _ _ _ _ _ hr=>'d'
def jE:PSt:=
 (ao (xIf (qOf (pOp bEq (pFn bq (aa (af 1) ag)) (ah 1))) (aq (pOp bIx (af 1) (ah 0))) xNx)
  (aq (cD (aa (ak dM (aa (ak bQ (aa (af 0) ag)) ag)) (aa (pFn n8 (aa (af 1) ag)) ag)))))
def dq:PFn:=fnP [false,false] 2 jE
def oz:dq.ms=[false,false]:=rfl
def mP(T:TT K mg):Callee P w K mg base "tree_of_row" 6 ["room", "numbers"] (sp3 K mg dq):=okP (T.d.get 39 rfl) (au (N:=["room", "numbers"]) (by decide)) (λ_ _ _ _ _ _=>ar2 λ_ _=>rfl) λnd _ _ _ _ _ _ _ hr=>'d'
def cp(s:PFx [false,false,false]):PSt:=
 (ao (ax false 3 (ak dX (aa (af 0) (aa (af 2) ag))))
  (ao (ax false 4 (ak dq (aa (af 0) (aa (pSl (af 1) oN (oS (af 3))) ag))))
  (ao (xIf (qOf (pOp bEq (af 3) (pFn bq (aa (af 1) ag)))) (aq (af 4)) xNx)
  (ao (ax false 5 (pOp bIx (ak cu (aa (af 0) (aa (af 2) (aa (af 3) ag)))) (ah 1)))
  (aq (cD (aa (ak bQ (aa (af 0) ag)) (aa (cD (aa (af 4) (aa (ak s.fn (aa (af 5) (aa (pSl (af 1) (oS (af 3)) oN) (aa (pSl (af 2) (oS (af 3)) oN) ag)))) ag))) ag))))))))
def aZ:Nat->PFx [false,false,false]
 |0=>PFx.none [false,false,false]
 |n+1=>PFx.of [false,false,false] 6 (cp (aZ n))
theorem eG(T:TT K mg):∀n,Callee P w K mg base "tree_of_rows" (10+n) ["room", "numbers", "weights"] (sp3 K mg (aZ n).fn)
 |0=>ok0 (T.d.get 38 rfl) (au (N:=["room", "numbers", "weights", "many", "tree", "rest"]) (by decide)) (λ_ _ _ _ _ _=>ar3 λ_ _ _=>rfl)
 |
  n+1=>by
  have ih:=eG T n;show Callee _ _ _ _ _ _ _ _ (sp3 _ _ (PFx.of [false,false,false] 6 (cp (aZ n))).fn);exact okX (k:=10+n) (T.d.get 38 rfl) (au (N:=["room", "numbers", "weights", "many", "tree", "rest"]) (by decide)) (λ_ _ _ _ _ _=>ar3 λ_ _ _=>rfl) λnd _ _ _ _ _ _ _ hr=>'d'
def kI:PSt:=
 (ao (aV (ak aK (aa (af 0) ag)))
  (ao (aV (ak aB (aa (af 1) ag)))
  (aq (ak (aZ 42).fn (aa (af 0) (aa (pFn jz (aa (pFn bq (aa (af 1) ag)) ag)) (aa (af 1) ag)))))))
def cS:PFn:=fnP [false,false] 2 kI
def rL:cS.ms=[false,false]:=rfl
def pK(T:TT K mg):Callee P w K mg base "rows_tree" 53 ["room", "weights"] (sp3 K mg cS):=okP (T.d.get 35 rfl) (au (N:=["room", "weights"]) (by decide)) (λ_ _ _ _ _ _=>ar2 λ_ _=>rfl) λnd _ _ _ _ _ _ _ hr=>'d'
def dn:PSt:=
 (aq (pFn um (aa (pFn bq (aa (af 0) ag)) (aa (af 0) ag))))
def aJ:PFn:=fnP [false] 1 dn
def iN:aJ.ms=[false]:=rfl
def ie(T:TT K mg):Callee P w K mg base "by_falling_weights" 1 ["weights"] (sp3 K mg aJ):=okPL (T.d.get 37 rfl) T.l (au (N:=["weights"]) (by decide)) (λ_ _ _ _ _ _=>ar1 λ_=>rfl) λnd _ _ _ _ _ _ _ _ e2 e3 hr=>(c8 (d8 (Fn rfl hr.depth rfl (T.n rfl) rfl (T.n rfl) rfl rfl rfl e2 e3 'd')))
def g0:PSt:=
 (ao (aV (ak aK (aa (af 0) ag)))
  (ao (aV (ak aB (aa (af 1) ag)))
  (ao (ax false 2 (ak aJ (aa (af 1) ag)))
  (aq (ak (aZ 42).fn (aa (af 0) (aa (af 2) (aa (pLC (dk (af 2)) [none,some 1] (by decide) (gtN 0) qY (pOp bIx (af 1) (af 0))) ag))))))))
def bF:PFn:=fnP [false,false] 3 g0
def kP:bF.ms=[false,false]:=rfl
def kA(T:TT K mg):Callee P w K mg base "greatest_tree" 53 ["room", "weights"] (sp3 K mg bF):=okP (T.d.get 36 rfl) (au (N:=["room", "weights", "numbers"]) (by decide)) (λ_ _ _ _ _ _=>ar2 λ_ _=>rfl) λnd _ _ _ _ _ _ _ hr=>(aw 'd' (aw 'd' (aw 'd' (c8 (d8 (zcF (eG T 42) hr (bJ 'd' (bJ 'd' (bJ (gR ["room", "weights", "numbers"] (ar (top 36)).names ["number", "weights"] [none,some 1] 'd' (λnd _ _ _ _ _=>'d') (λ_ _ _ _ _ _=>cq) (λnd _ _ _ _ _=>'d')) 'd')))))))))
def jA:PSt:=
 (ao (aV (ak aK (aa (af 0) ag)))
  (ao (aV (ak aB (aa (af 1) ag)))
  (ao (ax false 2 (ak aJ (aa (af 1) ag)))
  (aq (ak (aX 42).fn (aa (af 0) (aa (af 2) (aa (pLC (dk (af 2)) [none,some 1] (by decide) (gtN 0) qY (pOp bIx (af 1) (af 0))) (aa (yg "fewest_to_third") ag)))))))))
def bY:PFn:=fnP [false,false] 3 jA
def oi:bY.ms=[false,false]:=rfl
def mO(T:TT K mg):Callee P w K mg base "thirds_tree" 51 ["room", "weights"] (sp3 K mg bY):=okP (T.d.get 57 rfl) (au (N:=["room", "weights", "numbers"]) (by decide)) (λ_ _ _ _ _ _=>ar2 λ_ _=>rfl) λnd _ _ _ _ _ _ _ hr=>(aw 'd' (aw 'd' (aw 'd' (c8 (d8 (zcF (eW T 42) hr (bJ 'd' (bJ 'd' (bJ (gR ["room", "weights", "numbers"] (ar (top 57)).names ["number", "weights"] [none,some 1] 'd' (λnd _ _ _ _ _=>'d') (λ_ _ _ _ _ _=>cq) (λnd _ _ _ _ _=>'d')) 'd')))))))))
def iY:PSt:=
 (ao (aV (ak aK (aa (af 1) ag)))
  (ao (aV (ak aB (aa (af 2) ag)))
  (ao (xIf (qOf (pOp bEq (pFn bq (aa (af 2) ag)) (ah 1))) (aq (ah 0)) xNx)
  (aq (cD (aa (af 0) (aa (pFn mI (aa (pFn bq (aa (af 2) ag)) ag)) ag)))))))
def c9:PFn:=fnP [false,false,false] 3 iY
def l8:c9.ms=[false,false,false]:=rfl
def lg(T:TT K mg):Callee P w K mg base "side_by_side" 5 ["way", "room", "weights"] (sp3 K mg c9):=okP (T.d.get 55 rfl) (au (N:=["way", "room", "weights"]) (by decide)) (λ_ _ _ _ _ _=>ar3 λ_ _ _=>rfl) λnd _ _ _ _ _ _ _ hr=>'d'
def dD:PSt:=
 (ao (aV (ak bA (aa (af 0) ag)))
  (ao (xIf (qOf (pOp bEq (af 0) (aP "halves"))) (aq (ak bX (aa (af 1) (aa (af 2) ag)))) xNx)
  (ao (xIf (qOf (pOp bEq (af 0) (aP "rows"))) (aq (ak cS (aa (af 1) (aa (af 2) ag)))) xNx)
  (ao (xIf (qOf (pOp bEq (af 0) (aP "greatest"))) (aq (ak bF (aa (af 1) (aa (af 2) ag)))) xNx)
  (ao (xIf (qOf (pOp bEq (af 0) (aP "thirds"))) (aq (ak bY (aa (af 1) (aa (af 2) ag)))) xNx)
  (aq (ak c9 (aa (af 0) (aa (af 1) (aa (af 2) ag))))))))))
def aE:PFn:=fnP [false,false,false] 3 dD
def tU:aE.ms=[false,false,false]:=rfl
def pL(T:TT K mg):Callee P w K mg base "rule_tree" 54 ["rule", "room", "weights"] (sp3 K mg aE):=okP (T.d.get 53 rfl) (au (N:=["rule", "room", "weights"]) (by decide)) (λ_ _ _ _ _ _=>ar3 λ_ _ _=>rfl) λnd _ _ _ _ _ _ _ hr=>'d'
def oW:PSt:=
 (aq (ak fA (aa (af 1) (aa (af 2) (aa (ak aE (aa (af 0) (aa (af 1) (aa (af 2) ag)))) ag)))))
def cP:PFn:=fnP [false,false,false] 3 oW
def xW:cP.ms=[false,false,false]:=rfl
def uV(T:TT K mg):Callee P w K mg base "by_rule" 55 ["rule", "room", "weights"] (sp3 K mg cP):=okP (T.d.get 54 rfl) (au (N:=["rule", "room", "weights"]) (by decide)) (λ_ _ _ _ _ _=>ar3 λ_ _ _=>rfl) λnd _ _ _ _ _ _ _ hr=>'d'
def nv:PSt:=
 (aq (pOp bIx (ak eX (aa (ak cP (aa (af 0) (aa (af 1) (aa (af 2) ag)))) ag)) (ah 0)))
def eC:PFn:=fnP [false,false,false] 3 nv
def vb:eC.ms=[false,false,false]:=rfl
def tX(T:TT K mg):Callee P w K mg base "worst_by" 56 ["rule", "room", "weights"] (sp3 K mg eC):=okP (T.d.get 67 rfl) (au (N:=["rule", "room", "weights"]) (by decide)) (λ_ _ _ _ _ _=>ar3 λ_ _ _=>rfl) λnd _ _ _ _ _ _ _ hr=>'d'
def gE:PSt:=
 (aq (pOp aY (pOp nX (eD (aa (ah 1) ag)) (pOp dN (af 1) (ah 1))) (eD (aa (pOp aY (pOp dN (af 0) (af 1)) (ah 1)) ag))))
def cz:PFn:=fnP [false,false] 2 gE
def pH:cz.ms=[false,false]:=rfl
def nM(T:TT K mg):Callee P w K mg base "first_list" 1 ["whole", "many"] (sp3 K mg cz):=okP (T.d.get 65 rfl) (au (N:=["whole", "many"]) (by decide)) (λ_ _ _ _ _ _=>ar2 λ_ _=>rfl) λnd _ _ _ _ _ _ _ hr=>'d'
def bO:PSt:=
 (ao (iu 4 5 (aa (pFn aO (aa (pSl (af 0) (oS (pOp aY (af 3) (ah 1))) oN) ag)) (aa (pOp dN (pOp dN (af 2) (af 3)) (ah 1)) ag)))
  (xIf (qOf (pOp bGt (af 4) (af 5))) (aq (pOp aY (pOp aY (pSl (af 0) oN (oS (af 3))) (eD (aa (pOp aY (pOp bIx (af 0) (af 3)) (ah 1)) ag))) (ak cz (aa (pOp dN (af 4) (ah 1)) (aa (af 5) ag))))) xNx))
def gi:PSt:=
 (ao (aV (ak aB (aa (af 0) ag)))
  (ao (iu 1 2 (aa (pFn aO (aa (af 0) ag)) (aa (pFn bq (aa (af 0) ag)) ag)))
  (ao (lI (w6 (aa (pOp dN (af 2) (ah 2)) (aa (pUn nE (ah 1)) (aa (pUn nE (ah 1)) ag)))) (gtN 3) (bO))
  (ao (xIf (qAn (qOf (pOp bLt (af 2) fF)) (qOf (pOp bLt (af 2) (af 1)))) (aq (ak cz (aa (af 1) (aa (pOp aY (af 2) (ah 1)) ag)))) xNx)
  (aq (eD (aa (pOp aY (af 1) (ah 1)) ag)))))))
def cI:PFn:=fnP [false] 6 gi
def oq:cI.ms=[false]:=rfl
def mr(T:TT K mg):Callee P w K mg base "list_behind" 4 ["weights"] (sp3 K mg cI):=okP (T.d.get 66 rfl) (au (N:=["weights", "whole", "many", "at", "rest", "places"]) (by decide)) (λ_ _ _ _ _ _=>ar1 λ_=>rfl) λnd _ _ _ _ _ _ _ hr=>'d'
def dP:PSt:=
 (ao (xIf (qOf (ak de (aa (ak eC (aa (af 0) (aa (af 2) (aa (af 4) ag)))) (aa (ak eC (aa (af 1) (aa (af 2) (aa (af 4) ag)))) ag)))) (aq (af 4)) xNx)
  (ax false 4 (ak cI (aa (af 4) ag))))
def fN:PSt:=
 (ao (aV (ak bA (aa (af 0) ag)))
  (ao (aV (ak bA (aa (af 1) ag)))
  (ao (aV (ak aK (aa (af 2) ag)))
  (ao (xIf (qO (qNo (qOf (ak bg (aa (af 3) ag)))) (qO (qOf (pOp bLt (af 3) (ah 1))) (qOf (pOp bGt (af 3) kB)))) (dW "NoWeights" (aa (aP "this is no sum that lists are gone through to") ag)) xNx)
  (ao (ax false 4 (eD (aa (ah 1) ag)))
  (ao (xWh (qOf (pOp bLe (pFn aO (aa (af 4) ag)) (af 3))) (dP))
  (aq jv)))))))
def a9:PFn:=fnP [false,false,false,false] 5 fN
def m7:a9.ms=[false,false,false,false]:=rfl
def kZ(T:TT K mg):Callee P w K mg base "first_better" 57 ["one", "other", "room", "most"] (sp3 K mg a9):=okP (T.d.get 68 rfl) (au (N:=["one", "other", "room", "most", "weights"]) (by decide)) (λ_ _ _ _ _ _=>ar4 λ_ _ _ _=>rfl) λnd _ _ _ _ _ _ _ hr=>'d'
def mJ:PSt:=
 (aq (pOp bLt (pOp aG (pOp bIx (af 0) (ah 0)) (pOp bIx (af 1) (ah 1))) (pOp aG (pOp bIx (af 1) (ah 0)) (pOp bIx (af 0) (ah 1)))))
def fq:PFn:=fnP [false,false] 2 mJ
def u6:fq.ms=[false,false]:=rfl
def uf(T:TT K mg):Callee P w K mg base "_law_less" 1 ["_law_one", "_law_other"] (sp3 K mg fq):=okP (T.d.get 74 rfl) (au (N:=["_law_one", "_law_other"]) (by decide)) (λ_ _ _ _ _ _=>ar2 λ_ _=>rfl) λnd _ _ _ _ _ _ _ hr=>'d'
def gY:PSt:=
 (aq (ak fq (aa (pOp bIx (ak eX (aa (ak cP (aa (af 0) (aa (af 2) (aa (af 3) ag)))) ag)) (ah 0)) (aa (pOp bIx (ak eX (aa (ak cP (aa (af 1) (aa (af 2) (aa (af 3) ag)))) ag)) (ah 0)) ag))))
def bU:PFn:=fnP [false,false,false,false] 4 gY
def kY:bU.ms=[false,false,false,false]:=rfl
def kx(T:TT K mg):Callee P w K mg base "_law_is_better" 56 ["_law_one", "_law_other", "_law_room_here", "_law_weights"] (sp3 K mg bU):=okP (T.d.get 77 rfl) (au (N:=["_law_one", "_law_other", "_law_room_here", "_law_weights"]) (by decide)) (λ_ _ _ _ _ _=>ar4 λ_ _ _ _=>rfl) λnd _ _ _ _ _ _ _ hr=>'d'
def mh:PSt:=
 (aq (xk (qE ["across", "down"] (aa (aP "down") (aa (aP "across") ag))) (af 0) (af 0)))
def dm:PFn:=fnP [false] 1 mh
def uW:dm.ms=[false]:=rfl
def sP(T:TT K mg):Callee P w K mg base "_law_over" 1 ["_law_rule"] (sp3 K mg dm):=okP (T.d.get 78 rfl) (au (N:=["_law_rule"]) (by decide)) (λ_ _ _ _ _ _=>ar1 λ_=>rfl) λnd _ _ _ _ _ _ _ hr=>(c8 (d8 (BW (Ei hr) (vF (gI rG (gI rG wa))) 'd' 'd')))
def ur:PSt:=
 (ao (xIf (qOf (ak bU (aa (af 3) (aa (af 4) (aa (af 5) (aa (af 9) ag)))))) (aq (pBl false)) xNx)
  (ax false 9 (ak cI (aa (af 9) ag))))
def xX:PSt:=
 (ao (ax true 1 (ak fE (aa (af 0) ag)))
  (ao (ax false 2 (eD (aa (aP "across") (aa (aP "down") (aa (aP "halves") (aa (aP "rows") (aa (aP "greatest") (aa (aP "thirds") ag))))))))
  (ao (iu 3 4 (aa (pOp bIx (af 2) (ak aH (aa (af 1) (aa (ah 6) ag)))) (aa (pOp bIx (af 2) (ak aH (aa (af 1) (aa (ah 6) ag)))) ag)))
  (ao (ax false 5 (ak fo (aa (af 1) ag)))
  (ao (ax false 6 (pOp aY (ah 1) (ak aH (aa (af 1) (aa (ah 5) ag)))))
  (ao (xIf (qOf (pOp bGt (pFn m8 (aa (pOp aY (pOp bIx (af 5) (ah 2)) (pOp bIx (af 5) (ah 3))) ag)) (pOp ij (ah 10) (ah 6)))) (ax false 6 (pFn rT (aa (af 6) (aa (ah 3) ag)))) xNx)
  (ao (ax false 7 (ak a9 (aa (af 3) (aa (af 4) (aa (af 5) (aa (af 6) ag))))))
  (ao (ax false 8 (ak a9 (aa (af 3) (aa (af 4) (aa (af 5) (aa (pOp aY (af 6) (ah 1)) ag))))))
  (ao (xIf (qO (qOf (pOp oI (ak a9 (aa (af 3) (aa (af 3) (aa (af 5) (aa (af 6) ag))))) jv)) (qAn (qOf (pOp oI (af 7) jv)) (qOf (pOp bNe (af 7) (af 8))))) (aq (pBl false)) xNx)
  (ao (xIf (qAn (qOf (pOp bIs (af 7) jv)) (qAn (qOf (pOp oI (af 8) jv)) (qOf (pOp bNe (pFn aO (aa (af 8) ag)) (pOp aY (af 6) (ah 1)))))) (aq (pBl false)) xNx)
  (ao (ax false 9 (eD (aa (ah 1) ag)))
  (ao (xWh (qAn (qOf (pOp bNe (af 9) (af 8))) (qOf (pOp bLe (pFn aO (aa (af 9) ag)) (pOp aY (af 6) (ah 1))))) (ur))
  (ao (xIf (qAn (qOf (pOp oI (af 8) jv)) (qNo (qOf (ak bU (aa (af 3) (aa (af 4) (aa (af 5) (aa (af 8) ag)))))))) (aq (pBl false)) xNx)
  (ao (ax false 10 (cD (aa (pOp bIx (af 5) (ah 1)) (aa (pOp bIx (af 5) (ah 0)) (aa (pOp bIx (af 5) (ah 3)) (aa (pOp bIx (af 5) (ah 2)) ag))))))
  (ao (xIf (qOf (pOp bNe (ak a9 (aa (ak dm (aa (af 3) ag)) (aa (ak dm (aa (af 4) ag)) (aa (af 10) (aa (af 6) ag))))) (af 7))) (aq (pBl false)) xNx)
  (ao (ax false 11 (pOp dN (ah 3) (pOp aG (ah 2) (pFn xh (aa (pOp bGt (pFn m8 (aa (pOp aY (pOp bIx (af 5) (ah 2)) (pOp bIx (af 5) (ah 3))) ag)) (pOp ij (ah 10) (ah 6))) ag)))))
  (ao (ax false 12 (cD (aa (cD (aa (ah 5) (aa (ah 7) ag))) (aa (cD (aa (pUn nE (ah 9)) (aa (ah 1) ag))) (aa (ak cc (aa (pOp aG (af 11) (pOp bIx (pOp bIx (af 5) (ah 2)) (ah 0))) (aa (pOp bIx (pOp bIx (af 5) (ah 2)) (ah 1)) ag))) (aa (ak cc (aa (pOp aG (af 11) (pOp bIx (pOp bIx (af 5) (ah 3)) (ah 0))) (aa (pOp bIx (pOp bIx (af 5) (ah 3)) (ah 1)) ag))) ag))))))
  (ao (xIf (qOf (pOp bNe (ak a9 (aa (af 3) (aa (af 4) (aa (af 12) (aa (af 6) ag))))) (af 7))) (aq (pBl false)) xNx)
  (ao (ax false 13 (ak a9 (aa (af 4) (aa (af 3) (aa (af 5) (aa (af 6) ag))))))
  (aq (pOr (pOp bIs (af 7) jv) (pOp bNe (af 13) (af 7)))))))))))))))))))))))
def qT:PFn:=fnP [false] 14 xX
def E6(T:TT K mg):Callee P w K mg base "law" 58 ["_law_script"] (sp3 K mg qT):=okP (T.d.get 79 rfl) (au (N:=["_law_script", "_law_feed_here", "_law_rules", "_law_one", "_law_other", "_law_room_here", "_law_most", "_law_found", "_law_more", "_law_weights", "_law_turn", "_law_by", "_law_great_here", "_law_back"]) (by decide)) (λ_ _ _ _ _ _=>ar1 λ_=>rfl) λnd _ _ _ _ _ _ _ hr=>'d'
end
noncomputable def fdD (cs:List Int) (a l:Int):Val:=.dct [(.inr "cells",.lst (cs.map .int)),(.inr "at",.int a),(.inr "left",.int l)]
def Fd(n:Nat)(v:Val):Prop:=∃cs a l,v=fdD cs a l/\0<=a/\a<=n
def Fd.mono{n m:Nat}{v:Val}(h:Fd n v)(q:n<=m):Fd m v:=by obtain⟨cs,a,l,e,h0,h1⟩:=h;exact⟨cs,a,l,e,h0,by omega⟩
def gO(cs:List Int)(a l:Int):gh.G (fdD cs a l) (.str "cells")=.val (.lst (cs.map .int)):=rfl
def mL(cs:List Int)(a l:Int):gh.G (fdD cs a l) (.str "at")=.val (.int a):=rfl
def iH(cs:List Int)(a l:Int):gh.G (fdD cs a l) (.str "left")=.val (.int l):=rfl
def iE(cs:List Int)(a l x:Int):seD.G (fdD cs a l) (.str "at") (.int x)=some (fdD cs x l):=rfl
def gK(cs:List Int)(a l x:Int):seD.G (fdD cs a l) (.str "left") (.int x)=some (fdD cs a x):=rfl
def qK:ij.G (.int 10) (.int 18)=.val (.int (10^18)):=xM ⟨by decide,by decide,by decide⟩
def fO{a m:Int}(h:0<m):0<=a.fmod m/\a.fmod m<m:=⟨Int.fmod_nonneg_of_pos a h,Int.fmod_lt_of_pos a h⟩
set_option hygiene false in
local macro_rules | `(tactic|simp![$args,*])=>do
 let l <- ("% eP MH L4 La L8 GZ qt M0 K1 L5 Cy yq Kc Jx JM Jr Io GD Jj Il Fv B6 IH HH zy E4 Kq K9 Lf v_bl MC LA v_ty Ld v_un v_op Lk Km v_fn Mh MD LQ y_or LD c_of c_tr c_an c_o c_no x_nx x_bk Hl KY Gi Fb F9 Hv DM x_if Mc LB LL FV Bl BV g_n g_sn g_sc g_t g_x Hq K4 MV M5 EJ Ml MY Na My ML IS IX KJ G0 BK Ic M4 Lb JI Jw Hx JH Mi Kz KC oh v_lc GS Kg JP o_n o_s v_sl v_d0 K3 fx_G LU Lv k_lt k_le k_gt k_ge MB LR k_ix II G5 k_eq k_ne D3 k_is MW MM KD Mb Lx LZ Ii F8 Hg A3 bp List.getElem?_cons_zero List.getElem?_cons_succ List.set_cons_zero List.set_cons_succ List.length_cons List.length_nil Option.bind_some Option.map_some Option.isSome_some if_true if_false Bool.not_true Bool.not_false Bool.and_true Bool.true_and Bool.and_false Bool.false_and Bool.or_true Bool.true_or Bool.or_false Nat.reduceLeDiff Nat.reduceLT Nat.reduceAdd Nat.reduceSub Nat.zero_add Nat.add_zero Nat.sub_self List.cons_append List.nil_append List.append_nil List.replicate reduceIte reduceCtorEq decide_true decide_false Bool.false_eq_true List.all_cons List.all_nil List.isEmpty_nil List.map_cons List.map_nil Int.reduceBEq Int.reduceLT Int.reduceAdd Int.reduceSub Int.reduceMul Int.cast_ofNat_Int HM FK Kb Ij Gh BO Ja zM EK Kt FE AZ Fg GI B4 Jz F4 ID Dk JO HE FH L9 Lu K0 Ma y9 Ap Aq yk uO yB A7 Ai Ag AR ati0 ati1 ati2 ati3 bZ GK Int.reduceNeg Ft FJ List.lookup_cons List.lookup_nil g_uL uE uX uS yd sW pS uQ qa uU kz n0 zO ui xx vd uR Fj oJ CB sf kO yS tQ xq p8 uw A2 Co zq AB rb uP uY jJ jO pW nS tV l9 pP oz rL iN kP oi l8 tU xW vb pH oq m7 u6 kY uW u7 lX Bq Ey".splitOn " ").tail.mapM λs=>`(Lean.Parser.Tactic.simpLemma| $(Lean.mkIdent s.toName):term)
 `(tactic|simp only[$(l.toArray),*,$args,*])
def Gv{ns:List Int}(hl:ns.length<=63):∃v,fE.G [.kl (ns.map .int)]=.ok (.new v) []/\Fd 0 v:=by
 refine⟨fdD ns 0 0,?_,ns,0,0,rfl,by omega,by omega⟩;unfold fE;rw[ay];unfold nB;have e:aSl (.kl (ns.map Val.int)) none (some 63)=.new (.lst (ns.map Val.int)):=by
  have:=Mz (ns.map Val.int) none (some ((63:Nat):Int))
  rw[eL,NS (by rw[p_];exact hl)] at this;exact this
 have c:Val.items (.lst (ns.map Val.int))=some (ns.map Val.int):=rfl;simp![uE,e,c];rfl
def br{n:Nat}{v:Val}{m:Int}(f:Fd n v)(hn:n<=1000000000)(h0:0<m)(hm:Sm 8000 m):∃r v',aH.G [v,.int m]=.ok (.val (.int r)) [v']/\Fd (n+1) v'/\0<=r/\r<m:=by
 obtain⟨cs,a,l,rfl,a0,a1⟩:=f;have m0:m≠0:=by omega
 have d1:=λi=>f9 (i:=i) m0;have d2:=λi=>j3 (i:=i) (CDivB.of m0 hm);unfold aH;rw[ay];unfold mC;have x1:aG.G (.int 61) (.int a)=.val (.int (61*a)):=bz (CMulA.left (by decide) (by decide));have x2:aG.G (.int (61*a)) (.int a)=.val (.int (61*a*a)):=bz (CMulA.right (by omega) (by omega));have x3:aG.G (.int 7) (.int a)=.val (.int (7*a)):=bz (CMulA.left (by decide) (by decide));have x4:∀x:Int,aG.G (.int x) (.int 48271)=.val (.int (x*48271)):=λx=>bz (CMulA.right (by decide) (by decide));have x5:∀x:Int,aG.G (.int x) (.int 69623)=.val (.int (x*69623)):=λx=>bz (CMulA.right (by decide) (by decide));have x6:aG.G (.int 7919) (.int a)=.val (.int (7919*a)):=bz (CMulA.left (by decide) (by decide));have x7:∀x:Int,aG.G (.int x) (.int 16811)=.val (.int (x*16811)):=λx=>bz (CMulA.right (by decide) (by decide));have y1:∀x:Int,cx.G (.int x) (.int 1000003)=.val (.int (x.fmod 1000003)):=λx=>f9 (by decide);have y2:∀x:Int,cx.G (.int x) (.int 999983)=.val (.int (x.fmod 999983)):=λx=>f9 (by decide);have y3:∀x:Int,cx.G (.int x) (.int 1999993)=.val (.int (x.fmod 1999993)):=λx=>f9 (by decide);have y4:∀x:Int,cx.G (.int x) (.int 524287)=.val (.int (x.fmod 524287)):=λx=>f9 (by decide);have y5:∀x:Int,ip.G (.int x) (.int 5)=.val (.int (x.fdiv 5)):=λx=>j3 (CDivB.of (by decide) (sm8 (by decide)));by_cases hc:0<l
 .have hc':decide (0<l)=true:=Em hc;refine⟨l.fmod m,fdD cs a (l.fdiv m),?_,⟨cs,a,_,rfl,a0,by omega⟩,fO h0⟩;simp![hc',d1,d2,gO,mL,iH,iE,gK]
 .have hc':decide (0<l)=false:=w_ hc;have f_:∀x:Int,∃r v',(R3F.ok (Rt.val (.int (x.fmod m))) [fdD cs (a+1) l]:R3F)=.ok (.val (.int r)) [v']/\Fd (n+1) v'/\0<=r/\r<m:=λx=>⟨_,_,rfl,⟨cs,_,_,rfl,by omega,by omega⟩,fO h0⟩;have z18:((10:Int)^18)=1000000000000000000:=by decide
  by_cases hl:0<cs.length
  .have r:=fO (a:=a) (m:=(cs.length:Nat)) (by omega);have hi:(a.fmod (cs.length:Nat)).toNat<cs.length:=by omega
   have at1:atI (cs.map Val.int) (a.fmod (cs.length:Nat))=some (.int cs[(a.fmod (cs.length:Nat)).toNat]):=bj r.1 (by rw[Nf,y_ hi];rfl);have l1:decide ((0:Int)<((cs.length:Nat):Int))=true:=Em (by omega);have e1:cx.G (.int a) (.int (cs.length:Nat))=.val (.int (a.fmod (cs.length:Nat))):=f9 (by omega);by_cases hb:(10^18:Int)<=cs[(a.fmod (cs.length:Nat)).toNat]
   .have hb':=Em hb;by_cases ha:a<(cs.length:Nat)
    .have ha':=Em ha;refine⟨(cs[(a.fmod (cs.length:Nat)).toNat]).fmod m,fdD cs (a+1) ((cs[(a.fmod (cs.length:Nat)).toNat]).fdiv m),?_,⟨cs,_,_,rfl,by omega,by omega⟩,fO h0⟩;simp![hc',d1,d2,gO,mL,iH,iE,gK,p_,l1,e1,at1,qK,hb',ha']
    .have ha':=w_ ha;simp![hc',d1,d2,gO,mL,iH,iE,gK,p_,l1,e1,at1,qK,hb',ha',x1,x2,x3,x4,x5,x6,x7,y1,y2,y3,y4,y5];exact f_ _
   .have hb':=w_ hb;simp![hc',d1,d2,gO,mL,iH,iE,gK,p_,l1,e1,at1,qK,hb',x1,x2,x3,x4,x5,x6,x7,y1,y2,y3,y4,y5];exact f_ _
  .have l1:decide ((0:Int)<((cs.length:Nat):Int))=false:=w_ (by omega);have hb':decide ((10^18:Int)<=a)=false:=w_ (by rw[z18];omega);simp![hc',d1,d2,gO,mL,iH,iE,gK,p_,l1,qK,hb',x1,x2,x3,x4,x5,x6,x7,y1,y2,y3,y4,y5];exact f_ _
def Ms:jc [.int 6]=some [.int 0,.int 1,.int 2,.int 3,.int 4,.int 5]:=E9 (i:=6) (by decide) (by decide)
def AU{n:Nat}{v:Val}(f:Fd n v)(hn:n<=900000000):∃r v',dE.G [v,.int 6]=.ok (.val (.int r)) [v']/\Fd (n+6) v'/\0<=r:=by have s:Sm 8000 100000:=sm8 (by decide);obtain⟨r1,v1,e1,f1,a1,_⟩:=br (m:=100000) f (by omega) (by decide) s;obtain⟨r2,v2,e2,f2,a2,_⟩:=br (m:=100000) f1 (by omega) (by decide) s;obtain⟨r3,v3,e3,f3,a3,_⟩:=br (m:=100000) f2 (by omega) (by decide) s;obtain⟨r4,v4,e4,f4,a4,_⟩:=br (m:=100000) f3 (by omega) (by decide) s;obtain⟨r5,v5,e5,f5,a5,_⟩:=br (m:=100000) f4 (by omega) (by decide) s;obtain⟨r6,v6,e6,f6,a6,_⟩:=br (m:=100000) f5 (by omega) (by decide) s;have c6:∀x:Int,aG.G (.int x) (.int 100000)=.val (.int (x*100000)):=λx=>bz (CMulA.right (by decide) (by decide));refine⟨((((((0*100000+r1)*100000+r2)*100000+r3)*100000+r4)*100000+r5)*100000+r6),v6,?_,f6.mono (by omega),by omega⟩;unfold dE;rw[ay];unfold kE jX;simp![Ms,fT,c6,e1,e2,e3,e4,e5,e6]
def AL(w:Bool):d6.G [.str (wy w)]=.ok (.val (.bl true)) []:=by
 have i1:∀x:Str,(bE cA).G [.str x,.ty "str"]=.val (.bl true):=λ_=>rfl;have i2:bIn.G (.str (wy w)) (.tup [.str "across",.str "down"])=.val (.bl true):=by cases w <;> rfl
 unfold d6;rw[ay];unfold lE;simp![i1,i2]
def yW{w:Bool}{ts:List Val}(h:2<=ts.length):cV.G [.tup [.str (wy w),.tup ts]]=.ok (.val (.bl true)) []:=by have e:=AL w;have i1:∀xs:List Val,(bE cA).G [.tup xs,.ty "tuple"]=.val (.bl true):=λ_=>rfl;have g:decide ((2:Int)<=(ts.length:Nat))=true:=Em (by omega);unfold cV;rw[ay];unfold iz;simp![i1,e,xN,g]
def zW{a:Val}(h:lfV a=true):cV.G [a]=.ok (.val (.bl false)) []:=by
 have i1:(bE cA).G [a,.ty "tuple"]=.val (.bl false):=by cases a <;> first |rfl |(cases h;done)
 unfold cV;rw[ay];unfold iz;simp![i1]
def Ae(k:Nat):bg.G [.int (k:Nat)]=.ok (.val (.bl true)) []:=by have i1:(bE cA).G [.int (k:Nat),.ty "int"]=.val (.bl true):=rfl;have i2:(bE cA).G [.int (k:Nat),.ty "bool"]=.val (.bl false):=rfl;unfold bg;rw[ay];unfold jq;simp![i1,i2]
theorem jI{n:Nat}(v:Val):∀(N:Nat) (st:List AT) (xs:List Int) (s4:Sl),AT.cntL st<=N->s4.pl=true->(∀t∈st,t.ok=true)->(∀k∈AT.lvsL st,k<n)->(AT.lvsL st).Nodup->(∀k∈AT.lvsL st,((k:Nat):Int)∉xs)->xs.length+(AT.lvsL st).length<=3000->AT.cntL st<=100000->
 ∃(ys:List Int) (s4':Sl),ys.length=xs.length+(AT.lvsL st).length/\(xWh (qTr (af 3)) dg).G [.sh v,.sh (.int (n:Nat)),.ow (.set xs),.ow (.lst (st.map atV)),s4]=.nx [.sh v,.sh (.int (n:Nat)),.ow (.set ys),.ow (.lst []),s4']
 |
  N,[],xs,s4,_,_,_,_,_,_,_,_=>⟨xs,s4,by simp [AT.lvsL],by
  rw[eJ];simp![Nz,oM,List.isEmpty_nil]⟩
 |
  0,t::ts,xs,s4,h,_,_,_,_,_,_,_=>by
  rw[AT.cntL] at h;cases t <;> (rw[AT.cnt] at h;omega)
 |
  N+1,t0::ts0,xs,s4,hN,h4,ho,hn,nd,hx,hl,hc=>by
  obtain⟨st,t,hst⟩:∃st t,t0::ts0=st++[t]:=⟨(t0::ts0).dropLast,(t0::ts0).getLast (by simp),(List.dropLast_concat_getLast (by simp)).symm⟩;rw[hst] at hN ho hn nd hx hl hc ⊢;rw[AT.lvsL_app] at hn nd hx hl;rw[AT.lvsL_app];rw[AT.cntL_app] at hN hc;have hn0:((st++[t]).map atV).isEmpty=false:=by cases st <;> rfl
  have c1:(qTr (af 3)).G [.sh v,.sh (.int (n:Nat)),.ow (.set xs),.ow (.lst ((st++[t]).map atV)),s4]=.ok true [.sh v,.sh (.int (n:Nat)),.ow (.set xs),.ow (.lst ((st++[t]).map atV)),s4]:=by simp![oM,hn0,Bool.not_false]
  have hto:=ho t (by simp);rw[eJ,c1];show ∃ys s4',_/\((dg.G _).loop _)=_;rw[NC,v_,Nz];cases t with
  |
   lf k=>
   simp only[AT.lvsL,AT.lvs,Nv,J_,F_,Nt,AT.cntL,AT.cnt] at hn nd hx hl hN hc ⊢;have hk:=hn k (by simp);have hkx:=hx k (by simp);have nda:=List.nodup_append.mp nd;obtain⟨ys,s4',q1,q2⟩:=jI (n:=n) v N st (fU xs (k:Nat)) (.sh (.int (k:Nat))) (by omega) rfl (λt ht=>ho t (by simp [ht])) (λj hj=>hn j (by simp [hj])) nda.1 (λj hj z=>by
    unfold fU at z;rw[if_neg hkx] at z;rcases G_.mp z with z |z
    .exact nda.2.2 j hj k (by simp) (Int.ofNat.inj z)
    .exact hx j (by simp [hj]) z) (by unfold fU;rw[if_neg hkx,F_];omega) (by omega)
   refine⟨ys,s4',by rw[q1];unfold fU;rw[if_neg hkx,F_];omega,?_⟩;have b1:=zW (a:=.int (k:Nat)) rfl;have w1:=Ae k;have l0:decide (((k:Nat):Int)<0)=false:=w_ (by omega);have l1:decide (((n:Nat):Int)<=(k:Nat))=false:=w_ (by omega);have in1:decide (((k:Nat):Int)∈xs)=false:=w_ hkx;have av:atV (.lf k)=.int (k:Nat):=rfl;have xl:xs.length<4000:=by omega
   have bb:dg.G [.sh v,.sh (.int (n:Nat)),.ow (.set xs),.ow (.lst (st.map atV++[atV (.lf k)])),s4]=.nx [.sh v,.sh (.int (n:Nat)),.ow (.set (fU xs (k:Nat))),.ow (.lst (st.map atV)),.sh (.int (k:Nat))]:=by unfold dg;rw[av];simp![ma,h4,b1,w1,l0,l1,K5,in1,Iv,uz,CA,xl]
   rw[bb];exact q2
  |
   nd w ts=>
   have ho':=hto;rw[AT.ok,u_] at hto;have h2:2<=ts.length:=Oa hto.1;have hk:=AT.okL_mem.mp hto.2;simp only[AT.lvsL,AT.lvs,Nv,AT.cntL,AT.cnt] at hn nd hx hl hN hc ⊢;obtain⟨ys,s4',q1,q2⟩:=jI (n:=n) v N (st++ts) xs (.sh (atV (.nd w ts))) (by rw[AT.cntL_app];omega) rfl (λt ht=>by
    rcases Om.mp ht with ht |ht
    .exact ho t (by simp [ht])
    .exact hk t ht) (by rw[AT.lvsL_app];exact hn) (by rw[AT.lvsL_app];exact nd) (by rw[AT.lvsL_app];exact hx) (by rw[AT.lvsL_app];exact hl) (by rw[AT.cntL_app];omega)
   rw[AT.lvsL_app] at q1;refine⟨ys,s4',q1,?_⟩;have av:atV (.nd w ts)=.tup [.str (wy w),.tup (ts.map atV)]:=by unfold atV;rw[AT.val,AT.vals_map]
   have b1:=yW (w:=w) (ts:=ts.map atV) (by rw[p_];exact h2);have le:∀l:List AT,l.length<=AT.cntL l:=by
    intro l;induction l with
    |nil=>exact s_ _
    |cons t l ih=>rw[AT.cntL,F_];cases t <;> (rw[AT.cnt];omega)
   have ll:(st.map atV).length+(ts.map atV).length<=16777216:=by
    have:=le st
    have:=le ts
    rw[p_,p_];omega
   rw[av] at q2 ⊢;rw[NC] at q2;have bb:dg.G [.sh v,.sh (.int (n:Nat)),.ow (.set xs),.ow (.lst (st.map atV++[.tup [.str (wy w),.tup (ts.map atV)]])),s4]=.nx [.sh v,.sh (.int (n:Nat)),.ow (.set xs),.ow (.lst (st.map atV++ts.map atV)),.sh (.tup [.str (wy w),.tup (ts.map atV)])]:=by unfold dg;simp![ma,h4,b1,o9,ll]
   rw[bb];exact q2
def xE{t:AT}{n:Nat}(ho:t.ok=true)(hn:∀k∈t.lvs,k<n)(nd:t.lvs.Nodup)(hl:t.lvs.length=n)(h3:n<=3000)(hc:t.cnt<=100000):gf.G [atV t,.int (n:Nat)]=.ok (.val (.bl true)) []:=by
 have e1:AT.lvsL [t]=t.lvs:=by simp [AT.lvsL]
 have e2:AT.cntL [t]=t.cnt:=by simp [AT.cntL]
 obtain⟨ys,s4',q1,q2⟩:=jI (n:=n) (atV t) (AT.cntL [t]) [t] [] .no (s_ _) rfl (λu hu=>by rw[Nk] at hu;rw[hu];exact ho) (by rw[e1];exact hn) (by rw[e1];exact nd) (λk hk z=>nomatch z) (by rw[e1,hl];simp;exact h3) (by rw[e2];exact hc);rw[e1,hl,Nt,PJ] at q1;rw[v_,Nz] at q2;unfold gf;rw[ay];unfold o7;generalize atV t=tv at *;simp![JX,q2,Jp,q1,beq_self_eq_true]
def pY{t:AT}{n:Nat}(ho:t.ok=true)(hn:∀k∈t.lvs,k<n)(nd:t.lvs.Nodup)(hl:t.lvs.length=n)(h3:n<=3000)(hc:t.cnt<=100000):dS.G [atV t,.int (n:Nat)]=.ok (.val .non) []:=by have e:=xE ho hn nd hl h3 hc;unfold dS;rw[ay];unfold jV;generalize atV t=tv at *;simp![e]
def wz(a:Int):(if a<0 then -a else a)=((a.natAbs:Nat):Int):=by split <;> omega
theorem sJ:∀(n one c_:Nat),c_<=n->(xWh (qOf (pOp bNe (af 1) (ah 0))) cZ).G [.sh (.int (one:Nat)),.sh (.int (c_:Nat))]=.nx [.sh (.int (Nat.gcd one c_:Nat)),.sh (.int 0)]
 |
  n,one,0,_=>by
  rw[eJ];simp![eP];rw[Nat.gcd_zero_right];try rfl
 |0,one,c_+1,hl=>absurd hl (by omega)
 |
  n+1,one,c_+1,hl=>by
  rw[eJ];have e:((((c_+1:Nat):Int)==0))=false:=by rw[M_];omega
  have e1:cx.G (.int (one:Nat)) (.int ((c_+1:Nat):Int))=.val (.int (((one:Nat):Int).fmod ((c_+1:Nat):Int))):=f9 (by omega);have e2:((one:Nat):Int).fmod ((c_+1:Nat):Int)=((one % (c_+1):Nat):Int):=by rw[Int.fmod_eq_emod_of_nonneg _ (by omega)];rfl
  have ih:=sJ n (c_+1) (one % (c_+1)) (by have:=Nat.mod_lt one (show c_+1>0 by omega);omega);rw[Fr.euc] at ih;rw[e2] at e1;have bb:cZ.G [.sh (.int (one:Nat)),.sh (.int ((c_+1:Nat):Int))]=.nx [.sh (.int ((c_+1:Nat):Int)),.sh (.int ((one % (c_+1):Nat):Int))]:=by unfold cZ;simp![e1]
  simp![e,bb,ih]
def cX(a b:Int):bP.G [.int a,.int b]=.ok (.val (.int (Int.gcd a b:Nat))) []:=by
 unfold bP;rw[ay];unfold gH
 have:=sJ b.natAbs a.natAbs b.natAbs (s_ _)
 simp![wz,this];rfl
def eO{a b:Int}(hb:b≠0)(hs:Sm 8000 b):b9.G [.int a,.int b]=.ok (.val (fV ((a:Rat)/(b:Rat)))) []:=by
 unfold b9;rw[ay];unfold lW;have e:(b==0)=false:=by rw[M_];exact hb
 have c:∀x,CDivB x (Fr.dv a b):=λx=>CDivB.of (Fr.dv_ne hb) (hs.of_le (by rw[Fr.dv_abs];exact Nat.le_of_dvd (by omega) (Nat.gcd_dvd_right a.natAbs b.natAbs)));have k1:=j3 (c a);have k2:=j3 (c b);have hh:=lY (a:=a) hb;have f_:Val.tup [.int (a.fdiv (Fr.dv a b)),.int (b.fdiv (Fr.dv a b))]=fV ((a:Rat)/(b:Rat)):=by unfold fV;rw[<- hh.1,<- hh.2];rfl
 by_cases hn:b<0
 .have hd:Fr.dv a b=-((Int.gcd a b:Nat):Int):=by unfold Fr.dv;rw[if_pos hn]
  rw[hd] at k1 k2 f_;simp![e,cX,Em hn,k1,k2,f_]
 .have hd:Fr.dv a b=((Int.gcd a b:Nat):Int):=by unfold Fr.dv;rw[if_neg hn]
  rw[hd] at k1 k2 f_;simp![e,cX,w_ hn,k1,k2,f_]
def Cc{p q:Rat}{n m:Nat}(hp:Sz n p)(hq:Sz m q)(h:n+m<=8000):iJ.G [fV p,fV q]=.ok (.val (fV (p+q))) []:=by have c1:=bz (CMulA.of hp.top hq.bot (by omega) (by omega));have c2:=bz (CMulA.of hq.top hp.bot (by omega) (by omega));have c3:=bz (CMulA.of hp.bot hq.bot (by omega) (by omega));have fe:=eO (a:=p.num*q.den+q.num*p.den) (b:=p.den*q.den) (OQ (cM p) (cM q)) ((hp.bot.mul hq.bot).mono h);rw[<- EH] at fe;unfold iJ;rw[ay];unfold vP;rw[show fV p=.tup [.int p.num,.int p.den] from rfl,show fV q=.tup [.int q.num,.int q.den] from rfl];simp![c1,c2,c3,fe]
def sk{p q:Rat}{n m:Nat}(hp:Sz n p)(hq:Sz m q)(h:n+m<=8000):gz.G [fV p,fV q]=.ok (.val (fV (p*q))) []:=by have c1:=bz (CMulA.of hp.top hq.top (by omega) (by omega));have c2:=bz (CMulA.of hp.bot hq.bot (by omega) (by omega));have fe:=eO (a:=p.num*q.num) (b:=p.den*q.den) (OQ (cM p) (cM q)) ((hp.bot.mul hq.bot).mono h);rw[<- vx] at fe;unfold gz;rw[ay];unfold wx;rw[show fV p=.tup [.int p.num,.int p.den] from rfl,show fV q=.tup [.int q.num,.int q.den] from rfl];simp![c1,c2,fe]
def gp{p q:Rat}{n m:Nat}(hp:Sz n p)(hq:Sz m q)(h1:n<=100000)(h2:m<=100000):de.G [fV p,fV q]=.ok (.val (.bl (decide (p<q)))) []:=by have c1:=bz (CMulA.of hp.top hq.bot h1 h2);have c2:=bz (CMulA.of hq.top hp.bot h2 h1);unfold de;rw[ay];unfold pq;rw[show fV p=.tup [.int p.num,.int p.den] from rfl,show fV q=.tup [.int q.num,.int q.den] from rfl];simp![c1,c2];rw[show decide (p.num*(q.den:Int)<q.num*(p.den:Int))=decide (p<q) from Oh.mpr (AS p q).symm]
def j8{v:Val}(hk:knV v=true):(bE cA).G [v,.ty "tuple"]=.val (.bl (fi v)):=by cases v <;> first |rfl |cases hk
def iB{v:Val}(hk:knV v=true):bg.G [v]=.ok (.val (.bl (jh v))) []:=by unfold bg;rw[ay];unfold jq;cases v <;> first |rfl |cases hk
def rC(v:Val):fi v=false\/∃xs,v=.tup xs:=by cases v <;> first |exact .inr ⟨_,rfl⟩ |exact .inl rfl
def lK(v:Val):jh v=false\/∃i,v=.int i:=by cases v <;> first |exact .inr ⟨_,rfl⟩ |exact .inl rfl
def Ky{v:Val}(h:fi v=false):aQ v=false:=by cases v <;> first |rfl |cases h
def KZ{v:Val}(h:fi v=false):gc v=false:=by cases v <;> first |rfl |cases h
def Jn{a b:Val}(h:jh a=false):aQ (.tup [a,b])=false:=by cases a <;> first |rfl |cases h
def Kd{i:Int}{b:Val}(h:jh b=false):aQ (.tup [.int i,b])=false:=by cases b <;> first |rfl |cases h
def Lh{xs:List Val}(hl:xs.length≠2):aQ (.tup xs)=false:=by
 unfold aQ;split
 .rename_i e;injection e with e;subst e;exact absurd rfl hl
 .rfl
def KH{xs:List Val}(hl:xs.length≠4):gc (.tup xs)=false:=by
 unfold gc;split
 .rename_i e;injection e with e;subst e;exact absurd rfl hl
 .rfl
def DQ{k:Nat}{v:Val}(ha:ir k v=true)(h:fi v=false):knV v=true:=by
 cases v with
 |tup xs=>cases h
 |_=>cases k <;> exact ha
def nR{v:Val}(ha:ir 1 v=true):cK.G [v]=.ok (.val (.bl (aQ v))) []:=by
 unfold cK;rw[ay];unfold jD;rcases rC v with ht |⟨xs,rfl⟩
 .have it:=j8 (DQ ha ht);rw[ht] at it;simp![it,Ky ht]
 have it:=j8 (v:=.tup xs) rfl;by_cases hl:xs.length=2
 .match xs,hl,ha with
  |
   [a,b],_,ha=>
   have ha':(knV a&&(knV b&&true))=true:=by simpa [ir] using ha
   simp only[u_] at ha';have w1:=iB ha'.1;have w2:=iB ha'.2.1;rcases lK a with h1 |⟨i,rfl⟩
   .rw[h1] at w1;simp![it,fi,w1,Jn h1]
   rcases lK b with h2 |⟨j,rfl⟩
   .rw[h2] at w2;simp![it,fi,w1,jh,w2,Kd h2]
   have f:aQ (.tup [.int i,.int j])=(decide (1<=j)&&decide (Int.gcd i j=1)):=rfl;have g:((((Int.gcd i j:Nat):Int)==1):Bool)=decide (Int.gcd i j=1):=by rw[Pw,Nr,Ou];omega
   by_cases hj:1<=j
   .simp![it,fi,w1,w2,jh,cX,Em hj,f,g]
   .simp![it,fi,w1,w2,jh,cX,w_ hj,f,g]
 .have e:(((xs.length:Nat):Int)==2)=false:=by rw[M_];omega
  simp![it,fi,e,Lh hl]
def pB{v:Val}(ha:ir 2 v=true):gF.G [v]=.ok (.val (.bl (gc v))) []:=by
 unfold gF;rw[ay];unfold uc;rcases rC v with ht |⟨xs,rfl⟩
 .have it:=j8 (DQ ha ht);rw[ht] at it;simp![it,KZ ht]
 have it:=j8 (v:=.tup xs) rfl;by_cases hl:xs.length=4
 .match
   xs,hl,ha with
  |
   [a,b,c,d],_,ha=>
   have e1:gc (.tup [a,b,c,d])=(aQ a&&(aQ b&&(aQ c&&(aQ d&&(jj c&&jj d))))):=rfl;have bl4:∀x y z w:Bool,jk [.bl x,.bl y,.bl z,.bl w]=some [x,y,z,w]:=λ_ _ _ _=>rfl;obtain⟨e',⟨s',rfl,_⟩,lc⟩:=nN (g:=(gtN 0).G) (F:=(ak cK (aa (af 0) ag)).G) (f:=λv=>.bl (aQ v)) (λe=>∃s,e=[s]/\s.pl=true) [a,b,c,d] [] [.no] ⟨.no,rfl,rfl⟩ (by
    rintro v hv e ⟨s,rfl,hs⟩;have hv':ir 1 v=true:=Ni.mp (by simpa [ir] using ha) v hv;refine⟨[.sh v],.val (.bl (aQ v)),[.sh v],?_,?_,rfl,⟨_,rfl,rfl⟩⟩
    .simp![hs]
    .simp![nR hv']) (by simp)
   have cy:cY=qY.G:=rfl;rw[cy,Ny] at lc;simp only[v_,Nz] at lc;cases hA:(aQ a&&(aQ b&&(aQ c&&aQ d))) with
   |
    true=>
    simp only[u_] at hA;obtain⟨p,rfl⟩:=yQ hA.2.2.1;obtain⟨q,rfl⟩:=yQ hA.2.2.2;rw[hA.1,hA.2.1,hA.2.2.1,hA.2.2.2] at e1 lc;have e2:gc (.tup [a,b,fV p,fV q])=(decide (0<p.num)&&decide (0<q.num)):=by rw[e1];rfl
    rw[e2];have i1:(fV p).items=some [.int p.num,.int p.den]:=rfl;have i2:(fV q).items=some [.int q.num,.int q.den]:=rfl;by_cases hp:0<p.num
    .simp![it,fi,lc,bZ,bl4,id,i1,i2,Em hp]
    .simp![it,fi,lc,bZ,bl4,id,i1,w_ hp]
   |
    false=>
    have e2:gc (.tup [a,b,c,d])=false:=by rw[e1];revert hA;generalize aQ a=a',aQ b=b',aQ c=c',aQ d=d',(jj c&&jj d)=z;revert a' b' c' d' z;decide
    rw[e2];simp![it,fi,lc,bZ,bl4,id,hA]
 .have e:(((xs.length:Nat):Int)==4)=false:=by rw[M_];omega
  simp![it,fi,e,KH hl]
def sI{v:Val}(ha:ir 2 v=true):aK.G [v]=if gc v=true then .ok (.val .non) [] else .exc "NoBox" []:=by
 unfold aK;rw[ay];unfold kD;cases h:gc v with
 |true=>simp![pB ha,h]
 |false=>simp![pB ha,h]
def bD{b:Bx}(hb:b.Ok):aK.G [bV b]=.ok (.val .non) []:=by rw[sI (Ju b),Cf hb];rfl
def Li{v:Val}(h:jh v=false):hJ v=false:=by cases v <;> first |rfl |cases h
def BY(v:Val):fC v=false\/∃xs,v=.lst xs:=by cases v <;> first |exact .inr ⟨_,rfl⟩ |exact .inl rfl
def tw{v:Val}(hk:knV v=true):dC.G [v]=.ok (.val (.bl (hJ v))) []:=by
 have w:=iB hk;unfold dC;rw[ay];unfold kH;rcases lK v with h |⟨i,rfl⟩
 .rw[h] at w;simp![w,Li h]
 .simp![w,jh];rfl
def wq{v:Val}(hk:knV v=true):(bE cA).G [v,.ty "list"]=.val (.bl (fC v)):=by cases v <;> first |rfl |cases hk
noncomputable def yo (v:Val):R3F:=match v with
 |.lst xs=>if xs=[] then .exc "NoWeights" [] else if xs.all hJ=true then (if xs.length<=40 then .ok (.val .non) [] else .exc "TooMany" []) else .exc "NoWeights" []
 |_=>.exc "NoWeights" []
def GN{v:Val}(h:fC v=false):yo v=.exc "NoWeights" []:=by cases v <;> first |rfl |cases h
noncomputable def rN:Val->Bool
 |.lst xs=>decide (xs.length<=1000)&&xs.all knV
 |v=>knV v
def Gg{v:Val}(h:rN v=true)(hl:fC v=false):knV v=true:=by cases v <;> first |(cases hl;done) |exact h
theorem jw(f:Val->Bool):∀xs:List Val,jk (xs.map λv=>.bl (f v))=some (xs.map f)
 | []=>rfl
 |x::xs=>by show (jk (xs.map λv=>.bl (f v))).map (f x :: ·)=_;rw[jw f xs];rfl
def jd(f:Val->Bool)(xs:List Val):(xs.map f).all id=xs.all f:=by rw[List.all_map];rfl
def lD{v:Val}(ha:rN v=true):aB.G [v]=yo v:=by
 unfold aB;rw[ay];unfold gW;rcases BY v with hv |⟨xs,rfl⟩
 .have il:=wq (Gg ha hv);rw[hv] at il;rw[GN hv];simp![il]
 .have ha':xs.length<=1000/\xs.all knV=true:=by simpa [rN] using ha
  have il:=wq (v:=.lst xs) rfl;unfold yo;dsimp only;by_cases h0:xs=[]
  .subst h0;simp![il]
  .have e0:(((xs.length:Nat):Int)==0)=false:=by rw[M_];intro z;exact h0 (List.length_eq_zero_iff.mp (by omega))
   rw[if_neg h0];obtain⟨e',p',lc⟩:=nN (g:=(gtN 0).G) (F:=(ak dC (aa (af 0) ag)).G) (f:=λv=>.bl (hJ v)) (λe=>∃s,e=[s]/\s.pl=true) xs [] [.no] ⟨.no,rfl,rfl⟩ (by
    rintro v hv e ⟨s,rfl,hs⟩;refine⟨[.sh v],.val (.bl (hJ v)),[.sh v],?_,?_,rfl,⟨_,rfl,rfl⟩⟩
    .simp![hs]
    .simp![tw (Ni.mp ha'.2 v hv)]) (by simp;omega)
   obtain⟨s',rfl,_⟩:=p';have cy:cY=qY.G:=rfl;rw[cy,Ny] at lc;have a_:(xs.map λv=>Val.bl (hJ v)).length<=16777216:=by rw[p_];omega
   by_cases hw:xs.all hJ=true
   .rw[if_pos hw];by_cases h40:xs.length<=40
    .have hd:decide ((40:Int)<((xs.length:Nat):Int))=false:=w_ (by omega);rw[if_pos h40];simp![il,e0,bZ,lc,a_,jw,jd,hw,hd]
    .have hd:decide ((40:Int)<((xs.length:Nat):Int))=true:=Em (by omega);rw[if_neg h40];simp![il,e0,bZ,lc,a_,jw,jd,hw,hd]
   .have hw':xs.all hJ=false:=Bool.eq_false_iff.mpr hw;rw[if_neg hw];simp![il,e0,bZ,lc,a_,jw,jd,hw']
def gg{ws:List Int}(h0:ws≠[])(h1:∀w∈ws,1<=w)(h2:ws.length<=40):aB.G [.lst (ws.map .int)]=.ok (.val .non) []:=by
 have ha:rN (.lst (ws.map .int))=true:=by simp only[rN,u_,Ou,p_];exact⟨by omega,by rw[Ni];intro v hv;obtain⟨w,_,rfl⟩:=Nw.mp hv;rfl⟩
 rw[lD ha];unfold yo;dsimp only;rw[if_neg (by intro z;exact h0 (PY.mp z)),if_pos (by rw[Ni];intro v hv;obtain⟨w,hw,rfl⟩:=Nw.mp hv;exact Em (h1 w hw)),if_pos (by rw[p_];exact h2)]
def sH:aS (.str "down") (.str "across")=some false:=by rw[L3.eq_str (by decide) (by decide)];exact NA some (by decide)
def tW:aS (.str "across") (.str "across")=some true:=by rw[L3.eq_str (by decide) (by decide)];exact NA some (by decide)
noncomputable def prV (p:Rat×Rat):Val:=.tup [fV p.1,fV p.2]
theorem vm{s l:Rat}{n m:Nat}{W:Int}{wv:Val}(hs:Sz n s)(hl:Sz n l)(hW:0<W)(mW:Sm m W)(h:n+n+m<=8000):∀(ws:List Int) (a:Int) (acc:List (Rat×Rat)) (s6 s7:Sl),s6.pl=true->s7.pl=true->0<=a->(∀w∈ws,0<=w)->a+ws.sum<=W->acc.length+ws.length<=16777216->∃s6' s7',fj (gtN 6).G gX.G (ws.map .int) [.sh (fV s),.sh (fV l),.sh wv,.sh (.int W),.sh (.int a),.ow (.lst (acc.map prV)),s6,s7]=.nx [.sh (fV s),.sh (fV l),.sh wv,.sh (.int W),.sh (.int (a+ws.sum)),.ow (.lst ((acc++shL s l W a ws).map prV)),s6',s7']
 | [],a,acc,s6,s7,h6,h7,ha,hw,hsum,a_=>⟨s6,s7,by rw[Nz,oh,List.sum_nil,Int.add_zero];unfold shL;rw[Nv]⟩
 |
  w::ws,a,acc,s6,s7,h6,h7,ha,hw,hsum,a_=>by
  have hw0:=hw w (t_ ..);have hws:0<=ws.sum:=by
   have:∀l:List Int,(∀w∈l,0<=w)->0<=l.sum:=by
    intro l;induction l with
    |nil=>intro _;simp
    |cons x l ih=>intro hx;rw[Nq];have:=hx x (t_ ..);have:=ih λw hw=>hx w (r_ _ hw);omega
   exact this ws λx hx=>hw x (r_ _ hx)
  rw[Nq] at hsum;rw[F_] at a_;have sa:Sm m a:=mW.of_le (by omega);have sw:Sm m w:=mW.of_le (by omega);have f1:=eO (a:=a) (b:=W) (by omega) (mW.mono (by omega));have f2:=eO (a:=w) (b:=W) (by omega) (mW.mono (by omega));have z1:Sz m ((a:Rat)/(W:Rat)):=Sz.div (by omega) sa mW m (s_ _) (s_ _);have z2:Sz m ((w:Rat)/(W:Rat)):=Sz.div (by omega) sw mW m (s_ _) (s_ _);have t1:=sk hl z1 (by omega);have t2:=sk hl z2 (by omega);have ad:=Cc hs (hl.mul z1) (by omega);have ll:(acc.map prV).length<16777216:=by rw[p_];omega
  obtain⟨t6,t7,ih⟩:=vm (wv:=wv) hs hl hW mW h ws (a+w) (acc++[(s+l*((a:Rat)/(W:Rat)),l*((w:Rat)/(W:Rat)))]) (.sh (.int w)) (.sh (fV (s+l*((a:Rat)/(W:Rat))))) rfl rfl (by omega) (λx hx=>hw x (r_ _ hx)) (by omega) (by simp;omega);refine⟨t6,t7,?_⟩;have g1:(gtN 6).G (.int w) [.sh (fV s),.sh (fV l),.sh wv,.sh (.int W),.sh (.int a),.ow (.lst (acc.map prV)),s6,s7]=some [.sh (fV s),.sh (fV l),.sh wv,.sh (.int W),.sh (.int a),.ow (.lst (acc.map prV)),.sh (.int w),s7]:=by simp![h6]
  have b1:gX.G [.sh (fV s),.sh (fV l),.sh wv,.sh (.int W),.sh (.int a),.ow (.lst (acc.map prV)),.sh (.int w),s7]=.nx [.sh (fV s),.sh (fV l),.sh wv,.sh (.int W),.sh (.int (a+w)),.ow (.lst ((acc++[(s+l*((a:Rat)/(W:Rat)),l*((w:Rat)/(W:Rat)))]).map prV)),.sh (.int w),.sh (fV (s+l*((a:Rat)/(W:Rat))))]:=by unfold gX;rw[NC];simp![h7,f1,f2,t1,t2,ad,ll,prV]
  rw[v_,fT,g1];simp only[b1,qt];rw[ih,Nq];rw[show shL s l W a (w::ws)=(s+l*((a:Rat)/(W:Rat)),l*((w:Rat)/(W:Rat)))::shL s l W (a+w) ws from rfl,OX,show a+w+ws.sum=a+(w+ws.sum) by omega];rfl
def oT{s l:Rat}{n m:Nat}{ws:List Int}(hs:Sz n s)(hl:Sz n l)(hw:∀w∈ws,0<=w)(h0:0<ws.sum)(mW:Sm m ws.sum)(h:n+n+m<=8000)(a_:ws.length<=1000):fP.G [fV s,fV l,.lst (ws.map .int)]=.ok (.new (.lst ((shL s l ws.sum 0 ws).map prV))) []:=by obtain⟨s6,s7,lo⟩:=vm (wv:=.lst (ws.map .int)) hs hl h0 mW h ws 0 [] .no .no rfl rfl (by omega) hw (by omega) (by simp;omega);rw[Ny,Nz] at lo;unfold fP;rw[ay];unfold rE;simp![lo]
def IQ{way:Str}(hw:way="across" \/ way="down"):eM.G [.str way]=.ok (.val .non) []:=by
 have i1:∀x:Str,(bE cA).G [.str x,.ty "str"]=.val (.bl true):=λ_=>rfl;have i2:bIn.G (.str way) (.tup [.str "across",.str "down"])=.val (.bl true):=by rcases hw with rfl |rfl <;> rfl
 have e1:d6.G [.str way]=.ok (.val (.bl true)) []:=by unfold d6;rw[ay];unfold lE;simp![i1,i2]
 unfold eM;rw[ay];unfold kG;simp![e1]
def jS{b:Bx}{n m:Nat}{way:Str}{ws:List Int}(hb:b.Ok)(hs:b.Sz n)(hway:way="across" \/ way="down")(h0:ws≠[])(hw:∀w∈ws,1<=w)(mW:Sm m ws.sum)(h:n+n+m<=8000)(a_:ws.length<=40):dY.G [bV b,.str way,.lst (ws.map .int)]=.ok (.new (.lst ((aT b way ws).map bV))) []:=by
 have cw:=gg h0 hw a_;have cy:=IQ hway;have sp:0<ws.sum:=by
  cases ws with
  |nil=>exact absurd rfl h0
  |
   cons x l=>
   rw[Nq]
   have:=hw x (t_ ..)
   have:∀l:List Int,(∀w∈l,1<=w)->0<=l.sum:=by
    intro l;induction l with
    |nil=>intro _;simp
    |cons x l ih=>intro hx;rw[Nq];have:=hx x (t_ ..);have:=ih λw hw=>hx w (r_ _ hw);omega
   have:=this l λx hx=>hw x (r_ _ hx)
   omega
 have cb:aK.G [.tup [fV b.l,fV b.t,fV b.w,fV b.h]]=.ok (.val .non) []:=bD hb;have sh1:=oT hs.l hs.w (λw z=>by have:=hw w z;omega) sp mW h (by omega);have sh2:=oT hs.t hs.h (λw z=>by have:=hw w z;omega) sp mW h (by omega);show dY.G [.tup [fV b.l,fV b.t,fV b.w,fV b.h],.str way,.lst (ws.map .int)]=_;unfold dY aT;rw[ay];unfold tN;rcases hway with rfl |rfl
 .rw[if_pos (rfl:("across" : Str)="across")];have ln:=iM b.l b.w ws.sum ws 0;obtain⟨e',⟨s,t,rfl,_,_⟩,lc⟩:=dZ (g:=(gtT 2 (bL (gtN 0) (bL (gtN 1) fD))).G) (F:=(cD (aa (af 0) (aa (af 2) (aa (af 1) (aa (af 3) ag))))).G) prV (λp=>bV ⟨p.1,b.t,p.2,b.h⟩) (λe=>∃s t,e=[s,t,.sh (fV b.t),.sh (fV b.h)]/\s.pl=true/\t.pl=true) (shL b.l b.w ws.sum 0 ws) [] [.no,.no,.sh (fV b.t),.sh (fV b.h)] ⟨.no,.no,rfl,rfl,rfl⟩ (by
   rintro p hp e ⟨s,t,rfl,hs,ht⟩;refine⟨[.sh (fV p.1),.sh (fV p.2),.sh (fV b.t),.sh (fV b.h)],.val (bV ⟨p.1,b.t,p.2,b.h⟩),[.sh (fV p.1),.sh (fV p.2),.sh (fV b.t),.sh (fV b.h)],?_,?_,rfl,⟨_,_,rfl,rfl,rfl⟩⟩
   .simp![prV,hs,ht]
   .simp![bV]) (by rw[ln,Nt];omega)
  rw[Ny] at lc;have ll:((shL b.l b.w ws.sum 0 ws).map λp=>bV ⟨p.1,b.t,p.2,b.h⟩).length<=16777216:=by rw[p_,ln];omega
  rw[NV,show (bV ∘ λp:Rat×Rat=>(⟨p.1,b.t,p.2,b.h⟩:Bx))=λp=>bV ⟨p.1,b.t,p.2,b.h⟩ from rfl];simp![cb,cy,cw,tW,sh1,lc,ll]
 .have hne:¬ (("down" : Str)="across"):=by decide
  rw[if_neg hne];have ln:=iM b.t b.h ws.sum ws 0;obtain⟨e',⟨s,t,rfl,_,_⟩,lc⟩:=dZ (g:=(gtT 2 (bL (gtN 0) (bL (gtN 1) fD))).G) (F:=(cD (aa (af 2) (aa (af 0) (aa (af 3) (aa (af 1) ag))))).G) prV (λp=>bV ⟨b.l,p.1,b.w,p.2⟩) (λe=>∃s t,e=[s,t,.sh (fV b.l),.sh (fV b.w)]/\s.pl=true/\t.pl=true) (shL b.t b.h ws.sum 0 ws) [] [.no,.no,.sh (fV b.l),.sh (fV b.w)] ⟨.no,.no,rfl,rfl,rfl⟩ (by
   rintro p hp e ⟨s,t,rfl,hs,ht⟩;refine⟨[.sh (fV p.1),.sh (fV p.2),.sh (fV b.l),.sh (fV b.w)],.val (bV ⟨b.l,p.1,b.w,p.2⟩),[.sh (fV p.1),.sh (fV p.2),.sh (fV b.l),.sh (fV b.w)],?_,?_,rfl,⟨_,_,rfl,rfl,rfl⟩⟩
   .simp![prV,hs,ht]
   .simp![bV]) (by rw[ln,Nt];omega)
  rw[Ny] at lc;have ll:((shL b.t b.h ws.sum 0 ws).map λp=>bV ⟨b.l,p.1,b.w,p.2⟩).length<=16777216:=by rw[p_,ln];omega
  rw[NV,show (bV ∘ λp:Rat×Rat=>(⟨b.l,p.1,b.w,p.2⟩:Bx))=λp=>bV ⟨b.l,p.1,b.w,p.2⟩ from rfl];simp![cb,cy,cw,sH,sh2,lc,ll]
theorem ik{f:Nat->Val}(v:Val):∀(N:Nat) (st:List AT) (acc:List Nat) (s3:Sl),AT.cntL st<=N->s3.pl=true->(∀k∈AT.lvsL st,lfV (f k)=true)->acc.length+AT.cntL st<=100000->
 ∃(l:List Nat) (s3':Sl),l.Perm (AT.lvsL st)/\(xWh (qTr (af 2)) cC).G [.sh v,.ow (.lst (acc.map f)),.ow (.lst (st.map (AT.val f))),s3]=.nx [.sh v,.ow (.lst ((acc++l).map f)),.ow (.lst []),s3']
 |
  N,[],acc,s3,_,_,_,_=>⟨[],s3,.nil,by
  rw[eJ,Nv];simp![Nz,oM,List.isEmpty_nil]⟩
 |
  0,t::ts,acc,s3,h,_,_,_=>by
  rw[AT.cntL] at h;cases t <;> (rw[AT.cnt] at h;omega)
 |
  N+1,t0::ts0,acc,s3,hN,h3,hf,hl=>by
  obtain⟨st,t,hst⟩:∃st t,t0::ts0=st++[t]:=⟨(t0::ts0).dropLast,(t0::ts0).getLast (by simp),(List.dropLast_concat_getLast (by simp)).symm⟩;rw[hst] at hN hf hl ⊢;rw[AT.lvsL_app] at hf;rw[AT.lvsL_app];rw[AT.cntL_app] at hN hl;have hn0:((st++[t]).map (AT.val f)).isEmpty=false:=by cases st <;> rfl
  have c1:(qTr (af 2)).G [.sh v,.ow (.lst (acc.map f)),.ow (.lst ((st++[t]).map (AT.val f))),s3]=.ok true [.sh v,.ow (.lst (acc.map f)),.ow (.lst ((st++[t]).map (AT.val f))),s3]:=by simp![oM,hn0,Bool.not_false]
  rw[eJ,c1];show ∃l s3',_/\((cC.G _).loop _)=_;rw[NC,v_,Nz];cases t with
  |
   lf k=>
   simp only[AT.lvsL,AT.lvs,Nv,AT.cntL,AT.cnt] at hf hN hl ⊢;obtain⟨l,s3',q1,q2⟩:=ik (f:=f) v N st (acc++[k]) (.sh (f k)) (by omega) rfl (λj hj=>hf j (by simp [hj])) (by rw[J_];simp only[F_,Nt];omega);refine⟨k::l,s3',((q1.cons k).trans (List.perm_append_comm (l₁:=[k]) (l₂:=AT.lvsL st))),?_⟩;have i1:(bE cA).G [f k,.ty "tuple"]=.val (.bl false):=by
    have:=hf k (by simp)
    generalize f k=a at *;cases a <;> first |rfl |(cases this;done)
   have al:(acc.map f).length<16777216:=by rw[p_];omega
   have bb:cC.G [.sh v,.ow (.lst (acc.map f)),.ow (.lst (st.map (AT.val f)++[AT.val f (.lf k)])),s3]=.nx [.sh v,.ow (.lst ((acc++[k]).map f)),.ow (.lst (st.map (AT.val f))),.sh (f k)]:=by unfold cC;rw[AT.val,NC,v_,Nz];generalize f k=a at *;simp![ma,h3,i1,al]
   rw[bb,show acc++k::l=acc++[k]++l by simp];exact q2
  |
   nd w ts=>
   simp only[AT.lvsL,AT.lvs,Nv,AT.cntL,AT.cnt] at hf hN hl ⊢;obtain⟨l,s3',q1,q2⟩:=ik (f:=f) v N (st++ts) acc (.sh (AT.val f (.nd w ts))) (by rw[AT.cntL_app];omega) rfl (by rw[AT.lvsL_app];exact hf) (by rw[AT.cntL_app];omega);rw[AT.lvsL_app] at q1;refine⟨l,s3',q1,?_⟩;have i1:∀xs:List Val,(bE cA).G [.tup xs,.ty "tuple"]=.val (.bl true):=λ_=>rfl;have le:∀l:List AT,l.length<=AT.cntL l:=by
    intro l;induction l with
    |nil=>exact s_ _
    |cons t l ih=>rw[AT.cntL,F_];cases t <;> (rw[AT.cnt];omega)
   have ll:(st.map (AT.val f)).length+(ts.map (AT.val f)).length<=16777216:=by
    have:=le st
    have:=le ts
    rw[p_,p_];omega
   rw[AT.val,AT.vals_map] at q2 ⊢;rw[NC] at q2;have bb:cC.G [.sh v,.ow (.lst (acc.map f)),.ow (.lst (st.map (AT.val f)++[.tup [.str (wy w),.tup (ts.map (AT.val f))]])),s3]=.nx [.sh v,.ow (.lst (acc.map f)),.ow (.lst (st.map (AT.val f)++ts.map (AT.val f))),.sh (.tup [.str (wy w),.tup (ts.map (AT.val f))])]:=by unfold cC;simp![ma,h3,i1,xN,o9,ll]
   rw[bb];exact q2
def zY{f:Nat->Val}{t:AT}(hf:∀k∈t.lvs,lfV (f k)=true)(hc:t.cnt<=100000):∃l:List Nat,l.Perm t.lvs/\dH.G [t.val f]=.ok (.new (.lst (l.map f))) []:=by
 have e1:AT.lvsL [t]=t.lvs:=by simp [AT.lvsL]
 have e2:AT.cntL [t]=t.cnt:=by simp [AT.cntL]
 obtain⟨l,s3',q1,q2⟩:=ik (f:=f) (t.val f) (AT.cntL [t]) [t] [] .no (s_ _) rfl (by rw[e1];exact hf) (by rw[e2,Nt];omega);rw[e1] at q1;refine⟨l,q1,?_⟩;rw[v_,Nz,Nz,Ny] at q2;unfold dH;rw[ay];unfold kJ;generalize t.val f=tv at *;simp![q2]
def sF{ws:List Int}{l:List Nat}(hl:l.length<=1000)(hi:∀k∈l,k<ws.length):∃s,lcV (gtN 0).G qY.G (pOp bIx (af 1) (af 0)).G (l.map λk:Nat=>.int k) [] [.no,.sh (liV ws)]=.ok ((l.map λk=>ws.getD k 0).map .int) [s,.sh (liV ws)]:=by
 obtain⟨e',⟨s,rfl,_⟩,lc⟩:=dZ (g:=(gtN 0).G) (F:=(pOp bIx (af 1) (af 0)).G) (λk:Nat=>Val.int k) (λk:Nat=>Val.int (ws.getD k 0)) (λe=>∃s:Sl,e=[s,.sh (liV ws)]/\s.pl=true) l [] [.no,.sh (liV ws)] ⟨.no,rfl,rfl⟩ (by
  rintro k hk _ ⟨s,rfl,hs⟩;have h1:=hi k hk;have a1:atI (ws.map Val.int) (k:Nat)=some (.int (ws.getD k 0)):=bj (by omega) (by rw[Nf];show (ws[k]?).map _=_;rw[H_,y_ h1];rfl);refine⟨[.sh (.int (k:Nat)),.sh (liV ws)],.val (.int (ws.getD k 0)),[.sh (.int (k:Nat)),.sh (liV ws)],?_,?_,rfl,_,rfl,rfl⟩
  .simp![hs]
  .unfold liV;simp![a1]) (by rw[Nt];omega)
 exact⟨s,by rw[NV];exact lc⟩
def u5{ws:List Int}{b:Bx}{w:Bool}{ts:List AT}{n m:Nat}(h:AT.lay ws n m (.nd w ts) b)(hnm:n+n+m<=8000)(hi:∀k∈AT.lvsL ts,k<ws.length)(hl:(AT.lvsL ts).length<=1000)(hc:AT.cntL ts<=100000):fG.G [bV b,liV ws,atV (.nd w ts)]=.ok (.new (.lst ((aT b (wy w) (ts.map (wtT ws))).map bV))) []:=by
 rw[AT.lay] at h;obtain⟨h1,h2,h3,h4,h5,h6,_⟩:=h;have ew:wy w="across" \/ wy w="down":=by cases w;exact .inr rfl;exact .inl rfl
 have pe:=jS h1 h2 ew (ws:=ts.map (wtT ws)) (by simpa using h3) (λx hx=>by obtain⟨t,ht,rfl⟩:=Nw.mp hx;exact h5 t ht) h6 hnm (by rw[p_];exact h4);have cle:∀t∈ts,t.cnt<=AT.cntL ts:=λt ht=>AT.cnt_le ht;have lle:∀t∈ts,t.lvs.length<=(AT.lvsL ts).length:=λt ht=>AT.lvs_le ht;obtain⟨e',⟨s,rfl,_⟩,lc⟩:=dZ (g:=(gtN 0).G) (F:=(pFn aO (aa (pLC (dk (ak dH (aa (af 0) ag))) [none,some 1] (by decide) (gtN 0) qY (pOp bIx (af 1) (af 0))) ag)).G) atV (λt=>Val.int (wtT ws t)) (λe=>∃s:Sl,e=[s,.sh (liV ws)]/\s.pl=true) ts [] [.no,.sh (liV ws)] ⟨.no,rfl,rfl⟩ (by
  rintro t ht _ ⟨s,rfl,hs⟩;obtain⟨l,lp,e1⟩:=zY (f:=λk=>.int (k:Nat)) (t:=t) (λ_ _=>rfl) (by have:=cle t ht;omega);rw[show AT.val (λk=>Val.int (k:Nat)) t=atV t from rfl] at e1;obtain⟨s',lc⟩:=sF (ws:=ws) (l:=l) (by rw[lp.length_eq];have:=lle t ht;omega) (λk hk=>hi k (AT.lvsL_mem.mpr ⟨t,ht,lp.mem_iff.mp hk⟩));have ll:((l.map λk=>ws.getD k 0).map Val.int).length<=16777216:=by rw[p_,p_,lp.length_eq];have:=lle t ht;omega
  have sm:(l.map λk=>ws.getD k 0).sum=wtT ws t:=Dq lp;refine⟨[.sh (atV t),.sh (liV ws)],.val (.int (wtT ws t)),[.sh (atV t),.sh (liV ws)],?_,?_,rfl,_,rfl,rfl⟩
  .generalize atV t=tv at *;simp![hs]
  .rw[<- sm];generalize atV t=tv at *;generalize liV ws=wv at *;generalize (l.map λk:Nat=>Val.int (k:Nat))=LV at *;simp![e1,bZ,inS,lc,ll]) (by rw[Nt];omega)
 have av:atV (.nd w ts)=.tup [.str (wy w),.tup (ts.map atV)]:=by unfold atV;rw[AT.val,AT.vals_map]
 have lm:ts.map (λt=>Val.int (wtT ws t))=(ts.map (wtT ws)).map .int:=by rw[NV];rfl
 have l2:((ts.map (wtT ws)).map Val.int).length<=16777216:=by rw[p_,p_];omega
 rw[Ny,lm] at lc;rw[av];generalize (aT b (wy w) (ts.map (wtT ws))).map bV=PB at *;generalize (ts.map (wtT ws)).map Val.int=SV at *;generalize ts.map atV=TV at *;generalize liV ws=wv at *;generalize bV b=bv at *;unfold fG;rw[ay];unfold mY;simp![bZ,inS,lc,l2,pe]
theorem lQ{ws:List Int}{n m k:Nat}(rv tv:Val):∀(ts:List AT) (bs:List Bx) (kvs:List (Key×Val)) (s4 s5:Sl),s4.pl=true->s5.pl=true->ts.length=bs.length->(∀(t:AT) (b:Bx) (kvs:List (Key×Val)),t∈ts->AT.lay ws n m t b->kvs.length+t.lvs.length<=100000->(dG k).G [bV b,liV ws,atV t,.dct kvs]=.ok (.val .non) [.dct (cT kvs (AT.bx ws t b))])->AT.layL ws n m ts bs->kvs.length+(AT.lvsL ts).length<=100000->
 ∃s4' s5',fj (gtX (gtT 2 (bL (gtN 4) (bL (gtN 5) fD)))).G (jt (dG k)).G (List.zipWith (λx y=>Val.tup [x,y]) (ts.map atV) (bs.map bV)) [.sh rv,.sh (liV ws),.sh tv,.mu (.dct kvs),s4,s5]=.nx [.sh rv,.sh (liV ws),.sh tv,.mu (.dct (cT kvs (AT.bxL ws ts bs))),s4',s5']
 | [],bs,kvs,s4,s5,_,_,_,_,_,_=>⟨s4,s5,by cases bs <;> rfl⟩
 |t::ts,[],kvs,s4,s5,_,_,h,_,_,_=>nomatch h
 |
  t::ts,b::bs,kvs,s4,s5,h4,h5,hl,hp,hy,hk=>by
  rw[AT.layL] at hy;rw[AT.lvsL,J_] at hk;have e1:=hp t b kvs (t_ ..) hy.1 (by omega);have a_:=rn (AT.bx ws t b) kvs;have hfst:=(AT.bx_fst ws t b).1;obtain⟨s4',s5',q⟩:=lQ rv tv ts bs (cT kvs (AT.bx ws t b)) (.sh (atV t)) (.sh (bV b)) rfl rfl (by simpa using hl) (λu c kv hu=>hp u c kv (r_ _ hu)) hy.2 (by omega);refine⟨s4',s5',?_⟩;rw[AT.bxL,Dm,v_,v_,List.zipWith_cons_cons,fT];generalize cT kvs (AT.bx ws t b)=kvs1 at *;generalize atV t=av at *;generalize bV b=bv at *;generalize liV ws=wv at *;have g1:(gtX (gtT 2 (bL (gtN 4) (bL (gtN 5) fD)))).G (.tup [av,bv]) [.sh rv,.sh wv,.sh tv,.mu (.dct kvs),s4,s5]=some [.sh rv,.sh wv,.sh tv,.mu (.dct kvs),.sh av,.sh bv]:=by simp![h4,h5]
  have b1:(jt (dG k)).G [.sh rv,.sh wv,.sh tv,.mu (.dct kvs),.sh av,.sh bv]=.nx [.sh rv,.sh wv,.sh tv,.mu (.dct kvs1),.sh av,.sh bv]:=by unfold jt;simp![e1]
  rw[g1];dsimp only;rw[b1];exact q
def xn(b:Bx)(way:Str)(ws:List Int):(aT b way ws).length=ws.length:=by unfold aT;split <;> rw[p_,iM]
def CJ{ws:List Int}{n m:Nat}(hnm:n+n+m<=8000)(t:AT):∀(k:Nat) (b:Bx) (kvs:List (Key×Val)),t.dep<=k->AT.lay ws n m t b->(∀i∈t.lvs,i<ws.length)->t.lvs.length<=1000->t.cnt<=100000->kvs.length+t.lvs.length<=100000->(dG k).G [bV b,liV ws,atV t,.dct kvs]=.ok (.val .non) [.dct (cT kvs (AT.bx ws t b))]:=by
 induction t using AT.ind with
 |
  h1 x=>
  intro k b kvs hd _ _ _ _ hk;cases k with
  |zero=>simp [AT.dep] at hd
  |
   succ k=>
   have i1:(bE cA).G [.int (x:Nat),.ty "tuple"]=.val (.bl false):=rfl;have kl:kvs.length<16777216:=by omega
   have av:atV (.lf x)=.int (x:Nat):=rfl;have pe:cT kvs (AT.bx ws (.lf x) b)=eV kvs (.inl (x:Nat)) (bV b):=by rw[AT.bx];rfl
   show (PFx.of [false,false,false,true] 6 (gB (dG k))).G [bV b,liV ws,atV (.lf x),.dct kvs]=_;rw[j9,av,pe];unfold gB;generalize bV b=bv at *;generalize liV ws=wv at *;simp![i1,IP,kl]
 |
  h2 w ts ih=>
  intro k b kvs hd hy hi hl hc hk;cases k with
  |zero=>simp [AT.dep] at hd
  |
   succ k=>
   rw[AT.dep] at hd;rw[AT.lvs] at hi hl hk;rw[AT.cnt] at hc;have hd':=AT.depL_le.mp (show AT.depL ts<=k by omega);have pe:=u5 hy hnm hi hl (by omega);have hy':=hy;rw[AT.lay] at hy';obtain⟨s4,s5,lo⟩:=lQ (ws:=ws) (n:=n) (m:=m) (k:=k) (bV b) (atV (.nd w ts)) ts (aT b (wy w) (ts.map (wtT ws))) kvs .no .no rfl rfl (by rw[xn,p_]) (λt c kv ht hy2 hk2=>ih t ht k c kv (hd' t ht) hy2 (λi hi2=>hi i (AT.lvsL_mem.mpr ⟨t,ht,hi2⟩)) (by have:=AT.lvs_le ht;omega) (by have:=AT.cnt_le ht;omega) hk2) hy'.2.2.2.2.2.2 hk;have av:atV (.nd w ts)=.tup [.str (wy w),.tup (ts.map atV)]:=by unfold atV;rw[AT.val,AT.vals_map]
   have bxe:AT.bx ws (.nd w ts) b=AT.bxL ws ts (aT b (wy w) (ts.map (wtT ws))):=by rw[AT.bx]
   show (PFx.of [false,false,false,true] 6 (gB (dG k))).G [bV b,liV ws,atV (.nd w ts),.dct kvs]=_;rw[j9,bxe];unfold gB;rw[av] at pe lo ⊢;have i1:∀xs:List Val,(bE cA).G [.tup xs,.ty "tuple"]=.val (.bl true):=λ_=>rfl;generalize cT kvs (AT.bxL ws ts (aT b (wy w) (ts.map (wtT ws))))=kvs1 at *;generalize (aT b (wy w) (ts.map (wtT ws))).map bV=PB at *;generalize ts.map atV=TV at *;generalize bV b=bv at *;generalize liV ws=wv at *;simp![i1,xN,pe,lo]
def Ci{ws:List Int}{n m:Nat}{b:Bx}{t:AT}(hnm:n+n+m<=8000)(hb:b.Ok)(h0:ws≠[])(hw:∀w∈ws,1<=w)(h40:ws.length<=40)(ho:t.ok=true)(hi:∀k,k∈t.lvs ↔ k<ws.length)(nd:t.lvs.Nodup)(hl:t.lvs.length=ws.length)(hd:t.dep<=42)(hy:AT.lay ws n m t b):fA.G [bV b,liV ws,atV t]=.ok (.new (.lst ((List.range ws.length).map λk=>bV (bxO (AT.bx ws t b) k)))) []:=by
 have hc:=AT.cnt_lvs t ho;have cb:=bD hb;have cw:=gg h0 hw h40;have ct:=pY (n:=ws.length) ho (λk hk=>(hi k).mp hk) nd hl (by omega) (by omega);have pl:=CJ (ws:=ws) hnm t 42 b [] hd hy (λk hk=>(hi k).mp hk) (by omega) (by omega) (by rw[Nt];omega);have ll:((ws.map Val.int).length:Nat)=ws.length:=p_ ..;have rg:jc [.int (ws.length:Nat)]=some (rgV ws.length):=ox (by omega);have keys:=AT.bx_keys ws t b;obtain⟨e',⟨s,rfl,_⟩,lc⟩:=dZ (g:=(gtN 0).G) (F:=(pOp xr (af 1) (af 0)).G) (λk:Nat=>Val.int k) (λk:Nat=>bV (bxO (AT.bx ws t b) k)) (λe=>∃s:Sl,e=[s,.mu (.dct (cT [] (AT.bx ws t b)))]/\s.pl=true) (List.range ws.length) [] [.no,.mu (.dct (cT [] (AT.bx ws t b)))] ⟨.no,rfl,rfl⟩ (by
  rintro k hk _ ⟨s,rfl,hs⟩;rw[Nh] at hk;have lk:=LW ((vv (k:=k) (AT.bx ws t b) [] (by rw[keys];exact nd)).1 (by rw[keys];exact (hi k).mpr hk));generalize cT [] (AT.bx ws t b)=kv at *;generalize bV (bxO (AT.bx ws t b) k)=bv at *;refine⟨[.sh (.int (k:Nat)),.mu (.dct kv)],.val bv,[.sh (.int (k:Nat)),.mu (.dct kv)],?_,?_,rfl,_,rfl,rfl⟩
  .simp![hs]
  .simp![lk]) (by rw[Nt,C_];omega)
 have l2:((List.range ws.length).map λk=>bV (bxO (AT.bx ws t b) k)).length<=16777216:=by simp;omega
 rw[Ny] at lc;rw[show (List.range ws.length).map (λk:Nat=>Val.int k)=rgV ws.length from rfl] at lc;generalize (List.range ws.length).map (λk=>bV (bxO (AT.bx ws t b) k))=RB at *;generalize cT [] (AT.bx ws t b)=kv at *;unfold liV at pl ⊢;generalize atV t=tv at *;generalize bV b=bv at *;unfold fA;rw[ay];unfold my;simp![cb,cw,ll,ct,pl,rg,bZ,inS,lc,l2]
theorem tO(x y:Val):∀(n one c_:Nat),c_<=n->(xWh (qOf (pOp bGt (af 3) (ah 0))) gw).G [.sh x,.sh y,.sh (.int (one:Nat)),.sh (.int (c_:Nat))]=.nx [.sh x,.sh y,.sh (.int (Nat.gcd one c_:Nat)),.sh (.int 0)]
 |
  n,one,0,_=>by
  rw[eJ];simp![Nat.gcd_zero_right,Int.natCast_zero,Int.lt_irrefl]
 |0,one,c_+1,hl=>absurd hl (by omega)
 |
  n+1,one,c_+1,hl=>by
  rw[eJ];have e:decide ((0:Int)<((c_+1:Nat):Int))=true:=Em (by omega);have e1:cx.G (.int (one:Nat)) (.int ((c_+1:Nat):Int))=.val (.int (((one:Nat):Int).fmod ((c_+1:Nat):Int))):=f9 (by omega);have e2:((one:Nat):Int).fmod ((c_+1:Nat):Int)=((one % (c_+1):Nat):Int):=by rw[Int.fmod_eq_emod_of_nonneg _ (by omega)];rfl
  have ih:=tO x y n (c_+1) (one % (c_+1)) (by have:=Nat.mod_lt one (show c_+1>0 by omega);omega);rw[Fr.euc] at ih;rw[e2] at e1;have bb:gw.G [.sh x,.sh y,.sh (.int (one:Nat)),.sh (.int ((c_+1:Nat):Int))]=.nx [.sh x,.sh y,.sh (.int ((c_+1:Nat):Int)),.sh (.int ((one % (c_+1):Nat):Int))]:=by unfold gw;simp![e1]
  simp![e,bb,ih]
def iQ{a b:Int}(hb:0<b)(hs:Sm 8000 b):cc.G [.int a,.int b]=.ok (.val (fV ((a:Rat)/(b:Rat)))) []:=by
 unfold cc;rw[ay];unfold oO;have hb0:b≠0:=by omega
 have lo:=tO (.int a) (.int b) b.natAbs a.natAbs b.natAbs (s_ _);rw[show Nat.gcd a.natAbs b.natAbs=Int.gcd a b from rfl,show ((b.natAbs:Nat):Int)=b by omega] at lo;have c:∀x,CDivB x (Fr.dv a b):=λx=>CDivB.of (Fr.dv_ne hb0) (hs.of_le (by rw[Fr.dv_abs];exact Nat.le_of_dvd (by omega) (Nat.gcd_dvd_right a.natAbs b.natAbs)));have k1:=j3 (c a);have k2:=j3 (c b);have hh:=lY (a:=a) hb0;have f_:Val.tup [.int (a.fdiv (Fr.dv a b)),.int (b.fdiv (Fr.dv a b))]=fV ((a:Rat)/(b:Rat)):=by unfold fV;rw[<- hh.1,<- hh.2];rfl
 have hd:Fr.dv a b=((Int.gcd a b:Nat):Int):=by unfold Fr.dv;rw[if_neg (by omega)]
 rw[hd] at k1 k2 f_;simp![wz,lo,k1,k2,f_]
def p30:ij.G (.int 10) (.int 30)=.val (.int 1000000000000000000000000000000):=xM ⟨by decide,by decide,by decide⟩
def gZ{a:Int}(h0:0<=a)(h:a<=1000000000000000000000000000000):Sm 100 a:=by
 have:(2:Nat)^100=1267650600228229401496703205376:=by decide
 show a.natAbs<_;omega
def AG{n:Nat}{v:Val}(f:Fd n v)(hn:n<=800000000):∃q v',da.G [v]=.ok (.val (fV q)) [v']/\Fd (n+13) v'/\0<q/\Sz 100 q:=by
 obtain⟨w,v1,e1,f1,w0,w5⟩:=br (m:=7) f (by omega) (by decide) (sm8 (by decide));unfold da;rw[ay];unfold jU;by_cases h2:w<3
 .obtain⟨a,v2,e2,f2,a0,a1⟩:=br (m:=12) f1 (by omega) (by decide) (sm8 (by decide));refine⟨((1+a:Int):Rat),v2,?_,f2.mono (by omega),oE (by omega),gZ (by show (0:Int)<=1+a;omega) (by show 1+a<=_;omega),gZ (a:=1) (by decide) (by decide)⟩;have i1:fV ((1+a:Int):Rat)=.tup [.int (1+a),.int 1]:=rfl;rw[i1];simp![e1,e2,Em h2]
 .have d2:=w_ h2;by_cases h3:w=3
  .subst h3;refine⟨1,v1,?_,f1.mono (by omega),by decide,gZ (a:=1) (by decide) (by decide),gZ (a:=1) (by decide) (by decide)⟩;have i1:fV 1=.tup [.int 1,.int 1]:=rfl;rw[i1];simp![e1,d2]
  .have d3:(w==3)=false:=by rw[M_];exact h3
   by_cases h4:w<6
   .obtain⟨a,v2,e2,f2,a0,a1⟩:=br (m:=60) f1 (by omega) (by decide) (sm8 (by decide));obtain⟨b,v3,e3,f3,b0,b1⟩:=br (m:=12) f2 (by omega) (by decide) (sm8 (by decide));have lo:=iQ (a:=1+a) (b:=1+b) (by omega) (sm8 (by omega));refine⟨((1+a:Int):Rat)/((1+b:Int):Rat),v3,?_,f3.mono (by omega),jx (by omega) (by omega),Sz.div (by omega) (gZ (by omega) (by omega)) (gZ (by omega) (by omega)) 100 (s_ _) (s_ _)⟩;simp![e1,e2,e3,d2,d3,Em h4,lo]
   .obtain⟨a,v2,e2,f2,a0⟩:=AU f1 (by omega);obtain⟨b,v3,e3,f3,b0⟩:=AU f2 (by omega);have m1:cx.G (.int a) (.int 999999999999999999999999999999)=.val (.int (a.fmod 999999999999999999999999999999)):=f9 (by decide);have m2:cx.G (.int b) (.int 999999999999999999999999999999)=.val (.int (b.fmod 999999999999999999999999999999)):=f9 (by decide);have r1:=fO (a:=a) (m:=999999999999999999999999999999) (by decide);have r2:=fO (a:=b) (m:=999999999999999999999999999999) (by decide);generalize a.fmod 999999999999999999999999999999=x at *;generalize b.fmod 999999999999999999999999999999=y at *;have sx:=gZ (a:=1+x) (by omega) (by omega);have sy:=gZ (a:=1+y) (by omega) (by omega);have lo:=iQ (a:=1+x) (b:=1+y) (by omega) (sy.mono (by decide));have p9:(1000000000000000000000000000000:Int)-1=999999999999999999999999999999:=by decide
    refine⟨((1+x:Int):Rat)/((1+y:Int):Rat),v3,?_,f3.mono (by omega),jx (by omega) (by omega),Sz.div (by omega) sx sy 100 (s_ _) (s_ _)⟩;simp![e1,e2,e3,d2,d3,w_ h4,p30,p9,m1,m2,lo]
def wD{g:MG3}{F:ME3}{v y:Val}{vs acc:List Val}{e e1 e2 e3:E3}{t:L3.Tm}(h:acc.length<16777216)(h1:g v e=some e1)(h2:F e1=.ok t e2)(h3:cU e2 t=some (e3,y)):lcV g qY.G F (v::vs) acc e=lcV g qY.G F vs (acc++[y]) e3:=by rw[lcV];have cy:qY.G=cY:=rfl;rw[if_pos h,h1,cy];simp only[cY,eP,OO,h2,h3]
def lA{a b:Int}(ha:a.natAbs<=1000)(hb:0<b)(hb2:b<=1000):Sz 101 ((a:Rat)/(b:Rat)):=by
 have:(2:Nat)^10=1024:=by decide
 exact Sz.div (by omega) (show Sm 10 a from by show a.natAbs<_;omega) (show Sm 10 b from by show b.natAbs<_;omega) 101 (by decide) (by decide)
def rmQ(n:Nat)(r:SR3):Prop:=∃b v',Good b/\Fd n v'/\gk [true] r=.ok (.val (bV b)) [v']
def Gf{n:Nat}{v:Val}(f:Fd n v)(hn:n<=700000000):∃b v',Good b/\Fd (n+31) v'/\fo.G [v]=.ok (.val (bV b)) [v']:=by
 obtain⟨w,v1,e1,f1,w0,ws⟩:=AG f (by omega);obtain⟨h,v2,e2,f2,h0,hs⟩:=AG f1 (by omega);obtain⟨z,v3,e3,f3,_,_⟩:=br (m:=5) f2 (by omega) (by decide) (sm8 (by decide));obtain⟨a,v4,e4,f4,a0,a1⟩:=br (m:=41) f3 (by omega) (by decide) (sm8 (by decide));obtain⟨b,v5,e5,f5,b0,b1⟩:=br (m:=9) f4 (by omega) (by decide) (sm8 (by decide));obtain⟨c,v6,e6,f6,c0,c1⟩:=br (m:=41) f5 (by omega) (by decide) (sm8 (by decide));obtain⟨d,v7,e7,f7,d0,d1⟩:=br (m:=9) f6 (by omega) (by decide) (sm8 (by decide));have l1:=iQ (a:=a-20) (b:=1+b) (by omega) (sm8 (by omega));have l2:=iQ (a:=c-20) (b:=1+d) (by omega) (sm8 (by omega));have s1:=lA (a:=a-20) (b:=1+b) (by omega) (by omega) (by omega);have s2:=lA (a:=c-20) (b:=1+d) (by omega) (by omega) (by omega);generalize ((a-20:Int):Rat)/((1+b:Int):Rat)=l at *;generalize ((c-20:Int):Rat)/((1+d:Int):Rat)=t at *;unfold fo;rw[lP rfl];show ∃b v',Good b/\Fd (n+31) v'/\gk [true] (gx.G [.mu v,.no,.no,.no,.no])=.ok (.val (bV b)) [v'];refine (show rmQ (n+31) (gx.G [.mu v,.no,.no,.no,.no]) from ?_);unfold gx;refine aC (λe=>e=[.mu v2,.sh (fV w),.sh (fV h),.no,.no]) ⟨_,by generalize fV w=wv at *;generalize fV h=hv at *;simp![e1,e2],rfl⟩ ?_;rintro _ rfl;refine aC (λe=>∃h,0<h/\Sz 100 h/\e=[.mu v3,.sh (fV w),.sh (fV h),.no,.no]) ?_ ?_
 .by_cases hz:z=0
  .subst hz;exact⟨_,by generalize fV w=wv at *;generalize fV h=hv at *;simp![e3],w,w0,ws,rfl⟩
  .have dz:(z==0)=false:=by rw[M_];exact hz
   exact⟨_,by generalize fV w=wv at *;generalize fV h=hv at *;simp![e3,dz],h,h0,hs,rfl⟩
 rintro _ ⟨h,h0,hs,rfl⟩;have lc:lcV (gtN 0).G qY.G (ak cc (aa (pOp dN (ak aH (aa (af 1) (aa (ah 41) ag))) (ah 20)) (aa (pOp aY (ah 1) (ak aH (aa (af 1) (aa (ah 9) ag)))) ag))).G [.int 0,.int 1] [] [.no,.mu v3]=.ok [fV l,fV t] [.sh (.int 1),.mu v7]:=by rw[wD (e1:=[.sh (.int 0),.mu v3]) (t:=.val (fV l)) (e2:=[.sh (.int 0),.mu v5]) (e3:=[.sh (.int 0),.mu v5]) (y:=fV l) (by decide) rfl (by generalize fV l=lv at *;simp![e4,e5,l1]) rfl];rw[wD (e1:=[.sh (.int 1),.mu v5]) (t:=.val (fV t)) (e2:=[.sh (.int 1),.mu v7]) (e3:=[.sh (.int 1),.mu v7]) (y:=fV t) (by show 1<_;decide) rfl (by generalize fV t=lv at *;simp![e6,e7,l2]) rfl];rfl
 have rg:jc [.int 2]=some [.int 0,.int 1]:=ox (k:=2) (by decide);refine aC (λe=>e=[.mu v7,.sh (fV w),.sh (fV h),.sh (fV l),.sh (fV t)]) ⟨_,by generalize fV w=wv at *;generalize fV h=hv at *;generalize fV l=lv at *;generalize fV t=tv at *;simp![rg,lc,bZ,inS],rfl⟩ ?_;rintro _ rfl;refine⟨⟨l,t,w,h⟩,v7,⟨⟨w0,h0⟩,⟨s1,s2,ws.mono (by decide),hs.mono (by decide)⟩⟩,f7.mono (by omega),?_⟩;rw[show bV ⟨l,t,w,h⟩=.tup [fV l,fV t,fV w,fV h] from rfl];generalize fV w=wv at *;generalize fV h=hv at *;generalize fV l=lv at *;generalize fV t=tv at *;simp![gb]
noncomputable def lwB (b:Bx):Bool:=!decide (b.w<b.h)
def dJ{b:Bx}{n:Nat}(hb:b.Ok)(hs:b.Sz n)(h:n<=8000):bQ.G [bV b]=.ok (.val (.str (wy (lwB b)))) []:=by
 have cb:=bD hb;have il:=gp hs.w hs.h (by omega) (by omega);have ib:(bV b).items=some [fV b.l,fV b.t,fV b.w,fV b.h]:=rfl;unfold bQ lwB;rw[ay];unfold mX;by_cases hl:b.w<b.h
 .rw[Em hl] at il ⊢;simp![cb,ib,il];rfl
 .rw[w_ hl] at il ⊢;simp![cb,ib,il];rfl
def Bd(m B:Nat)(b:Bx)(n:Nat):Prop:=∃D A,Rp D A B b/\B<=A/\1<=A/\(A+n*B)*(D*2^(m*n))<2^2000
def Bd.fine{m B n:Nat}{b:Bx}(h:Bd m B b n):b.Ok/\b.Sz 2000:=by obtain⟨D,A,r,hBA,hA,hq⟩:=h;exact r.fine hBA hA hq
def Bd.ok{m B n:Nat}{b:Bx}(h:Bd m B b n):b.Ok:=h.fine.1
def Bd.sz{m B n:Nat}{b:Bx}(h:Bd m B b n):b.Sz 2000:=h.fine.2
def Bd.part{m B n k:Nat}{b c:Bx}{way:Str}{ws:List Int}(h:Bd m B b n)(hw:∀w∈ws,1<=w)(hS:ws.sum<2^m)(hc:c∈aT b way ws)(hk:k<n):Bd m B c k:=by
 obtain⟨D,A,r,hBA,hA,hq⟩:=h;have hT:ws.sum.toNat<=2^m:=by
  have h4:((2^m:Nat):Int)=(2:Int)^m:=by push_cast;rfl
  rw[<- h4] at hS;generalize 2^m=X at hS ⊢;clear hq;omega
 refine⟨D*ws.sum.toNat,A+B,r.parts hw hc,by omega,by omega,OD (NH ?_ ?_) hq⟩
 .have:(k+1)*B<=n*B:=Oo _ hk;rw[Nat.add_mul,Nat.one_mul] at this;omega
 .rw[Pm];refine Od _ ?_;have e:2^m*2^(m*k)=2^(m*(k+1)):=by rw[<- OC];congr 1;rw[Nat.mul_add,Nat.mul_one,Nat.add_comm]
  exact Nl (Oo _ hT) (by rw[e];exact NG (by decide) (Od _ hk))
def ml(b:Bx)(w:Bool)(x y:Int):aT b (wy w) [x,y]=[bB b w (x+y) 0 x,bB b w (x+y) x y]:=by rw[df];simp [frm]
def yN(w:Bool):wy w="across" \/ wy w="down":=by cases w;exact .inr rfl;exact .inl rfl
def zc{m:Nat}{S:Int}(h0:0<=S)(h:S<2^m):Sm m S:=by
 show S.natAbs<2^m;have h4:((2^m:Nat):Int)=(2:Int)^m:=by push_cast;rfl
 rw[<- h4] at h;omega
def ji{b:Bx}{xs:List Int}{m B n i:Nat}(hb:Bd m B b n)(hm:m<=104)(h1:1<=(xs.take i).sum)(h2:1<=(xs.drop i).sum)(hS:(xs.take i).sum+(xs.drop i).sum<2^m):cu.G [bV b,liV xs,.int (i:Nat)]=.ok (.new (.lst [bV (bB b (lwB b) ((xs.take i).sum+(xs.drop i).sum) 0 (xs.take i).sum),bV (bB b (lwB b) ((xs.take i).sum+(xs.drop i).sum) (xs.take i).sum (xs.drop i).sum)])) []:=by
 have lw:=dJ hb.ok hb.sz (by decide);have pe:=jS (way:=wy (lwB b)) (ws:=[(xs.take i).sum,(xs.drop i).sum]) (m:=m) hb.ok hb.sz (yN _) (by simp) (λw hw=>by
  rcases G_.mp hw with rfl |hw
  .exact h1
  .rw[Nk.mp hw];exact h2) (by
  rw[show [(xs.take i).sum,(xs.drop i).sum].sum=(xs.take i).sum+(xs.drop i).sum from by simp];exact zc (by omega) hS) (by omega) (by show 2<=40;decide)
 rw[ml] at pe;simp only[v_,Nz] at pe;have ct:=eL (xs.map Val.int) i;have cd:=eT (xs.map Val.int) i;rw[<- NN] at ct;rw[<- NY] at cd;have m1:=bp (xs.take i);have m2:=bp (xs.drop i);unfold cu;rw[ay];unfold jH;unfold liV;generalize (xs.take i).map Val.int=w1 at *;generalize (xs.drop i).map Val.int=w2 at *;generalize xs.map Val.int=w3 at *;generalize bV (bB b (lwB b) ((xs.take i).sum+(xs.drop i).sum) 0 (xs.take i).sum)=b1 at *;generalize bV (bB b (lwB b) ((xs.take i).sum+(xs.drop i).sum) (xs.take i).sum (xs.drop i).sum)=b2 at *;generalize bV b=bv at *;generalize wy (lwB b)=yy at *;simp![lw,dU,ct,cd,m1,m2,pe]
def sR{p q:Rat}(hq:q≠0):p/q=((p.num*q.den:Int):Rat)/((p.den*q.num:Int):Rat):=by
 have h1:=gQ (cM p);have h2:=gQ (cM q);have h3:q.num≠0:=λz=>hq (PL.mp z);have h4:=gQ h3
 conv=>lhs;rw[eA p,eA q]
 rw[NQ,NQ];simp only[Pk,Rat.inv_mul_rev,Rat.inv_inv];rw[OL,OL,Rat.mul_comm (((p.den:Int):Rat))⁻¹,OL]
def wA{p q:Rat}{n m:Nat}(hp:Sz n p)(hq:Sz m q)(h0:0<q)(h:n+m<=8000):iV.G [fV p,fV q]=.ok (.val (fV (p/q))) []:=by
 have c1:=bz (CMulA.of hp.top hq.bot (by omega) (by omega));have c2:=bz (CMulA.of hp.bot hq.top (by omega) (by omega));have hq0:q≠0:=λz=>by rw[z] at h0;exact absurd h0 (by decide)
 have hn:q.num≠0:=λz=>hq0 (PL.mp z);have fe:=eO (a:=p.num*q.den) (b:=p.den*q.num) (OQ (cM p) hn) ((hp.bot.mul hq.top).mono h);rw[<- sR hq0] at fe;unfold iV;rw[ay];unfold AN;rw[show fV p=.tup [.int p.num,.int p.den] from rfl,show fV q=.tup [.int q.num,.int q.den] from rfl];simp![c1,c2,fe]
def rR{b:Bx}{n:Nat}(hb:b.Ok)(hs:b.Sz n)(h:n+n<=8000):fL.G [bV b]=.ok (.val (fV (aD b))) []:=by
 have lw:=dJ hb hs (by omega);have ib:(bV b).items=some [fV b.l,fV b.t,fV b.w,fV b.h]:=rfl;have o1:=wA hs.w hs.h hb.2 h;have o2:=wA hs.h hs.w hb.1 h;unfold fL aD;rw[ay];unfold vJ;by_cases hl:b.w<b.h
 .rw[show wy (lwB b)="down" from by unfold lwB;rw[Em hl];rfl] at lw;rw[if_pos hl];simp![lw,ib,o1,o2,sH]
 .rw[show wy (lwB b)="across" from by unfold lwB;rw[w_ hl];rfl] at lw;rw[if_neg hl];simp![lw,ib,o1,o2,tW]
def Sz.over{p q:Rat}{n m:Nat}(hp:Sz n p)(hq:Sz m q)(h0:0<q):Sz (n+m) (p/q):=by
 have hq0:q≠0:=λz=>by rw[z] at h0;exact absurd h0 (by decide)
 have hn:q.num≠0:=λz=>hq0 (PL.mp z);rw[sR hq0];exact Sz.div (OQ (cM p) hn) (hp.top.mul hq.bot) (hp.bot.mul hq.top) (n+m) (s_ _) (s_ _)
def uM{b:Bx}{n:Nat}(hb:b.Ok)(hs:b.Sz n):Sz (n+n) (aD b):=by
 unfold aD;split
 .exact Sz.over hs.h hs.w hb.1
 .exact Sz.over hs.w hs.h hb.2
noncomputable def inT (f:List Int->Nat) (ws:List Int):Nat->Bx->List Nat->AT
 |0,_,l=>.lf (l.headD 0)
 |N
  + 1,b,l=>if l.length=1 then .lf (l.headD 0) else
  .nd (lwB b) [inT f ws N (bB b (lwB b) (wtA ws l) 0 (wtA ws (l.take (f (l.map λk=>ws.getD k 0))))) (l.take (f (l.map λk=>ws.getD k 0))),
   inT f ws N (bB b (lwB b) (wtA ws l) (wtA ws (l.take (f (l.map λk=>ws.getD k 0)))) (wtA ws (l.drop (f (l.map λk=>ws.getD k 0))))) (l.drop (f (l.map λk=>ws.getD k 0)))]
structure HowM(f:List Int->Nat)(nm:Str)(D:List Int->Prop):Prop where
 tk:∀xs i,D xs->D (xs.take i)
 dr:∀xs i,D xs->D (xs.drop i)
 lt:∀xs:List Int,D xs->2<=xs.length->(∀w∈xs,1<=w)->1<=f xs/\f xs<xs.length
 ev:∀(xs:List Int) (bv lv:Val),D xs->2<=xs.length->xs.length<=40->(∀w∈xs,1<=w)->(ax false 4 (lZ [("nearest_to_half",bG),("fewest_to_third",bI)] (af 3) (aa (af 2) ag))).G [.sh bv,.sh lv,.sh (liV xs),.sh (.glb nm),.no,.no,.no,.no,.no]=.nx [.sh bv,.sh lv,.sh (liV xs),.sh (.glb nm),.sh (.int (f xs:Nat)),.no,.no,.no,.no]
def AF{l:List Nat}{i N n:Nat}(h0:l.length<=N+1)(h1:1<=i)(h2:i<l.length)(hl:l.length<=n):((l.take i).length<=N/\1<=(l.take i).length/\(l.take i).length<=n/\(l.take i).length<l.length)/\(l.drop i).length<=N/\1<=(l.drop i).length/\(l.drop i).length<=n/\(l.drop i).length<l.length:=by rw[Ng,Nj];omega
def vB{l:List Nat}{i:Nat}{w:Bool}{s t:AT}(h1:1<=i)(h2:i<l.length)(a:s.dep<=(l.take i).length)(b:t.dep<=(l.drop i).length):(AT.nd w [s,t]).dep<=l.length:=by rw[Ng] at a;rw[Nj] at b;rw[AT.dep,AT.depL,AT.depL,AT.depL];omega
def zP{n:Nat}{x:Int}(h:(n:Int)<=x)(h1:1<=n):1<=x:=by omega
def ttQ(v:Val)(r:SR3):Prop:=gk [false,false,false,false] r=.ok (.val v) []
theorem nh{f:List Int->Nat}{nm:Str}{D:List Int->Prop}(H:HowM f nm D){ws:List Int}{m B:Nat}(hm:m<=104)(hS:∀l:List Nat,(∀k∈l,k<ws.length)->l.length<=ws.length->wtA ws l<2^m)(hw:∀w∈ws,1<=w)(hn:ws.length<=40):∀(N:Nat) (l:List Nat) (b:Bx),l.length<=N->1<=l.length->l.length<=ws.length->(∀k∈l,k<ws.length)->Bd m B b l.length->D (l.map λk=>ws.getD k 0)->
 (aX N).G [bV b,itV l,liV (l.map λk=>ws.getD k 0),.glb nm]=.ok (.val (atV (inT f ws N b l))) []/\(inT f ws N b l).ok=true/\(inT f ws N b l).lvs=l/\(inT f ws N b l).dep<=l.length
 |0,l,b,h0,h1,_,_,_,_=>by omega
 |
  N+1,l,b,h0,h1,hl,hi,hB,hD=>by
  by_cases hl1:l.length=1
  .obtain⟨k,rfl⟩:=OU.mp hl1;have a0:atI [Val.int (k:Nat)] 0=some (.int (k:Nat)):=bj (by decide) rfl;have te:inT f ws (N+1) b [k]=.lf k:=by rw[inT];exact if_pos rfl
   rw[te];refine⟨?_,rfl,rfl,by simp [AT.dep]⟩;show (PFx.of [false,false,false,false] 9 (bW (aX N))).G _=_;rw[j9,show atV (.lf k)=.int (k:Nat) from rfl,show itV [k]=.lst [.int (k:Nat)] from rfl];unfold bW;generalize bV b=bv;generalize liV _=wv;simp![a0]
  .have h2:2<=l.length:=by omega
   have hp:∀k∈l,1<=ws.getD k 0:=λj hj=>by rw[H_,y_ (hi j hj)];exact hw _ (NX _)
   have xl:(l.map λk=>ws.getD k 0).length=l.length:=p_ ..;have xp:∀w∈l.map λk=>ws.getD k 0,1<=w:=λw hw=>by obtain⟨j,hj,rfl⟩:=Nw.mp hw;exact hp j hj
   obtain⟨g1,g2⟩:=H.lt _ hD (by rw[xl];exact h2) xp;have ev:=H.ev (l.map λk=>ws.getD k 0) (bV b) (itV l) hD (by rw[xl];exact h2) (by rw[xl];exact Nl hl hn) xp;rw[inT,if_neg hl1];have ht:∀i,∀j∈l.take i,j∈l:=λi j hj=>NP hj;have hd:∀i,∀j∈l.drop i,j∈l:=λi j hj=>N8 hj;have wt:∀i,((l.map λk=>ws.getD k 0).take i).sum=wtA ws (l.take i):=λi=>by unfold wtA;rw[NN]
   have wd:∀i,((l.map λk=>ws.getD k 0).drop i).sum=wtA ws (l.drop i):=λi=>by unfold wtA;rw[NY]
   generalize hh:f (l.map λk=>ws.getD k 0)=i at *;rw[xl] at g2;obtain⟨⟨t1,t2,t3,t4⟩,d1,d2,d3,d4⟩:=AF h0 g1 g2 hl;have p1:=eK (l:=(l.take i).map λk=>ws.getD k 0) (λw hw=>by obtain⟨j,hj,rfl⟩:=Nw.mp hw;exact hp j (ht i j hj));have p2:=eK (l:=(l.drop i).map λk=>ws.getD k 0) (λw hw=>by obtain⟨j,hj,rfl⟩:=Nw.mp hw;exact hp j (hd i j hj));rw[p_] at p1 p2;replace p1:=zP p1 t2;replace p2:=zP p2 d2;have sp:wtA ws l=wtA ws (l.take i)+wtA ws (l.drop i):=by unfold wtA;rw[<- OS,<- NC,NL]
   rw[show ((l.take i).map λk=>ws.getD k 0).sum=wtA ws (l.take i) from rfl] at p1;rw[show ((l.drop i).map λk=>ws.getD k 0).sum=wtA ws (l.drop i) from rfl] at p2;have hs:=hS l hi hl;have ct2:=ji (xs:=l.map λk=>ws.getD k 0) (i:=i) hB hm (by rw[wt];exact p1) (by rw[wd];exact p2) (by rw[wt,wd,<- sp];exact hs);have mt:(l.map λk=>ws.getD k 0).take i=(l.take i).map λk=>ws.getD k 0:=by rw[NN]
   have md:(l.map λk=>ws.getD k 0).drop i=(l.drop i).map λk=>ws.getD k 0:=by rw[NY]
   rw[wt,wd,<- sp] at ct2;have pm:∀c∈[bB b (lwB b) (wtA ws l) 0 (wtA ws (l.take i)),bB b (lwB b) (wtA ws l) (wtA ws (l.take i)) (wtA ws (l.drop i))],∀k,k<l.length->Bd m B c k:=λc hc k hk=>hB.part (way:=wy (lwB b)) (ws:=[wtA ws (l.take i),wtA ws (l.drop i)]) (λw hw=>by
    rcases G_.mp hw with rfl |hw
    .exact p1
    .rw[Nk.mp hw];exact p2) (by rw[show [wtA ws (l.take i),wtA ws (l.drop i)].sum=wtA ws l from by rw[sp];simp];exact hs) (by rw[ml,<- sp];exact hc) hk
   obtain⟨a1,a3,a4,a5⟩:=nh H hm hS hw hn N (l.take i) _ t1 t2 t3 (λj hj=>hi j (ht i j hj)) (pm _ (t_ ..) _ t4) (by rw[<- mt];exact H.tk _ _ hD);obtain⟨b1,b3,b4,b5⟩:=nh H hm hS hw hn N (l.drop i) _ d1 d2 d3 (λj hj=>hi j (hd i j hj)) (pm _ (r_ _ (t_ ..)) _ d4) (by rw[<- md];exact H.dr _ _ hD);have lw:=dJ hB.ok hB.sz (by decide);generalize inT f ws N (bB b (lwB b) (wtA ws l) 0 (wtA ws (l.take i))) (l.take i)=T1 at *;generalize inT f ws N (bB b (lwB b) (wtA ws l) (wtA ws (l.take i)) (wtA ws (l.drop i))) (l.drop i)=T2 at *;refine⟨?_,?_,?_,?_⟩
   .rw[show atV (.nd (lwB b) [T1,T2])=.tup [.str (wy (lwB b)),.tup [atV T1,atV T2]] from rfl];generalize bB b (lwB b) (wtA ws l) 0 (wtA ws (l.take i))=B1 at *;generalize bB b (lwB b) (wtA ws l) (wtA ws (l.take i)) (wtA ws (l.drop i))=B2 at *;have ctl:=eL (l.map λk:Nat=>Val.int k) i;have cdl:=eT (l.map λk:Nat=>Val.int k) i;rw[<- NN] at ctl;rw[<- NY] at cdl;have ctx:=eL ((l.map λk=>ws.getD k 0).map Val.int) i;have cdx:=eT ((l.map λk=>ws.getD k 0).map Val.int) i;rw[<- NN,mt] at ctx;rw[<- NY,md] at cdx;have n1:(((l.length:Nat):Int)==1)=false:=by rw[M_];omega
    have ll:((l.map λk:Nat=>Val.int k).length:Nat)=l.length:=p_ ..;show (PFx.of [false,false,false,false] 9 (bW (aX N))).G _=_;rw[Ko rfl];show ttQ _ ((bW (aX N)).G [.sh (bV b),.sh (itV l),.sh (liV (l.map λk=>ws.getD k 0)),.sh (.glb nm),.no,.no,.no,.no,.no]);unfold bW;unfold itV at a1 b1 ev ⊢;unfold liV at a1 b1 ct2 ev ⊢;generalize bV b=bv at *;generalize bV B1=bv1 at *;generalize bV B2=bv2 at *;generalize atV T1=t1 at *;generalize atV T2=t2 at *;generalize wy (lwB b)=yy at *;generalize (l.take i).map (λk:Nat=>Val.int k)=l1 at *;generalize (l.drop i).map (λk:Nat=>Val.int k)=l2 at *;generalize ((l.take i).map λk=>ws.getD k 0).map Val.int=x1 at *;generalize ((l.drop i).map λk=>ws.getD k 0).map Val.int=x2 at *;generalize (l.map λk=>ws.getD k 0).map Val.int=x0 at *;generalize l.map (λk:Nat=>Val.int k)=l0 at *;refine aC (λe=>e=[.sh bv,.sh (.lst l0),.sh (.lst x0),.sh (.glb nm),.no,.no,.no,.no,.no]) ⟨_,by simp![ll,n1],rfl⟩ ?_;rintro _ rfl;refine aC (λe=>e=[.sh bv,.sh (.lst l0),.sh (.lst x0),.sh (.glb nm),.sh (.int (i:Nat)),.no,.no,.no,.no]) ⟨_,ev,rfl⟩ ?_;rintro _ rfl;unfold ttQ;simp![ct2,dU,ctl,cdl,ctx,cdx,a1,b1,lw,gb]
   .rw[AT.ok,AT.okL,AT.okL,AT.okL,a3,b3];rfl
   .rw[AT.lvs,AT.lvsL,AT.lvsL,AT.lvsL,a4,b4,Nv,NL]
   .exact vB g1 g2 a5 b5
theorem rD:∀(n:Nat) (l:List Nat),l.length=n->(∀i,i<n->i∈l)->l.Perm (List.range n)
 |0,l,h,_=>by rw[List.length_eq_zero_iff.mp h];exact List.Perm.refl _
 |
  n+1,l,h,hm=>by
  have h1:=hm n (by omega);have p:=List.perm_cons_erase h1;have q:=rD n (l.erase n) (by rw[List.length_erase_of_mem h1];omega) λi hi=>(List.mem_erase_of_ne (by omega)).mpr (hm i (by omega));rw[List.range_succ];exact p.trans ((q.cons n).trans (List.perm_append_singleton n _).symm)
def Ka{t:AT}{o:List Nat}{n:Nat}(T:TOk t o)(ho:∀i,i∈o ↔ i<n)(hl:o.length=n):t.lvs.Nodup:=
 (rD n t.lvs (by rw[T.len,hl]) λi hi=>(T.mem i).mpr ((ho i).mpr hi)).nodup_iff.mpr Pp
def mH{q:Rat}{k D:Nat}(hs:Sz 101 q)(hD:D=q.den*k)(hk:0<k):∃z:Int,q=(z:Rat)/((D:Int):Rat)/\z.natAbs<=2^101*D/\(0<q->0<z/\z<=((2^101:Nat):Int)*(D:Int)):=by
 have dp:=q.den_pos;have hn:q.num.natAbs<2^101:=hs.1;have hz:(q.num*(k:Int)).natAbs<=2^101*D:=by rw[NZ,Int.natAbs_natCast,hD];exact NH (by omega) (Nat.le_mul_of_pos_left _ dp)
 refine⟨q.num*(k:Int),?_,hz,λh=>⟨Int.mul_pos (ko.mpr h) (by omega),?_⟩⟩
 .have:=mQ (y:=q.num) (W:=(k:Int)) dp (by omega)
  rw[NB,<- hD] at this;rw[<- this];exact eA q
 .rw[<- OG];generalize q.num*(k:Int)=z at *;generalize 2^101*D=y at *;omega
def Eu{b:Bx}(g:Good b):∃D,D<2^404/\Rp D (2^101) (2^101) b:=by
 have dl:=b.l.den_pos;have dt:=b.t.den_pos;have dw:=b.w.den_pos;have dh:=b.h.den_pos;have sz:∀q:Rat,Sz 101 q->q.den<=2^101:=λq h=>by have:(q.den:Int).natAbs<2^101:=h.2;omega
 have k1:=Ol (Ol dt dw) dh;have k2:=Ol (Ol dl dw) dh;have k3:=Ol (Ol dl dt) dh;have k4:=Ol (Ol dl dt) dw;refine⟨b.l.den*(b.t.den*b.w.den*b.h.den),?_,Ol dl k1,?_,?_,?_,?_⟩
 .have a1:b.l.den<2^101:=by have:(b.l.den:Int).natAbs<2^101:=g.sz.l.2;omega
  have a2:=NH (NH (sz _ g.sz.t) (sz _ g.sz.w)) (sz _ g.sz.h)
  calc b.l.den*(b.t.den*b.w.den*b.h.den)<=b.l.den*(2^101*2^101*2^101):=Od _ a2
   _<2^101*(2^101*2^101*2^101):=Nat.mul_lt_mul_of_pos_right a1 (by decide)
   _=2^404:=by rw[<- OC,<- OC,<- OC]
 .obtain⟨z,h1,h2,_⟩:=mH (D:=b.l.den*(b.t.den*b.w.den*b.h.den)) g.sz.l rfl k1;exact⟨z,h1,h2⟩
 .obtain⟨z,h1,h2,_⟩:=mH (D:=b.l.den*(b.t.den*b.w.den*b.h.den)) (k:=b.l.den*b.w.den*b.h.den) g.sz.t (by ac_rfl) k2;exact⟨z,h1,h2⟩
 .obtain⟨z,h1,_,h2⟩:=mH (D:=b.l.den*(b.t.den*b.w.den*b.h.den)) (k:=b.l.den*b.t.den*b.h.den) g.sz.w (by ac_rfl) k3;exact⟨z,h1,h2 g.ok.w⟩
 .obtain⟨z,h1,_,h2⟩:=mH (D:=b.l.den*(b.t.den*b.w.den*b.h.den)) (k:=b.l.den*b.t.den*b.w.den) g.sz.h (by ac_rfl) k4;exact⟨z,h1,h2 g.ok.h⟩
structure WOk(ws:List Int):Prop where
 pos:1<=ws.length
 len:ws.length<=40
 wt:∀w∈ws,1<=w/\w<=1000000000000000000000000000000
 few:10<ws.length->∀w∈ws,w<=8388608
theorem jT{ws:List Int}{M:Int}:∀{l:List Nat},(∀k∈l,ws.getD k 0<=M)->wtA ws l<=(l.length:Int)*M
 | [],_=>by simp [wtA]
 |
  k::l,h=>by
  have h1:=h k (t_ ..);have h2:=jT (l:=l) λj hj=>h j (r_ _ hj);unfold wtA at h2 ⊢;rw[v_,Nq,F_,Int.natCast_add,Int.add_mul];omega
def K7{ws:List Int}{t:AT}{o:List Nat}{b:Bx}(g:Good b)(W:WOk ws)(T:TOk t o)(ho:∀i,i∈o ↔ i<ws.length)(hl:o.length=ws.length):(∀k∈t.lvs,1<=ws.getD k 0)/\∃D m,m<=104/\Rp D (2^101) (2^101) b/\(2^101+t.dep*2^101)*(D*2^(m*t.dep))<2^2000/\wtT ws t<2^m:=by
 obtain⟨D,hD,R⟩:=Eu g;have hlt:∀k∈t.lvs,k<ws.length:=λk hk=>(ho k).mp ((T.mem k).mp hk);have hin:∀k∈t.lvs,ws.getD k 0∈ws:=λk hk=>by rw[H_,y_ (hlt k hk)];exact NX _
 have hd:=T.dep;have len:=T.len;have wl:=W.len;refine⟨λk hk=>(W.wt _ (hin k hk)).1,D,?_⟩;have key:∀m,m*t.dep<=1218->m<=104->wtT ws t<2^m->∃m,m<=104/\Rp D (2^101) (2^101) b/\(2^101+t.dep*2^101)*(D*2^(m*t.dep))<2^2000/\wtT ws t<2^m:=λm h1 h2 h3=>by
  refine⟨m,h2,R,?_,h3⟩;have a1:2^101+t.dep*2^101<=2^107:=by
   have h1:=Oo (2^101) (show t.dep<=40 by omega);have h2:2^107=64*2^101:=by decide
   rw[h2];generalize 2^101=X at *;omega
  have a2:2^(m*t.dep)<=2^1218:=NG (by decide) h1;have a3:=NH a1 (NH (OZ hD) a2);refine OD a3 ?_;rw[<- OC,<- OC];exact Nat.pow_lt_pow_right (by decide) (by decide)
 by_cases h9:10<ws.length
 .refine key 29 (by omega) (by decide) ?_
  have:=jT (M:=8388608) λk hk=>W.few h9 _ (hin k hk)
  unfold wtT;have:(2:Int)^29=536870912:=by decide
  omega
 .refine key 104 (by omega) (by decide) ?_
  have:=jT (M:=1000000000000000000000000000000) λk hk=>(W.wt _ (hin k hk)).2
  unfold wtT;have:(2:Int)^104=20282409603651670423947251286016:=by decide
  omega
def D5{ws:List Int}{t:AT}{o:List Nat}{b:Bx}(g:Good b)(W:WOk ws)(T:TOk t o)(ho:∀i,i∈o ↔ i<ws.length)(hl:o.length=ws.length):∃m,m<=104/\AT.lay ws 2000 m t b:=by obtain⟨hw,D,m,h1,R,h2,h3⟩:=K7 g W T ho hl;have len:=T.len;have wl:=W.len;exact⟨m,h1,IG t b D (2^101) R (s_ _) (by decide) h2 T.ok hw h3 (by omega)⟩
theorem wK(m:Int):∀xs:List Int,gM (.int m) (xs.map .int)=some (xs.map (· == m))
 | []=>rfl
 |x::xs=>by rw[v_,gM,wK m xs,D3];rfl
def Ab{xs:List Int}{m:Int}(h:m∈xs):(xs.map (· == m)).idxOf true<xs.length/\fY.G (.lst (xs.map .int)) [.int m]=.val (.int ((xs.map (· == m)).idxOf true:Nat)):=by have hm:true∈xs.map (· == m):=Nw.mpr ⟨m,h,beq_self_eq_true m⟩;have hl:=Pb.mpr hm;refine⟨by rw[p_] at hl;exact hl,?_⟩;show fW (.lst (xs.map .int)) [.int m]=_;unfold fW;dsimp only;rw[wK];dsimp only;rw[if_pos hl]
noncomputable def apt (ws:List Int):List Int:=(List.range (ws.length-1)).map λi=>((2*(ws.take (i+1)).sum-ws.sum).natAbs:Int)
noncomputable def gD (ws:List Int):Nat:=((apt ws).map (· == mnI (apt ws))).idxOf true+1
def vI(ws:List Int):(apt ws).length=ws.length-1:=by unfold apt;rw[p_,C_]
def nC{ws:List Int}(h:2<=ws.length):apt ws≠[]/\1<=gD ws/\gD ws<ws.length/\fY.G (liV (apt ws)) [.int (mnI (apt ws))]=.val (.int ((gD ws-1:Nat):Int)):=by
 have hl:=vI ws;have h0:apt ws≠[]:=λz=>by rw[z] at hl;simp at hl;omega
 obtain⟨h1,h2⟩:=Ab (j6 h0);refine⟨h0,by unfold gD;omega,by unfold gD;omega,?_⟩;unfold gD liV;rw[Nat.add_sub_cancel];exact h2
def JC{ws:List Int}(hl:ws.length<=1000):∃s,lcV (gtN 0).G qY.G (pFn hX (aa (pOp dN (pOp aG (ah 2) (pFn aO (aa (pSl (af 1) oN (oS (af 0))) ag))) (pFn aO (aa (af 1) ag))) ag)).G (lj 1 (ws.length-1)) [] [.no,.sh (liV ws)]=.ok ((apt ws).map .int) [s,.sh (liV ws)]:=by
 obtain⟨e',⟨s,rfl,_⟩,lc⟩:=dZ (g:=(gtN 0).G) (F:=(pFn hX (aa (pOp dN (pOp aG (ah 2) (pFn aO (aa (pSl (af 1) oN (oS (af 0))) ag))) (pFn aO (aa (af 1) ag))) ag)).G) (λi:Nat=>Val.int (1+(i:Nat))) (λi:Nat=>Val.int ((2*(ws.take (i+1)).sum-ws.sum).natAbs:Int)) (λe=>∃s:Sl,e=[s,.sh (liV ws)]/\s.pl=true) (List.range (ws.length-1)) [] [.no,.sh (liV ws)] ⟨.no,rfl,rfl⟩ (by
  rintro i hi _ ⟨s,rfl,hs⟩;have ic:(1:Int)+(i:Nat)=((i+1:Nat):Int):=by omega
  have ct:=eL (ws.map Val.int) (i+1);rw[<- NN] at ct;have c2:aG.G (.int 2) (.int (ws.take (i+1)).sum)=.val (.int (2*(ws.take (i+1)).sum)):=bz (CMulA.left (by decide) (by decide));refine⟨[.sh (.int (1+(i:Nat))),.sh (liV ws)],.val (.int ((2*(ws.take (i+1)).sum-ws.sum).natAbs:Int)),[.sh (.int (1+(i:Nat))),.sh (liV ws)],?_,?_,rfl,_,rfl,rfl⟩
  .generalize liV ws=wv;simp![hs]
  .unfold liV;rw[ic];have m1:=bp ws;have m2:=bp (ws.take (i+1));have ab:∀x:Int,(if x<0 then -x else x)=(x.natAbs:Int):=λx=>by split <;> omega
   generalize ((ws.take (i+1)).map Val.int)=w1 at *;generalize ws.map Val.int=w2 at *;simp![dU,ct,m1,m2,c2,ab]) (by rw[Nt,C_];omega)
 rw[Ny] at lc;refine⟨s,lc.trans ?_⟩;unfold apt;rw[NV];rfl
def J8{n:Nat}(h:n<=1000):uk [.int 1,.int (n:Nat)]=some (lj 1 (n-1)):=by have e:((n:Nat):Int)-1=((n:Int)-1):=rfl;rw[show uk [.int 1,.int (n:Nat)]=some (lj 1 (((n:Nat):Int)-1).toNat) from if_pos ⟨⟨by decide,by decide⟩,⟨by omega,by omega⟩⟩];congr 2;omega
def xR{ws:List Int}(h2:2<=ws.length)(hl:ws.length<=1000):bG.G [liV ws]=.ok (.val (.int (gD ws:Nat))) []:=by
 obtain⟨h0,h1,h3,ix⟩:=nC h2;obtain⟨s,lc⟩:=JC hl;have mn:=Ji h0;have rg:=J8 (n:=ws.length) hl;have ll:((ws.map Val.int).length:Nat)=ws.length:=p_ ..;have al:((apt ws).map Val.int).length<=16777216:=by rw[p_,vI];omega
 have e1:((gD ws-1:Nat):Int)+1=(gD ws:Nat):=by omega
 unfold bG;rw[ay];unfold gn;unfold liV at lc ix ⊢;rw[<- e1];generalize (apt ws).map Val.int=av at *;generalize ws.map Val.int=wv at *;simp![ll,rg,bZ,inS,lc,al,mn,ix]
def CV{xs:List Int}{k:Nat}:aG.G (.int 3) (.int (xs.take k).sum)=.val (.int (3*(xs.take k).sum)):=bz (CMulA.left (by decide) (by decide))
theorem rM{xs:List Int}(hs:1<=xs.sum):∀f k,k+f=xs.length->(xWh (qOf (pOp bLt (pOp aG (ah 3) (pFn aO (aa (pSl (af 0) oN (oS (af 1))) ag))) (pFn aO (aa (af 0) ag)))) cQ).G [.sh (liV xs),.sh (.int (k:Nat))]=.nx [.sh (liV xs),.sh (.int (thN xs f k:Nat))]
 |
  f,k,hf=>by
  have ct:=eL (xs.map Val.int) k;rw[<- NN] at ct;have m1:=bp xs;have m2:=bp (xs.take k);have fc:=CV (xs:=xs) (k:=k);rw[eJ];by_cases hl:3*(xs.take k).sum<xs.sum
  .cases f with
   |zero=>rw[NS (by omega)] at hl;omega
   |
    succ f=>
    have d1:=Em hl;have ih:=rM hs f (k+1) (by omega);have k1:((k:Nat):Int)+1=((k+1:Nat):Int):=by omega
    have bb:cQ.G [.sh (liV xs),.sh (.int (k:Nat))]=.nx [.sh (liV xs),.sh (.int ((k+1:Nat):Int))]:=by unfold cQ;generalize liV xs=xv;simp![k1]
    rw[thN,if_pos hl];unfold liV at ih bb ⊢;generalize (xs.take k).map Val.int=w1 at *;generalize xs.map Val.int=w2 at *;simp![dU,ct,m1,m2,fc,d1,bb,ih]
  .have d1:=w_ hl;have e:thN xs f k=k:=by
    cases f with
    |zero=>rfl
    |succ f=>rw[thN,if_neg hl]
   rw[e];unfold liV;generalize (xs.take k).map Val.int=w1 at *;generalize xs.map Val.int=w2 at *;simp![dU,ct,m1,m2,fc,d1]
def ze{xs:List Int}(h1:1<=xs.length)(hs:1<=xs.sum):bI.G [liV xs]=.ok (.val (.int (jf xs:Nat))) []:=by have lo:=rM hs (xs.length-1) 1 (by omega);rw[show thN xs (xs.length-1) 1=jf xs from rfl,show ((1:Nat):Int)=1 from rfl] at lo;unfold bI;rw[ay];unfold gm;generalize liV xs=xv at *;simp![lo]
def tu:HowM gD "nearest_to_half" λ_=>True:=⟨λ_ _ _=>trivial,λ_ _ _=>trivial,λxs _ h2 _=>⟨(nC h2).2.1,(nC h2).2.2.1⟩,λxs bv lv _ h2 h40 hp=>by
 have ne:=xR h2 (by omega);have nq:(("nearest_to_half" : Str) == "nearest_to_half")=true:=by decide
 generalize liV xs=xv at *;simp![nq,ne]⟩
def ph:HowM jf "fewest_to_third" λxs=>xs.Pairwise λx y=>y<=x:=⟨λ_ _ h=>h.sublist (List.take_sublist ..),λ_ _ h=>h.sublist (List.drop_sublist ..),λxs h h2 hp=>CF h2 hp h,λxs bv lv _ h2 h40 hp=>by
 have sn:=eK hp;have ne:=ze (xs:=xs) (by omega) (by omega);have nq:(("nearest_to_half" : Str) == "fewest_to_third")=false:=by decide
 have nr:(("fewest_to_third" : Str) == "nearest_to_half")=false:=by decide
 have ns:(("fewest_to_third" : Str) == "fewest_to_third")=true:=by decide
 generalize liV xs=xv at *;simp![nq,nr,ns,ne]⟩
noncomputable def mxL:List Rat->Rat
 | []=>0
 |x::xs=>xs.foldl mx x
theorem z9{n:Nat}:∀(xs:List Rat) (a:Rat),Sz n a->(∀x∈xs,Sz n x)->Sz n (xs.foldl mx a)
 | [],a,h,_=>h
 |
  x::xs,a,h,hx=>by
  rw[O8];refine z9 xs _ ?_ λy hy=>hx y (r_ _ hy);unfold mx;split
  .exact hx x (t_ ..)
  .exact h
theorem mR{n:Nat}(hn:n<=100000){v:Val}:∀(xs:List Rat) (a:Rat) (s:Sl),s.pl=true->Sz n a->(∀x∈xs,Sz n x)->∃s',fj (gtN 2).G eg.G (xs.map fV) [.sh v,.sh (fV a),s]=.nx [.sh v,.sh (fV (xs.foldl mx a)),s']
 | [],a,s,_,_,_=>⟨s,by rw[Nz,oh];rfl⟩
 |
  x::xs,a,s,hs,ha,hx=>by
  have hx0:=hx x (t_ ..);have il:=gp ha hx0 hn hn;have hm:Sz n (mx a x):=by
   unfold mx;split
   .exact hx0
   .exact ha
  obtain⟨s',ih⟩:=mR hn (v:=v) xs (mx a x) (.sh (fV x)) rfl hm λy hy=>hx y (r_ _ hy);refine⟨s',?_⟩;have bb:eg.G [.sh v,.sh (fV a),.sh (fV x)]=.nx [.sh v,.sh (fV (mx a x)),.sh (fV x)]:=by
   unfold eg mx;by_cases hl:a<x
   .rw[Em hl] at il;rw[if_pos hl];simp![il]
   .rw[w_ hl] at il;rw[if_neg hl];simp![il]
  have g1:(gtN 2).G (fV x) [.sh v,.sh (fV a),s]=some [.sh v,.sh (fV a),.sh (fV x)]:=by simp![hs]
  rw[v_,fT,g1];simp only[bb,qt];rw[ih];rfl
def kC{n:Nat}(hn:n<=100000){qs:List Rat}(h0:qs≠[])(hq:∀q∈qs,Sz n q):cJ.G [.lst (qs.map fV)]=.ok (.val (fV (mxL qs))) []:=by
 cases qs with
 |nil=>exact absurd rfl h0
 |
  cons q qs=>
  have hq0:=hq q (t_ ..);obtain⟨s',lo⟩:=mR hn (v:=.lst ((q::qs).map fV)) (q::qs) q .no rfl hq0 hq;have e:(q::qs).foldl mx q=mxL (q::qs):=by rw[O8,show mx q q=q from if_neg P8];rfl
  rw[e] at lo;have a0:atI ((q::qs).map fV) 0=some (fV q):=bj (by decide) rfl;generalize mxL (q::qs)=r at *;generalize (q::qs).map fV=qv at *;unfold cJ;rw[ay];unfold jC;simp![a0,lo]
def yH{P:PFn}{bs:List Bx}(h:∀c∈bs,P.G [bV c]=.ok (.val (fV (aD c))) [])(hm:P.ms=[false])(hl:bs.length<=1000):∃s,lcV (gtN 0).G qY.G (ak P (aa (af 0) ag)).G (bs.map bV) [] [.no]=.ok ((bs.map aD).map fV) [s]:=by
 obtain⟨e',⟨s,rfl,_⟩,lc⟩:=dZ (g:=(gtN 0).G) (F:=(ak P (aa (af 0) ag)).G) bV (λc=>fV (aD c)) (λe=>∃s:Sl,e=[s]/\s.pl=true) bs [] [.no] ⟨.no,rfl,rfl⟩ (by
  rintro c hc _ ⟨s,rfl,hs⟩;have hp:=h c hc;refine⟨[.sh (bV c)],.val (fV (aD c)),[.sh (bV c)],?_,?_,rfl,_,rfl,rfl⟩
  .simp![hs]
  .simp![hm,hp]) (by rw[Nt];omega)
 rw[Ny] at lc;refine⟨s,?_⟩;rw[NV];exact lc
def rS(w:Bool):dM.G [.str (wy w)]=.ok (.val (.str (wy !w))) []:=by
 unfold dM;rw[ay];unfold kK;cases w
 .rw[show wy (!false)="across" from rfl,show wy false="down" from rfl];simp![sH]
 .rw[show wy (!true)="down" from rfl,show wy true="across" from rfl];simp![tW]
noncomputable def iC (b:Bx) (xs:List Int) (k:Nat):Bx:=if k<xs.length then bB b (lwB b) ((xs.take k).sum+(xs.drop k).sum) 0 (xs.take k).sum else b
noncomputable def eI (b:Bx) (xs:List Int) (k:Nat):List Bx:=aT (iC b xs k) (wy !lwB b) (xs.take k)
noncomputable def bK (b:Bx) (xs:List Int) (k:Nat):Rat:=mxL ((eI b xs k).map aD)
structure RwIn(m B:Nat)(b:Bx)(xs:List Int):Prop where
 hm:m<=104
 bd:Bd m B b xs.length
 pos:∀w∈xs,1<=w
 sum:xs.sum<2^m
 len:xs.length<=40
def RwIn.two{m B:Nat}{b:Bx}{xs:List Int}(h:RwIn m B b xs){k:Nat}(h1:1<=k)(h2:k<xs.length):1<=(xs.take k).sum/\1<=(xs.drop k).sum/\(xs.take k).sum+(xs.drop k).sum<2^m:=by
 have a1:=eK (l:=xs.take k) λw hw=>h.pos w (NP hw);have a2:=eK (l:=xs.drop k) λw hw=>h.pos w (N8 hw);have a3:(xs.take k).sum+(xs.drop k).sum=xs.sum:=by rw[<- OS,NL]
 rw[Ng] at a1;rw[Nj] at a2
 have:=h.sum
 refine⟨by omega,by omega,by rw[a3];exact this⟩
def RwIn.cut{m B:Nat}{b:Bx}{xs:List Int}(h:RwIn m B b xs){k:Nat}(h1:1<=k)(h2:k<xs.length){c:Bx}(hc:c∈[bB b (lwB b) ((xs.take k).sum+(xs.drop k).sum) 0 (xs.take k).sum,bB b (lwB b) ((xs.take k).sum+(xs.drop k).sum) (xs.take k).sum (xs.drop k).sum]){j:Nat}(hj:j<xs.length):Bd m B c j:=by
 obtain⟨a1,a2,a3⟩:=h.two h1 h2;exact
  h.bd.part (way:=wy (lwB b)) (ws:=[(xs.take k).sum,(xs.drop k).sum]) (λw hw=>by
  rcases G_.mp hw with rfl |hw
  .exact a1
  .rw[Nk.mp hw];exact a2) (by rw[show [(xs.take k).sum,(xs.drop k).sum].sum=(xs.take k).sum+(xs.drop k).sum from by simp];exact a3) (by rw[ml];exact hc) hj
def RwIn.row{m B:Nat}{b:Bx}{xs:List Int}(h:RwIn m B b xs){k:Nat}(h1:1<=k)(h2:k<=xs.length):∃j,1<=j/\Bd m B (iC b xs k) j:=by
 unfold iC;by_cases hk:k<xs.length
 .rw[if_pos hk];exact⟨k,h1,h.cut h1 hk (t_ ..) hk⟩
 .rw[if_neg hk];exact⟨xs.length,by omega,h.bd⟩
def RwIn.take{m B:Nat}{b:Bx}{xs:List Int}(h:RwIn m B b xs){k:Nat}:(xs.take k).sum<2^m:=by
 have a2:=eK (l:=xs.drop k) λw hw=>h.pos w (N8 hw);have a3:(xs.take k).sum+(xs.drop k).sum=xs.sum:=by rw[<- OS,NL]
 have:=h.sum
 omega
def zJ(b:Bx)(w:Bool)(xs:List Int):(aT b (wy w) xs).length=xs.length:=by rw[df,wg]
def RwIn.boxes{m B:Nat}{b:Bx}{xs:List Int}(h:RwIn m B b xs){k:Nat}(h1:1<=k)(h2:k<=xs.length):∀c∈eI b xs k,c.Ok/\c.Sz 2000:=λc hc=>by
 obtain⟨j,hj,hB⟩:=h.row h1 h2
 have:=hB.part (λw hw=>h.pos w (NP hw)) h.take hc (show 0<j by omega)
 exact⟨this.ok,this.sz⟩
def RwIn.len'{m B:Nat}{b:Bx}{xs:List Int}(h:RwIn m B b xs){k:Nat}(h2:k<=xs.length):(eI b xs k).length=k:=by unfold eI;rw[zJ,Ng];omega
def RwIn.shp{m B:Nat}{b:Bx}{xs:List Int}(h:RwIn m B b xs){k:Nat}(h1:1<=k)(h2:k<=xs.length):(eI b xs k).map aD≠[]/\∀q∈(eI b xs k).map aD,Sz 4000 q:=by
 have:=h.len' h2
 refine⟨λz=>?_,λq hq=>?_⟩
 .have:=NA List.length z
  rw[p_,Nt] at this;omega
 .obtain⟨c,hc,rfl⟩:=Nw.mp hq;obtain⟨c1,c2⟩:=h.boxes h1 h2 c hc;exact uM c1 c2
def RwIn.wsz{m B:Nat}{b:Bx}{xs:List Int}(h:RwIn m B b xs){k:Nat}(h1:1<=k)(h2:k<=xs.length):Sz 4000 (bK b xs k):=by
 obtain⟨q1,q2⟩:=h.shp h1 h2;unfold bK;cases hq:(eI b xs k).map aD with
 |nil=>exact absurd hq q1
 |cons q qs=>rw[hq] at q2;exact z9 qs q (q2 q (t_ ..)) λx hx=>q2 x (r_ _ hx)
def jK{m B:Nat}{b:Bx}{xs:List Int}(h:RwIn m B b xs){k:Nat}(h1:1<=k)(h2:k<=xs.length):cm.G [bV b,liV xs,.int (k:Nat)]=.ok (.val (fV (bK b xs k))) []:=by
 obtain⟨j,hj,hB⟩:=h.row h1 h2;have hm:=h.hm;have a_:=h.len;have lw:=dJ h.bd.ok h.bd.sz (by decide);have ow:=rS (lwB b);have tl:(xs.take k).length=k:=by rw[Ng];omega
 have tp:=eK (l:=xs.take k) λw hw=>h.pos w (NP hw);have pe:=jS (way:=wy !lwB b) (ws:=xs.take k) (m:=m) hB.ok hB.sz (yN _) (λz=>by rw[z] at tl;simp at tl;omega) (λw hw=>h.pos w (NP hw)) (zc (by omega) h.take) (by omega) (by omega);rw[show aT (iC b xs k) (wy !lwB b) (xs.take k)=eI b xs k from rfl] at pe;have bl:=h.len' h2;obtain⟨s,lc⟩:=yH (P:=fL) (bs:=eI b xs k) (λc hc=>rR (h.boxes h1 h2 c hc).1 (h.boxes h1 h2 c hc).2 (by decide)) rfl (by omega);obtain⟨q1,q2⟩:=h.shp h1 h2;have ge:=kC (by decide) q1 q2;rw[show mxL ((eI b xs k).map aD)=bK b xs k from rfl] at ge;have sl:(((eI b xs k).map aD).map fV).length<=16777216:=by rw[p_,p_];omega
 have ct:=eL (xs.map Val.int) k;rw[<- NN] at ct;have lx:((xs.map Val.int).length:Nat)=xs.length:=p_ ..;unfold cm;rw[ay];unfold iP;by_cases hk:k<xs.length
 .obtain⟨a1,a2,a3⟩:=h.two h1 hk;have ct2:=ji h.bd hm a1 a2 a3;rw[show bB b (lwB b) ((xs.take k).sum+(xs.drop k).sum) 0 (xs.take k).sum=iC b xs k from (if_pos hk).symm] at ct2;have c1:decide (((k:Nat):Int)<((xs.length:Nat):Int))=true:=Em (by omega);unfold liV at ct2 ⊢;generalize bV (bB b (lwB b) ((xs.take k).sum+(xs.drop k).sum) (xs.take k).sum (xs.drop k).sum)=b2 at *;generalize bV (iC b xs k)=b1 at *;generalize ((eI b xs k).map aD).map fV=sv at *;generalize (eI b xs k).map bV=bs at *;generalize (xs.take k).map Val.int=w1 at *;generalize xs.map Val.int=w3 at *;generalize bV b=bv at *;generalize wy (!lwB b)=y1 at *;generalize wy (lwB b)=yy at *;generalize bK b xs k=rr at *;simp![lx,c1,ct2,lw,ow,dU,ct,pe,lc,sl,ge]
 .have c1:decide (((k:Nat):Int)<((xs.length:Nat):Int))=false:=w_ (by omega);rw[show iC b xs k=b from if_neg hk] at pe;unfold liV;generalize ((eI b xs k).map aD).map fV=sv at *;generalize (eI b xs k).map bV=bs at *;generalize (xs.take k).map Val.int=w1 at *;generalize xs.map Val.int=w3 at *;generalize bV b=bv at *;generalize wy (!lwB b)=y1 at *;generalize wy (lwB b)=yy at *;generalize bK b xs k=rr at *;simp![lx,c1,lw,ow,dU,ct,pe,lc,sl,ge]
noncomputable def fB (b:Bx) (xs:List Int):Nat->Nat->Nat
 |0,k=>k
 |f+1,k=>if k<xs.length then (if bK b xs k<bK b xs (k+1) then k else fB b xs f (k+1)) else k
theorem ve(b:Bx)(xs:List Int):∀f k,k<=xs.length->k<=fB b xs f k/\fB b xs f k<=xs.length
 |0,k,h=>⟨s_ _,h⟩
 |
  f+1,k,h=>by
  rw[fB];split
  .split
   .omega
   .have:=ve b xs f (k+1) (by omega)
    omega
  .omega
theorem tE{m B:Nat}{b:Bx}{xs:List Int}(h:RwIn m B b xs):∀(f k:Nat) (s:Sl),s.pl=true->xs.length<=k+f->1<=k->k<=xs.length->∃s3 s4,(xWh (qOf (pOp bLt (af 2) (pFn bq (aa (af 1) ag)))) dB).G [.sh (bV b),.sh (liV xs),.sh (.int (k:Nat)),.sh (fV (bK b xs k)),s]=.nx [.sh (bV b),.sh (liV xs),.sh (.int (fB b xs f k:Nat)),s3,s4]
 |
  f,k,s,hs,hf,h1,h2=>by
  have lx:((xs.map Val.int).length:Nat)=xs.length:=p_ ..;by_cases hk:k<xs.length
  .cases
    f with
   |zero=>omega
   |
    succ f=>
    have c1:decide (((k:Nat):Int)<((xs.length:Nat):Int))=true:=Em (by omega);have k1:((k:Nat):Int)+1=((k+1:Nat):Int):=by omega
    have wr:=jK h (k:=k+1) (by omega) (by omega);have il:=gp (h.wsz h1 h2) (h.wsz (k:=k+1) (by omega) (by omega)) (by decide) (by decide);obtain⟨s3,s4,ih⟩:=tE h f (k+1) (.sh (fV (bK b xs (k+1)))) rfl (by omega) (by omega) (by omega);rw[fB,if_pos hk];by_cases hl:bK b xs k<bK b xs (k+1)
    .rw[if_pos hl];rw[Em hl] at il;refine⟨.sh (fV (bK b xs k)),.sh (fV (bK b xs (k+1))),?_⟩;rw[eJ];unfold dB;unfold liV at wr ⊢;generalize xs.map Val.int=w3 at *;generalize bV b=bv at *;generalize fV (bK b xs (k+1))=r1 at *;generalize fV (bK b xs k)=r0 at *;simp![hs,lx,c1,k1,wr,il]
    .rw[if_neg hl];rw[w_ hl] at il;refine⟨s3,s4,?_⟩;have bb:dB.G [.sh (bV b),.sh (liV xs),.sh (.int (k:Nat)),.sh (fV (bK b xs k)),s]=.nx [.sh (bV b),.sh (liV xs),.sh (.int ((k+1:Nat):Int)),.sh (fV (bK b xs (k+1))),.sh (fV (bK b xs (k+1)))]:=by unfold dB;generalize liV xs=w3 at *;generalize bV b=bv at *;generalize fV (bK b xs (k+1))=r1 at *;generalize fV (bK b xs k)=r0 at *;simp![hs,k1,wr,il]
     rw[eJ];unfold liV at bb ih ⊢;generalize xs.map Val.int=w3 at *;generalize bV b=bv at *;generalize fV (bK b xs (k+1))=r1 at *;generalize fV (bK b xs k)=r0 at *;simp![lx,c1,bb,ih]
  .have c1:decide (((k:Nat):Int)<((xs.length:Nat):Int))=false:=w_ (by omega);refine⟨.sh (fV (bK b xs k)),s,?_⟩;have e:fB b xs f k=k:=by
    cases f with
    |zero=>rfl
    |succ f=>rw[fB,if_neg hk]
   rw[e,eJ];unfold liV;generalize xs.map Val.int=w3 at *;simp![lx,c1]
noncomputable def row (b:Bx) (xs:List Int):Nat:=fB b xs xs.length 1
def ud{b:Bx}{xs:List Int}(h:1<=xs.length):1<=row b xs/\row b xs<=xs.length:=ve b xs _ 1 h
def pV{m B:Nat}{b:Bx}{xs:List Int}(h:RwIn m B b xs)(h1:1<=xs.length):dX.G [bV b,liV xs]=.ok (.val (.int (row b xs:Nat))) []:=by have wr:=jK h (k:=1) (by omega) (by omega);obtain⟨s3,s4,lo⟩:=tE h xs.length 1 .no rfl (by omega) (by omega) (by omega);rw[show fB b xs xs.length 1=row b xs from rfl] at lo;unfold dX;rw[ay];unfold jY;rw[show ((1:Nat):Int)=1 from rfl] at wr lo;generalize liV xs=w3 at *;generalize bV b=bv at *;generalize fV (bK b xs 1)=r0 at *;simp![wr,lo]
noncomputable def d7 (b:Bx) (l:List Nat):AT:=if l.length=1 then .lf (l.headD 0) else .nd (!lwB b) (l.map .lf)
def ER(b:Bx)(l:List Nat):atV (.nd (!lwB b) (l.map .lf))=.tup [.str (wy !lwB b),.tup (l.map λk:Nat=>Val.int k)]:=by unfold atV;rw[AT.val,AT.vals_map,NV];rfl
def uZ{b:Bx}{l:List Nat}{n:Nat}(hb:b.Ok)(hs:b.Sz n)(h:n<=8000)(hl:1<=l.length)(hl2:l.length<=1000):dq.G [bV b,itV l]=.ok (.val (atV (d7 b l))) []:=by
 have lw:=dJ hb hs h;have ow:=rS (lwB b);have ll:((l.map λk:Nat=>Val.int k).length:Nat)=l.length:=p_ ..;unfold dq d7;rw[ay];unfold jE;by_cases h1:l.length=1
 .obtain⟨k,rfl⟩:=OU.mp h1;have a0:atI [Val.int (k:Nat)] 0=some (.int (k:Nat)):=bj (by decide) rfl;rw[if_pos h1,show atV (.lf ([k].headD 0))=.int (k:Nat) from rfl,show itV [k]=.lst [.int (k:Nat)] from rfl];simp![a0]
 .have n1:(((l.length:Nat):Int)==1)=false:=by rw[M_];omega
  rw[if_neg h1,ER];unfold itV;generalize wy (!lwB b)=y1 at *;generalize wy (lwB b)=yy at *;generalize (l.map λk:Nat=>Val.int k)=l0 at *;generalize bV b=bv at *;simp![ll,n1,lw,ow]
noncomputable def rwT (ws:List Int):Nat->Bx->List Nat->AT
 |0,_,l=>.lf (l.headD 0)
 |N+1,b,l=>if row b (l.map λk=>ws.getD k 0)=l.length then d7 b l else .nd (lwB b) [d7 b (l.take (row b (l.map λk=>ws.getD k 0))),rwT ws N (bB b (lwB b) (((l.map λk=>ws.getD k 0).take (row b (l.map λk=>ws.getD k 0))).sum+((l.map λk=>ws.getD k 0).drop (row b (l.map λk=>ws.getD k 0))).sum) ((l.map λk=>ws.getD k 0).take (row b (l.map λk=>ws.getD k 0))).sum ((l.map λk=>ws.getD k 0).drop (row b (l.map λk=>ws.getD k 0))).sum) (l.drop (row b (l.map λk=>ws.getD k 0)))]
theorem Ec:∀l:List Nat,AT.okL (l.map .lf)=true/\AT.lvsL (l.map .lf)=l/\AT.depL (l.map .lf)<=1
 | []=>⟨rfl,rfl,by decide⟩
 |
  k::l=>by
  obtain⟨a,b,c⟩:=Ec l;rw[v_];refine⟨?_,?_,?_⟩
  .rw[AT.okL,a];rfl
  .rw[AT.lvsL,b];rfl
  .rw[AT.depL,AT.dep];omega
def kd(b:Bx){l:List Nat}(hl:1<=l.length):(d7 b l).ok=true/\(d7 b l).lvs=l/\(d7 b l).dep<=l.length/\(d7 b l).dep<=2:=by
 unfold d7;by_cases h1:l.length=1
 .obtain⟨k,rfl⟩:=OU.mp h1;rw[if_pos h1];exact⟨rfl,rfl,by simp [AT.dep],by simp [AT.dep]⟩
 .rw[if_neg h1];obtain⟨a1,a2,a3⟩:=Ec l;refine⟨?_,?_,?_,?_⟩
  .simp [AT.ok,a1];omega
  .rw[AT.lvs,a2]
  .rw[AT.dep];omega
  .rw[AT.dep];omega
def MX{l:List Nat}{i:Nat}(hn:l.length<=40)(h1:1<=l.length)(h2:1<=i):1<=(l.take i).length/\(l.take i).length<=1000:=by rw[Ng];omega
theorem oy{ws:List Int}{m B:Nat}(hm:m<=104)(hS:∀l:List Nat,(∀k∈l,k<ws.length)->l.length<=ws.length->wtA ws l<2^m)(hw:∀w∈ws,1<=w)(hn:ws.length<=40):∀(N:Nat) (l:List Nat) (b:Bx),l.length<=N->1<=l.length->l.length<=ws.length->(∀k∈l,k<ws.length)->Bd m B b l.length->
 (aZ N).G [bV b,itV l,liV (l.map λk=>ws.getD k 0)]=.ok (.val (atV (rwT ws N b l))) []/\(rwT ws N b l).ok=true/\(rwT ws N b l).lvs=l/\(rwT ws N b l).dep<=l.length
 |0,l,b,h0,h1,_,_,_=>by omega
 |
  N+1,l,b,h0,h1,hl,hi,hB=>by
  have hp:∀k∈l,1<=ws.getD k 0:=λj hj=>by rw[H_,y_ (hi j hj)];exact hw _ (NX _)
  have xl:(l.map λk=>ws.getD k 0).length=l.length:=p_ ..;have hR:RwIn m B b (l.map λk=>ws.getD k 0):=⟨hm,by rw[xl];exact hB,λw hw=>by obtain⟨k,hk,rfl⟩:=Nw.mp hw;exact hp k hk,hS l hi hl,by rw[xl];exact Nl hl hn⟩;obtain⟨r1,r2⟩:=ud (b:=b) (xs:=l.map λk=>ws.getD k 0) (by rw[xl];exact h1);have re:=pV hR (by rw[xl];exact h1);have te:rwT ws (N+1) b l=_:=rwT.eq_2 ws b l N;rw[xl] at r2;have ll:((l.map λk:Nat=>Val.int k).length:Nat)=l.length:=p_ ..;have lw:=dJ hB.ok hB.sz (by decide);have ctl:=eL (l.map λk:Nat=>Val.int k) (row b (l.map λk=>ws.getD k 0));have cdl:=eT (l.map λk:Nat=>Val.int k) (row b (l.map λk=>ws.getD k 0));rw[<- NN] at ctl;rw[<- NY] at cdl;have two:∀k,k<l.length->1<=k->_:=λk h1 h2=>hR.two (k:=k) h2 (by rw[xl];exact h1);have cut:∀k,k<l.length->1<=k->∀c,c∈_->∀j,j<l.length->Bd m B c j:=λk h1 h2 c hc j hj=>hR.cut (k:=k) h2 (by rw[xl];exact h1) hc (by rw[xl];exact hj);rw[te];generalize hi0:row b (l.map λk=>ws.getD k 0)=i at *;obtain⟨k1,k2⟩:=MX (Nl hl hn) h1 r1;have tr:=uZ (l:=l.take i) hB.ok hB.sz (by decide) k1 k2;obtain⟨o1,o2,o3,o4⟩:=kd b (l:=l.take i) k1;by_cases hk:i=l.length
  .rw[if_pos hk];have et:l.take i=l:=NS (Nat.le_of_eq hk.symm);rw[et] at o1 o2 o3 o4 tr ctl;have q1:(((i:Nat):Int)==((l.length:Nat):Int))=true:=by rw[Nr,hk]
   refine⟨?_,o1,o2,o3⟩
   .show (PFx.of [false,false,false] 6 (cp (aZ N))).G _=_;rw[j9];unfold cp;unfold itV at tr ⊢;generalize atV (d7 b l)=tv at *;generalize liV (l.map λk=>ws.getD k 0)=x0 at *;generalize (l.map λk:Nat=>Val.int k)=l0 at *;generalize bV b=bv at *;simp![re,dU,ctl,tr,ll,q1]
  .rw[if_neg hk];have q1:(((i:Nat):Int)==((l.length:Nat):Int))=false:=by rw[M_];exact λz=>hk (Int.ofNat.inj z)
   have hi2:i<l.length:=Nat.lt_of_le_of_ne r2 hk;obtain⟨p1,p2,p3⟩:=two i hi2 r1;have pm:=cut i hi2 r1;have ct2:=ji hR.bd hm p1 p2 p3;have ctx:=eL ((l.map λk=>ws.getD k 0).map Val.int) i;have cdx:=eT ((l.map λk=>ws.getD k 0).map Val.int) i;rw[<- NN] at ctx;rw[<- NY] at cdx;obtain⟨_,d1,d2,d3,d4⟩:=AF h0 r1 hi2 hl;obtain⟨b1,b3,b4,b5⟩:=oy hm hS hw hn N (l.drop i) _ d1 d2 d3 (λj hj=>hi j (N8 hj)) (pm _ (r_ _ (t_ ..)) _ d4);rw[NY] at b1;generalize rwT ws N (bB b (lwB b) (((l.map λk=>ws.getD k 0).take i).sum+((l.map λk=>ws.getD k 0).drop i).sum) ((l.map λk=>ws.getD k 0).take i).sum ((l.map λk=>ws.getD k 0).drop i).sum) (l.drop i)=T2 at *;refine⟨?_,?_,?_,?_⟩
   .show (PFx.of [false,false,false] 6 (cp (aZ N))).G _=_;rw[j9];unfold cp;rw[show atV (.nd (lwB b) [d7 b (l.take i),T2])=.tup [.str (wy (lwB b)),.tup [atV (d7 b (l.take i)),atV T2]] from rfl];generalize atV (d7 b (l.take i))=tv at *;generalize atV T2=tv2 at *;generalize wy (lwB b)=yy at *;generalize bV (bB b (lwB b) _ 0 _)=B1 at *;generalize bV (bB b (lwB b) _ _ _)=B2 at *;unfold itV at tr b1 ⊢;unfold liV at re ct2 b1 ⊢;generalize ((l.map λk=>ws.getD k 0).take i).map Val.int=x1 at *;generalize ((l.map λk=>ws.getD k 0).drop i).map Val.int=x2 at *;generalize (l.map λk=>ws.getD k 0).map Val.int=x0 at *;generalize ((l.take i).map λk:Nat=>Val.int k)=l1 at *;generalize ((l.drop i).map λk:Nat=>Val.int k)=l2 at *;generalize (l.map λk:Nat=>Val.int k)=l0 at *;generalize bV b=bv at *;simp![re,dU,ctl,tr,ll,q1,ct2,lw,cdl,cdx,b1]
   .simp [AT.ok,AT.okL,o1,b3]
   .rw[AT.lvs,AT.lvsL,AT.lvsL,AT.lvsL,o2,b4,Nv,NL]
   .exact vB r1 hi2 o3 b5
def E5{ws:List Int}(hl:ws.length<64):aJ.G [liV ws]=.ok (.new (itV (aM ws))) []:=by have kf:=Ah ws hl;have ll:((ws.map Val.int).length:Nat)=ws.length:=p_ ..;unfold aJ;rw[ay];unfold dn;unfold liV itV;generalize (aM ws).map (λi:Nat=>Val.int (i:Nat))=fv at *;generalize ws.map Val.int=wv at *;simp![ll,kf]
def zE{ws:List Int}{b:Bx}{t:Val}(hb:b.Ok)(W:WOk ws)(h:(aX 42).G [bV b,itV (List.range ws.length),liV ws,.glb "nearest_to_half"]=.ok (.val t) []):bX.G [bV b,liV ws]=.ok (.val t) []:=by have wl:=W.len;have wp:=W.pos;have cb:=bD hb;have cw:=gg (ws:=ws) (by intro z;rw[z] at wp;exact absurd wp (by decide)) (λw hw=>(W.wt w hw).1) wl;have ll:((ws.map Val.int).length:Nat)=ws.length:=p_ ..;have lr:jz.G [.int (ws.length:Nat)]=.new (itV (List.range ws.length)):=Et ⟨by omega,by omega⟩;unfold bX;rw[ay];unfold jB;unfold liV at h ⊢;generalize itV (List.range ws.length)=rv at *;generalize ws.map Val.int=wv at *;generalize bV b=bv at *;simp![cb,cw,ll,lr,h]
def F3{ws:List Int}{b:Bx}{t:Val}(hb:b.Ok)(W:WOk ws)(h:(aZ 42).G [bV b,itV (List.range ws.length),liV ws]=.ok (.val t) []):cS.G [bV b,liV ws]=.ok (.val t) []:=by have wl:=W.len;have wp:=W.pos;have cb:=bD hb;have cw:=gg (ws:=ws) (by intro z;rw[z] at wp;exact absurd wp (by decide)) (λw hw=>(W.wt w hw).1) wl;have ll:((ws.map Val.int).length:Nat)=ws.length:=p_ ..;have lr:jz.G [.int (ws.length:Nat)]=.new (itV (List.range ws.length)):=Et ⟨by omega,by omega⟩;unfold cS;rw[ay];unfold kI;unfold liV at h ⊢;generalize itV (List.range ws.length)=rv at *;generalize ws.map Val.int=wv at *;generalize bV b=bv at *;simp![cb,cw,ll,lr,h]
def CZ{ws:List Int}{b:Bx}{t:Val}(hb:b.Ok)(W:WOk ws)(h:(aZ 42).G [bV b,itV (aM ws),liV ((aM ws).map λk=>ws.getD k 0)]=.ok (.val t) []):bF.G [bV b,liV ws]=.ok (.val t) []:=by
 have wl:=W.len;have wp:=W.pos;have cb:=bD hb;have cw:=gg (ws:=ws) (by intro z;rw[z] at wp;exact absurd wp (by decide)) (λw hw=>(W.wt w hw).1) wl;have bf:=E5 (ws:=ws) (by omega);have lf:(aM ws).length=ws.length:=by rw[(cR ws).perm.length_eq,C_]
 obtain⟨s,lc⟩:=sF (ws:=ws) (l:=aM ws) (by omega) (λk hk=>Nh.mp ((cR ws).perm.mem_iff.mp hk));have lz:(((aM ws).map λk=>ws.getD k 0).map Val.int).length<=16777216:=by rw[p_,p_];omega
 unfold bF;rw[ay];unfold g0;unfold itV at h bf;unfold liV at h lc bf ⊢;generalize ((aM ws).map λk=>ws.getD k 0).map Val.int=xv at *;generalize (aM ws).map (λi:Nat=>Val.int (i:Nat))=fv at *;generalize ws.map Val.int=wv at *;generalize bV b=bv at *;simp![cb,cw,bf,bZ,inS,lc,lz,h]
def yE{ws:List Int}{b:Bx}{t:Val}(hb:b.Ok)(W:WOk ws)(h:(aX 42).G [bV b,itV (aM ws),liV ((aM ws).map λk=>ws.getD k 0),.glb "fewest_to_third"]=.ok (.val t) []):bY.G [bV b,liV ws]=.ok (.val t) []:=by
 have wl:=W.len;have wp:=W.pos;have cb:=bD hb;have cw:=gg (ws:=ws) (by intro z;rw[z] at wp;exact absurd wp (by decide)) (λw hw=>(W.wt w hw).1) wl;have kf:=Ah ws (by omega);have lf:(aM ws).length=ws.length:=by rw[(cR ws).perm.length_eq,C_]
 obtain⟨s,lc⟩:=sF (ws:=ws) (l:=aM ws) (by omega) (λk hk=>Nh.mp ((cR ws).perm.mem_iff.mp hk));have ll:((ws.map Val.int).length:Nat)=ws.length:=p_ ..;have lz:(((aM ws).map λk=>ws.getD k 0).map Val.int).length<=16777216:=by rw[p_,p_];omega
 have bf:aJ.G [liV ws]=.ok (.new (itV (aM ws))) []:=by unfold aJ;rw[ay];unfold dn;unfold liV itV;generalize (aM ws).map (λi:Nat=>Val.int (i:Nat))=fv at *;generalize ws.map Val.int=wv at *;simp![ll,kf]
 unfold bY;rw[ay];unfold jA;unfold itV at h bf;unfold liV at h lc bf ⊢;generalize ((aM ws).map λk=>ws.getD k 0).map Val.int=xv at *;generalize (aM ws).map (λi:Nat=>Val.int (i:Nat))=fv at *;generalize ws.map Val.int=wv at *;generalize bV b=bv at *;simp![cb,cw,bf,bZ,inS,lc,lz,h]
def tJ(ws:List Int):((List.range ws.length).map λk=>ws.getD k 0)=ws:=wu 0 ws
def yx{ws:List Int}{b:Bx}(g:Good b)(W:WOk ws):∃m,m<=104/\Bd m (2^101) b ws.length/\∀l:List Nat,(∀k∈l,k<ws.length)->l.length<=ws.length->wtA ws l<2^m:=by
 obtain⟨D,hD,R⟩:=Eu g;have hin:∀k,k<ws.length->ws.getD k 0∈ws:=λk hk=>by rw[H_,y_ hk];exact NX _
 have wl:=W.len;have key:∀m,m*ws.length<=1218->Bd m (2^101) b ws.length:=λm h1=>by
  refine⟨D,2^101,R,s_ _,by decide,?_⟩;have a1:2^101+ws.length*2^101<=2^107:=by
   have h1:=Oo (2^101) (show ws.length<=40 by omega);have h2:2^107=64*2^101:=by decide
   rw[h2];generalize 2^101=X at *;omega
  have a2:2^(m*ws.length)<=2^1218:=NG (by decide) h1;refine OD (NH a1 (NH (OZ hD) a2)) ?_;rw[<- OC,<- OC];exact Nat.pow_lt_pow_right (by decide) (by decide)
 by_cases h9:10<ws.length
 .refine⟨29,by decide,key 29 (by omega),λl hl hn=>?_⟩
  have:=jT (M:=8388608) λk hk=>W.few h9 _ (hin k (hl k hk))
  have:(2:Int)^29=536870912:=by decide
  omega
 .refine⟨104,by decide,key 104 (by omega),λl hl hn=>?_⟩
  have:=jT (M:=1000000000000000000000000000000) λk hk=>(W.wt _ (hin k (hl k hk))).2
  have:(2:Int)^104=20282409603651670423947251286016:=by decide
  omega
noncomputable def tH (b:Bx) (ws:List Int):AT:=inT gD ws 42 b (List.range ws.length)
noncomputable def tR (b:Bx) (ws:List Int):AT:=rwT ws 42 b (List.range ws.length)
noncomputable def tG (b:Bx) (ws:List Int):AT:=rwT ws 42 b (aM ws)
noncomputable def tT (b:Bx) (ws:List Int):AT:=inT jf ws 42 b (aM ws)
section
variable{ws:List Int}{b:Bx}
def i4{k:Nat}:k∈aM ws ↔ k<ws.length:=(cR ws).perm.mem_iff.trans Nh
def kR:(aM ws).length=ws.length:=by rw[(cR ws).perm.length_eq,C_]
def mK{t:AT}{l:List Nat}(h1:t.ok=true)(h2:t.lvs=l)(h3:t.dep<=l.length)(hl:∀k,k∈l ↔ k<ws.length)(hn:l.length=ws.length):TOk t (List.range ws.length):=⟨h1,λk=>by rw[h2,hl,Nh],by rw[C_];omega,by rw[h2,C_];exact hn⟩
def El(g:Good b)(W:WOk ws):bX.G [bV b,liV ws]=.ok (.val (atV (tH b ws))) []/\TOk (tH b ws) (List.range ws.length):=by have wl:=W.len;have wp:=W.pos;obtain⟨m,hm,B,hS⟩:=yx g W;obtain⟨t1,t2,t3,t4⟩:=nh tu hm hS (λw hw=>(W.wt w hw).1) wl 42 (List.range ws.length) b (by rw[C_];omega) (by rw[C_];omega) (by rw[C_];omega) (λk hk=>Nh.mp hk) (by rw[C_];exact B) trivial;rw[tJ] at t1;exact⟨zE g.ok W t1,mK t2 t3 t4 (λk=>Nh) C_⟩
def DV(g:Good b)(W:WOk ws):cS.G [bV b,liV ws]=.ok (.val (atV (tR b ws))) []/\TOk (tR b ws) (List.range ws.length):=by have wl:=W.len;have wp:=W.pos;obtain⟨m,hm,B,hS⟩:=yx g W;obtain⟨t1,t2,t3,t4⟩:=oy (B:=2^101) hm hS (λw hw=>(W.wt w hw).1) wl 42 (List.range ws.length) b (by rw[C_];omega) (by rw[C_];omega) (by rw[C_];omega) (λk hk=>Nh.mp hk) (by rw[C_];exact B);rw[tJ] at t1;exact⟨F3 g.ok W t1,mK t2 t3 t4 (λk=>Nh) C_⟩
def Dw(g:Good b)(W:WOk ws):bF.G [bV b,liV ws]=.ok (.val (atV (tG b ws))) []/\TOk (tG b ws) (List.range ws.length):=by have wl:=W.len;have wp:=W.pos;have fl:=kR (ws:=ws);obtain⟨m,hm,B,hS⟩:=yx g W;obtain⟨t1,t2,t3,t4⟩:=oy (B:=2^101) hm hS (λw hw=>(W.wt w hw).1) wl 42 (aM ws) b (by omega) (by omega) (by omega) (λk hk=>i4.mp hk) (by rw[fl];exact B);exact⟨CZ g.ok W t1,mK t2 t3 t4 (λk=>i4) fl⟩
def Er(g:Good b)(W:WOk ws):bY.G [bV b,liV ws]=.ok (.val (atV (tT b ws))) []/\TOk (tT b ws) (List.range ws.length):=by have wl:=W.len;have wp:=W.pos;have fl:=kR (ws:=ws);obtain⟨m,hm,B,hS⟩:=yx g W;obtain⟨t1,t2,t3,t4⟩:=nh ph hm hS (λw hw=>(W.wt w hw).1) wl 42 (aM ws) b (by omega) (by omega) (by omega) (λk hk=>i4.mp hk) (by rw[fl];exact B) (pF ws);exact⟨yE g.ok W t1,mK t2 t3 t4 (λk=>i4) fl⟩
end
def Ku{ws:List Int}{b:Bx}{r:Str}{t:AT}(g:Good b)(W:WOk ws)(h:aE.G [.str r,bV b,liV ws]=.ok (.val (atV t)) [])(T:TOk t (List.range ws.length)):cP.G [.str r,bV b,liV ws]=.ok (.new (.lst ((List.range ws.length).map λk=>bV (bxO (AT.bx ws t b) k)))) []:=by have wp:=W.pos;have wl:=W.len;obtain⟨m,hm,hy⟩:=D5 g W T (λi=>Nh) C_;have be:=Ci (by omega) g.ok (λz=>by rw[z] at wp;exact absurd wp (by decide)) (λx hx=>(W.wt x hx).1) wl T.ok (λk=>(T.mem k).trans Nh) (Ka T (λi=>Nh) C_) (by rw[T.len,C_]) (by have:=T.dep;rw[C_] at this;omega) hy;unfold cP;rw[ay];unfold oW;generalize (List.range ws.length).map (λk=>bV (bxO (AT.bx ws t b) k))=pv at *;generalize atV t=tv at *;generalize liV ws=wv at *;generalize bV b=bv at *;simp![h,be]
def b8{r:Str}(h:Bw.G (.str r) (.tup [.str "across",.str "down",.str "halves",.str "rows",.str "greatest",.str "thirds"])=.val (.bl false)):bA.G [.str r]=.ok (.val .non) []:=by unfold bA;rw[ay];unfold jL;simp![h]
def Gz{bv wv t:Val}(h:bX.G [bv,wv]=.ok (.val t) []):aE.G [.str "halves",bv,wv]=.ok (.val t) []:=by
 have ck:=b8 (r:="halves") rfl;have e1:aS (.str "halves") (.str "halves")=some true:=by rw[L3.eq_str (by decide) (by decide)];exact NA some (by decide)
 unfold aE;rw[ay];unfold dD;simp![ck,e1,h]
def HU{bv wv t:Val}(h:cS.G [bv,wv]=.ok (.val t) []):aE.G [.str "rows",bv,wv]=.ok (.val t) []:=by
 have ck:=b8 (r:="rows") rfl;have e0:aS (.str "rows") (.str "halves")=some false:=by rw[L3.eq_str (by decide) (by decide)];exact NA some (by decide)
 have e1:aS (.str "rows") (.str "rows")=some true:=by rw[L3.eq_str (by decide) (by decide)];exact NA some (by decide)
 unfold aE;rw[ay];unfold dD;simp![ck,e0,e1,h]
def GX{bv wv t:Val}(h:bF.G [bv,wv]=.ok (.val t) []):aE.G [.str "greatest",bv,wv]=.ok (.val t) []:=by
 have ck:=b8 (r:="greatest") rfl;have e0:aS (.str "greatest") (.str "halves")=some false:=by rw[L3.eq_str (by decide) (by decide)];exact NA some (by decide)
 have e1:aS (.str "greatest") (.str "rows")=some false:=by rw[L3.eq_str (by decide) (by decide)];exact NA some (by decide)
 have e2:aS (.str "greatest") (.str "greatest")=some true:=by rw[L3.eq_str (by decide) (by decide)];exact NA some (by decide)
 unfold aE;rw[ay];unfold dD;simp![ck,e0,e1,e2,h]
def JT{bv wv t:Val}(h:bY.G [bv,wv]=.ok (.val t) []):aE.G [.str "thirds",bv,wv]=.ok (.val t) []:=by
 have ck:=b8 (r:="thirds") rfl;have e0:aS (.str "thirds") (.str "halves")=some false:=by rw[L3.eq_str (by decide) (by decide)];exact NA some (by decide)
 have e1:aS (.str "thirds") (.str "rows")=some false:=by rw[L3.eq_str (by decide) (by decide)];exact NA some (by decide)
 have e2:aS (.str "thirds") (.str "greatest")=some false:=by rw[L3.eq_str (by decide) (by decide)];exact NA some (by decide)
 have e3:aS (.str "thirds") (.str "thirds")=some true:=by rw[L3.eq_str (by decide) (by decide)];exact NA some (by decide)
 unfold aE;rw[ay];unfold dD;simp![ck,e0,e1,e2,e3,h]
def Al(e:Bool)(k:Rat)(b c:Bx):Prop:=0<k/\(if e=true then c.h=k*b.w/\c.w=k*b.h else c.w=k*b.w/\c.h=k*b.h)
def Sd(b c:Bx):Prop:=∃e k,Al e k b c
def D2{x y:Rat}(h:x<y):¬ y<x:=PK.mpr (Rat.le_of_lt h)
def jr{k a b:Rat}(hk:0<k):k*a<k*b ↔ a<b:=⟨λh=>Rat.not_le.mp λz=>by
 have:=Rat.mul_le_mul_of_nonneg_left z (Rat.le_of_lt hk)
 exact PK.mpr this h,λh=>Rat.mul_lt_mul_of_pos_left h hk⟩
def qf{k a b:Rat}(hk:0<k):(k*a)/(k*b)=a/b:=by
 have hn:k≠0:=λz=>by rw[z] at hk;exact absurd hk (by decide)
 rw[Pk,Pk,Rat.inv_mul_rev]
 have:=Rat.mul_inv_cancel k hn
 grind
def Es{b c:Bx}(h:Sd b c):∃e k,Al e k b c/\lwB c=Bool.xor (lwB b) e:=by
 obtain⟨e,k,hk,h⟩:=h;cases e with
 |false=>obtain⟨h1,h2⟩:c.w=k*b.w/\c.h=k*b.h:=h;refine⟨false,k,⟨hk,h1,h2⟩,?_⟩;unfold lwB;rw[h1,h2,Bool.xor_false,Oh.mpr (jr hk)]
 |
  true=>
  obtain⟨h1,h2⟩:c.h=k*b.w/\c.w=k*b.h:=h;by_cases hq:b.w=b.h
  .refine⟨false,k,⟨hk,by rw[h2,hq],by rw[h1,hq]⟩,?_⟩;unfold lwB;rw[Bool.xor_false,h1,h2,Oh.mpr (jr hk),w_ (by rw[hq];exact P8),w_ (by rw[hq];exact P8)]
  .refine⟨true,k,⟨hk,h1,h2⟩,?_⟩;unfold lwB;rw[h1,h2,Oh.mpr (jr hk),Bool.xor_true,Bool.not_not];by_cases hl:b.h<b.w
   .rw[Em hl,w_ (D2 hl)];rfl
   .rw[w_ hl,Em (Rat.lt_of_le_of_ne (PK.mp hl) hq)];rfl
def iS{e:Bool}{k:Rat}{b c:Bx}(h:Al e k b c)(w:Bool)(W a a' x:Int):Al e k (bB b w W a x) (bB c (Bool.xor w e) W a' x):=by
 obtain⟨hk,h⟩:=h;cases e with
 |
  false=>
  obtain⟨h1,h2⟩:c.w=k*b.w/\c.h=k*b.h:=h;rw[Bool.xor_false];cases w
  .exact⟨hk,h1,by show c.h*_=k*(b.h*_);rw[h2,OL]⟩
  .exact⟨hk,by show c.w*_=k*(b.w*_);rw[h1,OL],h2⟩
 |
  true=>
  obtain⟨h1,h2⟩:c.h=k*b.w/\c.w=k*b.h:=h;rw[Bool.xor_true];cases w
  .exact⟨hk,h1,by show c.w*_=k*(b.h*_);rw[h2,OL]⟩
  .exact⟨hk,by show c.h*_=k*(b.w*_);rw[h1,OL],h2⟩
def nA{e:Bool}{k:Rat}{b c:Bx}(h:Al e k b c):aD b=aD c:=by
 obtain⟨hk,h⟩:=h;cases e with
 |
  false=>
  obtain⟨h1,h2⟩:c.w=k*b.w/\c.h=k*b.h:=h;unfold aD;rw[h1,h2,qf hk,qf hk];by_cases hl:b.w<b.h
  .rw[if_pos hl,if_pos ((jr hk).mpr hl)]
  .rw[if_neg hl,if_neg λz=>hl ((jr hk).mp z)]
 |
  true=>
  obtain⟨h1,h2⟩:c.h=k*b.w/\c.w=k*b.h:=h;unfold aD;rw[h1,h2,qf hk,qf hk];by_cases hl:b.h<b.w
  .rw[if_pos ((jr hk).mpr hl),if_neg (D2 hl)]
  .rw[if_neg λz=>hl ((jr hk).mp z)];by_cases hq:b.w<b.h
   .rw[if_pos hq]
   .rw[if_neg hq,Rat.le_antisymm (PK.mp hl) (PK.mp hq)]
theorem l6{e:Bool}{k:Rat}{b c:Bx}(h:Al e k b c)(w:Bool)(W:Int):∀(xs:List Int) (a:Int),(frm b w W a xs).map aD=(frm c (Bool.xor w e) W a xs).map aD
 | [],_=>rfl
 |
  x::xs,a=>by
  rw[frm,frm,v_,v_,l6 h w W xs (a+x),nA (iS h w W a a x)]
def AD{e:Bool}{q:Rat}{b c:Bx}(h:Al e q b c)(hl:lwB c=Bool.xor (lwB b) e)(xs:List Int)(k:Nat):bK b xs k=bK c xs k:=by
 unfold bK eI;have hb:Al e q (iC b xs k) (iC c xs k):=by
  unfold iC;split
  .rw[hl];exact iS h ..
  .exact h
 rw[df,df,l6 hb,hl];cases lwB b <;> cases e <;> rfl
theorem vN{e:Bool}{q:Rat}{b c:Bx}(h:Al e q b c)(hl:lwB c=Bool.xor (lwB b) e)(xs:List Int):∀f k,fB b xs f k=fB c xs f k
 |0,k=>rfl
 |f+1,k=>by rw[fB,fB,AD h hl,AD h hl,vN h hl xs f (k+1)]
theorem j7{f:List Int->Nat}{nm:Str}{D:List Int->Prop}(H:HowM f nm D){ws:List Int}(hw:∀w∈ws,1<=w):∀(N:Nat) (l:List Nat) (b:Bx),l.length<=N->1<=l.length->(∀k∈l,k<ws.length)->D (l.map λk=>ws.getD k 0)->(inT f ws N b l).lvs=l
 |0,l,b,h0,h1,_,_=>by omega
 |
  N+1,l,b,h0,h1,hi,hD=>by
  rw[inT];by_cases hl:l.length=1
  .obtain⟨k,rfl⟩:=OU.mp hl;rw[if_pos hl];rfl
  .rw[if_neg hl];have xl:(l.map λk=>ws.getD k 0).length=l.length:=p_ ..;obtain⟨g1,g2⟩:=H.lt _ hD (by omega) (λw hw'=>by obtain⟨j,hj,rfl⟩:=Nw.mp hw';rw[H_,y_ (hi j hj)];exact hw _ (NX _));have d1:=H.tk _ (f (l.map λk=>ws.getD k 0)) hD;have d2:=H.dr _ (f (l.map λk=>ws.getD k 0)) hD;rw[<- NN] at d1;rw[<- NY] at d2;generalize f (l.map λk=>ws.getD k 0)=i at *;rw[AT.lvs,AT.lvsL,AT.lvsL,AT.lvsL,j7 H hw N (l.take i) _ (by rw[Ng];omega) (by rw[Ng];omega) (λk hk=>hi k (NP hk)) d1,j7 H hw N (l.drop i) _ (by rw[Nj];omega) (by rw[Nj];omega) (λk hk=>hi k (N8 hk)) d2,Nv,NL]
noncomputable def ksh (l:List (Nat×Bx)):List (Nat×Rat):=l.map λp=>(p.1,aD p.2)
def km(a b:List (Nat×Bx)):ksh (a++b)=ksh a++ksh b:=NC ..
def bx2(ws:List Int)(w:Bool)(s t:AT)(b:Bx):AT.bx ws (.nd w [s,t]) b=AT.bx ws s (bB b w (wtT ws s+wtT ws t) 0 (wtT ws s))++AT.bx ws t (bB b w (wtT ws s+wtT ws t) (wtT ws s) (wtT ws t)):=by rw[AT.bx,v_,v_,Nz,ml,AT.bxL,AT.bxL,AT.bxL,Nv];exact λ_ _ _ _ z=>nomatch z
theorem nj{f:List Int->Nat}{nm:Str}{D:List Int->Prop}(H:HowM f nm D){ws:List Int}(hw:∀w∈ws,1<=w):∀(N:Nat) (l:List Nat) (b c:Bx),l.length<=N->1<=l.length->(∀k∈l,k<ws.length)->D (l.map λk=>ws.getD k 0)->Sd b c->ksh (AT.bx ws (inT f ws N b l) b)=ksh (AT.bx ws (inT f ws N c l) c)
 |0,l,b,c,h0,h1,_,_,_=>by omega
 |
  N+1,l,b,c,h0,h1,hi,hD,hS=>by
  obtain⟨e,q,ha,hlw⟩:=Es hS;rw[inT,inT];by_cases hl:l.length=1
  .rw[if_pos hl,if_pos hl,AT.bx,AT.bx];show [(_,aD b)]=[(_,aD c)];rw[nA ha]
  .rw[if_neg hl,if_neg hl];have xl:(l.map λk=>ws.getD k 0).length=l.length:=p_ ..;obtain⟨g1,g2⟩:=H.lt _ hD (by omega) (λw hw'=>by obtain⟨j,hj,rfl⟩:=Nw.mp hw';rw[H_,y_ (hi j hj)];exact hw _ (NX _));have d1:=H.tk _ (f (l.map λk=>ws.getD k 0)) hD;have d2:=H.dr _ (f (l.map λk=>ws.getD k 0)) hD;rw[<- NN] at d1;rw[<- NY] at d2;generalize f (l.map λk=>ws.getD k 0)=i at *;have v1:∀b,(inT f ws N b (l.take i)).lvs=l.take i:=λb=>j7 H hw N (l.take i) b (by rw[Ng];omega) (by rw[Ng];omega) (λk hk=>hi k (NP hk)) d1;have v2:∀b,(inT f ws N b (l.drop i)).lvs=l.drop i:=λb=>j7 H hw N (l.drop i) b (by rw[Nj];omega) (by rw[Nj];omega) (λk hk=>hi k (N8 hk)) d2;have sp:wtA ws (l.take i)+wtA ws (l.drop i)=wtA ws l:=by unfold wtA;rw[<- OS,<- NC,NL]
   rw[bx2,bx2,km,km];unfold wtT;rw[v1,v2,v1,v2,sp,hlw];rw[nj H hw N (l.take i) _ _ (by rw[Ng];omega) (by rw[Ng];omega) (λk hk=>hi k (NP hk)) d1 ⟨e,q,iS ha (lwB b) (wtA ws l) 0 0 (wtA ws (l.take i))⟩,nj H hw N (l.drop i) _ _ (by rw[Nj];omega) (by rw[Nj];omega) (λk hk=>hi k (N8 hk)) d2 ⟨e,q,iS ha (lwB b) (wtA ws l) (wtA ws (l.take i)) (wtA ws (l.take i)) (wtA ws (l.drop i))⟩]
theorem lq:∀l:List Nat,AT.lvsL (l.map .lf)=l
 | []=>rfl
 |k::l=>by rw[v_,AT.lvsL,lq l,AT.lvs];rfl
theorem vf:∀l:List Nat,AT.okL (l.map .lf)=true
 | []=>rfl
 |k::l=>by rw[v_,AT.okL,vf l,AT.ok];rfl
theorem si:∀l:List Nat,AT.depL (l.map .lf)<=1
 | []=>by rw[Nz,AT.depL];omega
 |k::l=>by rw[v_,AT.depL,AT.dep];have:=si l;omega
theorem iR(ws:List Int):∀(l:List Nat) (bs:List Bx),AT.bxL ws (l.map .lf) bs=l.zip bs
 | [],bs=>by rw[Nz,AT.bxL];rfl;exact λ_ _ _ _ z=>nomatch z
 |k::l,[]=>by rw[v_,AT.bxL];rfl;exact λ_ _ _ _ _ z=>nomatch z
 |k::l,b::bs=>by rw[v_,AT.bxL,iR ws l bs,AT.bx];rfl
noncomputable def sbT (w:Bool) (n:Nat):AT:=if n=1 then .lf 0 else .nd w ((List.range n).map .lf)
def DR(w:Bool){n:Nat}(h:1<=n):TOk (sbT w n) (List.range n):=by
 unfold sbT;by_cases h1:n=1
 .rw[if_pos h1,h1];exact⟨rfl,λk=>Iff.rfl,s_ _,rfl⟩
 .rw[if_neg h1];refine⟨?_,λk=>by rw[AT.lvs,lq],?_,by rw[AT.lvs,lq]⟩
  .rw[AT.ok,vf,p_,C_,Em (by omega)];rfl
  .rw[AT.dep,C_]
   have:=si (List.range n)
   omega
def Cz(w:Bool)(l:List Nat):atV (.nd w (l.map .lf))=.tup [.str (wy w),.tup (l.map λk:Nat=>Val.int k)]:=by unfold atV;rw[AT.val,AT.vals_map,NV];rfl
def FC{ws:List Int}{b:Bx}(w:Bool)(hb:b.Ok)(W:WOk ws):c9.G [.str (wy w),bV b,liV ws]=.ok (.val (atV (sbT w ws.length))) []:=by
 have wl:=W.len;have wp:=W.pos;have cb:=bD hb;have cw:=gg (ws:=ws) (by intro z;rw[z] at wp;exact absurd wp (by decide)) (λx hx=>(W.wt x hx).1) wl;have ll:((ws.map Val.int).length:Nat)=ws.length:=p_ ..;have kt:mI.G [.int (ws.length:Nat)]=.val (.tup ((List.range ws.length).map λk:Nat=>Val.int k)):=Kv ⟨by omega,by omega⟩;unfold c9 sbT;rw[ay];unfold iY;unfold liV;by_cases h1:ws.length=1
 .have n1:(((ws.length:Nat):Int)==1)=true:=by rw[Nr];omega
  rw[if_pos h1,show atV (.lf 0)=.int 0 from rfl];generalize ws.map Val.int=wv at *;generalize bV b=bv at *;generalize wy w=yy at *;simp![cb,cw,ll,n1]
 .have n1:(((ws.length:Nat):Int)==1)=false:=by rw[M_];omega
  rw[if_neg h1,Cz];generalize ((List.range ws.length).map λk:Nat=>Val.int k)=rv at *;generalize ws.map Val.int=wv at *;generalize bV b=bv at *;generalize wy w=yy at *;simp![cb,cw,ll,n1,kt]
def xw(w:Bool){s:Str}(h:s∈(["halves", "rows", "greatest", "thirds"]:List Str)):aS (.str (wy w)) (.str s)=some false:=by simp only[G_,O2,or_false] at h;rcases h with rfl |rfl |rfl |rfl <;> cases w <;> (rw[L3.eq_str (by decide) (by decide)];exact NA some (by decide))
def G4(w:Bool):bA.G [.str (wy w)]=.ok (.val .non) []:=by
 cases w
 .exact b8 rfl
 .exact b8 rfl
def Az{ws:List Int}{b:Bx}(w:Bool)(hb:b.Ok)(W:WOk ws):aE.G [.str (wy w),bV b,liV ws]=.ok (.val (atV (sbT w ws.length))) []:=by have se:=FC w hb W;have ck:=G4 w;have n1:=xw w (s:="halves") (by simp);have n2:=xw w (s:="rows") (by simp);have n3:=xw w (s:="greatest") (by simp);have n4:=xw w (s:="thirds") (by simp);unfold aE;rw[ay];unfold dD;generalize atV (sbT w ws.length)=tv at *;generalize liV ws=wv at *;generalize bV b=bv at *;generalize wy w=yy at *;simp![ck,n1,n2,n3,n4,se]
def ku(l:List Nat)(bs:List Bx):ksh (l.zip bs)=l.zip (bs.map aD):=by unfold ksh;rw[List.zip_map_right];rfl
def yG{ws:List Int}{e:Bool}{q:Rat}{b c b1 c1:Bx}(hlw:lwB c=Bool.xor (lwB b) e)(h:Al e q b1 c1)(l:List Nat):ksh (AT.bx ws (d7 b l) b1)=ksh (AT.bx ws (d7 c l) c1):=by
 unfold d7;by_cases h1:l.length=1
 .rw[if_pos h1,if_pos h1,AT.bx,AT.bx];show [(_,aD b1)]=[(_,aD c1)];rw[nA h]
 .rw[if_neg h1,if_neg h1,AT.bx,AT.bx,iR,iR,ku,ku,df,df,l6 h,hlw];cases lwB b <;> cases e <;> rfl
theorem wC{ws:List Int}:∀(N:Nat) (l:List Nat) (b:Bx),l.length<=N->1<=l.length->(rwT ws N b l).lvs=l
 |0,l,b,h0,h1=>by omega
 |
  N+1,l,b,h0,h1=>by
  have xl:(l.map λk=>ws.getD k 0).length=l.length:=p_ ..;obtain⟨r1,r2⟩:=ud (b:=b) (xs:=l.map λk=>ws.getD k 0) (by omega);rw[rwT];by_cases hl:row b (l.map λk=>ws.getD k 0)=l.length
  .rw[if_pos hl];exact (kd b h1).2.1
  .rw[if_neg hl];generalize row b (l.map λk=>ws.getD k 0)=i at *;rw[AT.lvs,AT.lvsL,AT.lvsL,AT.lvsL,(kd b (l:=l.take i) (by rw[Ng];omega)).2.1,wC N (l.drop i) _ (by rw[Nj];omega) (by rw[Nj];omega),Nv,NL]
theorem ua{ws:List Int}:∀(N:Nat) (l:List Nat) (b c:Bx),l.length<=N->1<=l.length->Sd b c->ksh (AT.bx ws (rwT ws N b l) b)=ksh (AT.bx ws (rwT ws N c l) c)
 |0,l,b,c,h0,h1,_=>by omega
 |
  N+1,l,b,c,h0,h1,hS=>by
  obtain⟨e,q,ha,hlw⟩:=Es hS;have xl:(l.map λk=>ws.getD k 0).length=l.length:=p_ ..;obtain⟨r1,r2⟩:=ud (b:=b) (xs:=l.map λk=>ws.getD k 0) (by omega);have er:row c (l.map λk=>ws.getD k 0)=row b (l.map λk=>ws.getD k 0):=(vN ha hlw _ _ _).symm;rw[rwT,rwT,er];by_cases hl:row b (l.map λk=>ws.getD k 0)=l.length
  .rw[if_pos hl,if_pos hl];exact yG hlw ha l
  .rw[if_neg hl,if_neg hl];have wt:∀i,((l.map λk=>ws.getD k 0).take i).sum=wtA ws (l.take i):=λi=>by unfold wtA;rw[NN]
   have wd:∀i,((l.map λk=>ws.getD k 0).drop i).sum=wtA ws (l.drop i):=λi=>by unfold wtA;rw[NY]
   rw[wt,wd];generalize row b (l.map λk=>ws.getD k 0)=i at *;have v1:∀b,(d7 b (l.take i)).lvs=l.take i:=λb=>(kd b (l:=l.take i) (by rw[Ng];omega)).2.1;have v2:∀b,(rwT ws N b (l.drop i)).lvs=l.drop i:=λb=>wC N (l.drop i) b (by rw[Nj];omega) (by rw[Nj];omega);rw[bx2,bx2,km,km];unfold wtT;rw[v1,v2,v1,v2,hlw];rw[yG hlw (iS ha (lwB b) (wtA ws (l.take i)+wtA ws (l.drop i)) 0 0 (wtA ws (l.take i))) (l.take i),ua N (l.drop i) _ _ (by rw[Nj];omega) (by rw[Nj];omega) ⟨e,q,iS ha (lwB b) (wtA ws (l.take i)+wtA ws (l.drop i)) (wtA ws (l.take i)) (wtA ws (l.take i)) (wtA ws (l.drop i))⟩]
theorem wQ{k:Nat}:∀{l:List (Nat×Bx)},k∈l.map (·.1)->∃p∈l,bxO l k=p.2
 | [],h=>nomatch h
 |
  p::l,h=>by
  unfold bxO;by_cases hp:p.1=k
  .exact⟨p,t_ ..,by rw[N3 (by simpa using hp)];rfl⟩
  .rw[v_,G_] at h;obtain⟨q,hq,e⟩:=wQ (l:=l) (h.resolve_left λz=>hp z.symm);refine⟨q,r_ _ hq,?_⟩;rw[N2 (by simpa using hp)];exact e
noncomputable def bsO (ws:List Int) (t:AT) (b:Bx):List Bx:=(List.range ws.length).map λk=>bxO (AT.bx ws t b) k
def Fe(ws:List Int)(t:AT)(b:Bx):((List.range ws.length).map λk=>bV (bxO (AT.bx ws t b) k))=(bsO ws t b).map bV:=by unfold bsO;rw[NV];rfl
def B7{ws:List Int}{t:AT}{b:Bx}(g:Good b)(W:WOk ws)(T:TOk t (List.range ws.length)):∀c∈bsO ws t b,c.Ok/\c.Sz 2000:=λc hc=>by obtain⟨k,hk,rfl⟩:=Nw.mp hc;obtain⟨m,hm,hy⟩:=D5 g W T (λi=>Nh) C_;obtain⟨p,hp,e⟩:=wQ (l:=AT.bx ws t b) (k:=k) (by rw[AT.bx_keys];exact (T.mem k).mpr hk);rw[e];exact Ie t b hy p hp
def FO(ws:List Int)(t:AT)(b:Bx):(bsO ws t b).length=ws.length:=by unfold bsO;rw[p_,C_]
def KP{ws:List Int}{b:Bx}{r:Str}{t:AT}(g:Good b)(W:WOk ws)(h:aE.G [.str r,bV b,liV ws]=.ok (.val (atV t)) [])(T:TOk t (List.range ws.length)):cP.G [.str r,bV b,liV ws]=.ok (.new (.lst ((bsO ws t b).map bV))) []:=by rw[<- Fe];exact Ku g W h T
theorem vV{k:Nat}:∀(l l':List (Nat×Bx)),ksh l=ksh l'->aD (bxO l k)=aD (bxO l' k)
 | [],[],_=>rfl
 | [],_::_,h=>nomatch h
 |_::_,[],h=>nomatch h
 |
  p::l,q::l',h=>by
  have h':(p.1,aD p.2)::ksh l=(q.1,aD q.2)::ksh l':=h;injection h' with h1 h2;injection h1 with h3 h4;unfold bxO;by_cases hp:p.1=k
  .rw[N3 (by simpa using hp),N3 (by rw[<- h3];simpa using hp)];exact h4
  .rw[N2 (by simpa using hp),N2 (by rw[<- h3];simpa using hp)];exact vV l l' h2
def G1{ws:List Int}{t t':AT}{b b':Bx}(h:ksh (AT.bx ws t b)=ksh (AT.bx ws t' b')):(bsO ws t b).map aD=(bsO ws t' b').map aD:=by unfold bsO;rw[NV,NV];exact PX λk _=>vV _ _ h
def Df{b:Bx}(g:Good b):Good b.trn:=⟨⟨g.ok.h,g.ok.w⟩,⟨g.sz.t,g.sz.l,g.sz.h,g.sz.w⟩⟩
theorem D7:∀(xs:List Rat) (a:Rat),a<=xs.foldl mx a/\(∀x∈xs,x<=xs.foldl mx a)/\(xs.foldl mx a=a\/xs.foldl mx a∈xs)
 | [],a=>⟨Rat.le_refl,λ_ h=>(nomatch h),.inl rfl⟩
 |
  x::xs,a=>by
  obtain⟨h1,h2,h3⟩:=D7 xs (mx a x);rw[O8];have ha:a<=mx a x:=by unfold mx;split;grind;exact Rat.le_refl
  have hx:x<=mx a x:=by unfold mx;split;exact Rat.le_refl;grind
  refine⟨Rat.le_trans ha h1,λy hy=>?_,?_⟩
  .rcases G_.mp hy with rfl |hy
   .exact Rat.le_trans hx h1
   .exact h2 y hy
  .rcases h3 with h3 |h3
   .rw[h3];unfold mx;split
    .exact .inr (t_ ..)
    .exact .inl rfl
   .exact .inr (r_ _ h3)
def zI{p:List Rat}(h:p≠[]):mxL p∈p/\∀x∈p,x<=mxL p:=by
 cases p with
 |nil=>exact absurd rfl h
 |
  cons a xs=>
  obtain⟨h1,h2,h3⟩:=D7 xs a;refine⟨?_,λx hx=>?_⟩
  .show xs.foldl mx a∈_;rcases h3 with h3 |h3
   .rw[h3];exact t_ ..
   .exact r_ _ h3
  .rcases G_.mp hx with rfl |hx
   .exact h1
   .exact h2 x hx
theorem Au(q:Rat):∀qs:List Rat,gM (fV q) (qs.map fV)=some (qs.map λp=>decide (p=q))
 | []=>rfl
 |x::xs=>by rw[v_,gM,Au q xs,MU];rfl
def CN{qs:List Rat}{q:Rat}(h:q∈qs):∃i:Int,fY.G (.lst (qs.map fV)) [fV q]=.val (.int i):=by have hm:true∈qs.map λp=>decide (p=q):=Nw.mpr ⟨q,h,Em rfl⟩;have hl:=Pb.mpr hm;refine⟨((qs.map λp=>decide (p=q)).idxOf true:Nat),?_⟩;show fW (.lst (qs.map fV)) [fV q]=_;unfold fW;dsimp only;rw[Au];dsimp only;rw[if_pos hl]
def BQ{bs:List Bx}(h0:bs≠[])(hb:∀c∈bs,c.Ok/\c.Sz 2000)(hl:bs.length<=1000):∃i:Int,fY.G (.lst ((bs.map aD).map fV)) [fV (mxL (bs.map aD))]=.val (.int i)/\eX.G [.lst (bs.map bV)]=.ok (.val (.tup [fV (mxL (bs.map aD)),.int i])) []:=by
 have q1:bs.map aD≠[]:=λz=>h0 (PY.mp z);have q2:∀q∈bs.map aD,Sz 4000 q:=λq hq=>by obtain⟨c,hc,rfl⟩:=Nw.mp hq;exact uM (hb c hc).1 (hb c hc).2
 obtain⟨s,lc⟩:=yH (P:=fL) (bs:=bs) (λc hc=>rR (hb c hc).1 (hb c hc).2 (by decide)) rfl hl;have ge:=kC (by decide) q1 q2;obtain⟨i,ix⟩:=CN (zI q1).1;refine⟨i,ix,?_⟩;have sl:((bs.map aD).map fV).length<=16777216:=by rw[p_,p_];omega
 unfold eX;rw[ay];unfold vE;generalize (bs.map aD).map fV=sv at *;generalize mxL (bs.map aD)=r at *;generalize bs.map bV=bv at *;simp![lc,sl,ge,ix]
def Ed{ws:List Int}{e:Bool}{k:Rat}{b c:Bx}(h:Al e k b c)(w:Bool)(n:Nat):ksh (AT.bx ws (sbT w n) b)=ksh (AT.bx ws (sbT (Bool.xor w e) n) c):=by
 unfold sbT;by_cases h1:n=1
 .rw[if_pos h1,if_pos h1,AT.bx,AT.bx];show [(_,aD b)]=[(_,aD c)];rw[nA h]
 .rw[if_neg h1,if_neg h1,AT.bx,AT.bx,iR,iR,ku,ku,df,df,l6 h]
noncomputable def nmR:Nat->Str
 |0=>"across"
 |1=>"down"
 |2=>"halves"
 |3=>"rows"
 |4=>"greatest"
 |_=>"thirds"
noncomputable def ovR:Nat->Nat
 |0=>1
 |1=>0
 |n=>n
noncomputable def trR (i:Nat) (b:Bx) (ws:List Int):AT:=match i with
 |0=>sbT true ws.length
 |1=>sbT false ws.length
 |2=>tH b ws
 |3=>tR b ws
 |4=>tG b ws
 |_=>tT b ws
def MQ(i:Nat){b:Bx}{ws:List Int}(g:Good b)(W:WOk ws):aE.G [.str (nmR i),bV b,liV ws]=.ok (.val (atV (trR i b ws))) []/\TOk (trR i b ws) (List.range ws.length):=by
 have wp:=W.pos
 match i with
 |0=>exact⟨Az true g.ok W,DR true wp⟩
 |1=>exact⟨Az false g.ok W,DR false wp⟩
 |2=>exact⟨Gz (El g W).1,(El g W).2⟩
 |3=>exact⟨HU (DV g W).1,(DV g W).2⟩
 |4=>exact⟨GX (Dw g W).1,(Dw g W).2⟩
 |n+5=>exact⟨JT (Er g W).1,(Er g W).2⟩
def zo(i:Nat):bA.G [.str (nmR i)]=.ok (.val .non) []:=by
 match i with
 |0=>exact b8 (r:="across") rfl
 |1=>exact b8 (r:="down") rfl
 |2=>exact b8 (r:="halves") rfl
 |3=>exact b8 (r:="rows") rfl
 |4=>exact b8 (r:="greatest") rfl
 |n+5=>exact b8 (r:="thirds") rfl
def LK{e:Bool}{k:Rat}{b c:Bx}{ws:List Int}(W:WOk ws)(h:Al e k b c)(i:Nat):ksh (AT.bx ws (trR i b ws) b)=ksh (AT.bx ws (trR (if e=true then ovR i else i) c ws) c):=by
 have wp:=W.pos;have wl:=W.len;have hw:∀w∈ws,1<=w:=λw h=>(W.wt w h).1;have rl:(List.range ws.length).length=ws.length:=C_;have fl:=kR (ws:=ws);have S:Sd b c:=⟨e,k,h⟩
 match i with
 |
  0=>
  have:=Ed (ws:=ws) h true ws.length
  cases e <;> exact this
 |
  1=>
  have:=Ed (ws:=ws) h false ws.length
  cases e <;> exact this
 |
  2=>
  have:=nj tu hw 42 _ _ _ (by omega) (by omega) (λk hk=>Nh.mp hk) trivial S
  cases e <;> exact this
 |
  3=>
  have:=ua (ws:=ws) 42 (List.range ws.length) _ _ (by omega) (by omega) S
  cases e <;> exact this
 |
  4=>
  have:=ua (ws:=ws) 42 (aM ws) _ _ (by omega) (by omega) S
  cases e <;> exact this
 |
  n+5=>
  have:=nj ph hw 42 _ _ _ (by omega) (by omega) (λk hk=>i4.mp hk) (pF ws) S
  cases e <;> exact this
noncomputable def wr (i:Nat) (b:Bx) (ws:List Int):Rat:=mxL ((bsO ws (trR i b ws) b).map aD)
def qH{e:Bool}{k:Rat}{b c:Bx}{ws:List Int}(W:WOk ws)(h:Al e k b c)(i:Nat):wr (if e=true then ovR i else i) c ws=wr i b ws:=by unfold wr;rw[G1 (LK W h i)]
section
variable{b:Bx}{ws:List Int}
def lV(i:Nat)(g:Good b)(W:WOk ws):∃z:Int,cP.G [.str (nmR i),bV b,liV ws]=.ok (.new (.lst ((bsO ws (trR i b ws) b).map bV))) []/\eX.G [.lst ((bsO ws (trR i b ws) b).map bV)]=.ok (.val (.tup [fV (wr i b ws),.int z])) []/\Sz 4000 (wr i b ws):=by
 have wp:=W.pos;have wl:=W.len;obtain⟨h,T⟩:=MQ i g W;have bl:=FO ws (trR i b ws) b;have hb:=B7 g W T;have h0:bsO ws (trR i b ws) b≠[]:=λz=>by rw[z,Nt] at bl;omega
 obtain⟨z,_,wo⟩:=BQ h0 hb (by omega);refine⟨z,KP g W h T,wo,?_⟩;obtain⟨c,hc,e⟩:=Nw.mp (zI (p:=(bsO ws (trR i b ws) b).map aD) (λz=>h0 (PY.mp z))).1;unfold wr;rw[<- e];exact uM (hb c hc).1 (hb c hc).2
def zA(i:Nat)(g:Good b)(W:WOk ws):eC.G [.str (nmR i),bV b,liV ws]=.ok (.val (fV (wr i b ws))) []:=by obtain⟨z,e1,e2,_⟩:=lV i g W;have j0:∀p q:Val,atI [p,q] 0=some p:=λ_ _=>bj (by decide) rfl;unfold eC;rw[ay];unfold nv;generalize (bsO ws (trR i b ws) b).map bV=v1 at *;generalize fV (wr i b ws)=v2 at *;generalize bV b=bv at *;generalize liV ws=wv at *;generalize nmR i=nm at *;simp![e1,e2,j0]
def Dg{p q:Rat}(hp:Sz 4000 p)(hq:Sz 4000 q):fq.G [fV p,fV q]=.ok (.val (.bl (decide (p<q)))) []:=by have c1:aG.G (.int p.num) (.int (q.den:Nat))=.val (.int (p.num*(q.den:Nat))):=bz (CMulA.of hp.top hq.bot (by decide) (by decide));have c2:aG.G (.int q.num) (.int (p.den:Nat))=.val (.int (q.num*(p.den:Nat))):=bz (CMulA.of hq.top hp.bot (by decide) (by decide));have d:decide (p.num*(q.den:Nat)<q.num*(p.den:Nat))=decide (p<q):=Oh.mpr (AS p q).symm;have j0:∀p q:Val,atI [p,q] 0=some p:=λ_ _=>bj (by decide) rfl;have j1:∀p q:Val,atI [p,q] 1=some q:=λ_ _=>bj (by decide) rfl;unfold fq;rw[ay];unfold mJ;rw[show fV p=.tup [.int p.num,.int p.den] from rfl,show fV q=.tup [.int q.num,.int q.den] from rfl];simp![j0,j1,c1,c2,d]
noncomputable def fR (i j:Nat) (b:Bx) (ws:List Int):Bool:=decide (wr i b ws<wr j b ws)
def zj(i j:Nat)(g:Good b)(W:WOk ws):bU.G [.str (nmR i),.str (nmR j),bV b,liV ws]=.ok (.val (.bl (fR i j b ws))) []:=by obtain⟨z,e1,e2,s1⟩:=lV i g W;obtain⟨y,e3,e4,s2⟩:=lV j g W;have le:=Dg s1 s2;have j0:∀p q:Val,atI [p,q] 0=some p:=λ_ _=>bj (by decide) rfl;unfold bU fR;rw[ay];unfold gY;generalize (bsO ws (trR i b ws) b).map bV=v1 at *;generalize (bsO ws (trR j b ws) b).map bV=v3 at *;generalize decide (wr i b ws<wr j b ws)=dv at *;generalize fV (wr i b ws)=v2 at *;generalize fV (wr j b ws)=v4 at *;generalize bV b=bv at *;generalize liV ws=wv at *;generalize nmR i=nm at *;generalize nmR j=nn at *;simp![e1,e2,e3,e4,le,j0]
end
def Ih(x:Int):bg.G [.int x]=.ok (.val (.bl true)) []:=by unfold bg;rw[ay];rfl
structure W40(ws:List Int):Prop where
 pos:1<=ws.length
 len:ws.length<=40
 one:∀w∈ws,1<=w
def Mx{ws:List Int}(W:W40 ws):aB.G [liV ws]=.ok (.val .non) []:=gg (λz=>by have:=W.pos;rw[z] at this;exact absurd this (by decide)) W.one W.len
def FP(v:Val)(n:Nat)(h:n<=1000):nX.G (.lst [v]) (.int (n:Nat))=.new (.lst (List.replicate n v)):=by
 have e:nX.G=sN:=rfl;rw[e];have fl:(List.replicate n [v]).flatten=List.replicate n v:=by
  induction n with
  |zero=>rfl
  |succ n ih=>rw[ND,N_,ih (by omega),ND];rfl
 unfold sN;dsimp only;rw[NB,fl,if_pos ⟨by omega,by omega,by show 1*n<=_;omega⟩]
noncomputable def kN:List Int->Option (List Int)
 |a::m::r=>match kN (m::r) with
  |some t=>some (a::t)
  |none=>if m=1 then none else some ((a+1)::(List.replicate r.length 1++[m-1]))
 |_=>none
noncomputable def beh (ws:List Int):List Int:=match kN ws with
 |some t=>t
 |none=>if ws.length<40/\(ws.length:Int)<ws.sum then List.replicate ws.length 1++[ws.sum-(ws.length:Nat)] else [ws.sum+1]
theorem jG:∀{ws:List Int},ws≠[]->(∀w∈ws,1<=w)->(∃pre a m k,ws=pre++a::m::List.replicate k 1/\2<=m/\kN ws=some (pre++(a+1)::(List.replicate k 1++[m-1])))\/∃a k,ws=a::List.replicate k 1/\kN ws=none
 | [],h,_=>absurd rfl h
 | [a],_,_=>.inr ⟨a,0,rfl,rfl⟩
 |
  x::y::r,_,hp=>by
  rcases jG (ws:=y::r) (by simp) (λw hw=>hp w (r_ _ hw)) with ⟨pre,a,m,k,e,hm,hb⟩ |⟨a,k,e,hb⟩
  .refine .inl ⟨x::pre,a,m,k,by rw[e];rfl,hm,?_⟩;rw[kN,hb];rfl
  .injection e with e1 e2;subst e1 e2;by_cases h1:y=1
   .subst h1;refine .inr ⟨x,k+1,by rw[ND],?_⟩;rw[kN,hb];exact if_pos rfl
   .have:=hp y (by simp)
    refine .inl ⟨[],x,y,k,rfl,by omega,?_⟩;rw[kN,hb];show (if y=1 then none else _)=_;rw[if_neg h1,NU];rfl
theorem j4:∀k:Nat,(List.replicate k (1:Int)).sum=k
 |0=>rfl
 |k+1=>by rw[ND,Nq,j4 k];omega
def W40.beh{ws:List Int}(W:W40 ws):W40 (beh ws):=by
 have wp:=W.pos;have wl:=W.len;unfold KK.beh;rcases jG (λz=>by rw[z] at wp;exact absurd wp (by decide)) W.one with ⟨pre,a,m,k,e,hm,hb⟩ |⟨a,k,e,hb⟩
 .rw[hb];have ha:=W.one a (by rw[e];simp);have hl:ws.length=pre.length+(k+2):=by rw[e];simp
  refine⟨by simp;omega,by simp;omega,λw hw=>?_⟩;simp only[Om,G_,O2,or_false] at hw;rcases hw with hw |rfl |hw |rfl
  .exact W.one w (by rw[e];simp [hw])
  .omega
  .rw[(List.mem_replicate.mp hw).2];decide
  .omega
 .rw[hb];have hs:(ws.length:Int)<=ws.sum:=by have ha:=W.one a (by rw[e];simp);rw[e,F_,NU,Nq,j4];omega
  dsimp only;split
  .rename_i h;refine⟨by simp,by simp;omega,λw hw=>?_⟩;rcases Om.mp hw with hw |hw
   .rw[(List.mem_replicate.mp hw).2];decide
   .rw[Nk.mp hw];omega
  .refine⟨by simp,by simp,λw hw=>?_⟩;rw[Nk.mp hw];omega
def ue{xs ys:List Int}(h:xs.length+ys.length<=1000):aY.G (liV xs) (liV ys)=.new (liV (xs++ys)):=by unfold liV;rw[HC,if_pos (by rw[p_,p_];omega),NC]
def E2(n:Nat)(h:n<=1000):nX.G (.lst [.int 1]) (.int (n:Nat))=.new (liV (List.replicate n 1)):=by rw[FP (.int 1) n h];unfold liV;rw[List.map_replicate]
def Bz{op ap:PO2}{w m x y:Int}{u v o:Val}(h1:m-1=x)(h2:w-m+1=y)(h3:op.G (.lst [.int 1]) (.int x)=.new u)(h4:ap.G u (.lst [.int y])=.new o):(aq (pOp ap (pOp op (eD (aa (ah 1) ag)) (pOp dN (af 1) (ah 1))) (eD (aa (pOp aY (pOp dN (af 0) (af 1)) (ah 1)) ag)))).G [.sh (.int w),.sh (.int m)]=.rt (.new o) [.sh (.int w),.sh (.int m)]:=by simp![h1,h2,h3,h4]
def tD{w x:Int}{m:Nat}(hx:x=(m:Nat)+1)(h:m<=900):cz.G [.int w,.int x]=.ok (.new (liV (List.replicate m 1++[w-(m:Nat)]))) []:=by have r:=Bz (op:=nX) (ap:=aY) (w:=w) (m:=x) (v:=.non) (show x-1=(m:Nat) by omega) (show w-x+1=w-(m:Nat) by omega) (E2 m (by omega)) (ue (ys:=[w-(m:Nat)]) (by rw[NU,Pt];omega));unfold cz;rw[lP rfl];show gk [false,false] (gE.G [.sh (.int w),.sh (.int x)])=_;unfold gE;rw[r];rfl
def nW(ws:List Int)(j:Nat):aO.G [.lst ((ws.map Val.int).drop j)]=.val (.int (ws.drop j).sum):=by
 have:=bp (ws.drop j)
 rw[NY] at this;generalize (ws.map Val.int).drop j=dv at *;simp![this]
def Jm{ws:List Int}{S N r:Int}{j:Nat}{s4 s5:Sl}(hr:(ws.drop (j+1)).sum=r)(hle:¬ N-(j:Nat)-1<r)(h4:s4.pl=true)(h5:s5.pl=true):bO.G [.sh (liV ws),.sh (.int S),.sh (.int N),.sh (.int (j:Nat)),s4,s5]=.nx [.sh (liV ws),.sh (.int S),.sh (.int N),.sh (.int (j:Nat)),.sh (.int r),.sh (.int (N-(j:Nat)-1))]:=by have cf:=eT (ws.map Val.int) (j+1);have sc:=nW ws (j+1);rw[hr] at sc;rw[show (((j+1:Nat):Nat):Int)=((j:Nat):Int)+1 from rfl] at cf;unfold bO;unfold liV;generalize (ws.map Val.int).drop (j+1)=dv at *;generalize ws.map Val.int=wv at *;generalize aO=fs at *;simp![dU,cf,sc,h4,h5,hle]
def FF{ws pre out:List Int}{S N r a:Int}{j:Nat}{s4 s5:Sl}(hr:(ws.drop (j+1)).sum=r)(hlt:N-(j:Nat)-1<r)(ht:ws.take j=pre)(ha:ws[j]?=some a)(fe:cz.G [.int (r-1),.int (N-(j:Nat)-1)]=.ok (.new (liV out)) [])(l1:pre.length+1+out.length<=1000)(h4:s4.pl=true)(h5:s5.pl=true):bO.G [.sh (liV ws),.sh (.int S),.sh (.int N),.sh (.int (j:Nat)),s4,s5]=.rt (.new (liV (pre++[a+1]++out))) [.sh (liV ws),.sh (.int S),.sh (.int N),.sh (.int (j:Nat)),.sh (.int r),.sh (.int (N-(j:Nat)-1))]:=by have cf:=eT (ws.map Val.int) (j+1);have sc:=nW ws (j+1);rw[hr] at sc;rw[show (((j+1:Nat):Nat):Int)=((j:Nat):Int)+1 from rfl] at cf;have ct:=eL (ws.map Val.int) j;rw[<- NN,ht] at ct;have at_:atI (ws.map Val.int) ((j:Nat):Int)=some (.int a):=bj (by omega) (by rw[NB,Nf,ha];rfl);have c1:=ue (xs:=pre) (ys:=[a+1]) (by simp;omega);have c2:=ue (xs:=pre++[a+1]) (ys:=out) (by simp;omega);unfold bO;rw[show liV [a+1]=.lst [.int (a+1)] from rfl] at c1;generalize liV (pre++[a+1]++out)=o2 at *;generalize liV (pre++[a+1])=o1 at *;generalize liV out=o0 at *;unfold liV at *;generalize (ws.map Val.int).drop (j+1)=dv at *;generalize pre.map Val.int=pv at *;generalize ws.map Val.int=wv at *;generalize aO=fs at *;simp![dU,cf,sc,h4,h5,hlt,ct,at_,c1,c2,fe]
def sj(i:Int)(k:Nat):ju i (k+1)=.int i::ju (i-1) k:=by
 unfold ju;rw[List.range_succ_eq_map,v_,NV];congr 1
 .congr 1;omega
 .refine PX λt _=>?_;show Val.int (i-((t+1:Nat):Int))=Val.int (i-1-(t:Nat));congr 1;omega
def gt3{v x0 x1 x2:Val}{s3 s4 s5:Sl}(h3:s3.pl=true):(gtN 3).G v [.sh x0,.sh x1,.sh x2,s3,s4,s5]=some [.sh x0,.sh x1,.sh x2,.sh v,s4,s5]:=by simp![h3]
theorem lb{ws:List Int}{S N:Int}{R:SR3->Prop}(p:Nat)(hR:∀s3 s4 s5:Sl,s3.pl=true->s4.pl=true->s5.pl=true->R (fj (gtN 3).G bO.G (ju ((p:Nat)-1) p) [.sh (liV ws),.sh (.int S),.sh (.int N),s3,s4,s5])):∀(t:Nat),(∀j,p<=j->j<p+t->¬ N-(j:Nat)-1<(ws.drop (j+1)).sum)->∀s3 s4 s5:Sl,s3.pl=true->s4.pl=true->s5.pl=true->R (fj (gtN 3).G bO.G (ju (((p+t:Nat):Int)-1) (p+t)) [.sh (liV ws),.sh (.int S),.sh (.int N),s3,s4,s5])
 |0,_,s3,s4,s5,h3,h4,h5=>hR s3 s4 s5 h3 h4 h5
 |
  t+1,h,s3,s4,s5,h3,h4,h5=>by
  have ih:=lb p hR t (λj h1 h2=>h j h1 (by omega)) (.sh (.int ((p+t:Nat):Int))) (.sh (.int (ws.drop (p+t+1)).sum)) (.sh (.int (N-((p+t:Nat):Int)-1))) rfl rfl rfl;have bb:=Jm (S:=S) (s4:=s4) (s5:=s5) (rfl:(ws.drop (p+t+1)).sum=_) (h (p+t) (by omega) (by omega)) h4 h5;rw[show p+(t+1)=p+t+1 by omega,sj,fT,show (((p+t+1:Nat):Int)-1)=((p+t:Nat):Int) by omega];have g:=gt3 (v:=.int ((p+t:Nat):Int)) (x0:=liV ws) (x1:=.int S) (x2:=.int N) (s4:=s4) (s5:=s5) h3;rw[g];simp only[bb,qt];exact ih
def sX{xs:List Int}{k j:Nat}(h:xs.length<=j):((xs++List.replicate k 1).drop j).sum=((k-(j-xs.length):Nat):Int):=by rw[List.drop_append,OT h,Ny,List.drop_replicate,j4]
def bhQ(v:Val)(r:SR3):Prop:=gk [false] r=.ok (.new v) []
def pA{ws:List Int}(W:W40 ws):cI.G [liV ws]=.ok (.new (liV (beh ws))) []:=by
 have wp:=W.pos;have wl:=W.len;have ck:=Mx W;have sm:=nW ws 0;rw[P0,P0] at sm;have ll:((ws.map Val.int).length:Nat)=ws.length:=p_ ..;have rg:=Kr (i:=((ws.length:Nat):Int)-2) (j:=-1) ⟨by omega,by omega⟩ ⟨by decide,by decide⟩;rw[show (((ws.length:Nat):Int)-2 - -1).toNat=ws.length-1 by omega] at rg;have hc:=jG (λz=>by rw[z] at wp;exact absurd wp (by decide)) W.one;unfold cI;rw[lP rfl];show bhQ (liV (beh ws)) (gi.G [.sh (liV ws),.no,.no,.no,.no,.no]);unfold gi;refine aC (λe=>e=[.sh (liV ws),.no,.no,.no,.no,.no]) ⟨_,by generalize liV ws=wv at *;simp![ck],rfl⟩ ?_;rintro _ rfl;refine aC (λe=>e=[.sh (liV ws),.sh (.int ws.sum),.sh (.int (ws.length:Nat)),.no,.no,.no]) ⟨_,by unfold liV;generalize ws.map Val.int=wv at *;generalize aO=fs at *;simp![sm,ll],rfl⟩ ?_;rintro _ rfl;rcases hc with ⟨pre,a,m,k,e,hm,hb⟩ |⟨a,k,e,hb⟩
 .have hn:ws.length=pre.length+k+2:=by rw[e];simp;omega
  have be:beh ws=pre++[a+1]++(List.replicate k 1++[m-1]):=by unfold beh;rw[hb];simp
  obtain⟨s3,s4,s5,lo⟩:=lb (ws:=ws) (S:=ws.sum) (N:=(ws.length:Nat)) (R:=λr=>∃s3 s4 s5:Sl,r=.rt (.new (liV (beh ws))) [.sh (liV ws),.sh (.int ws.sum),.sh (.int (ws.length:Nat)),s3,s4,s5]) (pre.length+1) (λs3 s4 s5 h3 h4 h5=>by
   have dr:(ws.drop (pre.length+1)).sum=m+(k:Nat):=by rw[e,show pre++a::m::List.replicate k 1=(pre++[a])++m::List.replicate k 1 by simp,List.drop_append,OT (by simp),Ny,show pre.length+1-(pre++[a]).length=0 by simp,P0,Nq,j4]
   have fe:=tD (w:=m+(k:Nat)-1) (x:=((ws.length:Nat):Int)-(pre.length:Nat)-1) (m:=k) (by omega) (by omega);rw[show m+(k:Nat)-1-(k:Nat)=m-1 by omega] at fe;have by_:=FF (S:=ws.sum) (N:=(ws.length:Nat)) (pre:=pre) (a:=a) (s4:=s4) (s5:=s5) dr (by omega) (by rw[e];simp) (by rw[e];simp) fe (by simp;omega) h4 h5;rw[<- be] at by_;refine⟨.sh (.int (pre.length:Nat)),.sh (.int (m+(k:Nat))),.sh (.int (((ws.length:Nat):Int)-(pre.length:Nat)-1)),?_⟩;rw[sj,fT,show (((pre.length+1:Nat):Int)-1)=((pre.length:Nat):Int) by omega,gt3 h3];simp only[by_];rfl) k (λj h1 h2=>by
   rw[e,show pre++a::m::List.replicate k 1=(pre++[a,m])++List.replicate k 1 by simp,sX (by simp;omega)];simp;omega) .no .no .no rfl rfl rfl
  rw[show (((pre.length+1+k:Nat):Int)-1)=((ws.length:Nat):Int)-2 by omega,show pre.length+1+k=ws.length-1 by omega] at lo;unfold bhQ;generalize liV (beh ws)=bv at *;generalize liV ws=wv at *;generalize ju (((ws.length:Nat):Int)-2) (ws.length-1)=rv at *;simp![D9,rg,lo,gb]
 .have hn:ws.length=k+1:=by rw[e];simp
  obtain⟨s3,s4,s5,h3,h4,h5,lo⟩:=lb (ws:=ws) (S:=ws.sum) (N:=(ws.length:Nat)) (R:=λr=>∃s3 s4 s5:Sl,s3.pl=true/\s4.pl=true/\s5.pl=true/\r=.nx [.sh (liV ws),.sh (.int ws.sum),.sh (.int (ws.length:Nat)),s3,s4,s5]) 0 (λs3 s4 s5 h3 h4 h5=>⟨s3,s4,s5,h3,h4,h5,rfl⟩) k (λj h1 h2=>by rw[e,show a::List.replicate k 1=[a]++List.replicate k 1 by rfl,sX (by simp)];simp;omega) .no .no .no rfl rfl rfl;rw[show (((0+k:Nat):Int)-1)=((ws.length:Nat):Int)-2 by omega,show 0+k=ws.length-1 by omega] at lo;refine aC (λe=>e=[.sh (liV ws),.sh (.int ws.sum),.sh (.int (ws.length:Nat)),s3,s4,s5]) ⟨_,by generalize liV ws=wv at *;generalize ju (((ws.length:Nat):Int)-2) (ws.length-1)=rv at *;simp![D9,rg,lo],rfl⟩ ?_;rintro _ rfl;have fe:=tD (w:=ws.sum) (x:=((ws.length:Nat):Int)+1) (m:=ws.length) rfl (by omega);unfold beh bhQ;rw[hb];dsimp only;by_cases h1:ws.length<40
  .have l1:((ws.length:Nat):Int)<40:=by omega
   by_cases h2:(ws.length:Int)<ws.sum
   .rw[if_pos ⟨h1,h2⟩];generalize liV (List.replicate ws.length 1++[ws.sum-(ws.length:Nat)])=ov at *;generalize liV ws=wv at *;simp![l1,h2,fe,gb]
   .rw[if_neg (λz=>h2 z.2),show liV [ws.sum+1]=.lst [.int (ws.sum+1)] from rfl];generalize liV ws=wv at *;simp![l1,h2,gb]
  .have l1:¬ ((ws.length:Nat):Int)<40:=by omega
   rw[if_neg (λz=>h1 z.1),show liV [ws.sum+1]=.lst [.int (ws.sum+1)] from rfl];generalize liV ws=wv at *;simp![l1,gb]
theorem vo:∀a b:List Int,L3.vqs (a.map Val.int) (b.map Val.int)=decide (a=b)
 | [],[]=>rfl
 | [],y::ys=>by rw[w_ (by simp)];rfl
 |x::xs,[]=>by rw[w_ (by simp)];rfl
 |
  x::xs,y::ys=>by
  show ((x==y)&&L3.vqs (xs.map Val.int) (ys.map Val.int))=_;rw[vo xs ys];by_cases h1:x=y <;> by_cases h2:xs=ys <;> simp [h1,h2]
def eqL(a b:List Int):aS (liV a) (liV b)=some (decide (a=b)):=by
 have wf:∀l:List Int,wfV 60 (liV l)=true:=λl=>by show eS 59 (l.map .int)=true;rw[lM,List.all_map,Ni];intro _ _;rfl
 rw[qw (wf a) (wf b)];show some (L3.vqs (a.map Val.int) (b.map Val.int))=_;rw[vo]
def eqT{a b:List Int}(h:a=b):aS (liV a) (liV b)=some true:=by rw[eqL,Em h]
def eqF{a b:List Int}(h:a≠b):aS (liV a) (liV b)=some false:=by rw[eqL,w_ h]
noncomputable def ch:Nat->List Int
 |0=>[1]
 |n+1=>beh (ch n)
theorem qG:∀n,W40 (ch n)
 |0=>⟨by decide,by decide,by decide⟩
 |n+1=>(qG n).beh
def GL:∀n,n<64->(ch n).length<=9/\∀w∈ch n,w<=9:=by decide
def ub{n:Nat}(h:n<64):WOk (ch n):=by have W:=qG n;obtain⟨h1,h2⟩:=GL n h;exact⟨W.pos,W.len,λw hw=>⟨W.one w hw,by have:=h2 w hw;omega⟩,λz=>by omega⟩
def qM:∀m:Nat,m<7->(∀j:Nat,j<2^m-1->(ch j).sum<=(m:Int))/\(ch (2^m-1)).sum=(m:Int)+1:=by decide
def K2:∀m:Nat,m<6->∀j:Nat,j<2^(m+1)-1->j<2^m-1\/(ch j).sum=(m:Int)+1:=by decide
def qF{m:Nat}(h:m<=6):2^m-1<64:=by have:2^m<=2^6:=NG (by decide) h;omega
noncomputable def b_ (f:List Int->Bool) (m:Nat):Option (List Int):=((List.range (2^m-1)).map ch).find? f
def jQ(f:List Int->Bool)(N:Nat):∃p,p<=N/\(∀j,j<p->f (ch j)=false)/\((p<N/\f (ch p)=true/\((List.range N).map ch).find? f=some (ch p))\/(p=N/\((List.range N).map ch).find? f=none)):=by
 induction N with
 |zero=>exact⟨0,s_ _,λj h=>absurd h (Oq _),.inr ⟨rfl,rfl⟩⟩
 |
  succ N ih=>
  obtain⟨p,h1,h2,h3⟩:=ih;rw[List.range_succ,NC,List.find?_append];rcases h3 with ⟨a,b,c⟩ |⟨rfl,c⟩
  .exact⟨p,by omega,h2,.inl ⟨by omega,b,by rw[c];rfl⟩⟩
  .rw[c];cases h:f (ch p) with
   |true=>exact⟨p,by omega,h2,.inl ⟨by omega,h,by simp [N3 h]⟩⟩
   |false=>exact⟨p+1,s_ _,λj hj=>by
    by_cases z:j=p
    .rw[z];exact h
    .exact h2 j (by omega),.inr ⟨rfl,by simp [h]⟩⟩
def mE(n:Nat):aO.G [liV (ch n)]=.val (.int (ch n).sum):=by have iv:=bp (ch n);unfold liV;generalize (ch n).map Val.int=wv at *;simp![iv]
section
variable{i j m:Nat}{b:Bx}
def EC{n:Nat}{x3:Val}(g:Good b)(h:n<64):dP.G [.sh (.str (nmR i)),.sh (.str (nmR j)),.sh (bV b),.sh x3,.sh (liV (ch n))]=if fR i j b (ch n)=true then .rt (.val (liV (ch n))) [.sh (.str (nmR i)),.sh (.str (nmR j)),.sh (bV b),.sh x3,.sh (liV (ch n))] else .nx [.sh (.str (nmR i)),.sh (.str (nmR j)),.sh (bV b),.sh x3,.sh (liV (ch (n+1)))]:=by
 have W:=ub h;have e1:=zA i g W;have e2:=zA j g W;obtain⟨_,_,_,s1⟩:=lV i g W;obtain⟨_,_,_,s2⟩:=lV j g W;have il:=gp s1 s2 (by decide) (by decide);have be:=pA (qG n);rw[show beh (ch n)=ch (n+1) from rfl] at be;unfold dP;rw[show decide (wr i b (ch n)<wr j b (ch n))=fR i j b (ch n) from rfl] at il;generalize fV (wr i b (ch n))=v2 at *;generalize fV (wr j b (ch n))=v4 at *;generalize bV b=bv at *;generalize liV (ch n)=wv at *;generalize liV (ch (n+1))=w1 at *;generalize nmR i=nm at *;generalize nmR j=nn at *;cases hf:fR i j b (ch n) with
 |true=>rw[hf] at il;simp![e1,e2,il]
 |false=>rw[hf] at il;simp![e1,e2,il,be]
noncomputable def fbE (i j:Nat) (b:Bx) (m:Nat) (o:Option (List Int)):SR3:=match o with
 |some w=>.rt (.val (liV w)) [.sh (.str (nmR i)),.sh (.str (nmR j)),.sh (bV b),.sh (.int (m:Nat)),.sh (liV w)]
 |none=>.nx [.sh (.str (nmR i)),.sh (.str (nmR j)),.sh (bV b),.sh (.int (m:Nat)),.sh (liV (ch (2^m-1)))]
theorem wR(g:Good b)(hm:m<7):∀k n,n+k=2^m-1->(xWh (qOf (pOp bLe (pFn aO (aa (af 4) ag)) (af 3))) dP).G [.sh (.str (nmR i)),.sh (.str (nmR j)),.sh (bV b),.sh (.int (m:Nat)),.sh (liV (ch n))]=fbE i j b m (((List.range' n k).map ch).find? (fR i j b))
 |
  0,n,h=>by
  rw[Nat.add_zero] at h;subst h;have s:=mE (2^m-1);rw[(qM m hm).2] at s;have lt:¬ ((m:Int)+1<=(m:Nat)):=by omega
  rw[eJ];show _=SR3.nx _;generalize liV (ch (2^m-1))=wv at *;generalize bV b=bv at *;generalize aO=fs at *;simp![s,w_ lt]
 |
  k+1,n,h=>by
  have ih:=wR g hm k (n+1) (by omega);have st:=EC (i:=i) (j:=j) (x3:=.int (m:Nat)) g (show n<64 by have:=qF (m:=m) (by omega);omega);have s:=mE n;have le:=(qM m hm).1 n (by omega);rw[eJ,List.range'_succ,v_];cases hf:fR i j b (ch n) with
  |true=>rw[N3 hf];rw[hf,if_pos rfl] at st;show _=SR3.rt _ _;clear ih;generalize (ch n).sum=sn at *;generalize liV (ch n)=wv at *;generalize bV b=bv at *;generalize aO=fs at *;simp![s,Em le,st]
  |false=>rw[N2 (by rw[hf];decide)];rw[hf,if_neg (by decide)] at st;rw[<- ih];clear ih;generalize (ch n).sum=sn at *;generalize liV (ch n)=wv at *;generalize liV (ch (n+1))=w1 at *;generalize bV b=bv at *;generalize hs:aO=fs at *;subst hs;simp![s,Em le,st]
noncomputable def oV:Option (List Int)->Val
 |none=>.non
 |some w=>liV w
def fbQ(o:Option (List Int))(r:SR3):Prop:=gk [false,false,false,false] r=.ok (.val (oV o)) []
def ki(i j:Nat)(g:Good b)(h1:1<=m)(hm:m<7):a9.G [.str (nmR i),.str (nmR j),bV b,.int (m:Nat)]=.ok (.val (oV (b_ (fR i j b) m))) []:=by
 have c1:=zo i;have c2:=zo j;have c3:=bD g.ok;have iw:bg.G [.int (m:Nat)]=.ok (.val (.bl true)) []:=Ih _;have lo:=wR (i:=i) (j:=j) g hm (2^m-1) 0 (PJ _);rw[<- List.range_eq_range',show ((List.range (2^m-1)).map ch).find? (fR i j b)=b_ (fR i j b) m from rfl] at lo;have a1:¬ ((m:Nat):Int)<1:=by omega
 have a2:¬ ((m:Nat):Int)>8:=by omega
 have l1:liV (ch 0)=.lst [.int 1]:=rfl;unfold a9;rw[lP rfl];show fbQ (b_ (fR i j b) m) (fN.G [.sh (.str (nmR i)),.sh (.str (nmR j)),.sh (bV b),.sh (.int (m:Nat)),.no]);unfold fN;refine aC (λe=>e=[.sh (.str (nmR i)),.sh (.str (nmR j)),.sh (bV b),.sh (.int (m:Nat)),.no]) ⟨_,by generalize bV b=bv at *;generalize nmR i=nm at *;generalize nmR j=nn at *;simp![c1],rfl⟩ ?_;rintro _ rfl;refine aC (λe=>e=[.sh (.str (nmR i)),.sh (.str (nmR j)),.sh (bV b),.sh (.int (m:Nat)),.no]) ⟨_,by generalize bV b=bv at *;generalize nmR i=nm at *;generalize nmR j=nn at *;simp![c2],rfl⟩ ?_;rintro _ rfl;refine aC (λe=>e=[.sh (.str (nmR i)),.sh (.str (nmR j)),.sh (bV b),.sh (.int (m:Nat)),.no]) ⟨_,by generalize bV b=bv at *;generalize nmR i=nm at *;generalize nmR j=nn at *;simp![c3],rfl⟩ ?_;rintro _ rfl;refine aC (λe=>e=[.sh (.str (nmR i)),.sh (.str (nmR j)),.sh (bV b),.sh (.int (m:Nat)),.no]) ⟨_,by generalize bV b=bv at *;generalize nmR i=nm at *;generalize nmR j=nn at *;simp![iw,w_ a1,w_ a2],rfl⟩ ?_;rintro _ rfl;refine aC (λe=>e=[.sh (.str (nmR i)),.sh (.str (nmR j)),.sh (bV b),.sh (.int (m:Nat)),.sh (liV (ch 0))]) ⟨_,by rw[l1];generalize bV b=bv at *;generalize nmR i=nm at *;generalize nmR j=nn at *;simp![eP],rfl⟩ ?_;rintro _ rfl;unfold fbQ;cases hf:b_ (fR i j b) m with
 |none=>rw[hf] at lo;unfold fbE at lo;simp only at lo;show gk _ _=.ok (.val .non) [];generalize liV (ch 0)=w0 at *;generalize liV (ch (2^m-1))=w1 at *;generalize bV b=bv at *;generalize nmR i=nm at *;generalize nmR j=nn at *;simp![lo,gb]
 |some w=>rw[hf] at lo;unfold fbE at lo;simp only at lo;show gk _ _=.ok (.val (liV w)) [];generalize liV (ch 0)=w0 at *;generalize liV w=w1 at *;generalize bV b=bv at *;generalize nmR i=nm at *;generalize nmR j=nn at *;simp![lo,gb]
end
theorem oR{f f':List Int->Bool}:∀{l:List (List Int)},(∀x∈l,f x=f' x)->l.find? f=l.find? f'
 | [],_=>rfl
 |
  x::l,h=>by
  have ih:=oR (f:=f) (f':=f') (l:=l) λy hy=>h y (r_ _ hy);have h0:=h x (t_ ..);cases hf:f x with
  |true=>rw[N3 hf,N3 (by rw[<- h0];exact hf)]
  |false=>rw[N2 (by rw[hf];decide),N2 (by rw[<- h0,hf];decide),ih]
def rq{f f':List Int->Bool}{m:Nat}(hm:m<=6)(h:∀n,n<64->f (ch n)=f' (ch n)):b_ f m=b_ f' m:=by
 unfold b_;refine oR λx hx=>?_;obtain⟨n,hn,rfl⟩:=Nw.mp hx
 have:=Nh.mp hn
 have:=qF hm
 exact h n (by omega)
def CQ(i:Nat)(b:Bx)(m:Nat):b_ (fR i i b) m=none:=by unfold b_;rw[List.find?_eq_none];intro x _;unfold fR;rw[w_ P8];decide
def Bn{f:List Int->Bool}{m:Nat}{w:List Int}(h:b_ f m=some w):b_ f (m+1)=some w:=by
 have hN:2^m-1<=2^(m+1)-1:=Nat.sub_le_sub_right (NG (by decide) (Nat.le_succ m)) 1;obtain⟨p,p1,p2,p3⟩:=jQ f (2^m-1);obtain⟨q,q1,q2,q3⟩:=jQ f (2^(m+1)-1);unfold b_ at h ⊢;rcases p3 with ⟨a,b,c⟩ |⟨a,c⟩
 .rw[c] at h;rcases q3 with ⟨a',b',c'⟩ |⟨a',c'⟩
  .rcases Nat.lt_trichotomy p q with z |rfl |z
   .rw[q2 p z] at b;cases b
   .rw[c',h]
   .rw[p2 q z] at b';cases b'
  .rw[q2 p (by omega)] at b;cases b
 .rw[c] at h;cases h
def FD{f:List Int->Bool}{m:Nat}{w:List Int}(hm:m<6)(h:b_ f m=none)(h':b_ f (m+1)=some w):w.sum=(m:Int)+1:=by
 obtain⟨p,p1,p2,p3⟩:=jQ f (2^m-1);obtain⟨q,q1,q2,q3⟩:=jQ f (2^(m+1)-1);unfold b_ at h h';rcases p3 with ⟨a,b,c⟩ |⟨a,c⟩
 .rw[c] at h;cases h
 .rcases q3 with ⟨a',b',c'⟩ |⟨a',c'⟩
  .rw[c'] at h';cases h';rcases K2 m hm q a' with z |z
   .rw[p2 q (by omega)] at b';cases b'
   .exact z
  .rw[c'] at h';cases h'
def D1(l:List Int):wfV 60 (liV l)=true:=by show eS 59 (l.map .int)=true;rw[lM,List.all_map,Ni];intro _ _;rfl
def eqN(w:List Int):aS (liV w) .non=some false:=by rw[qw (D1 w) (show wfV 60 .non=true from rfl)];rfl
def eqN'(w:List Int):aS .non (liV w)=some false:=by rw[qw (show wfV 60 .non=true from rfl) (D1 w)];rfl
def eqO(o:Option (List Int)):aS (oV o) (oV o)=some true:=by
 cases o with
 |none=>rfl
 |some w=>exact eqT rfl
section
variable{i j m p:Nat}{b:Bx}{o:Option (List Int)}{x0 x1 x2 x7 x10 x11 x12 x13:Sl}
theorem pE(g:Good b)(hm:m<6)(hp:p<=2^(m+1)-1)(hf:∀q,q<p->fR i j b (ch q)=false)(hs:(p<2^(m+1)-1/\fR i j b (ch p)=true/\o=some (ch p))\/(p=2^(m+1)-1/\o=none)):∀k n,n+k=p->(xWh (qAn (qOf (pOp bNe (af 9) (af 8))) (qOf (pOp bLe (pFn aO (aa (af 9) ag)) (pOp aY (af 6) (ah 1))))) ur).G [x0,x1,x2,.sh (.str (nmR i)),.sh (.str (nmR j)),.sh (bV b),.sh (.int (m:Nat)),x7,.sh (oV o),.sh (liV (ch n)),x10,x11,x12,x13]=.nx [x0,x1,x2,.sh (.str (nmR i)),.sh (.str (nmR j)),.sh (bV b),.sh (.int (m:Nat)),x7,.sh (oV o),.sh (liV (ch p)),x10,x11,x12,x13]
 |
  0,n,h=>by
  rw[Nat.add_zero] at h;subst h;have s:=mE n;rw[eJ];rcases hs with ⟨_,_,rfl⟩ |⟨hN,rfl⟩
  .have q:aS (liV (ch n)) (oV (some (ch n)))=some true:=eqT rfl;generalize oV (some (ch n))=ov at *;generalize liV (ch n)=wv at *;generalize bV b=bv at *;simp![q]
  .have q:aS (liV (ch n)) (oV none)=some false:=eqN _;have e:=(qM (m+1) (by omega)).2;rw[<- hN] at e;have lt:¬ ((ch n).sum<=(m:Int)+1):=by rw[e];omega
   generalize oV none=ov at *;generalize (ch n).sum=sn at *;generalize liV (ch n)=wv at *;generalize bV b=bv at *;generalize hfs:aO=fs at *;simp![q,s,w_ lt]
 |
  k+1,n,h=>by
  have ih:=pE g hm hp hf hs k (n+1) (by omega);have n64:n<64:=by have:=qF (m:=m+1) (by omega);omega
  have W:=ub n64;have ib:=zj i j g W;rw[hf n (by omega)] at ib;have be:=pA (qG n);rw[show beh (ch n)=ch (n+1) from rfl] at be;have s:=mE n;have le:=(qM (m+1) (by omega)).1 n (by omega);have le':(ch n).sum<=(m:Int)+1:=le;have q:aS (liV (ch n)) (oV o)=some false:=by
   rcases hs with ⟨_,hq,rfl⟩ |⟨_,rfl⟩
   .refine eqF λz=>?_
    have:=hf n (by omega)
    rw[z,hq] at this;cases this
   .exact eqN _
  rw[eJ,<- ih];clear ih;unfold ur;generalize oV o=ov at *;generalize (ch n).sum=sn at *;generalize liV (ch n)=wv at *;generalize liV (ch (n+1))=w1 at *;generalize liV (ch p)=w2 at *;generalize bV b=bv at *;generalize nmR i=nm at *;generalize nmR j=nn at *;simp![q,s,Em le',ib,be]
end
def wU{r:Int}(h0:0<=r)(h1:r<6):∃i,i<6/\atI [Val.str "across",.str "down",.str "halves",.str "rows",.str "greatest",.str "thirds"] r=some (.str (nmR i)):=by
 obtain rfl |rfl |rfl |rfl |rfl |rfl:r=0\/r=1\/r=2\/r=3\/r=4\/r=5:=by omega
 .exact⟨0,by decide,bj (by decide) rfl⟩
 .exact⟨1,by decide,bj (by decide) rfl⟩
 .exact⟨2,by decide,bj (by decide) rfl⟩
 .exact⟨3,by decide,bj (by decide) rfl⟩
 .exact⟨4,by decide,bj (by decide) rfl⟩
 .exact⟨5,by decide,bj (by decide) rfl⟩
def Lo{x y:Str}(h:(lkD (([Sum.inr "across",Sum.inr "down"]:List Key).zip [Val.str "down",Val.str "across"]) (.inr x)).getD (.str x)=.str y):dm.G [.str x]=.ok (.val (.str y)) []:=by unfold dm;rw[ay];unfold mh;simp![IL,uE,h]
def DK:∀i,i<6->dm.G [.str (nmR i)]=.ok (.val (.str (nmR (ovR i)))) []:=by
 intro i hi;refine Lo ?_;obtain rfl |rfl |rfl |rfl |rfl |rfl:i=0\/i=1\/i=2\/i=3\/i=4\/i=5:=by omega
 all_goals rfl
def D4{k:Int}{q:Rat}:(((k*q.num:Int):Rat)/((q.den:Int):Rat))=(k:Rat)*q:=by rw[NQ,Pk,OL,<- Pk];congr 1;rw[<- Rat.divInt_eq_div];exact Rat.num_divInt_den q
def DH{q:Rat}{l:List Int}{M:Int}(h:mxI l<=M)(h1:q.num∈l)(h2:(q.den:Int)∈l)(h0:0<q):0<q.num/\q.num<=M/\(q.den:Int)<=M:=⟨ko.mpr h0,Int.le_trans (tL h1) h,Int.le_trans (tL h2) h⟩
def k_sz{k:Int}{q:Rat}(h0:0<q)(s:Sz 101 q)(hk:k=1\/k=3/\q.num<=1000000/\(q.den:Int)<=1000000):Sz 101 ((k:Rat)*q):=by
 rcases hk with rfl |⟨rfl,h1,h2⟩
 .rw[show ((1:Int):Rat)=1 from rfl,Rat.one_mul];exact s
 .have p:=ko.mpr h0;have d:=q.den_pos;have e:(2:Nat)^30=1073741824:=by decide
  rw[<- D4];exact Sz.div (by omega) (show Sm 30 (3*q.num) from by show (3*q.num).natAbs<_;omega) (show Sm 30 (q.den:Int) from by show (q.den:Int).natAbs<_;omega) 101 (by decide) (by decide)
def FX:Sz 101 ((-9:Int):Rat):=⟨by show ((-9:Int):Rat).num.natAbs<_;exact I_ (show 9<2^4 by decide) (NG (by decide) (by decide)),by show (((-9:Int):Rat).den:Int).natAbs<_;exact I_ (show 1<2^4 by decide) (NG (by decide) (by decide))⟩
noncomputable def grB (k:Int) (b:Bx):Bx:=⟨((5:Int):Rat)/((7:Int):Rat),((-9:Int):Rat),(k:Rat)*b.w,(k:Rat)*b.h⟩
def yi{k:Int}(h:0<k):(0:Rat)<(k:Rat):=Rat.intCast_pos.mpr h
def Jd{i j m:Nat}{k:Int}{b:Bx}(hk:0<k)(hm:m<=6):b_ (fR i j (grB k b)) m=b_ (fR i j b) m:=rq hm λn hn=>by have W:=ub hn;have a:Al false (k:Rat) b (grB k b):=⟨yi hk,rfl,rfl⟩;have e1:=qH W a i;have e2:=qH W a j;unfold fR;rw[show wr i (grB k b) (ch n)=wr i b (ch n) from e1,show wr j (grB k b) (ch n)=wr j b (ch n) from e2]
def GH{i j m:Nat}{b:Bx}(hm:m<=6):b_ (fR (ovR i) (ovR j) b.trn) m=b_ (fR i j b) m:=rq hm λn hn=>by have W:=ub hn;have a:Al true 1 b b.trn:=⟨by decide,by show b.w=1*b.w;rw[Rat.one_mul],by show b.h=1*b.h;rw[Rat.one_mul]⟩;have e1:=qH W a i;have e2:=qH W a j;unfold fR;rw[show wr (ovR i) b.trn (ch n)=wr i b (ch n) from e1,show wr (ovR j) b.trn (ch n)=wr j b (ch n) from e2]
def tj{f:List Int->Bool}{m:Nat}{w:List Int}(h:b_ f m=some w):f w=true:=List.find?_some h
def iO{i j m:Nat}{b:Bx}{w:List Int}(h:b_ (fR i j b) m=some w):aS (oV (b_ (fR j i b) m)) (oV (some w))=some false:=by
 cases hb:b_ (fR j i b) m with
 |none=>exact eqN' w
 |some w'=>refine eqF λz=>?_;subst z;have a1:=tj h;have a2:=tj hb;unfold fR at a1 a2;exact PK.mpr (Rat.le_of_lt (Oa a1)) (Oa a2)
def lawQ(r:SR3):Prop:=gk [false] r=.ok (.val (.bl true)) []
def HX(ns:List Int)(hl:ns.length<=63):qT.G [.kl (ns.map .int)]=.ok (.val (.bl true)) []:=by
 unfold qT;rw[lP rfl];show lawQ (xX.G [.sh (.kl (ns.map .int)),.no,.no,.no,.no,.no,.no,.no,.no,.no,.no,.no,.no,.no]);unfold xX;generalize hkl:(Val.kl (ns.map .int))=kl;obtain⟨v0,e0,f0⟩:=Gv (ns:=ns) hl;rw[hkl] at e0;refine aC (λe=>e=[.sh kl,.ow v0,.no,.no,.no,.no,.no,.no,.no,.no,.no,.no,.no,.no]) ⟨_,by simp![e0],rfl⟩ ?_;rintro _ rfl;refine aC (λe=>e=[.sh kl,.ow v0,.sh (.lst [.str "across",.str "down",.str "halves",.str "rows",.str "greatest",.str "thirds"]),.no,.no,.no,.no,.no,.no,.no,.no,.no,.no,.no]) ⟨_,by simp![eP],rfl⟩ ?_;rintro _ rfl;obtain⟨r1,v1,d1,f1,r10,r11⟩:=br (m:=6) f0 (by omega) (by decide) (sm8 (by decide));obtain⟨r2,v2,d2,f2,r20,r21⟩:=br (m:=6) f1 (by omega) (by decide) (sm8 (by decide));obtain⟨i,hi,ai⟩:=wU r10 r11;obtain⟨j,hj,aj⟩:=wU r20 r21;generalize hru:([.str "across",.str "down",.str "halves",.str "rows",.str "greatest",.str "thirds"]:List Val)=rl at *;refine aC (λe=>e=[.sh kl,.ow v2,.sh (.lst rl),.sh (.str (nmR i)),.sh (.str (nmR j)),.no,.no,.no,.no,.no,.no,.no,.no,.no]) ⟨_,by generalize nmR i=nm at *;generalize nmR j=nn at *;simp![d1,d2,ai,aj],rfl⟩ ?_;rintro _ rfl;have o1:=DK i hi;have o2:=DK j hj;clear ai aj hi hj d1 d2 e0;generalize Val.lst rl=rv at *;clear hru;obtain⟨b,v3,g,f3,e3⟩:=Gf f2 (by omega);refine aC (λe=>e=[.sh kl,.ow v3,.sh rv,.sh (.str (nmR i)),.sh (.str (nmR j)),.sh (bV b),.no,.no,.no,.no,.no,.no,.no,.no]) ⟨_,by generalize bV b=bv at *;simp![e3],rfl⟩ ?_;rintro _ rfl;obtain⟨r4,v4,d4,f4,r40,r41⟩:=br (m:=5) f3 (by omega) (by decide) (sm8 (by decide));refine aC (λe=>e=[.sh kl,.ow v4,.sh rv,.sh (.str (nmR i)),.sh (.str (nmR j)),.sh (bV b),.sh (.int (1+r4)),.no,.no,.no,.no,.no,.no,.no]) ⟨_,by generalize bV b=bv at *;simp![d4],rfl⟩ ?_;rintro _ rfl;clear d4 e3 f0 f1 f2 f3 f4;have i0:∀a b c d:Val,atI [a,b,c,d] 0=some a:=λ_ _ _ _=>bj (by decide) rfl;have i1:∀a b c d:Val,atI [a,b,c,d] 1=some b:=λ_ _ _ _=>bj (by decide) rfl;have i2:∀a b c d:Val,atI [a,b,c,d] 2=some c:=λ_ _ _ _=>bj (by decide) rfl;have i3:∀a b c d:Val,atI [a,b,c,d] 3=some d:=λ_ _ _ _=>bj (by decide) rfl;have j0:∀a b:Val,atI [a,b] 0=some a:=λ_ _=>bj (by decide) rfl;have j1:∀a b:Val,atI [a,b] 1=some b:=λ_ _=>bj (by decide) rfl;have ct:aY.G (fV b.w) (fV b.h)=.val (.tup ([b.w.num,(b.w.den:Int),b.h.num,(b.h.den:Int)].map .int)):=rfl;have mx:=IF (ns:=[b.w.num,(b.w.den:Int),b.h.num,(b.h.den:Int)]) (by simp);have pw:ij.G (.int 10) (.int 6)=.val (.int 1000000):=xM ⟨by decide,by decide,by decide⟩;have bx:bV b=.tup [fV b.l,fV b.t,fV b.w,fV b.h]:=rfl;obtain⟨bc,kb,hbc,kb0,hw,hh,kbe⟩:∃(bc:Bool) (kb:Int),decide (mxI [b.w.num,(b.w.den:Int),b.h.num,(b.h.den:Int)]>1000000)=bc/\0<kb/\(kb=1\/kb=3/\b.w.num<=1000000/\(b.w.den:Int)<=1000000)/\(kb=1\/kb=3/\b.h.num<=1000000/\(b.h.den:Int)<=1000000)/\kb=(if bc=true then 1 else 3):=by
  by_cases hc:mxI [b.w.num,(b.w.den:Int),b.h.num,(b.h.den:Int)]>1000000
  .exact⟨true,1,Em hc,by decide,.inl rfl,.inl rfl,rfl⟩
  .have hc':mxI [b.w.num,(b.w.den:Int),b.h.num,(b.h.den:Int)]<=1000000:=by omega
   obtain⟨_,a1,a2⟩:=DH hc' (by simp) (by simp) g.ok.1;obtain⟨_,a3,a4⟩:=DH hc' (q:=b.h) (by simp) (by simp) g.ok.2;exact⟨false,3,w_ hc,by decide,.inr ⟨rfl,a1,a2⟩,.inr ⟨rfl,a3,a4⟩,rfl⟩
 generalize ([b.w.num,(b.w.den:Int),b.h.num,(b.h.den:Int)].map Val.int)=mv at *;generalize mxI [b.w.num,(b.w.den:Int),b.h.num,(b.h.den:Int)]=mm at *;refine aC (λe=>∃m:Nat,1<=m/\m<6/\e=[.sh kl,.ow v4,.sh rv,.sh (.str (nmR i)),.sh (.str (nmR j)),.sh (bV b),.sh (.int (m:Nat)),.no,.no,.no,.no,.no,.no,.no]) ?_ ?_
 .rw[bx];cases bc with
  |
   true=>
   by_cases z:(3:Int)<1+r4
   .refine⟨_,?_,3,by decide,by decide,rfl⟩;generalize fV b.l=b1 at *;generalize fV b.t=b2 at *;generalize fV b.w=b3 at *;generalize fV b.h=b4 at *;simp![i2,i3,ct,mx,pw,hbc,if_pos z]
   .obtain⟨m,hm⟩:∃m:Nat,(m:Int)=1+r4:=⟨(1+r4).toNat,by omega⟩;refine⟨_,?_,m,by omega,by omega,rfl⟩;rw[hm];generalize fV b.l=b1 at *;generalize fV b.t=b2 at *;generalize fV b.w=b3 at *;generalize fV b.h=b4 at *;simp![i2,i3,ct,mx,pw,hbc,if_neg z]
  |false=>obtain⟨m,hm⟩:∃m:Nat,(m:Int)=1+r4:=⟨(1+r4).toNat,by omega⟩;refine⟨_,?_,m,by omega,by omega,rfl⟩;rw[hm];generalize fV b.l=b1 at *;generalize fV b.t=b2 at *;generalize fV b.w=b3 at *;generalize fV b.h=b4 at *;simp![i2,i3,ct,mx,pw,hbc]
 rintro _ ⟨m,m1,m6,rfl⟩;clear r40 r41 r10 r11 r20 r21;have fe:=ki i j g m1 (show m<7 by omega);refine aC (λe=>e=[.sh kl,.ow v4,.sh rv,.sh (.str (nmR i)),.sh (.str (nmR j)),.sh (bV b),.sh (.int (m:Nat)),.sh (oV (b_ (fR i j b) m)),.no,.no,.no,.no,.no,.no]) ⟨_,by generalize oV (b_ (fR i j b) m)=ov at *;generalize bV b=bv at *;generalize nmR i=nm at *;generalize nmR j=nn at *;simp![fe],rfl⟩ ?_;rintro _ rfl;have fe2:=ki i j g (show 1<=m+1 by omega) (show m+1<7 by omega);rw[show ((m+1:Nat):Int)=(m:Int)+1 from rfl] at fe2;refine aC (λe=>e=[.sh kl,.ow v4,.sh rv,.sh (.str (nmR i)),.sh (.str (nmR j)),.sh (bV b),.sh (.int (m:Nat)),.sh (oV (b_ (fR i j b) m)),.sh (oV (b_ (fR i j b) (m+1))),.no,.no,.no,.no,.no]) ⟨_,by generalize oV (b_ (fR i j b) m)=ov at *;generalize oV (b_ (fR i j b) (m+1))=o2 at *;generalize bV b=bv at *;generalize nmR i=nm at *;generalize nmR j=nn at *;simp![fe2],rfl⟩ ?_;rintro _ rfl;have fs:=ki i i g m1 (show m<7 by omega);rw[CQ] at fs;refine aC (λe=>e=[.sh kl,.ow v4,.sh rv,.sh (.str (nmR i)),.sh (.str (nmR j)),.sh (bV b),.sh (.int (m:Nat)),.sh (oV (b_ (fR i j b) m)),.sh (oV (b_ (fR i j b) (m+1))),.no,.no,.no,.no,.no]) ⟨_,by
  rw[show oV none=.non from rfl] at fs;cases hf:b_ (fR i j b) m with
  |none=>rw[show oV none=.non from rfl];generalize oV (b_ (fR i j b) (m+1))=o2 at *;generalize bV b=bv at *;generalize nmR i=nm at *;generalize nmR j=nn at *;simp![fs]
  |some w=>have q:=eqO (some w);rw[Bn hf];rw[show oV (some w)=.lst (w.map .int) from rfl] at *;generalize w.map Val.int=wv at *;generalize bV b=bv at *;generalize nmR i=nm at *;generalize nmR j=nn at *;simp![fs,q],rfl⟩ ?_
 rintro _ rfl;refine aC (λe=>e=[.sh kl,.ow v4,.sh rv,.sh (.str (nmR i)),.sh (.str (nmR j)),.sh (bV b),.sh (.int (m:Nat)),.sh (oV (b_ (fR i j b) m)),.sh (oV (b_ (fR i j b) (m+1))),.no,.no,.no,.no,.no]) ⟨_,by
  cases hf:b_ (fR i j b) m with
  |some w=>rw[show oV (some w)=.lst (w.map .int) from rfl];generalize oV (b_ (fR i j b) (m+1))=o2 at *;generalize w.map Val.int=wv at *;generalize bV b=bv at *;simp![eP]
  |
   none=>
   rw[show oV none=.non from rfl];cases hg:b_ (fR i j b) (m+1) with
   |none=>rw[show oV none=.non from rfl];generalize bV b=bv at *;simp![eP]
   |some w=>have s:=FD m6 hf hg;have iv:=bp w;rw[show oV (some w)=.lst (w.map .int) from rfl];generalize w.map Val.int=wv at *;generalize bV b=bv at *;simp![iv,s];simp,rfl⟩ ?_
 rintro _ rfl;have l1:liV (ch 0)=.lst [.int 1]:=rfl;refine aC (λe=>e=[.sh kl,.ow v4,.sh rv,.sh (.str (nmR i)),.sh (.str (nmR j)),.sh (bV b),.sh (.int (m:Nat)),.sh (oV (b_ (fR i j b) m)),.sh (oV (b_ (fR i j b) (m+1))),.sh (liV (ch 0)),.no,.no,.no,.no]) ⟨_,by rw[l1];generalize oV (b_ (fR i j b) m)=ov at *;generalize oV (b_ (fR i j b) (m+1))=o2 at *;generalize bV b=bv at *;simp![eP],rfl⟩ ?_;rintro _ rfl;obtain⟨p,p1,p2,p3⟩:=jQ (fR i j b) (2^(m+1)-1);rw[show ((List.range (2^(m+1)-1)).map ch).find? (fR i j b)=b_ (fR i j b) (m+1) from rfl] at p3;have hs:(p<2^(m+1)-1/\fR i j b (ch p)=true/\b_ (fR i j b) (m+1)=some (ch p))\/(p=2^(m+1)-1/\b_ (fR i j b) (m+1)=none):=p3;have wl:=pE (i:=i) (j:=j) (x0:=.sh kl) (x1:=.ow v4) (x2:=.sh rv) (x7:=.sh (oV (b_ (fR i j b) m))) (x10:=.no) (x11:=.no) (x12:=.no) (x13:=.no) g m6 p1 p2 hs p 0 (PJ p);refine aC (λe=>e=[.sh kl,.ow v4,.sh rv,.sh (.str (nmR i)),.sh (.str (nmR j)),.sh (bV b),.sh (.int (m:Nat)),.sh (oV (b_ (fR i j b) m)),.sh (oV (b_ (fR i j b) (m+1))),.sh (liV (ch p)),.no,.no,.no,.no]) ⟨_,wl,rfl⟩ ?_;rintro _ rfl;clear wl;generalize liV (ch p)=wp;refine aC (λe=>e=[.sh kl,.ow v4,.sh rv,.sh (.str (nmR i)),.sh (.str (nmR j)),.sh (bV b),.sh (.int (m:Nat)),.sh (oV (b_ (fR i j b) m)),.sh (oV (b_ (fR i j b) (m+1))),.sh wp,.no,.no,.no,.no]) ⟨_,by
  rcases hs with ⟨pl,pt,pe⟩ |⟨_,pe⟩
  .have W:=ub (n:=p) (by have:=qF (m:=m+1) (by omega);omega);have ib:=zj i j g W;rw[pt] at ib;rw[pe];rw[show oV (some (ch p))=.lst ((ch p).map .int) from rfl];rw[show liV (ch p)=.lst ((ch p).map .int) from rfl] at ib;generalize (ch p).map Val.int=cv at *;generalize oV (b_ (fR i j b) m)=ov at *;generalize bV b=bv at *;generalize nmR i=nm at *;generalize nmR j=nn at *;simp![ib]
  .rw[pe,show oV none=.non from rfl];generalize oV (b_ (fR i j b) m)=ov at *;generalize bV b=bv at *;generalize nmR i=nm at *;generalize nmR j=nn at *;simp![eP],rfl⟩ ?_
 rintro _ rfl;clear hs p3 p1 p2 fs fe2;generalize oV (b_ (fR i j b) (m+1))=o2;refine aC (λe=>e=[.sh kl,.ow v4,.sh rv,.sh (.str (nmR i)),.sh (.str (nmR j)),.sh (bV b),.sh (.int (m:Nat)),.sh (oV (b_ (fR i j b) m)),.sh o2,.sh wp,.sh (bV b.trn),.no,.no,.no]) ⟨_,by rw[bx,show bV b.trn=.tup [fV b.t,fV b.l,fV b.h,fV b.w] from rfl];generalize oV (b_ (fR i j b) m)=ov at *;generalize fV b.l=b1 at *;generalize fV b.t=b2 at *;generalize fV b.w=b3 at *;generalize fV b.h=b4 at *;simp![i0,i1,i2,i3],rfl⟩ ?_;rintro _ rfl;have ft:=ki (ovR i) (ovR j) (Df g) m1 (show m<7 by omega);rw[GH (by omega)] at ft;have qo:=eqO (b_ (fR i j b) m);refine aC (λe=>e=[.sh kl,.ow v4,.sh rv,.sh (.str (nmR i)),.sh (.str (nmR j)),.sh (bV b),.sh (.int (m:Nat)),.sh (oV (b_ (fR i j b) m)),.sh o2,.sh wp,.sh (bV b.trn),.no,.no,.no]) ⟨_,by generalize oV (b_ (fR i j b) m)=ov at *;generalize bV b.trn=tv at *;generalize bV b=bv at *;generalize nmR i=nm at *;generalize nmR j=nn at *;simp![o1,o2,ft,qo],rfl⟩ ?_;rintro _ rfl;generalize bV b.trn=tv at *;refine aC (λe=>e=[.sh kl,.ow v4,.sh rv,.sh (.str (nmR i)),.sh (.str (nmR j)),.sh (bV b),.sh (.int (m:Nat)),.sh (oV (b_ (fR i j b) m)),.sh o2,.sh wp,.sh tv,.sh (.int kb),.no,.no]) ⟨_,by
  rw[bx];generalize oV (b_ (fR i j b) m)=ov at *;generalize fV b.l=b1 at *;generalize fV b.t=b2 at *;generalize fV b.w=b3 at *;generalize fV b.h=b4 at *;have t2:∀x:Int,aG.G (.int 2) (.int x)=.val (.int (2*x)):=λx=>bz (CMulA.left (by decide) (by decide));cases bc with
  |true=>rw[show kb=1 from kbe];simp![i2,i3,ct,mx,pw,hbc,t2];try rfl
  |false=>rw[show kb=3 from kbe];simp![i2,i3,ct,mx,pw,hbc,t2];try rfl,rfl⟩ ?_
 rintro _ rfl;clear hbc kbe mx ct ft;have gr:Good (grB kb b):=⟨⟨Rat.mul_pos (yi kb0) g.ok.1,Rat.mul_pos (yi kb0) g.ok.2⟩,⟨lA (by decide) (by decide) (by decide),FX,k_sz g.ok.1 g.sz.w hw,k_sz g.ok.2 g.sz.h hh⟩⟩;have c1:aG.G (.int kb) (.int b.w.num)=.val (.int (kb*b.w.num)):=bz (CMulA.left (by omega) (by omega));have c2:aG.G (.int kb) (.int b.h.num)=.val (.int (kb*b.h.num)):=bz (CMulA.left (by omega) (by omega));have w1:=iQ (a:=kb*b.w.num) (b:=b.w.den) (by have:=b.w.den_pos;omega) (g.sz.w.bot.mono (by decide));have w2:=iQ (a:=kb*b.h.num) (b:=b.h.den) (by have:=b.h.den_pos;omega) (g.sz.h.bot.mono (by decide));rw[D4] at w1 w2;have z1:(.tup [.int 5,.int 7]:Val)=fV (((5:Int):Rat)/((7:Int):Rat)):=by show _=Val.tup [.int (((5:Int):Rat)/((7:Int):Rat)).num,.int ((((5:Int):Rat)/((7:Int):Rat)).den:Nat)];rw[show (((5:Int):Rat)/((7:Int):Rat)).num=5 by decide,show (((5:Int):Rat)/((7:Int):Rat)).den=7 by decide];rfl
 have z2:(.tup [.int (-9),.int 1]:Val)=fV ((-9:Int):Rat):=rfl;refine aC (λe=>e=[.sh kl,.ow v4,.sh rv,.sh (.str (nmR i)),.sh (.str (nmR j)),.sh (bV b),.sh (.int (m:Nat)),.sh (oV (b_ (fR i j b) m)),.sh o2,.sh wp,.sh tv,.sh (.int kb),.sh (bV (grB kb b)),.no]) ⟨_,by rw[show bV (grB kb b)=.tup [fV (((5:Int):Rat)/((7:Int):Rat)),fV ((-9:Int):Rat),fV ((kb:Rat)*b.w),fV ((kb:Rat)*b.h)] from rfl,<- z1,<- z2,bx,show fV b.w=.tup [.int b.w.num,.int b.w.den] from rfl,show fV b.h=.tup [.int b.h.num,.int b.h.den] from rfl];generalize oV (b_ (fR i j b) m)=ov at *;generalize fV ((kb:Rat)*b.w)=g1 at *;generalize fV ((kb:Rat)*b.h)=g2 at *;generalize fV b.l=b1 at *;generalize fV b.t=b2 at *;generalize b.w.num=n1 at *;generalize b.h.num=n2 at *;generalize (b.w.den:Int)=n3 at *;generalize (b.h.den:Int)=n4 at *;simp![i2,i3,j0,j1,c1,c2,w1,w2],rfl⟩ ?_;rintro _ rfl;have fg:=ki i j gr m1 (show m<7 by omega);rw[Jd kb0 (by omega)] at fg;have fb:=ki j i g m1 (show m<7 by omega);clear w1 w2 c1 c2 z1 z2 gr hw hh bx;refine aC (λe=>e=[.sh kl,.ow v4,.sh rv,.sh (.str (nmR i)),.sh (.str (nmR j)),.sh (bV b),.sh (.int (m:Nat)),.sh (oV (b_ (fR i j b) m)),.sh o2,.sh wp,.sh tv,.sh (.int kb),.sh (bV (grB kb b)),.no]) ⟨_,by generalize oV (b_ (fR i j b) m)=ov at *;generalize bV (grB kb b)=gv at *;generalize bV b=bv at *;generalize nmR i=nm at *;generalize nmR j=nn at *;simp![fg,qo],rfl⟩ ?_;rintro _ rfl;generalize bV (grB kb b)=gv at *;refine aC (λe=>e=[.sh kl,.ow v4,.sh rv,.sh (.str (nmR i)),.sh (.str (nmR j)),.sh (bV b),.sh (.int (m:Nat)),.sh (oV (b_ (fR i j b) m)),.sh o2,.sh wp,.sh tv,.sh (.int kb),.sh gv,.sh (oV (b_ (fR j i b) m))]) ⟨_,by generalize oV (b_ (fR i j b) m)=ov at *;generalize oV (b_ (fR j i b) m)=o3 at *;generalize bV b=bv at *;generalize nmR i=nm at *;generalize nmR j=nn at *;simp![fb],rfl⟩ ?_;rintro _ rfl;unfold lawQ;cases hf:b_ (fR i j b) m with
 |none=>rw[show oV none=.non from rfl];generalize oV (b_ (fR j i b) m)=o3 at *;generalize bV b=bv at *;simp![gb]
 |some w=>have bn:=iO hf;rw[show oV (some w)=.lst (w.map .int) from rfl] at *;generalize oV (b_ (fR j i b) m)=o3 at *;generalize w.map Val.int=wv at *;generalize bV b=bv at *;simp![bn,gb]
end KK
namespace PySem.W.Fast
def q__:=trivial
def tw10039748061266396568:=q__
def tw10070772678140001784:=q__
def tw10081244949657109897:=q__
def tw10163505129428897725:=q__
def tw10171491620283069636:=q__
def tw10208095771317102577:=q__
def tw1021769037796820502:=q__
def tw10237375848175059979:=q__
def tw10333873185847018452:=q__
def tw1033617159171744848:=q__
def tw10349751028653489089:=q__
def tw10386633254790097634:=q__
def tw10516341579030949968:=q__
def tw10522911738701510866:=q__
def tw10546336744321856436:=q__
def tw10579489348125039323:=q__
def tw10621138792844501231:=q__
def tw10624809315132013546:=q__
def tw10683437772609964725:=q__
def tw1075723302421047582:=q__
def tw10766370152974639640:=q__
def tw10774849681856733288:=q__
def tw10803757676395632722:=q__
def tw10811999908820529079:=q__
def tw10847803868967548137:=q__
def tw10868748166831602954:=q__
def tw10905234334940162895:=q__
def tw10912828858495610699:=q__
def tw10924585019205378068:=q__
def tw11147014516101879344:=q__
def tw11154323189707793978:=q__
def tw11164654601561778742:=q__
def tw11172269991035704797:=q__
def tw11291715064699508335:=q__
def tw11317097750135980223:=q__
def tw11333878128563181913:=q__
def tw11372186202182841222:=q__
def tw11396599835489595978:=q__
def tw11398488451023214409:=q__
def tw11403543525240530545:=q__
def tw11416412403268666758:=q__
def tw11562334595066075054:=q__
def tw1156776409563502473:=q__
def tw11571144577263065055:=q__
def tw1159623234765625672:=q__
def tw11599091973165719162:=q__
def tw11608541583169426268:=q__
def tw11623543065474430438:=q__
def tw11661780160667042661:=q__
def tw11728758000197403511:=q__
def tw11772554100775890812:=q__
def tw11805516972523664177:=q__
def tw1183609865851143558:=q__
def tw11845497233862487401:=q__
def tw11903297276086728141:=q__
def tw11947168868005980535:=q__
def tw12144760079614306325:=q__
def tw12147646935678499231:=q__
def tw12148458693351968737:=q__
def tw12154563817550116145:=q__
def tw12162470777765614773:=q__
def tw12164707821990874191:=q__
def tw12221440338103646741:=q__
def tw12251948044984358090:=q__
def tw12293202825103681623:=q__
def tw12293291936948637897:=q__
def tw12299204164381050903:=q__
def tw12313794402340448808:=q__
def tw12384256686856061709:=q__
def tw12391496145573306080:=q__
def tw12403135975418241427:=q__
def tw12412585270676891726:=q__
def tw1243698231123117845:=q__
def tw12450324516263251567:=q__
def tw12455616472928346764:=q__
def tw12456965830720279561:=q__
def tw12493625178622746355:=q__
def tw12523098412926411191:=q__
def tw1253024329899517135:=q__
def tw12553210599021233521:=q__
def tw12602983511107523244:=q__
def tw12610700013773482079:=q__
def tw12638225627000268586:=q__
def tw12758938620562270370:=q__
def tw1277961230499649364:=q__
def tw12821038025212816947:=q__
def tw12824016057041658700:=q__
def tw12843797999313803247:=q__
def tw1285203980272459413:=q__
def tw1285434790837745001:=q__
def tw12896058335553047731:=q__
def tw12900720021700509500:=q__
def tw12944982768178884473:=q__
def tw12968546284695539192:=q__
def tw13016064159609772029:=q__
def tw13022677941155618074:=q__
def tw13029208147778534093:=q__
def tw13068494053520424681:=q__
def tw13171697379972954601:=q__
def tw13188801606906564748:=q__
def tw13245260262092274059:=q__
def tw13287592101226764859:=q__
def tw13299785287554996284:=q__
def tw13329864535709781109:=q__
def tw1333102295023939512:=q__
def tw13343547864852059919:=q__
def tw13347574874046754837:=q__
def tw1335980699813812036:=q__
def tw1336219983124871309:=q__
def tw13367236240502782941:=q__
def tw13424220080394184600:=q__
def tw13465723828680790172:=q__
def tw13498911441071332001:=q__
def tw13505367134071846719:=q__
def tw13650921275388791716:=q__
def tw13698917529996544577:=q__
def tw13704196644657048346:=q__
def tw13709006947709662318:=q__
def tw14013428929863605189:=q__
def tw14036698914043811701:=q__
def tw14155956299779012555:=q__
def tw14175160929881268584:=q__
def tw14186433473552535679:=q__
def tw14209422069056548699:=q__
def tw14307281168931676199:=q__
def tw14312545155084795794:=q__
def tw14317142116398335998:=q__
def tw14330361762357927306:=q__
def tw14355265398007379183:=q__
def tw1439899453733107255:=q__
def tw14535769027505737959:=q__
def tw14537250470257894445:=q__
def tw14547073630465931754:=q__
def tw14551550131775080392:=q__
def tw14552818725556531413:=q__
def tw14553458731631756001:=q__
def tw14558011008333604823:=q__
def tw14574333393088046545:=q__
def tw14673800655910282808:=q__
def tw14733590535157570155:=q__
def tw14780645733081601979:=q__
def tw14784816018755634347:=q__
def tw14786811290322999125:=q__
def tw14857585370552827242:=q__
def tw14859855715327390953:=q__
def tw14993241827796396818:=q__
def tw1503259666834020196:=q__
def tw1503287177044337700:=q__
def tw15041355799525267202:=q__
def tw15110773209529746487:=q__
def tw15157401411750158512:=q__
def tw15215141948759042441:=q__
def tw15285319674335808191:=q__
def tw15304322284084953825:=q__
def tw15329878179577841802:=q__
def tw15391526464384053854:=q__
def tw15461609772488634264:=q__
def tw15484152861007790928:=q__
def tw15494894493774600352:=q__
def tw1551072939752485662:=q__
def tw15528635280612554636:=q__
def tw15570461657546884172:=q__
def tw15572518388538192321:=q__
def tw15647586438397032246:=q__
def tw15742840941469566915:=q__
def tw15771541836138546026:=q__
def tw15825280740569282088:=q__
def tw15863358241256580675:=q__
def tw15865088339860985885:=q__
def tw15871645797099688265:=q__
def tw15916295083467093908:=q__
def tw15955791836131990528:=q__
def tw16001415568910070791:=q__
def tw16093764619450913448:=q__
def tw16105348024389580366:=q__
def tw16138405750351911324:=q__
def tw16171342869894311094:=q__
def tw16226747883359296742:=q__
def tw16247380261478909184:=q__
def tw16272312888602458990:=q__
def tw16311605557577255093:=q__
def tw16386499168622115690:=q__
def tw16392805687422804916:=q__
def tw164304792236391822:=q__
def tw16504752256797905677:=q__
def tw16511636079862586298:=q__
def tw16552433831558074658:=q__
def tw16564234002335346517:=q__
def tw16571387218068198043:=q__
def tw16584164974447002255:=q__
def tw16636080102635772129:=q__
def tw16664921889412361825:=q__
def tw16671885837351910486:=q__
def tw16692802735438357620:=q__
def tw16720729473166111248:=q__
def tw16849188281938607447:=q__
def tw16864936482671708531:=q__
def tw16890994600130859381:=q__
def tw16904987657254283400:=q__
def tw16938352190855983293:=q__
def tw1699206874886023275:=q__
def tw17006770698093408540:=q__
def tw17010097930836762745:=q__
def tw17125116861435619651:=q__
def tw17280419144095165223:=q__
def tw17283042603676817161:=q__
def tw17306925305351943777:=q__
def tw17380356256443171151:=q__
def tw17381794831162783238:=q__
def tw1743828272958452465:=q__
def tw17453987394999535617:=q__
def tw17513426486881032545:=q__
def tw1754262915914934322:=q__
def tw17599741771777553694:=q__
def tw17629672216689662053:=q__
def tw17646979078121399865:=q__
def tw17673391370843277545:=q__
def tw17737392868362420472:=q__
def tw17779434854782542327:=q__
def tw17814913974265580077:=q__
def tw17837233780054597327:=q__
def tw17864127372644626765:=q__
def tw1787414263045313546:=q__
def tw17910272544906195386:=q__
def tw17935634841906944167:=q__
def tw17998559609065458554:=q__
def tw18129923669818502516:=q__
def tw18144194980633761798:=q__
def tw18145594298452365976:=q__
def tw18206324526359771497:=q__
def tw18242473627599690707:=q__
def tw18280645502772819559:=q__
def tw18284531691080676319:=q__
def tw18286800732532139142:=q__
def tw18290272923023190312:=q__
def tw18290293736900656930:=q__
def tw18320039656947082413:=q__
def tw18373044738823060157:=q__
def tw18388447869642287622:=q__
def tw18391061450738107839:=q__
def tw18408995124566996559:=q__
def tw18420212525989625216:=q__
def tw1842363318913354814:=q__
def tw1943220802909826838:=q__
def tw21179839134218336:=q__
def tw215719405742013876:=q__
def tw2181852211023245775:=q__
def tw2192076995091165525:=q__
def tw228992592437226964:=q__
def tw23057314722647709:=q__
def tw234463052629354009:=q__
def tw2442540750197343896:=q__
def tw2473168861881511692:=q__
def tw2499438684031106913:=q__
def tw2502442663870208547:=q__
def tw2534281407756455904:=q__
def tw2589973358764733666:=q__
def tw2595776334347942970:=q__
def tw2718396522171422861:=q__
def tw2727372366056339010:=q__
def tw2794849553854427912:=q__
def tw2816922236245940044:=q__
def tw2822044139648187296:=q__
def tw2881075992720869439:=q__
def tw292549303512908388:=q__
def tw2936685484185099429:=q__
def tw2951604361572756356:=q__
def tw2962820677091425551:=q__
def tw2965656073527062959:=q__
def tw2976596163044802891:=q__
def tw2979684471212100679:=q__
def tw3033276160556091828:=q__
def tw3071123353718089123:=q__
def tw3114710528107818260:=q__
def tw3134847024692195218:=q__
def tw3157070206676296604:=q__
def tw3162937682468511291:=q__
def tw3214821885896315025:=q__
def tw3224352131778832758:=q__
def tw3242519877340526910:=q__
def tw3270326267892881857:=q__
def tw3299866112149302909:=q__
def tw3312422186140049593:=q__
def tw3335943431558416911:=q__
def tw3432699950248521684:=q__
def tw3448003995479292970:=q__
def tw345956489562153588:=q__
def tw3474723352751336745:=q__
def tw352882050619367392:=q__
def tw3538057938408418517:=q__
def tw3566721739356988755:=q__
def tw3598621836129673110:=q__
def tw3641940233199829082:=q__
def tw3707424405047510952:=q__
def tw3708609530770835545:=q__
def tw3824281736355635789:=q__
def tw3859251572096449611:=q__
def tw3870738450161641318:=q__
def tw3888600064666928070:=q__
def tw3901325283223055334:=q__
def tw390251000356080908:=q__
def tw3917369406118443940:=q__
def tw3992734181950536278:=q__
def tw4023378787409294064:=q__
def tw4035438712137337945:=q__
def tw4047577189429812385:=q__
def tw4080152580950119648:=q__
def tw4091544738551069140:=q__
def tw4125344947127203308:=q__
def tw4173323826836699700:=q__
def tw4236511583257741708:=q__
def tw4264894101958070062:=q__
def tw4292149174298620902:=q__
def tw4300225081627020361:=q__
def tw4387863101319712816:=q__
def tw4395464206557802498:=q__
def tw4427050484340237364:=q__
def tw444489790402259092:=q__
def tw4456411270105921082:=q__
def tw4567079218072646212:=q__
def tw4585890902317939854:=q__
def tw4635150500325363944:=q__
def tw4673635932778026403:=q__
def tw469173733980697639:=q__
def tw4700415848692947845:=q__
def tw4711833882869565018:=q__
def tw4717308254768834239:=q__
def tw4737363365419855281:=q__
def tw4740587536388619152:=q__
def tw47586533786927940:=q__
def tw4765349165163380837:=q__
def tw4810357699951626371:=q__
def tw4836495220505371286:=q__
def tw4849851117541298:=q__
def tw4909808659904149794:=q__
def tw4923034341408941282:=q__
def tw5071039333089385899:=q__
def tw5072442262363074976:=q__
def tw5100792115355291306:=q__
def tw512858460794565007:=q__
def tw5190401424563790606:=q__
def tw519042512731217645:=q__
def tw5255495488442911774:=q__
def tw5256503231850600513:=q__
def tw5267143194345468312:=q__
def tw5322337172263779024:=q__
def tw5328655581533241487:=q__
def tw5333662209816796063:=q__
def tw5454561126817867606:=q__
def tw5463468938444306126:=q__
def tw5556304911588838130:=q__
def tw5565750520735875025:=q__
def tw5591817603562451025:=q__
def tw5610549912622715630:=q__
def tw5655623394702991962:=q__
def tw5661483767947151264:=q__
def tw5682921821183152769:=q__
def tw5712861191669487443:=q__
def tw5734491120068866644:=q__
def tw5750808155592874316:=q__
def tw5751960436424929233:=q__
def tw5825917368612559019:=q__
def tw5857828871588591078:=q__
def tw5924292073711005614:=q__
def tw5924618000248014526:=q__
def tw5968070066058336718:=q__
def tw5972806390376750303:=q__
def tw5995742172141019270:=q__
def tw6022606999908840609:=q__
def tw604294178304599227:=q__
def tw6093221229837806286:=q__
def tw611062467410920451:=q__
def tw6125891408420450034:=q__
def tw6152866158308225473:=q__
def tw6188939787364182448:=q__
def tw6193644461375534225:=q__
def tw6277502671624235740:=q__
def tw6287640296627857688:=q__
def tw6344718994502840073:=q__
def tw6412583901936960232:=q__
def tw6425038740111420916:=q__
def tw643827836084668505:=q__
def tw6464175067344858483:=q__
def tw6464312686548377750:=q__
def tw6480023372908417797:=q__
def tw6502864169693189338:=q__
def tw6514861938916058820:=q__
def tw6548034489832301085:=q__
def tw655093794897331936:=q__
def tw6633395880578569031:=q__
def tw6675507900192635297:=q__
def tw6687608828232499413:=q__
def tw6722685091285683472:=q__
def tw6786659713141541209:=q__
def tw6818533650643557287:=q__
def tw6900681283663976312:=q__
def tw6912242616304362873:=q__
def tw6924197619157988495:=q__
def tw6929419669634605799:=q__
def tw694284979721083811:=q__
def tw7074843131913896975:=q__
def tw7114129126303778033:=q__
def tw7139197011771157868:=q__
def tw7228882251520952642:=q__
def tw7258662908523993456:=q__
def tw7264159201609350484:=q__
def tw7268106591363042795:=q__
def tw7293578228783983659:=q__
def tw7298900856140282631:=q__
def tw7318267498565852170:=q__
def tw7347001491327487547:=q__
def tw7364275185840292192:=q__
def tw7444452645198927920:=q__
def tw7455750353912547769:=q__
def tw7470301397094277153:=q__
def tw7480765791572163913:=q__
def tw7497730273287995250:=q__
def tw7543380201114473679:=q__
def tw7597163152225586326:=q__
def tw7618370734993270552:=q__
def tw7639972352024023876:=q__
def tw765767090468912722:=q__
def tw7657740115853679816:=q__
def tw7661875964930411988:=q__
def tw7665428509391380285:=q__
def tw7666039013293786559:=q__
def tw7704877580512469845:=q__
def tw7708305706254216437:=q__
def tw778112057372073572:=q__
def tw7789284761230661379:=q__
def tw7794860858181357056:=q__
def tw7893465078493243153:=q__
def tw7911022586716826452:=q__
def tw79207444970325180:=q__
def tw7948695869748462928:=q__
def tw8044944509334985800:=q__
def tw808731840546830199:=q__
def tw8132226535829292625:=q__
def tw8161102978807845310:=q__
def tw8163429099096380051:=q__
def tw8213665565970271519:=q__
def tw8299261031814140851:=q__
def tw8392003443925894830:=q__
def tw8442969414139774997:=q__
def tw845566285376149147:=q__
def tw8499972438537680534:=q__
def tw852007631027471236:=q__
def tw862126672731682776:=q__
def tw8660670787477494618:=q__
def tw8663898844480100260:=q__
def tw8688134494908834308:=q__
def tw8712149582992758357:=q__
def tw8720456845321124304:=q__
def tw8780019439550533487:=q__
def tw8785712480097878736:=q__
def tw8924387014797146952:=q__
def tw8956898461693189347:=q__
def tw8966761452785309492:=q__
def tw8973462236701013216:=q__
def tw8974549742435634198:=q__
def tw9007333766836511112:=q__
def tw9046853065146373323:=q__
def tw924031739624867612:=q__
def tw9252545757644592188:=q__
def tw9305753051361845051:=q__
def tw9363552694551604164:=q__
def tw9421803422168031718:=q__
def tw9445398856345383699:=q__
def tw959083606305321599:=q__
def tw9593612937564380640:=q__
def tw9595126565500410965:=q__
def tw9646965795335426780:=q__
def tw9720227682377393433:=q__
def tw9761206474359390633:=q__
def tw9767090679087866112:=q__
def tw980642792291198281:=q__
def tw9878213474101965986:=q__
def tw9879913115673468539:=q__
def tw9881949573648293690:=q__
def tw988668204626568988:=q__
end PySem.W.Fast
open PySem PySem.W PyProof.Rows L2 L3 KK
set_option maxRecDepth 100000 in
set_option maxHeartbeats 0 in
theorem PySem.Challenge.cw_weightrooms_k64_whole_held_against_one_a_holds : PySem.Challenge.rw_weightrooms_k64_whole_held_against_one_a.Holds := by
 w_on;o_law;k_head;(case hw=>w_witness2)
 k_fill
 refine L2.walk_lawT (l:=PySem.Challenge.rw_weightrooms_k64_whole_held_against_one_a) (x:="_law_script") (k:=58) rfl rfl ⟨rfl,by decide,by decide⟩ (λw h Y=>⟨W.km_in_of Y,E8 (by kernel_rfl) (W.km_tabs_of Y)⟩) ?F ?D
 case F=>
  intro w mg h KX G base kb nb;refine M1 qT (E6 ⟨⟨KR KX G (by kernel_rfl),?_⟩,GF KX G (by kernel_rfl)⟩) (GQ KX G (by kernel_rfl)) rfl HX;repeat first
   |exact trivial
   |refine⟨by refine' zd KX G ?a ?l ?c ?k;(case a=>k_is);(case l=>k_is);(case c=>k_is);(case k=>k_is),?_⟩
 case D=>
  intro w mg h KX G;refine⟨top 79,?_,(λ_ _ _ _ _ _=>ar1 λ_=>rfl)⟩;refine' zd KX G ?a ?l ?c ?k;case a|l|c|k=>k_is
