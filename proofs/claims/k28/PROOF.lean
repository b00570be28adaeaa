import PyProof.Rows.All
import Wide.All
import OpenK.AllK
import Wide.FinOn
import Lean
import PyProof.EqAt
import PyProof.EqKinds
import PyProof.TupleCall
import PyProof.Rows.SumAny
import PyProof.EnumMake
import PyProof.Draws
import PyProof.ZipIter
import KE.KNestM
import KE.KUnpack
import KE.KxIndex
import PyProof.SetRoads
import PyProof.SetNew
import PyProof.AutoSeq1
import KE.KRevSl
import PyProof.SeqI3
import PyProof.Rows.SortWalk
import PyProof.Rows.Range3
import KE.KSortTup
import KE.KLam
import PyProof.Rows.SetFrom
import PySem.Challenge.RW_weightrooms_k28_bounds_told
local macro_rules|`(tactic|trivial)=>`(tactic|first|exact Or.inl rfl|exact Or.inr rfl)
local macro_rules|`(tactic|decide)=>`(tactic|decide +kernel)
set_option genSizeOf false
set_option genInjectivity false
set_option bootstrap.genMatcherCode false
noncomputable section
set_option Elab.async false
set_option linter.all false
def j_:=@PySem.wpAny_bind
def k_:=@List.length_map
def l_:=@List.mem_cons_of_mem
def m_:=@List.mem_cons_self
def n_:=@Nat.le_refl
def o_:=@List.map_cons
def p_:=@List.getElem?_eq_some_iff
def r_:=@Bool.and_eq_true
def s_:=@Bool.false_ne_true
def t_:=@PySem.Heap.get?_push_of_some
def u_:=@List.length_append
def v_:=@PySem.wpAny_pure
def w_:=@PySem.Heap.lt_size
def x_:=@List.size_toArray
def y_:=@List.getElem?_eq_getElem
def z_:=@decide_eq_false
def A_:=@Nat.lt_of_lt_of_le
def B_:=@List.length_cons
def C_:=@Nat.le_trans
def D_:=@decide_eq_true
def Em:=@PySem.Heap.get?_push_size
def E_:=@List.mem_cons
def F_:=@beq_eq_false_iff_ne
def G_:=@Option.some.inj
def H_:=@List.length_set
def I_:=@Option.map_eq_some_iff
def J_:=@List.getElem?_append_left
def K_:=@List.map_nil
def L_:=@List.getElem?_map
def M_:=@List.all_eq_true
def NV:=@Option.bind_eq_some_iff
def NW:=@List.getD_eq_getElem?_getD
def NX:=@List.getElem?_append_right
def NY:=@Nat.ne_of_lt
def NZ:=@List.mem_append_right
def N0:=@List.map_append
def N1:=@List.sum_cons
def N2:=@Nat.zero_le
def N3:=@List.length_nil
def N4:=@Nat.mul_le_mul
def N5:=@beq_iff_eq
def N6:=@PySem.wpAny_mono
def N7:=@List.append_nil
def N8:=@Rat.intCast_mul
def N9:=@List.contains_iff_mem
def N_:=@List.length_range
def Oa:=@congrArg
def Od:=@List.find?_cons
def Oe:=@Nat.pow_le_pow_right
def Of:=@Int.toNat_natCast
def Og:=@List.mem_map
def Oh:=@List.mem_range
def Oi:=@List.nil_append
def Oj:=@PySem.wpAny_field
def Ol:=@PyProof.Rows.callWith_type1
def Om:=@List.getElem?_replicate
def Oo:=@Int.natAbs_mul
def Oq:=@PySem.wpAny_newObj_type
def Ot:=@List.mem_append
def Ou:=@List.length_replicate
def Ov:=@Option.isSome_iff_exists
def Ow:=@Int.mul_assoc
def Ox:=@List.any_cons
def Oy:=@Nat.lt_irrefl
def Oz:=@Nat.mul_le_mul_right
def OA:=@Array.length_toList
def OB:=@Nat.mul_le_mul_left
def OC:=@PySem.mem_of_lookup
def OD:=@List.mem_singleton
def OE:=@Nat.lt_of_le_of_lt
def OF:=@PySem.wpAny_Call_Name_kw
def OG:=@List.getElem?_eq_none_iff
def OH:=@Nat.mul_pos
def OI:=@List.append_assoc
def OJ:=@PySem.wpAny_callSpecial?_slot
def OK:=@List.filterMap_cons
def OL:=@List.lookup_cons
def OM:=@PySem.wpAny_seqItems
def ON:=@Nat.pow_add
def OO:=@PySem.wpAny_setField_rec
def OP:=@Int.natCast_mul
def OQ:=@List.getElem?_zipWith
def OR:=@PySem.wpAny_passesOwn
def OS:=@PySem.F.slot_tuple_iterator_next
def OT:=@decide_eq_true_eq
def OU:=@PySem.wpAny_truthy_bool
def OV:=@List.mem_of_getElem?
def OW:=@if_true
def OX:=@List.map_map
def OY:=@List.length_zipWith
def OZ:=@List.take_nil
def O0:=@PySem.wpAny_holding
def O1:=@Int.mul_ne_zero
def O2:=@List.nodup_cons
def O3:=@Nat.not_lt_zero
def O4:=@Rat.div_def
def O5:=@Int.mul_left_comm
def O6:=@of_decide_eq_true
def O7:=@List.dropLast_eq_take
def O8:=@List.length_singleton
def O9:=@List.mapM_cons
def O_:=@Nat.le_of_lt
def Pa:=@Nat.sub_self
def Pb:=@List.length_drop
def Pc:=@PySem.wpAny_call_entry
def Pd:=@Int.eq_of_mul_eq_mul_right
def Pe:=@Int.fmod_eq_emod_of_nonneg
def Pf:=@List.all_cons
def Pg:=@List.drop_nil
def Ph:=@Bool.or_eq_true
def Pj:=@Classical.byContradiction
def Pk:=@List.mem_or_eq_of_mem_set
def Pl:=@List.of_mem_zip
def Pm:=@Bool.false_eq_true
def Pn:=@Int.mul_comm
def Pp:=@Int.mul_right_comm
def Pq:=@Nat.ne_of_gt
def Pt:=@PySem.F.args_tuple_add_2
def Pu:=@PySem.Heap.size_push
def Pw:=@PySem.F.entry_tuple_add
def Px:=@List.getElem?_set
def Py:=@PySem.Heap.get?_update_other
def Pz:=@Int.mul_pos
def PC:=@Nat.le_mul_of_pos_left
def PD:=@PySem.F.slot_tuple_add
def PF:=@Nat.mul_assoc
def PH:=@PySem.wpAny_standAt
def PJ:=@List.getElem_mem
def PK:=@List.not_mem_nil
def PL:=@Nat.le_add_right
def PM:=@Bool.eq_iff_iff
def PN:=@PySem.F.slot_zip_next
def PQ:=@PySem.Heap.get?_none_of_le
def PR:=@List.getElem?_append
def PU:=@List.getElem?_set_ne
def PV:=@List.mem_append_left
def PX:=@List.range_eq_range'
def PY:=@Nat.lt_trans
def PZ:=@Rat.num_eq_zero
def P0:=@PySem.codeAny_builtin
def P1:=@PySem.wpAny_execs_nil
def P2:=@PySem.wpAny_updateSeq_pair
def P4:=@List.length_reverse
def P5:=@List.map_eq_nil_iff
def P6:=@if_false
def P7:=@PySem.Paired.length
def P8:=@PySem.wpAny_attempt
def P9:=@PySem.wpAny_onRaise
set_option maxRecDepth 100000
namespace L2
open PySem PySem.Spec PyProof.Rows
abbrev _root_.Qa:=Str->Option Value
abbrev _root_.Qb:=List (Addr×Obj)
abbrev _root_.Qc:=Value->Shared->Prop
abbrev _root_.Qd:=List (Option Nat)
abbrev Key:=Sum Int Str
noncomputable def jP:Key->Value->Bool
 |.inl k,v=>Value.isInt k v
 |.inr x,v=>Value.isStrOf x v
noncomputable def keyH(w:World):Key->Int
 |.inl k=>hashInt k
 |.inr x=>hashStr w x
theorem bq:∀{k:Key}{v:Value},jP k v=true->(∃i t,k=Sum.inl i/\v=Value.int i t)\/(∃x t,k=Sum.inr x/\v=Value.str x t)
 |
  .inl i,v,h=>by
  obtain⟨t,e⟩:=Value.isInt_shape (k:=i) (v:=v) h;exact .inl ⟨i,t,rfl,e⟩
 |
  .inr x,v,h=>by
  obtain⟨t,e⟩:=Value.isStrOf_shape (x:=x) (v:=v) h;exact .inr ⟨x,t,rfl,e⟩
def xC(i:Int)(t:Tok):jP (.inl i) (.int i t)=true:=by simp [jP,Value.isInt]
def yn(x:Str)(t:Tok):jP (.inr x) (.str x t)=true:=by simp [jP,Value.isStrOf]
def Hf(a b:Int):decide ((Sum.inl a:Key)=Sum.inl b)=(a==b):=by
 by_cases e:a=b
 .subst e;simp
 .have h:¬ (Sum.inl a:Key)=Sum.inl b:=λq=>e (Sum.inl.inj q);rw[z_ h];exact (F_.mpr e).symm
def JW(a b:Str):decide ((Sum.inr a:Key)=Sum.inr b)=decide (a=b):=by
 by_cases e:a=b
 .subst e;simp
 .have h:¬ (Sum.inr a:Key)=Sum.inr b:=λq=>e (Sum.inr.inj q);rw[z_ h,z_ e]
def Jc(a:Int)(b:Str):decide ((Sum.inl a:Key)=Sum.inr b)=false:=z_ (λq=>nomatch q)
def Ia(a:Str)(b:Int):decide ((Sum.inr a:Key)=Sum.inl b)=false:=z_ (λq=>nomatch q)
noncomputable def bB(prog:Program)(w:World):PySem.KeyKind prog w Key where
 is:=jP
 hash:=keyH w
 inj
  := λv a b ha hb=>by
  rcases bq ha with ⟨i,t,rfl,rfl⟩ |⟨x,t,rfl,rfl⟩
  .rcases bq hb with ⟨j,u,rfl,e⟩ |⟨y,u,rfl,e⟩
   .injection e with e1 _;rw[e1]
   .exact nomatch e
  .rcases bq hb with ⟨j,u,rfl,e⟩ |⟨y,u,rfl,e⟩
   .exact nomatch e
   .injection e with e1 _;rw[e1]
 byValue:=λk v h=>by rcases bq h with ⟨i,t,rfl,rfl⟩ |⟨x,t,rfl,rfl⟩ <;> rfl
 pyHash:=λhv h=>by
  rcases bq hv with ⟨i,t,rfl,rfl⟩ |⟨x,t,rfl,rfl⟩
  .exact wpAny_pyHash_int h
  .exact wpAny_pyHash_str h
 eqBool:=λhu hv h=>by
  rcases bq hu with ⟨i,t,rfl,rfl⟩ |⟨x,t,rfl,rfl⟩
  .rcases bq hv with ⟨j,u,rfl,rfl⟩ |⟨y,u,rfl,rfl⟩
   .rw[Hf] at h;exact wpAny_eqBool_int h
   .rw[Jc] at h;exact SeqAt.EqAt.int_str i t y u _ _ _ _ h
  .rcases bq hv with ⟨j,u,rfl,rfl⟩ |⟨y,u,rfl,rfl⟩
   .rw[Ia] at h;exact SeqAt.EqAt.str_int x t j u _ _ _ _ h
   .rw[JW] at h;exact wpAny_eqBool_str h
 «strs»:=λk x t v h=>by
  rcases bq h with ⟨i,u,rfl,e⟩ |⟨y,u,rfl,e⟩
  .exact nomatch e
  .injection e with e1 _;subst e1;cases v <;> rfl
def sO(prog:Program)(w:World)(i:Int)(t:Tok):(bB prog w).is (.inl i) (.int i t)=true:=xC i t
def sN(prog:Program)(w:World)(x:Str)(t:Tok):(bB prog w).is (.inr x) (.str x t)=true:=yn x t
inductive V where
 |non |bl (b:Bool) |int (i:Int) |str (x:Str) |byt (b:Array UInt8) |flt (b:UInt64) |ref (a:Addr) |ty (n:String)
 deriving DecidableEq
def RelV:V->Value->Prop
 |.non,u=>u=Value.none
 |.bl b,u=>u=Value.bool b
 |.int i,u=>∃t,u=Value.int i t
 |.str x,u=>∃t,u=Value.str x t
 |.byt b,u=>∃t,u=Value.bytes b t
 |.flt b,u=>∃t,u=Value.float b t
 |.ref a,u=>u=Value.ref a
 |.ty n,u=>u=Value.type n
abbrev Vals:List V->List Value->Prop:=Paired RelV
def Vals.length(r:Vals xs us):xs.length=us.length:=P7 r
def Vals.get{xs:List V}{us:List Value}{i:Nat}{x:V}(r:Vals xs us)(e:xs[i]?=some x):∃u,us[i]?=some u/\RelV x u:=by
 induction r generalizing i with
 |nil=>rw[List.getElem?_nil] at e;cases e
 |
  cons r t ih=>
  cases i with
  |zero=>cases e;exact⟨_,rfl,r⟩
  |succ i=>exact ih (i:=i) e
def Vals.set(r:RelV x u)(i:Nat)(q:Vals xs us):Vals (xs.set i x) (us.set i u):=by
 induction q generalizing i with
 |nil=>exact .nil
 |
  cons q t ih=>
  cases i with
  |zero=>exact .cons r t
  |succ i=>exact .cons q (ih i)
def Vals.append(r:Vals xs us)(s:Vals ys ws):Vals (xs++ys) (us++ws):=by
 induction r with
 |nil=>exact s
 |cons r t ih=>exact .cons r ih
def Vals.take(n:Nat)(r:Vals xs us):Vals (xs.take n) (us.take n):=by
 induction r generalizing n with
 |nil=>rw[OZ,OZ];exact .nil
 |
  cons r t ih=>
  cases n with
  |zero=>exact .nil
  |succ n=>exact .cons r (ih n)
def Vals.drop(n:Nat)(r:Vals xs us):Vals (xs.drop n) (us.drop n):=by
 induction r generalizing n with
 |nil=>rw[Pg,Pg];exact .nil
 |
  cons r t ih=>
  cases n with
  |zero=>exact .cons r t
  |succ n=>exact ih n
def RelO:Option V->Option Value->Prop
 |some v,some u=>RelV v u
 |none,none=>True
 |_,_=>False
def KV{κ:Type}:List (κ×V)->List (κ×Value)->Prop:=Paired λ(p:κ×V) (q:κ×Value)=>p.1=q.1/\RelV p.2 q.2
noncomputable def kV:Key->V
 |.inl i=>.int i
 |.inr x=>.str x
inductive HO where
 |lst (xs:List V)
 |tup (xs:List V)
 |dK (kvs:List (Key×V)) |dT (kvs:List (List Key×V))
 |set (S:Int->Bool) (n:Nat)
 |ins (C dx:Addr) (fs:List (Str×V))
 |own (x:Addr)
 |xd (fs:List (Str×V))
 |met (f x:Addr)
 |rng (lo hi:Int)
 |frz (o:Obj) (u:HO)
 |tbl (ps:Array Value)
 |ext (φ:Heap->Prop)
abbrev Hp:=Addr->Option HO
noncomputable def upd(H:Hp)(a:Addr)(o:HO):Hp:=λb=>if b=a then some o else H b
def bo:upd H a o a=some o:=by unfold upd;rw[if_pos rfl]
def ay(h:b≠a):upd H a o b=H b:=by unfold upd;rw[if_neg h]
def Nn{H:Hp}{a b:Addr}{o u:HO}(h:H a=some o)(h':H b=some u)(d:o≠u):a≠b:=by intro e;subst e;rw[h] at h';exact d (G_ h')
def aX{H:Hp}{a b:Addr}{o:HO}(h:H a=some o)(h':H b=none):a≠b:=by intro e;subst e;rw[h] at h';cases h'
section
variable(P:Program)(w:World)
def ObjOk(H:Hp)(h:Heap)(a:Addr):HO->Prop
 |.lst xs=>xs.length<=sizeLine/\∃(its:List Value) (n:Nat),Vals xs its/\h.get? a=some { cls:=.type "list",data:=.seq its.toArray n }
 |.tup xs=>xs.length<=sizeLine/\∃its:List Value,Vals xs its/\IsTup h a its.toArray
 |.dK kvs=>kvs.length<=sizeLine/\(a==sysModules)=false/\∃vs,KV kvs vs/\h.DictOf (bB P w) a vs
 |.dT kvs=>kvs.length<=sizeLine/\(a==sysModules)=false/\∃xs:List (List Key×Addr×Value),
  Paired (λ(p:List Key×V) (q:List Key×Addr×Value)=>p.1=q.1/\H q.2.1=some (.tup (p.1.map kV))/\RelV p.2 q.2.2) kvs xs/\
  ∃o es ep,h.get? a=some o/\o.ExactDict/\o.data=.dict es ep/\es.toList=xs.map (entryOfKey (tupleKind (bB P w)))/\(xs.map (·.1)).Nodup
 |.set S n=>h.SetOf (intKind P w) a S n
 |.ins C dx fs=>H dx=some (.own a)/\fs.length<=1000/\dx≠a/\h.get? a=some (W.instObj C dx)/\
  ∃mA,h.Ns1 dx mA/\(∀f,RelO (fs.lookup f) (mA f))/\PySem.Within mA (fs.map (·.1))
 |.own _=>∃o,h.get? a=some o
 |.xd fs=>∃mA,h.Ns1 a mA/\∀f,RelO (fs.lookup f) (mA f)
 |.rng lo hi=>∃t u v,h.get? a=some { cls:=.type "range",data:=.fields #[.int lo t,.int hi u,.int 1 v] }
 |.frz o u=>h.get? a=some o/\ObjOk H h a u
 |.tbl ps=>h.get? a=some { cls:=.none,data:=.fields ps }
 |.met f x=>h.get? a=some (W.methodObj (.ref f) (.ref x))
 |.ext φ=>φ h/\(∃o,h.get? a=some o)/\∀h1 h2:Heap,φ h1->(∀o,h1.get? a=some o->h2.get? a=some o)->φ h2
def HOk(H:Hp)(h:Heap):Prop:=∀a o,H a=some o->ObjOk P w H h a o
end
section
variable{P:Program}{w:World}{H H':Hp}{h h':Heap}{a:Addr}{o:HO}
def ObjOk.lt(x:ObjOk P w H h a o):a<h.objs.size:=by
 cases o with
 |lst xs=>obtain⟨_,_,_,_,e⟩:=x;exact w_ e
 |tup xs=>obtain⟨_,_,_,p⟩:=x;exact p.lt
 |dK kvs=>obtain⟨_,_,_,_,o,_,_,e,_⟩:=x;exact w_ e
 |dT kvs=>obtain⟨_,_,_,_,o,_,_,e,_⟩:=x;exact w_ e
 |set S n=>obtain⟨o,_,_,_,e,_⟩:=x;exact w_ e
 |ins C dx fs=>obtain⟨_,_,_,e,_⟩:=x;exact w_ e
 |own y=>obtain⟨_,e⟩:=x;exact w_ e
 |xd fs=>obtain⟨_,⟨_,_,_,e,_⟩,_⟩:=x;exact w_ e
 |rng lo hi=>obtain⟨_,_,_,e⟩:=x;exact w_ e
 |frz ob u=>obtain⟨e,_⟩:=x;exact w_ e
 |tbl ps=>exact w_ (show h.get? a=some _ from x)
 |met f y=>exact w_ (show h.get? a=some _ from x)
 |ext φ=>obtain⟨_,⟨_,e⟩,_⟩:=x;exact w_ e
def Paired.mapP(r:Paired F l₁ l₂)(f:∀a b,F a b->G a b):Paired G l₁ l₂:=by
 induction r with
 |nil=>exact .nil
 |cons r t ih=>exact .cons (f _ _ r) ih
def ObjOk.stay(x:ObjOk P w H h a o)(k:∀b u,(b=a\/H b=some (.own a))->h.get? b=some u->h'.get? b=some u)
 (ho:∀b,H b=some (.own a)->H' b=some (.own a)) (ht:∀b xs,H b=some (.tup xs)->H' b=some (.tup xs)):ObjOk P w H' h' a o:=by
 induction o with
 |lst xs=>obtain⟨z,its,n,r,e⟩:=x;exact⟨z,its,n,r,k _ _ (.inl rfl) e⟩
 |tup xs=>obtain⟨z,its,r,ob,e,c⟩:=x;exact⟨z,its,r,ob,k _ _ (.inl rfl) e,c⟩
 |dK kvs=>obtain⟨z,y,vs,r,ob,es,ep,e,c⟩:=x;exact⟨z,y,vs,r,ob,es,ep,k _ _ (.inl rfl) e,c⟩
 |dT kvs=>obtain⟨z,y,xs,r,ob,es,ep,e,c⟩:=x;exact⟨z,y,xs,Paired.mapP r λp q z=>⟨z.1,ht _ _ z.2.1,z.2.2⟩,ob,es,ep,k _ _ (.inl rfl) e,c⟩
 |set S n=>obtain⟨ob,es,ep,t,e,c⟩:=x;exact⟨ob,es,ep,t,k _ _ (.inl rfl) e,c⟩
 |ins C dx fs=>obtain⟨d,z,ne,e,mA,⟨od,es,ep,e2,c⟩,r⟩:=x;exact⟨ho _ d,z,ne,k _ _ (.inl rfl) e,mA,⟨od,es,ep,k _ _ (.inr d) e2,c⟩,r⟩
 |own y=>obtain⟨ob,e⟩:=x;exact⟨ob,k _ _ (.inl rfl) e⟩
 |xd fs=>obtain⟨mA,⟨od,es,ep,e,c⟩,r⟩:=x;exact⟨mA,⟨od,es,ep,k _ _ (.inl rfl) e,c⟩,r⟩
 |rng lo hi=>obtain⟨t,u,v,e⟩:=x;exact⟨t,u,v,k _ _ (.inl rfl) e⟩
 |frz ob u ih=>obtain⟨e,q⟩:=x;exact⟨k _ _ (.inl rfl) e,ih q⟩
 |tbl ps=>have e:h.get? a=some { cls:=.none,data:=.fields ps }:=x;show h'.get? a=some { cls:=.none,data:=.fields ps };exact k a _ (.inl rfl) e
 |met f y=>have e:h.get? a=some (W.methodObj (.ref f) (.ref y)):=x;show h'.get? a=some (W.methodObj (.ref f) (.ref y));exact k a _ (.inl rfl) e
 |ext φ=>obtain⟨p,⟨o,e⟩,st⟩:=x;exact⟨st _ _ p λo q=>k _ _ (.inl rfl) q,⟨o,k _ _ (.inl rfl) e⟩,st⟩
def HOk.lt(x:HOk P w H h)(e:H a=some o):a<h.objs.size:=(x a o e).lt
def HOk.fresh(x:HOk P w H h)(e:h.objs.size<=a):H a=none:=by
 cases q:H a with
 |none=>rfl
 |some u=>exact absurd (A_ (x.lt q) e) (Oy _)
def HOk.kept(x:HOk P w H h)(k:∀b u,h.get? b=some u->h'.get? b=some u):HOk P w H h':=λa o e=>
 (x a o e).stay (λb u _ q=>k b u q) (λ_ q=>q) λ_ _ q=>q
def HOk.laid(x:HOk P w H h)(k:∀b u,h.get? b=some u->h'.get? b=some u)(hp:h.objs.size<=a)(new:ObjOk P w (upd H a o) h' a o):HOk P w (upd H a o) h':=λb u e=>by
 have hn:=x.fresh hp;by_cases hb:b=a
 .subst hb;rw[bo] at e;cases e;exact new
 .rw[ay hb] at e;exact (x b u e).stay (λc v _ q=>k c v q) (λc q=>by rw[ay (aX q hn)];exact q) λc xs q=>by rw[ay (aX q hn)];exact q
end
def Rd(H:Hp)(a:Addr)(u:HO):Prop:=H a=some u\/∃o,H a=some (.frz o u)
def Rd.ok(r:Rd H a u)(x:HOk P w H h):ObjOk P w H h a u:=by
 rcases r with r |⟨o,r⟩
 .exact x a u r
 .obtain⟨_,q⟩:=x a _ r;exact q
def Mut:Option HO->Prop
 |some (.lst _)=>True
 |some (.dK _)=>True
 |some (.dT _)=>True
 |some (.set _ _)=>True
 |some (.ins _ _ _)=>True
 |some (.ext _)=>True
 |_=>False
section
variable{P:Program}{w:World}{H:Hp}{h h':Heap}{x e:Addr}{o':HO}
def HOk.write(ok:HOk P w H h)(mu:Mut (H x))(he:e=x\/H e=some (.own x))(k:∀b u,b≠e->h.get? b=some u->h'.get? b=some u)(heo:∃u,h'.get? e=some u)
 (new:ObjOk P w (upd H x o') h' x o'):HOk P w (upd H x o') h':=λb u q=>by
 have nown:∀c y,H c=some (.own y)->c≠x:=λc y r z=>by subst z;rw[r] at mu;exact mu
 have ntup:∀c xs,H c=some (.tup xs)->c≠x:=λc xs r z=>by subst z;rw[r] at mu;exact mu
 by_cases hb:b=x
 .subst hb;rw[bo] at q;cases q;exact new
 .rw[ay hb] at q;by_cases hbe:b=e
  .have q':H b=some (.own x):=by
    rcases he with z |z
    .exact absurd (hbe.trans z) hb
    .rw[hbe];exact z
   rw[q] at q';cases q';obtain⟨v,hv⟩:=heo;exact⟨v,by rw[hbe];exact hv⟩
  .refine (ok b u q).stay (λc v hc r=>k c v ?_ r) (λc r=>by rw[ay (nown c b r)];exact r) λc xs r=>by rw[ay (ntup c xs r)];exact r
   rcases hc with rfl |hc
   .exact hbe
   .rintro rfl;rcases he with z |z
    .exact nown c b hc z
    .rw[hc] at z;cases z;exact hb rfl
end
structure Un(fs ex:List Addr)(H H':Hp)(h h':Heap):Prop where
 keep:∀b o,h.get? b=some o->H b=none->b∉fs->b∉ex->h'.get? b=some o
 slot:∀b o,h.get? b=some o->H b=none->b∈fs->b∉ex->∃sl,h'.get? b=some { o with slots:=sl }
 free:∀b o,h.get? b=some o->H b=none->b∉ex->H' b=none
 there:∀b o,h.get? b=some o->b∉ex->∃o',h'.get? b=some o'
 tups:∀b xs,H b=some (.tup xs)->H' b=some (.tup xs)
 frzs:∀b o u,H b=some (.frz o u)->H' b=some (.frz o u)
 tbls:∀b ps,H b=some (.tbl ps)->∃more,H' b=some (.tbl (ps++more))
section
variable{fs fs' ex ex':List Addr}{H H1 H2:Hp}{h h1 h2 h':Heap}{a x e:Addr}{o:HO}
def Un.any(u:Un fs ex H H1 h h1)(q:h.get? b=some ob)(n:H b=none)(hx:b∉ex):∃sl,h1.get? b=some { ob with slots:=sl }:=by
 by_cases hb:b∈fs
 .exact u.slot b ob q n hb hx
 .exact⟨ob.slots,u.keep b ob q n hb hx⟩
def Un.kept(k:∀b u,h.get? b=some u->h'.get? b=some u):Un fs ex H H h h':=
 ⟨λb ob q _ _ _=>k b ob q,λb ob q _ _ _=>⟨ob.slots,k b ob q⟩,λ_ _ _ n _=>n,λb ob q _=>⟨ob,k b ob q⟩,λ_ _ q=>q,λ_ _ _ q=>q,λ_ ps q=>⟨#[],by rw[q];simp⟩⟩
def Un.refl:Un fs ex H H h h:=Un.kept λ_ _ q=>q
def Un.laid(k:∀b u,h.get? b=some u->h'.get? b=some u)(hp:h.objs.size<=a)(hn:H a=none):Un fs ex H (upd H a o) h h' where
 keep:=λb u q _ _ _=>k b u q
 slot:=λb u q _ _ _=>⟨u.slots,k b u q⟩
 free:=λb u q n _=>by rw[ay (NY (A_ (w_ q) hp))];exact n
 there:=λb u q _=>⟨u,k b u q⟩
 tups:=λb xs q=>by rw[ay (aX q hn)];exact q
 frzs:=λb u xs q=>by rw[ay (aX q hn)];exact q
 tbls:=λb ps q=>⟨#[],by rw[ay (aX q hn),q];simp⟩
def Un.write(mu:Mut (H x))(he:e=x\/H e=some (.own x))(k:∀b u,b≠e->h.get? b=some u->h'.get? b=some u)(heo:∃u,h'.get? e=some u):Un fs ex H (upd H x o) h h':=by
 have hx:∀b,H b=none->b≠x:=λb n z=>by subst z;rw[n] at mu;exact mu
 have hb:∀b,H b=none->b≠e:=λb n z=>by
  subst z;rcases he with r |r
  .exact hx b n r
  .rw[n] at r;cases r
 have hm:∀b u,H b=some u->¬ Mut (some u)->b≠x:=λb u q nm z=>by subst z;rw[q] at mu;exact nm mu
 refine⟨λb u q n _ _=>k b u (hb b n) q,λb u q n _ _=>⟨u.slots,k b u (hb b n) q⟩,λb u q n _=>by rw[ay (hx b n)];exact n,λb u q _=>?_,
  λb xs q=>by rw[ay (hm b _ q λz=>z)];exact q,λb u xs q=>by rw[ay (hm b _ q λz=>z)];exact q,λb ps q=>⟨#[],by rw[ay (hm b _ q λz=>z),q];simp⟩⟩
 by_cases hbe:b=e
 .subst hbe;exact heo
 .exact⟨u,k b u hbe q⟩
end
noncomputable def trk(h:Heap)(H:Hp):List Addr:=(List.range h.objs.size).filter λa=>(H a).isSome
noncomputable def eG(h:Heap)(H:Hp):Heap:=W.hideAll h (trk h H)
def nu(h:Heap)(H:Hp):(eG h H).objs.size=h.objs.size:=W.hideAll_size _ _
def pq(e:h.get? b=some o)(n:H b=none):(eG h H).get? b=some o:=
 W.hideAll_get _ e λhm=>by have q:(H b).isSome=true:=(List.mem_filter.mp hm).2;rw[n] at q;simp at q
def uK(e:(eG h H).get? b=some o):h.get? b=some o/\H b=none:=by
 have e':h.get? b=some o:=W.of_hideAll (trk h H) e;refine⟨e',?_⟩;cases q:H b with
 |none=>rfl
 |some x=>have hm:b∈trk h H:=List.mem_filter.mpr ⟨Oh.mpr (w_ e'),by simp [q]⟩;have z:(eG h H).get? b=none:=W.hideAll_none (trk h H) hm;rw[z] at e;cases e
noncomputable def El(g h:Heap)(L:Addr):List (Addr×Obj):=(List.range h.objs.size).filterMap λa=>if a=L\/(g.get? a).isSome=true then none else (h.get? a).map λo=>(a,o)
noncomputable def fP(g h:Heap)(L d:Addr):List (Addr×Obj):=(El g h L).filter λp=>decide (p.1≠d)
structure Mod(K:W.Frag)(mg:Qa)(base:Heap):Prop where
 kin:K.In base
 glob:base.Ns mainGlobals mg
 blt:∃mb,base.Ns builtinsNs mb/\∀x:Str,x ≠ "__name__"->mb x=bootBuiltins x
 nolimit:base.NoLimit
structure Cx where
 prog:Program
 w:World
 K:W.Frag
 mg:Str->Option Value
 base:Heap
 A:Around
 N:List Str
 s₀:Shared
 H₀:Hp
 env:Env
 outer:List Env
 stack:List Env
 ex:List Addr
 fn:Str->Bool
 calm:Bool
 pn:List (Addr×Obj)
 xe:Value->Shared->Prop
noncomputable def frs(l:List Env):List Addr:=l.filterMap (·.frame)
abbrev Cx.fs(X:Cx):List Addr:=frs X.outer
def Vis(sc:Scope)(x:Str):Prop:=sc.names.lookup x=some .local\/sc.names.lookup x=some .cell\/sc.names.lookup x=some .free
def Loc(sc:Scope)(x:Str):Prop:=sc.names.lookup x=some .local\/sc.names.lookup x=some .cell
def Look(env:Env)(h:Heap)(m:Qa)(x:Str)(u:Value):Prop:=
 (env.kindOf x=some .local/\m x=some u)\/((env.kindOf x=some .cell\/env.kindOf x=some .free)/\∃c,env.cells.lookup x=some c/\h.IsCell c (some u))
structure Cx.Ok(X:Cx):Prop where
 mod:Mod X.K X.mg X.base
 kind:X.env.scope.kind=.function
 glob:X.env.globals=mainGlobals
 blt:X.env.builtins=builtinsNs
 above:X.s₀.heap.objs.size<=X.env.locals
 inj:∀x y c,X.env.cells.lookup x=some c->X.env.cells.lookup y=some c->x=y
 has:∀x,(X.env.kindOf x=some .cell\/X.env.kindOf x=some .free)->∃c,X.env.cells.lookup x=some c
 cab:∀x c,X.fn x=true->X.env.cells.lookup x=some c->X.s₀.heap.objs.size<=c
 hd:X.calm=true->X.A.handled=none
 frames:X.A.frames=some X.stack
 stk:X.stack=X.outer\/(X.stack=X.env::X.outer/\X.env.frame=some X.env.locals)
 exf:∀b∈X.ex,b≠X.env.locals/\∀x c,X.env.cells.lookup x=some c->c≠b
 bs:∀b o,X.base.get? b=some o->X.s₀.heap.get? b=some o/\X.H₀ b=none
 bsz:X.base.objs.size<=X.s₀.heap.objs.size
 noex:∀b o,X.base.get? b=some o->b∉X.ex
 exfs:∀b∈X.ex,b∉X.fs
 funs:X.s₀.heap.FunFrames X.base X.outer
 frf:∀b∈X.fs,X.H₀ b=none
structure Inv(X:Cx)(pins:Qb)(σ:List (Option V))(H:Hp)(s:Shared):Prop where
 ok:X.Ok
 os:s.os=X.s₀.os
 bare:AllBare s.gens
 base:Un X.fs X.ex X.H₀ H X.s₀.heap s.heap
 loc:∃m,s.heap.Ns X.env.locals m/\∀(i:Nat) (x:Str) (v:V),X.N[i]?=some x->σ[i]?=some (some v)->Vis X.env.scope x->∃u,RelV v u/\Look X.env s.heap m x u
 cell:∀x c,X.env.cells.lookup x=some c->∃v,s.heap.IsCell c v
 free:H X.env.locals=none
 freeC:∀x c,X.env.cells.lookup x=some c->H c=none
 pin:∀p∈X.pn++pins,s.heap.get? p.1=some p.2/\H p.1=none/\p.1≠X.env.locals/\p.1∉X.fs/\∀v,p.2.data ≠ .cell v
 hok:HOk X.prog X.w H s.heap
 len:σ.length=X.N.length
section
variable{X:Cx}{pins:Qb}{σ:List (Option V)}{H H':Hp}{s:Shared}{h':Heap}
def Cx.Ok.nofr(ok:X.Ok)(e:X.base.get? b=some o):b∉X.fs:=λhb=>by
 have:=(ok.funs.mem hb).1
 rw[e] at this;cases this
def Inv.bs(I:Inv X pins σ H s):∀b o,X.base.get? b=some o->s.heap.get? b=some o/\H b=none:=λb o e=>
 ⟨I.base.keep b o (I.ok.bs b o e).1 (I.ok.bs b o e).2 (I.ok.nofr e) (I.ok.noex b o e),I.base.free b o (I.ok.bs b o e).1 (I.ok.bs b o e).2 (I.ok.noex b o e)⟩
def Inv.bk(I:Inv X pins σ H s):∀b o,X.base.get? b=some o->s.heap.get? b=some o:=λb o e=>(I.bs b o e).1
def Inv.mod(I:Inv X pins σ H s):Mod X.K X.mg X.base:=I.ok.mod
def Inv.kIn(I:Inv X pins σ H s):X.K.In s.heap:=I.ok.mod.kin.keeps I.bk
def Inv.lt(I:Inv X pins σ H s):X.env.locals<s.heap.objs.size:=let ⟨_,hn,_⟩:=I.loc;hn.lt
def Inv.sz(I:Inv X pins σ H s):X.s₀.heap.objs.size<=s.heap.objs.size:=C_ I.ok.above (O_ I.lt)
def Inv.nofs(I:Inv X pins σ H s)(h:s.heap.objs.size<=a):a∉X.fs:=λhb=>by obtain⟨_,o,ho,_⟩:=I.ok.funs.mem hb;exact absurd (A_ (w_ ho) (C_ I.sz h)) (Oy _)
def Inv.cne(I:Inv X pins σ H s):∀x c,X.env.cells.lookup x=some c->c≠X.env.locals:=λx c e z=>by obtain⟨v,o,ho,hd⟩:=I.cell x c e;obtain⟨m,⟨o',es,ep,ho',hd',_⟩,_⟩:=I.loc;rw[z,ho'] at ho;cases ho;rw[hd'] at hd;cases hd
def Inv.funs(I:Inv X pins σ H s):s.heap.FunFrames X.base X.outer:=by
 have all:∀(l:List Env),(∀b∈frs l,b∈X.fs)->X.s₀.heap.FunFrames X.base l->s.heap.FunFrames X.base l:=by
  intro l;induction l with
  |nil=>intro _ _;trivial
  |cons env r ih=>intro hs hl;obtain⟨hk,⟨L,o,hf,hn,ho,hd⟩,hr⟩:=hl;have hL:L∈X.fs:=hs L (by unfold frs;rw[OK,hf];exact m_);obtain⟨sl,e⟩:=I.base.slot L o ho (I.ok.frf L hL) hL λz=>I.ok.exfs L z hL;exact⟨hk,⟨L,_,hf,hn,e,hd⟩,ih (λb hb=>hs b (by unfold frs;rw[OK,hf];exact l_ _ hb)) hr⟩
 exact all X.outer (λ_ hb=>hb) I.ok.funs
def Inv.stack(I:Inv X pins σ H s):s.heap.FunFrames X.base X.stack:=by
 rcases I.ok.stk with e |⟨e,hf⟩
 .rw[e];exact I.funs
 .rw[e];obtain⟨m,hn,_⟩:=I.loc;refine .cons (by rw[I.ok.kind];decide) hf hn ?_ I.funs;exact PQ (C_ I.ok.bsz I.ok.above)
def Inv.stkSub(I:Inv X pins σ H s):∀b∈frs X.stack,b∈X.env.locals::X.fs:=λb hb=>by
 rcases I.ok.stk with e |⟨e,hf⟩
 .rw[e] at hb;exact l_ _ hb
 .rw[e] at hb;unfold frs at hb;rw[OK,hf] at hb;exact hb
def Inv.stkFree(I:Inv X pins σ H s):∀b∈frs X.stack,H b=none:=λb hb=>by
 rcases E_.mp (I.stkSub b hb) with e |hb
 .rw[e];exact I.free
 .obtain⟨_,o,ho,_⟩:=I.ok.funs.mem hb;exact I.base.free b o ho (I.ok.frf b hb) λz=>I.ok.exfs b z hb
def Inv.step{g':Array GenState}{t':Nat}{d':Drawn}{ch:List Addr}(I:Inv X pins σ H s)
 (hch:∀b∈ch,(b∈X.ex\/X.s₀.heap.objs.size<=b)/\b≠X.env.locals/\(∀x c,X.env.cells.lookup x=some c->c≠b)/\∀p∈X.pn++pins,p.1≠b)
 (keep:∀b o,b≠X.env.locals->b∉X.fs->b∉ch->s.heap.get? b=some o->H b=none->h'.get? b=some o)
 (slot:∀b o,b≠X.env.locals->b∈X.fs->b∉ch->s.heap.get? b=some o->H b=none->∃sl,h'.get? b=some { o with slots:=sl }) (free:∀b o,b∉ch->s.heap.get? b=some o->H b=none->H' b=none)
 (there:∀b o,b∉ch->s.heap.get? b=some o->∃o',h'.get? b=some o')
 (tups:∀b xs,H b=some (.tup xs)->H' b=some (.tup xs)) (frzs:∀b o u,H b=some (.frz o u)->H' b=some (.frz o u)) (tbls:∀b ps,H b=some (.tbl ps)->∃more,H' b=some (.tbl (ps++more)))
 (ns:∀m,s.heap.Ns X.env.locals m->h'.Ns X.env.locals m) (hok:HOk X.prog X.w H' h') (hg:AllBare g'):
 Inv X pins σ H' { s with heap:=h',gens:=g',drawn:=d',toks:=t' }:=by
 have neL:∀b o,X.s₀.heap.get? b=some o->b≠X.env.locals:=λb o e=>NY (A_ (w_ e) I.ok.above);have neC:∀b o,X.s₀.heap.get? b=some o->b∉X.ex->b∉ch:=λb o e hx hb=>by
  rcases (hch b hb).1 with z |z
  .exact hx z
  .exact absurd (A_ (w_ e) z) (Oy _)
 have cellK:∀x c,X.env.cells.lookup x=some c->∀v,s.heap.IsCell c v->h'.IsCell c v:=λx c e v ⟨o,ho,hd⟩=>by
  have nch:c∉ch:=λz=>(hch c z).2.2.1 x c e rfl;by_cases hc:c∈X.fs
  .obtain⟨sl,q⟩:=slot c o (I.cne x c e) hc nch ho (I.freeC x c e);exact⟨_,q,hd⟩
  .exact⟨o,keep c o (I.cne x c e) hc nch ho (I.freeC x c e),hd⟩
 refine⟨I.ok,I.os,hg,⟨λb o e n hb hx=>?_,λb o e n hb hx=>?_,λb o e n hx=>?_,λb o e hx=>?_,λb xs e=>tups b xs (I.base.tups b xs e),λb o xs e=>frzs b o xs (I.base.frzs b o xs e),λb ps e=>?_⟩,?_,λx c e=>?_,?_,λx c e=>?_,λp hp=>?_,hok,I.len⟩
 .exact keep b o (neL b o e) hb (neC b o e hx) (I.base.keep b o e n hb hx) (I.base.free b o e n hx)
 .obtain⟨sl,e1⟩:=I.base.slot b o e n hb hx;obtain⟨sl',e2⟩:=slot b _ (neL b o e) hb (neC b o e hx) e1 (I.base.free b o e n hx);exact⟨sl',e2⟩
 .obtain⟨o',e1⟩:=I.base.there b o e hx;exact free b o' (neC b o e hx) e1 (I.base.free b o e n hx)
 .obtain⟨o',e1⟩:=I.base.there b o e hx;exact there b o' (neC b o e hx) e1
 .obtain⟨m1,e1⟩:=I.base.tbls b ps e;obtain⟨m2,e2⟩:=tbls b _ e1;exact⟨m1++m2,by rw[e2,Array.append_assoc]⟩
 .obtain⟨m,hn,hl⟩:=I.loc;refine⟨m,ns m hn,λi x v e1 e2 e3=>?_⟩;obtain⟨u,r,l⟩:=hl i x v e1 e2 e3;refine⟨u,r,?_⟩;rcases l with l |⟨k,c,e,z⟩
  .exact .inl l
  .exact .inr ⟨k,c,e,cellK x c e _ z⟩
 .obtain⟨v,z⟩:=I.cell x c e;exact⟨v,cellK x c e v z⟩
 .obtain⟨m,⟨o,_,_,ho,_⟩,_⟩:=I.loc;exact free _ o (λz=>(hch _ z).2.1 rfl) ho I.free
 .obtain⟨v,o,ho,hd⟩:=I.cell x c e;exact free c o (λz=>(hch c z).2.2.1 x c e rfl) ho (I.freeC x c e)
 .obtain⟨e,n,ne,nf,d⟩:=I.pin p hp;have nch:p.1∉ch:=λz=>(hch p.1 z).2.2.2 p hp rfl;exact⟨keep p.1 p.2 ne nf nch e n,free p.1 p.2 nch e n,ne,nf,d⟩
def Inv.un{t':Nat}(I:Inv X pins σ H s)(u:Un X.fs [] H H' s.heap h')(hok:HOk X.prog X.w H' h'):Inv X pins σ H' { s with heap:=h',toks:=t' }:=by obtain⟨m,⟨o,es,ep,ho,r⟩,_⟩:=id I.loc;obtain⟨sl,hL⟩:=u.any ho I.free (by simp);exact I.step (g':=s.gens) (d':=s.drawn) (ch:=[]) (λ_ z=>nomatch z) (λb o _ hb _ e n=>u.keep b o e n hb (by simp)) (λb o _ hb _ e n=>u.slot b o e n hb (by simp)) (λb o _ e n=>u.free b o e n (by simp)) (λb o _ e=>u.there b o e (by simp)) u.tups u.frzs u.tbls (λm' hm=>by obtain⟨o',es',ep',ho',r'⟩:=hm;rw[ho] at ho';cases ho';exact⟨_,es',ep',hL,r'⟩) hok I.bare
def Inv.call{g':Array GenState}{t':Nat}{d':Drawn}{ch:List Addr}(I:Inv X pins σ H s)(u:Un (frs X.stack) ch H H' s.heap h')(hok:HOk X.prog X.w H' h')(hg:AllBare g')
 (hch:∀b∈ch,(b∈X.ex\/X.s₀.heap.objs.size<=b)/\b≠X.env.locals/\(∀x c,X.env.cells.lookup x=some c->c≠b)/\∀p∈X.pn++pins,p.1≠b):
 Inv X pins σ H' { s with heap:=h',gens:=g',drawn:=d',toks:=t' }:=by
 obtain⟨m,⟨o,es,ep,ho,r⟩,_⟩:=id I.loc;obtain⟨sl,hL⟩:=u.any ho I.free λz=>(hch _ z).2.1 rfl;exact I.step (ch:=ch) hch (λb o hL hb hc e n=>u.keep b o e n (λz=>(E_.mp (I.stkSub b z)).elim hL hb) hc) (λb o _ _ hc e n=>u.any e n hc) (λb o hc e n=>u.free b o e n hc) (λb o hc e=>u.there b o e hc) u.tups u.frzs u.tbls (λm' hm=>by obtain⟨o',es',ep',ho',r'⟩:=hm;rw[ho] at ho';cases ho';exact⟨_,es',ep',hL,r'⟩) hok hg
def Inv.turned{t':Nat}{it:Addr}(I:Inv X pins σ H s)(k:∀b o,b≠it->s.heap.get? b=some o->h'.get? b=some o)(hn:H it=none)(hL:it≠X.env.locals)
 (h1:it∈X.ex\/X.s₀.heap.objs.size<=it) (h2:∀x c,X.env.cells.lookup x=some c->c≠it) (h3:∀p∈X.pn++pins,p.1≠it):Inv X pins σ H { s with heap:=h',toks:=t' }:=by
 have nit:∀b u,H b=some u->b≠it:=λb u e z=>by rw[z,hn] at e;cases e
 refine I.step (g':=s.gens) (d':=s.drawn) (ch:=[it]) (λb hb=>?_) (λb o _ _ hc e _=>k b o (λz=>hc (by simp [z])) e) (λb o _ _ hc e _=>⟨o.slots,k b o (λz=>hc (by simp [z])) e⟩) (λ_ _ _ _ n=>n)
  (λb o hc e=>⟨o,k b o (λz=>hc (by simp [z])) e⟩) (λ_ _ e=>e) (λ_ _ _ e=>e) (λb ps e=>⟨#[],by rw[e];simp⟩) (λm hm=>?_) (λb u e=>?_) I.bare
 .have e:b=it:=by simpa using hb
  subst e;exact⟨h1,hL,h2,h3⟩
 .obtain⟨o,es,ep,ho,r⟩:=hm;exact⟨o,es,ep,k _ o (Ne.symm hL) ho,r⟩
 .refine (I.hok b u e).stay (λc v hc q=>k c v ?_ q) (λ_ q=>q) λ_ _ q=>q;rcases hc with z |z
  .rw[z];exact nit b u e
  .exact nit c _ z
def Inv.tok(I:Inv X pins σ H s)(t:Nat):Inv X pins σ H { s with toks:=t }:=I.un (h':=s.heap) (t':=t) Un.refl I.hok
def Inv.kept(I:Inv X pins σ H s)(k:∀b u,s.heap.get? b=some u->h'.get? b=some u):Inv X pins σ H { s with heap:=h',toks:=t' }:=I.un (Un.kept k) (I.hok.kept k)
def Inv.laid(I:Inv X pins σ H s)(k:∀b u,s.heap.get? b=some u->h'.get? b=some u)(hp:s.heap.objs.size<=a)(new:ObjOk X.prog X.w (upd H a o) h' a o):
 Inv X pins σ (upd H a o) { s with heap:=h',toks:=t' }:=I.un (Un.laid k hp (I.hok.fresh hp)) (I.hok.laid k hp new)
def Inv.write(I:Inv X pins σ H s)(mu:Mut (H x))(he:e=x\/H e=some (.own x))(k:∀b u,b≠e->s.heap.get? b=some u->h'.get? b=some u)(heo:∃u,h'.get? e=some u)
 (new:ObjOk X.prog X.w (upd H x o) h' x o):Inv X pins σ (upd H x o) { s with heap:=h',toks:=t' }:=I.un (Un.write mu he k heo) (I.hok.write mu he k heo new)
def Inv.pins_of(I:Inv X pins σ H s)(h:∀p∈pins',s.heap.get? p.1=some p.2/\H p.1=none/\p.1≠X.env.locals/\p.1∉X.fs/\∀v,p.2.data ≠ .cell v):Inv X pins' σ H s:=
 ⟨I.ok,I.os,I.bare,I.base,I.loc,I.cell,I.free,I.freeC,λp hp=>(Ot.mp hp).elim (λz=>I.pin p (PV _ z)) (h p),I.hok,I.len⟩
def qK{N:List Str}(hN:N.Nodup){i j:Nat}{x:Str}(a:N[i]?=some x)(b:N[j]?=some x):i=j:=by obtain⟨h1,e1⟩:=p_.mp a;obtain⟨h2,e2⟩:=p_.mp b;exact (List.getElem_inj hN).mp (e1.trans e2.symm)
def nO(I:Inv X pins σ H s)(hN:X.N.Nodup)(hi:X.N[i]?=some x)(hx:Loc X.env.scope x)(r:RelV v u)
 (h:∀s',Inv X pins (σ.set i (some v)) H s'->(∃a,Heap.SameBut a s.heap s'.heap/\(a=X.env.locals\/X.env.cells.lookup x=some a))->Q () s') (hf:X.fn x=true\/X.env.scope.names.lookup x=some .local):wpAny M A (storeName X.env x u) Q E s:=by
 obtain⟨m,hn,hl⟩:=id I.loc;have hcls:(X.env.scope.kind == .class || (X.env.scope.kind == .module&&X.env.locals != X.env.globals))=false:=by rw[I.ok.kind];rfl
 have hiσ:i<σ.length:=by rw[I.len];exact (p_.mp hi).1
 have cne:=I.cne;have tracked:∀{a:Addr}{h':Heap},(∃o,s.heap.get? a=some o/\H a=none)->Heap.SameBut a s.heap h'->HOk X.prog X.w H h':=λ{a h'} ha hs b ob e=>by
  obtain⟨_,_,hfree⟩:=ha;refine (I.hok b ob e).stay (λc w' hc q=>(hs.2 c ?_).trans q) (λ_ q=>q) λ_ _ q=>q;rintro rfl;rcases hc with rfl |hc
  .rw[hfree] at e;cases e
  .rw[hfree] at hc;cases hc
 rcases hx with hk |hk
 .refine wpAny_storeName_local hk hn (λh' hn' hs=>?_) hcls;obtain⟨oL,_,_,hoL,_⟩:=id hn;refine h _ ⟨I.ok,I.os,I.bare,⟨λb o e n hb hx=>?_,λb o e n hb hx=>?_,I.base.free,λb o e hx=>?_,I.base.tups,I.base.frzs,I.base.tbls⟩,⟨_,hn',λj y v' e1 e2 e3=>?_⟩,λy c e=>?_,I.free,I.freeC,λp hp=>?_,tracked ⟨oL,hoL,I.free⟩ hs,by simpa using I.len⟩ ⟨_,hs,.inl rfl⟩
  .exact (hs.2 b (NY (A_ (w_ e) I.ok.above))).trans (I.base.keep b o e n hb hx)
  .obtain⟨sl,e1⟩:=I.base.slot b o e n hb hx;exact⟨sl,(hs.2 b (NY (A_ (w_ e) I.ok.above))).trans e1⟩
  .obtain⟨o',e1⟩:=I.base.there b o e hx;exact⟨o',(hs.2 b (NY (A_ (w_ e) I.ok.above))).trans e1⟩
  .by_cases hj:j=i
   .subst hj;rw[hi] at e1;cases e1;rw[List.getElem?_set_self hiσ] at e2;cases e2;exact⟨u,r,.inl ⟨hk,by simp⟩⟩
   .rw[PU (Ne.symm hj)] at e2;obtain⟨u',r',q⟩:=hl j y v' e1 e2 e3;refine⟨u',r',?_⟩;rcases q with ⟨k,e⟩ |⟨k,c,e,z⟩
    .refine .inl ⟨k,?_⟩;have:y≠x:=λe=>hj (qK hN e1 (e ▸ hi));simp [this,e]
    .exact .inr ⟨k,c,e,z.sameBut hs (cne y c e)⟩
  .obtain⟨w',z⟩:=I.cell y c e;exact⟨w',z.sameBut hs (cne y c e)⟩
  .obtain⟨e,n,ne,nf,d⟩:=I.pin p hp;exact⟨(hs.2 p.1 ne).trans e,n,ne,nf,d⟩
 .have hfn:X.fn x=true:=by
   rcases hf with z |z
   .exact z
   .rw[z] at hk;cases hk
  obtain⟨c,hc⟩:=I.ok.has x (.inl hk);obtain⟨w',z⟩:=I.cell x c hc;refine wpAny_storeName_cell I.ok.kind hk hc z (λh' hc' hs=>?_);obtain⟨oc,hoc,hocd⟩:=id z;refine h { s with heap:=h' } ⟨I.ok,I.os,I.bare,⟨λb o e n hb hx=>?_,λb o e n hb hx=>?_,I.base.free,λb o e hx=>?_,I.base.tups,I.base.frzs,I.base.tbls⟩,⟨m,hn.sameBut hs (Ne.symm (cne x c hc)),λj y v' e1 e2 e3=>?_⟩,λy c' e=>?_,I.free,I.freeC,λp hp=>?_,tracked ⟨oc,hoc,I.freeC x c hc⟩ hs,by simpa using I.len⟩ ⟨c,hs,.inr hc⟩
  .exact (hs.2 b (NY (A_ (w_ e) (I.ok.cab x c hfn hc)))).trans (I.base.keep b o e n hb hx)
  .obtain⟨sl,e1⟩:=I.base.slot b o e n hb hx;exact⟨sl,(hs.2 b (NY (A_ (w_ e) (I.ok.cab x c hfn hc)))).trans e1⟩
  .obtain⟨o',e1⟩:=I.base.there b o e hx;exact⟨o',(hs.2 b (NY (A_ (w_ e) (I.ok.cab x c hfn hc)))).trans e1⟩
  .by_cases hj:j=i
   .subst hj;rw[hi] at e1;cases e1;rw[List.getElem?_set_self hiσ] at e2;cases e2;exact⟨u,r,.inr ⟨.inl hk,c,hc,hc'⟩⟩
   .rw[PU (Ne.symm hj)] at e2;obtain⟨u',r',q⟩:=hl j y v' e1 e2 e3;refine⟨u',r',?_⟩;rcases q with q |⟨k,c',e,z'⟩
    .exact .inl q
    .refine .inr ⟨k,c',e,z'.sameBut hs ?_⟩;rintro rfl;exact hj (qK hN e1 (I.ok.inj _ _ _ e hc ▸ hi))
  .by_cases hcc:c'=c
   .subst hcc;exact⟨_,hc'⟩
   .obtain⟨w2,z2⟩:=I.cell y c' e;exact⟨w2,z2.sameBut hs hcc⟩
  .obtain⟨e,n,ne,nf,d⟩:=I.pin p hp;refine⟨(hs.2 p.1 ?_).trans e,n,ne,nf,d⟩;intro q;rw[q,hoc] at e;have q':oc=p.2:=G_ e;exact d w' (by rw[<- q'];exact hocd)
def fZ(I:Inv X pins σ H s)(hN:X.N.Nodup)(hi:X.N[i]?=some x)(hx:Loc X.env.scope x)(r:RelV v u)
 (h:∀s',Inv X pins (σ.set i (some v)) H s'->Q () s') (hf:X.fn x=true\/X.env.scope.names.lookup x=some .local):wpAny M A (storeName X.env x u) Q E s:=
 nO I hN hi hx r (λs' I' _=>h s' I') hf
def Inv.call'(I:Inv X pins σ H s)(ho:s'.os=s.os)(u:Un (frs X.stack) ch H H' s.heap s'.heap)(hok:HOk X.prog X.w H' s'.heap)(hg:AllBare s'.gens)
 (hch:∀b∈ch,(b∈X.ex\/X.s₀.heap.objs.size<=b)/\b≠X.env.locals/\(∀x c,X.env.cells.lookup x=some c->c≠b)/\∀p∈X.pn++pins,p.1≠b):Inv X pins σ H' s':=by
 obtain⟨h',g',d',t',o'⟩:=s';have e:o'=s.os:=ho;subst e;exact I.call (g':=g') (t':=t') (d':=d') u hok hg hch
end
abbrev XK:=Value->Option Addr->Hp->Prop
abbrev St:=List (Option V)
abbrev VK:=V->Hp->Prop
abbrev TE:=St->Hp->VK->Prop
abbrev TT:=St->Hp->(Bool->Hp->Prop)->Prop
abbrev TA:=St->Hp->(List V->Hp->Prop)->Prop
structure Ends where
 nx:St->Hp->Prop
 rt:VK
 bk:St->Hp->Prop:=λ_ _=>False
 ct:St->Hp->Prop:=λ_ _=>False
abbrev TS:=Ends->St->Hp->Prop
def EP(X:Cx)(pins:Qb)(σ:St)(Q:VK)(u:Value)(s':Shared):Prop:=∃v H',Inv X pins σ H' s'/\RelV v u/\Q v H'
def TP(X:Cx)(pins:Qb)(σ:St)(Q:Bool->Hp->Prop)(b:Bool)(s':Shared):Prop:=∃H',Inv X pins σ H' s'/\Q b H'
def AP(X:Cx)(pins:Qb)(σ:St)(Q:List V->Hp->Prop)(us:List Value)(s':Shared):Prop:=∃vs H',Inv X pins σ H' s'/\Vals vs us/\Q vs H'
def SP(X:Cx)(pins:Qb)(D:Ends)(f:Flow)(s':Shared):Prop:=
 match f with
 |.next=>∃σ' H',Inv X pins σ' H' s'/\D.nx σ' H'
 |.brk=>∃σ' H',Inv X pins σ' H' s'/\D.bk σ' H'
 |.cont=>∃σ' H',Inv X pins σ' H' s'/\D.ct σ' H'
 |.ret u=>∃v σ' H',Inv X pins σ' H' s'/\RelV v u/\D.rt v H'
def PE(X:Cx)(e:Expr)(t:TE):Prop:=
 ∀(pins:Qb) (s:Shared) (σ:St) (H:Hp) (Q:VK),Inv X pins σ H s->t σ H Q->wpAny (model X.prog X.w) X.A (eval e X.env) (EP X pins σ Q) X.xe s
def PT(X:Cx)(e:Expr)(t:TT):Prop:=
 ∀(pins:Qb) (s:Shared) (σ:St) (H:Hp) (Q:Bool->Hp->Prop),Inv X pins σ H s->t σ H Q->wpAny (model X.prog X.w) X.A (isTrue e X.env (eval e X.env)) (TP X pins σ Q) X.xe s
def PW(X:Cx)(e:Expr)(t:TT):Prop:=
 ∀(ci:Sem Value) (pins:Qb) (s:Shared) (σ:St) (H:Hp) (Q:Bool->Hp->Prop),Inv X pins σ H s->t σ H Q->wpAny (model X.prog X.w) X.A (isTrue e X.env ci) (TP X pins σ Q) X.xe s
def PW.pt(h:PW X e t):PT X e t:=h _
def PA(X:Cx)(es:List Expr)(t:TA):Prop:=
 ∀(pos:Pos) (pins:Qb) (s:Shared) (σ:St) (H:Hp) (Q:List V->Hp->Prop),Inv X pins σ H s->t σ H Q->wpAny (model X.prog X.w) X.A (spliced (backTo pos (starEach es X.env))) (AP X pins σ Q) X.xe s
def PS(X:Cx)(st:Stmt)(t:TS):Prop:=
 ∀(pins:Qb) (s:Shared) (σ:St) (H:Hp) (D:Ends),Inv X pins σ H s->t D σ H->wpAny (model X.prog X.w) X.A (exec st X.env) (SP X pins D) X.xe s
def PSs(X:Cx)(st:List Stmt)(t:TS):Prop:=
 ∀(pins:Qb) (s:Shared) (σ:St) (H:Hp) (D:Ends),Inv X pins σ H s->t D σ H->wpAny (model X.prog X.w) X.A (execs st X.env) (SP X pins D) X.xe s
def thn(h:wpAny M A t Q E s)(hQ:∀a s,Q a s->Q' a s):wpAny M A t Q' E s:=N6 h hQ λ_ _ x=>x
section
variable{X:Cx}
def tVar(i:Nat):TE:=λσ H Q=>∃v,σ[i]?=some (some v)/\Q v H
def tC(v:V):TE:=λ_ H Q=>Q v H
def Ka(hN:X.N[i]?=some x)(hv:Vis X.env.scope x)(hd:(x==("__debug__" : Str))=false)(hcd:(x==("__classdict__" : Str))=false):PE X (.Name x pos) (tVar i):=by
 intro pins s σ H Q I h;obtain⟨v,e,h⟩:=h;obtain⟨m,hn,hl⟩:=I.loc;obtain⟨u,r,l⟩:=hl i x v hN e hv;have g_:EP X pins σ Q u s:=⟨v,H,I,r,h⟩;rcases l with ⟨hk,hm⟩ |⟨hk,c,hc,hcell⟩
 .exact wpAny_Name (wpAny_loadName_local I.ok.kind hk hn hm g_) hd
 .rcases hk with hk |hk
  .exact wpAny_Name (wpAny_loadName_cell I.ok.kind hk hc hcell g_) hd
  .exact wpAny_Name (wpAny_loadName_free I.ok.kind hk hc hcell g_ hcd) hd
def G7{i j pos}:PE X (.Constant (.int i) j pos) (tC (.int i)):=λ_ _ _ H _ I h=>wpAny_Constant_int ⟨.int i,H,I.tok _,⟨_,rfl⟩,h⟩
def Nz{b j pos}:PE X (.Constant (.bool b) j pos) (tC (.bl b)):=λ_ _ _ H _ I h=>Constant_bool ⟨.bl b,H,I,rfl,h⟩
def GL{j pos}:PE X (.Constant .none j pos) (tC .non):=λ_ _ _ H _ I h=>Constant_none ⟨.non,H,I,rfl,h⟩
def Gb{x j pos}:PE X (.Constant (.str x) j pos) (tC (.str x)):=λ_ _ _ H _ I h=>Calls.Constant_str ⟨.str x,H,I.tok _,⟨_,rfl⟩,h⟩
def Gl(X:Cx)(x:Str):Prop:=X.env.kindOf x=some .globalImplicit
def mV(I:Inv X pins σ H s)(hg:Gl X x)(hm:X.mg x=some u)(h:Q u s)
 (hd:(x==("__debug__" : Str))=false):wpAny (model X.prog X.w) X.A (eval (.Name x pos) X.env) Q E s:=
 Calls.Name_function_global I.ok.kind hg (Calls.loadGlobal_global (by rw[I.ok.glob];exact I.mod.glob.keeps I.bk) hm h) hd
def dN(I:Inv X pins σ H s)(hg:Gl X x)(hm:X.mg x=none)(hv:bootBuiltins x=some u)(h:Q u s)
 (hn:x ≠ "__name__":=by decide) (hd:(x==("__debug__" : Str))=false:=by decide):wpAny (model X.prog X.w) X.A (eval (.Name x pos) X.env) Q E s:=by
 obtain⟨mb,h1,h2⟩:=I.mod.blt;exact Calls.Name_function_global I.ok.kind hg (Calls.loadGlobal_builtin (by rw[I.ok.glob];exact I.mod.glob.keeps I.bk) hm (by rw[I.ok.blt];exact h1.keeps I.bk) ((h2 x hn).trans hv) h) hd
def DK(hg:Gl X x)(hm:X.mg x=some u)(r:RelV v u)(hd:(x==("__debug__" : Str))=false):PE X (.Name x pos) (tC v):=
 λ_ _ _ H _ I h=>mV I hg hm ⟨v,H,I,r,h⟩ hd
def FA(hg:Gl X x)(hm:X.mg x=none)(hv:bootBuiltins x=some u)(r:RelV v u)(hn:x ≠ "__name__")(hd:(x==("__debug__" : Str))=false):PE X (.Name x pos) (tC v):=
 λ_ _ _ H _ I h=>dN I hg hm hv ⟨v,H,I,r,h⟩ hn hd
variable{a b:Expr}{ta tb:TE}{pos:Pos}
def tB(t:TE):TT:=λσ H Q=>t σ H λx H1=>∃c,x=.bl c/\Q c H1
def GA(h:PE X e t)(he:∀ci,isTrue e X.env ci=(do let v <- ci;standAt e.pos;holding [v] (truthy v))):PT X e (tB t):=by intro pins s σ H Q I hw;refine isTrue_plain (thn (h pins s σ H _ I hw) λv s1 ⟨x,H1,I1,r1,q1⟩=>?_) (he _);obtain⟨d,rfl,q⟩:=q1;cases r1;exact OU ⟨H1,I1,q⟩
variable{tA tB':TT}{fP:List Expr}
def tAnd(t u:TT):TT:=λσ H Q=>t σ H λc H1=>if c=true then u σ H1 Q else Q false H1
def tOr(t u:TT):TT:=λσ H Q=>t σ H λc H1=>if c=true then Q true H1 else u σ H1 Q
def tNot(t:TT):TT:=λσ H Q=>t σ H λc H1=>Q (!c) H1
def Fp(ha:PT X a tA):PW X (.BoolOp .And [a] pos) tA:=by
 intro wh pins s σ H Q I h;refine isTrue_and (thn (ha pins s σ H Q I h) λc s1 e=>?_);cases c with
 |true=>exact isTrue_and_nil e
 |false=>exact e
def Je(ha:PT X a tA):PW X (.BoolOp .Or [a] pos) tA:=by
 intro wh pins s σ H Q I h;refine isTrue_or (thn (ha pins s σ H Q I h) λc s1 e=>?_);cases c with
 |false=>exact isTrue_or_nil e
 |true=>exact e
def Ib(ha:PT X a tA)(hb:PW X (.BoolOp .And (b::fP) pos) tB'):PW X (.BoolOp .And (a::b::fP) pos) (tAnd tA tB'):=by
 intro wh pins s σ H Q I h;refine isTrue_and (thn (ha pins s σ H _ I h) λc s1 ⟨H1,I1,q1⟩=>?_);cases c with
 |true=>exact hb wh pins s1 σ H1 Q I1 q1
 |false=>exact⟨H1,I1,q1⟩
def LX(ha:PT X a tA)(hb:PW X (.BoolOp .Or (b::fP) pos) tB'):PW X (.BoolOp .Or (a::b::fP) pos) (tOr tA tB'):=by
 intro wh pins s σ H Q I h;refine isTrue_or (thn (ha pins s σ H _ I h) λc s1 ⟨H1,I1,q1⟩=>?_);cases c with
 |true=>exact⟨H1,I1,q1⟩
 |false=>exact hb wh pins s1 σ H1 Q I1 q1
def Hm(ha:PT X a tA):PT X (.UnaryOp .Not a pos) (tNot tA):=by intro pins s σ H Q I h;exact isTrue_not (ha pins s σ H (λc H1=>Q (!c) H1) I h)
def KY(ta tb:TE):TE:=λσ H Q=>ta σ H λx H1=>∃c,x=.bl c/\if c=true then tb σ H1 Q else Q (.bl false) H1
def MF(ta:TE):TE:=λσ H Q=>ta σ H λx H1=>∃c,x=.bl c/\Q (.bl (!c)) H1
def J1{op}(h:PE X a t):PE X (.BoolOp op [a] pos) t:=λpins s σ H Q I hw=>BoolOp_one (h pins s σ H Q I hw)
def GQ(ha:PE X a ta)(hb:PE X (.BoolOp .And (b::fP) pos) tb):PE X (.BoolOp .And (a::b::fP) pos) (KY ta tb):=by
 intro pins s σ H Q I h;refine BoolOp_and (thn (ha pins s σ H _ I h) λv s1 ⟨x,H1,I1,r1,q1⟩=>?_);obtain⟨c,rfl,q1⟩:=q1;cases r1;refine OU ?_;cases c with
 |true=>exact hb pins s1 σ H1 Q I1 q1
 |false=>exact⟨.bl false,H1,I1,rfl,q1⟩
def Ip(ha:PE X a ta):PE X (.UnaryOp .Not a pos) (MF ta):=by intro pins s σ H Q I h;refine UnaryOp_ (thn (ha pins s σ H _ I h) λv s1 ⟨x,H1,I1,r1,q1⟩=>?_);obtain⟨c,rfl,q1⟩:=q1;cases r1;exact not_of (OU ⟨.bl (!c),H1,I1,rfl,q1⟩)
end
def SqL(K:W.Frag)(H:Hp)(a:Addr)(xs:List V):Prop:=
 Rd H a (.lst xs)\/
  ∃(o:Obj) (its:Array Value) (n:Nat),K.lookup a=some o/\o.cls=.type "list" /\ o.dict=none/\o.data=.seq its n/\its.size<=sizeLine/\Vals xs its.toList
def SqT(K:W.Frag)(H:Hp)(a:Addr)(xs:List V):Prop:=
 Rd H a (.tup xs)\/
  ∃(o:Obj) (its:Array Value) (n:Nat),K.lookup a=some o/\o.cls=.type "tuple" /\ o.data=.seq its n/\its.size<=sizeLine/\Vals xs its.toList
noncomputable def absV:Value->Option V
 |.none=>some .non
 |.bool b=>some (.bl b)
 |.int i _=>some (.int i)
 |.str x _=>some (.str x)
 |.bytes b _=>some (.byt b)
 |.float b _=>some (.flt b)
 |.ref a=>some (.ref a)
 |.type n=>some (.ty n)
 |_=>none
def RelV.abs(r:RelV x u):absV u=some x:=by
 cases x with
 |non=>cases r;rfl
 |bl _=>cases r;rfl
 |int _=>obtain⟨t,rfl⟩:=r;rfl
 |str _=>obtain⟨t,rfl⟩:=r;rfl
 |byt _=>obtain⟨t,rfl⟩:=r;rfl
 |flt _=>obtain⟨t,rfl⟩:=r;rfl
 |ref _=>cases r;rfl
 |ty _=>cases r;rfl
def RelV.inj(r:RelV x u)(q:RelV y u):x=y:=G_ (r.abs.symm.trans q.abs)
def Vals.inj(r:Vals xs us)(q:Vals ys us):xs=ys:=by
 induction r generalizing ys with
 |nil=>cases q;rfl
 |
  cons r t ih=>
  cases q with
  |cons q t'=>rw[r.inj q,ih t']
section
variable{X:Cx}{pins:Qb}{σ:St}{H:Hp}{s:Shared}{a:Addr}{xs ys:List V}
def SqL.of{K:W.Frag}(h:H a=some (.lst xs)):SqL K H a xs:=.inl (.inl h)
def SqT.of{K:W.Frag}(h:H a=some (.tup xs)):SqT K H a xs:=.inl (.inl h)
def Inv.list(I:Inv X pins σ H s)(h:SqL X.K H a xs):∃its:List Value,Vals xs its/\PlainL s.heap a its.toArray/\xs.length<=sizeLine:=by
 rcases h with h |⟨o,its,n,hk,hc,hd,hs,hz,r⟩
 .obtain⟨z,its,n,r,e⟩:=h.ok I.hok;exact⟨its,r,⟨_,n,e,rfl,rfl,rfl⟩,z⟩
 .refine⟨its.toList,r,⟨o,n,I.kIn a o hk,hc,hd,by simpa using hs⟩,?_⟩;have e:=r.length;simp only[OA] at e;omega
def Inv.tuple(I:Inv X pins σ H s)(h:SqT X.K H a xs):∃its:List Value,Vals xs its/\IsTup s.heap a its.toArray/\xs.length<=sizeLine:=by
 rcases h with h |⟨o,its,n,hk,hc,hs,hz,r⟩
 .obtain⟨z,its,r,p⟩:=h.ok I.hok;exact⟨its,r,p,z⟩
 .refine⟨its.toList,r,⟨o,I.kIn a o hk,hc,n,by simpa using hs⟩,?_⟩;have e:=r.length;simp only[OA] at e;omega
def Inv.list_inj(I:Inv X pins σ H s)(h:SqL X.K H a xs)(h':SqL X.K H a ys):xs=ys:=by
 obtain⟨its,r,⟨o,n,e,_,_,d⟩,_⟩:=I.list h;obtain⟨its',r',⟨o',n',e',_,_,d'⟩,_⟩:=I.list h';rw[e] at e';cases e';rw[d] at d';injection d' with d1 _;have:its=its':=by simpa using Oa Array.toList d1
 subst this;exact r.inj r'
def Inv.tuple_inj(I:Inv X pins σ H s)(h:SqT X.K H a xs)(h':SqT X.K H a ys):xs=ys:=by
 obtain⟨its,r,⟨o,e,_,n,d⟩,_⟩:=I.tuple h;obtain⟨its',r',⟨o',e',_,n',d'⟩,_⟩:=I.tuple h';rw[e] at e';cases e';rw[d] at d';injection d' with d1 _;have:its=its':=by simpa using Oa Array.toList d1
 subst this;exact r.inj r'
end
section
variable{X:Cx}{pins:Qb}{σ:St}{H:Hp}{s:Shared}{E:Qc}
end
section
variable{X:Cx}{st:Stmt}{fP:List Stmt}{t u:TS}{e:Expr}{te:TE}{pos:Pos}
def Mf:TS:=λD σ H=>D.nx σ H
def tSeq(t u:TS):TS:=λD σ H=>t { D with nx:=u D } σ H
def DF:PSs X [] Mf:=λ_ _ σ H _ I h=>P1 ⟨σ,H,I,h⟩
def zu(h1:PS X st t)(h2:PSs X fP u):PSs X (st::fP) (tSeq t u):=by
 intro pins s σ H D I h;refine wpAny_execs_cons (thn (h1 pins s σ H { D with nx:=u D } I h) λf s1 q=>?_);cases f with
 |next=>obtain⟨σ',H',I',q⟩:=q;exact h2 pins s1 σ' H' D I' q
 |ret v=>exact q
 |brk=>exact q
 |cont=>exact q
def DZ(h1:PS X st t):PSs X [st] t:=by
 intro pins s σ H D I h;refine wpAny_execs_cons (thn (h1 pins s σ H D I h) λf s1 q=>?_);cases f with
 |next=>exact P1 q
 |ret v=>exact q
 |brk=>exact q
 |cont=>exact q
def Inv.quiet(I:Inv X pins σ H s):interactive X.env=false:=by simp [interactive,I.ok.kind]
def LH(te:TE):TS:=λD σ H=>te σ H λ_ H1=>D.nx σ H1
def Fs(he:PE X e te)(hs:swapsWith e none pos.line X.env=pure false):PS X (.Expr e pos) (LH te):=by intro pins s σ H D I h;exact wpAny_Expr_any (thn (he pins s σ H _ I h) λv s1 ⟨x,H1,I1,r1,q1⟩=>⟨σ,H1,I1,q1⟩) I.quiet hs
def tRet(te:TE):TS:=λD σ H=>te σ H D.rt
def HP(he:PE X e te):PS X (.Return (some e) pos) (tRet te):=by intro pins s σ H D I h;exact wpAny_Return_some (thn (he pins s σ H _ I h) λv s1 ⟨x,H1,I1,r1,q1⟩=>⟨x,σ,H1,I1,r1,q1⟩)
def NA:TS:=λD _ H=>D.rt .non H
def C7:PS X (.Return none pos) NA:=λ_ _ σ H _ I h=>wpAny_Return_none ⟨.non,σ,H,I,rfl,h⟩
def tIfS(c:TT)(t u:TS):TS:=λD σ H=>c σ H λb H1=>if b=true then t D σ H1 else u D σ H1
def Lo(hc:PT X c tc)(ha:PSs X a t)(hb:PSs X b u):PS X (.If c a b pos) (tIfS tc t u):=by
 intro pins s σ H D I h;refine wpAny_If (thn (hc pins s σ H _ I h) λd s1 ⟨H1,I1,q1⟩=>?_);cases d with
 |true=>exact ha pins s1 σ H1 D I1 q1
 |false=>exact hb pins s1 σ H1 D I1 q1
end
abbrev TG:=V->St->Hp->(St->Hp->Prop)->Prop
abbrev TGs:=List V->St->Hp->(St->Hp->Prop)->Prop
def PG(X:Cx)(target:Expr)(t:TG):Prop:=
 ∀
  (pins:Qb) (s:Shared) (σ:St) (H:Hp) (v:V) (u:Value) (Q:St->Hp->Prop),Inv X pins σ H s->RelV v u->t v σ H Q->
  wpAny (model X.prog X.w) X.A (assign target X.env u) (λ_ s'=>∃σ' H',Inv X pins σ' H' s'/\Q σ' H') X.xe s
def PGs(X:Cx)(ts:List Expr)(t:TGs):Prop:=
 ∀
  (pins:Qb) (s:Shared) (σ:St) (H:Hp) (vs:List V) (us:List Value) (Q:St->Hp->Prop),Inv X pins σ H s->Vals vs us->t vs σ H Q->
  wpAny (model X.prog X.w) X.A (assignInOrder ((assignEach ts X.env).map (·.2)) us) (λ_ s'=>∃σ' H',Inv X pins σ' H' s'/\Q σ' H') X.xe s
abbrev uU:=V->V->V->Hp->(Hp->Prop)->Prop
def rB(X:Cx)(t:uU):Prop:=
 ∀
  (pins:Qb) (s:Shared) (σ:St) (H:Hp) (o i v:V) (ov iv u:Value) (Q:Hp->Prop),Inv X pins σ H s->RelV o ov->RelV i iv->RelV v u->t o i v H Q->
  wpAny (model X.prog X.w) X.A (setItem ov iv u) (λ_ s'=>∃H',Inv X pins σ H' s'/\Q H') X.xe s
abbrev TIp:=V->V->Hp->VK->Prop
def PIp(X:Cx)(op:Operator)(t:TIp):Prop:=
 ∀
  (pins:Qb) (s:Shared) (σ:St) (H:Hp) (x y:V) (v u:Value) (Q:VK),Inv X pins σ H s->RelV x v->RelV y u->t x y H Q->
  wpAny (model X.prog X.w) X.A (inplaceOp op v u) (EP X pins σ Q) X.xe s
section
variable{X:Cx}{pos:Pos}
def kX(i:Nat):TG:=λv σ H Q=>Q (σ.set i (some v)) H
def FF(hN:X.N.Nodup)(hi:X.N[i]?=some x)(hx:Loc X.env.scope x)(hf:X.fn x=true\/X.env.scope.names.lookup x=some .local):PG X (.Name x pos) (kX i):=by intro pins s σ H v u Q I r h;exact wpAny_assign_Name (fZ I hN hi hx r (λs' I'=>⟨_,H,I',h⟩) hf)
def gNil:TGs:=λvs σ H Q=>vs=[]/\Q σ H
def Nb(t:TG)(u:TGs):TGs:=λvs σ H Q=>∃v r,vs=v::r/\t v σ H λσ' H'=>u r σ' H' Q
def Ey:PGs X [] gNil:=by intro pins s σ H vs us Q I r h;obtain⟨e,h⟩:=h;subst e;cases r;exact assignInOrder_nil ⟨σ,H,I,h⟩
def zC(h1:PG X e t)(h2:PGs X es u)
 (hs:(assignEach (e::es) X.env).map (·.2)=assign e X.env::(assignEach es X.env).map (·.2)):PGs X (e::es) (Nb t u):=by
 intro pins s σ H vs us Q I r h;obtain⟨v,vr,e1,h⟩:=h;subst e1;cases r with
 |cons r rr=>rw[hs];refine assignInOrder_cons (thn (h1 pins s σ H _ _ _ I r h) λ_ s1 ⟨σ1,H1,I1,q1⟩=>?_);exact h2 pins s1 σ1 H1 _ _ Q I1 rr q1
def gTup(K:W.Frag)(n:Nat)(t:TGs):TG:=λv σ H Q=>∃a xs,v=.ref a/\SqT K H a xs/\xs.length=n/\t xs σ H Q
def KQ(hc:X.calm=true)(h:PGs X es t)
 (hn:(assignEach es X.env).length=n) (hst:(assignEach es X.env).findIdx? (·.1)=none):PG X (.Tuple es k pos) (gTup X.K n t):=by
 intro pins s σ H v u Q I r hw;obtain⟨a,xs,e1,hq,hl,hw⟩:=hw;subst e1;cases r;obtain⟨its,rv,ht,hz⟩:=I.tuple hq;refine assign_Tuple_tuple (I.ok.hd hc) ht (by simp [hn,<- hl,rv.length]) hst λh' hx=>?_;have I1:Inv X pins σ H { s with heap:=h' }:=I.kept (t':=s.toks) λb o e=>hx b o (NY (w_ e)) e;exact h pins _ σ H xs _ Q I1 (by simpa using rv) hw
def gSub(to ti:TE)(t:uU):TG:=λv σ H Q=>to σ H λo H1=>ti σ H1 λi H2=>t o i v H2 λH3=>Q σ H3
def HU(ho:PE X o to)(hi:PE X i ti)(hs:rB X t)
 (ha:∀v,assign (.Subscript o i pos) X.env v=(do
  let ov <- holding [v] (eval o X.env)
  let iv <- holding [v,ov] (eval i X.env)
  standAt pos
  holding [v,ov,iv] (setItem ov iv v)
  release [v,ov,iv] [])):PG X (.Subscript o i pos) (gSub to ti t):=by
 intro pins s σ H v u Q I r h;rw[ha];refine j_ (O0 (thn (ho pins s σ H _ I h) λov s1 ⟨x,H1,I1,r1,q1⟩=>?_));refine j_ (O0 (thn (hi pins s1 σ H1 _ I1 q1) λiv s2 ⟨y,H2,I2,r2,q2⟩=>?_));refine j_ (PH (j_ (O0 (thn (hs pins s2 σ H2 x y v ov iv u _ I2 r1 r2 r q2) λ_ s3 ⟨H3,I3,q3⟩=>?_))));exact wpAny_release ⟨σ,H3,I3,q3⟩
def rY(te:TE)(g:TG):TS:=λD σ H=>te σ H λx H1=>g x σ H1 D.nx
def Ge(he:PE X e te)(hg:PG X tg g)(hs:swapsWithSole [tg] e pos.line X.env=pure false)(hw:swappedStores [tg] e X.env=pure none)
 (h1:(assignEach [tg] X.env).map (·.2)=[assign tg X.env]):PS X (.Assign [tg] e pos) (rY te g):=by
 intro pins s σ H D I h;refine wpAny_Assign_stores (thn (he pins s σ H _ I h) λv s1 ⟨x,H1,I1,r1,q1⟩=>?_) hs hw;rw[h1];exact thn (hg pins s1 σ H1 x v _ I1 r1 q1) λ_ s2 q=>q
def Ik(hN:X.N.Nodup)(hi:X.N[i]?=some x)(hx:Loc X.env.scope x)(he:PE X e te)(hs:swapsWith e (some (.Name x io)) pos.line X.env=pure false)(hf:X.fn x=true\/X.env.scope.names.lookup x=some .local):
 PS X (.Assign [.Name x io] e pos) (rY te (kX i)):=by
 intro pins s σ H D I h;refine wpAny_Assign_Name (thn (he pins s σ H _ I h) λv s1 ⟨y,H1,I1,r1,q1⟩=>?_) hs;exact fZ I1 hN hi hx r1 (λs2 I2=>⟨_,H1,I2,q1⟩) hf
def tPar(i j:Nat)(ta:TA):TS:=λD σ H=>ta σ H λvs H1=>∃v w,vs=[v,w]/\D.nx ((σ.set i (some v)).set j (some w)) H1
def JC{kt k2 pt2}(hc:X.calm=true)(hN:X.N.Nodup)(hi:X.N[i]?=some x)(hj:X.N[j]?=some y)(hij:i≠j)
 (hx:X.env.scope.names.lookup x=some .local) (hy:X.env.scope.names.lookup y=some .local) (ha:PA X [a,b] ta)
 (hw:swappedStores [.Tuple [.Name x px,.Name y py] kt pt] (.Tuple [a,b] k2 pt2) X.env=pure (some [x,y]))
 (hs:swapsWithSole [.Tuple [.Name x px,.Name y py] kt pt] (.Tuple [a,b] k2 pt2) pos.line X.env=pure false):
 PS X (.Assign [.Tuple [.Name x px,.Name y py] kt pt] (.Tuple [a,b] k2 pt2) pos) (tPar i j ta):=by
 intro pins s σ H D I h;rw[exec_Assign_arm];refine j_ (PH ?_);rw[hs];refine j_ (v_ ?_);rw[if_neg (by decide)];refine j_ (Tuple_ (thn (ha _ pins s σ H _ I h) λus s1 ⟨vs,H1,I1,r1,q1⟩=>?_));obtain⟨v,w,e1,q1⟩:=q1;subst e1;obtain⟨u1,u2,rfl,rv,rw'⟩:∃u1 u2,us=[u1,u2]/\RelV v u1/\RelV w u2:=by
  cases r1 with
  |
   cons p q=>
   cases q with
   |cons p' q'=>cases q';exact⟨_,_,rfl,p,p'⟩
 refine Oq ?_ (by show 2<=sizeLine;decide);have I2:Inv X pins σ H1 { s1 with heap:=s1.heap.push { cls:=.type "tuple",data:=.seq [u1,u2].toArray } }:=I1.kept (t':=s1.toks) λb o e=>t_ _ e;rw[hw];refine j_ (v_ ?_);show wpAny (model X.prog X.w) X.A (do rule "assign.swapped-stores";let items <- unpackItems (.ref s1.heap.objs.size) 2 none;assignInOrder [λv=>bindName X.env y v,λv=>bindName X.env x v] items.reverse;pure Flow.next) _ _ _;refine j_ (wpAny_rule (j_ (unpackItems_tuple (items:=#[u1,u2]) (I.ok.hd hc) (IsTup.new s1.heap _) λh' hx'=>?_)));have I3:=I2.kept (h':=h') (t':=s1.toks) λb o e=>hx' b o (NY (w_ e)) e;show wpAny _ _ (assignInOrder [λv=>bindName X.env y v,λv=>bindName X.env x v] [u2,u1] >>= λ_=>pure Flow.next) _ _ _;refine j_ (assignInOrder_cons (wpAny_bindName (fZ I3 hN hj (.inl hy) rw' (λs2 I4=>?_) (.inr hy))));refine assignInOrder_cons (wpAny_bindName (fZ I4 hN hi (.inl hx) rv (λs3 I5=>assignInOrder_nil (v_ ?_)) (.inr hx)));rw[List.set_comm _ _ (Ne.symm hij)] at I5;exact⟨_,H1,I5,q1⟩
def tAug(i:Nat)(te:TE)(ti:TIp):TS:=λD σ H=>∃x,σ[i]?=some (some x)/\te σ H λy H1=>ti x y H1 λz H2=>D.nx (σ.set i (some z)) H2
def Iz(hN:X.N.Nodup)(hi:X.N[i]?=some x)(hx:Loc X.env.scope x)(he:PE X e te)(ho:PIp X op ti)(hf:X.fn x=true\/X.env.scope.names.lookup x=some .local):
 PS X (.AugAssign (.Name x io) op e pos) (tAug i te ti):=by
 intro pins s σ H D I h;obtain⟨v,e1,h⟩:=h;obtain⟨m,hn,hl⟩:=I.loc;have vis:Vis X.env.scope x:=by rcases hx with k |k;exact .inl k;exact .inr (.inl k)
 obtain⟨u,r,l⟩:=hl i x v hi e1 vis;refine wpAny_AugAssign_Name ?_;have go:wpAny (model X.prog X.w) X.A (eval e X.env) (λw s₂=>wpAny (model X.prog X.w) X.A (inplaceOp op u w) (λr s₃=>wpAny (model X.prog X.w) X.A (storeName X.env x r) (λ_=>SP X pins D .next) X.xe s₃) X.xe s₂) X.xe s:=by refine thn (he pins s σ H _ I h) λw s1 ⟨y,H1,I1,r1,q1⟩=>?_;refine thn (ho pins s1 σ H1 v y u w _ I1 r r1 q1) λz s2 ⟨zv,H2,I2,r2,q2⟩=>?_;exact fZ I2 hN hi hx r2 (λs3 I3=>⟨_,H2,I3,q2⟩) hf
 rcases l with ⟨hk,hm⟩ |⟨hk,c,hc,hcell⟩
 .exact wpAny_loadName_local I.ok.kind hk hn hm go
 .rcases hk with hk |hk
  .exact wpAny_loadName_cell I.ok.kind hk hc hcell go
  .rcases hx with k |k
   .have:X.env.scope.names.lookup x=some .free:=hk;rw[k] at this;cases this
   .have:X.env.scope.names.lookup x=some .free:=hk;rw[k] at this;cases this
def ipI(f:Int->Int->Int):TIp:=λx y H Q=>∃i j,x=.int i/\y=.int j/\Q (.int (f i j)) H
def GJ:PIp X .Add (ipI λi j=>i+j):=by intro pins s σ H x y v u Q I r1 r2 h;obtain⟨i,j,e1,e2,q⟩:=h;subst e1;subst e2;obtain⟨t,rfl⟩:=r1;obtain⟨t',rfl⟩:=r2;exact iadd_int ⟨.int _,H,I.tok _,⟨_,rfl⟩,q⟩
end
section
variable{X:Cx}{pos:Pos}
def JN(c:TT)(tb:TS):TS:=λD σ H=>∃W:Nat->St->Hp->Prop,(∃m,W m σ H)/\∀m σ H,W m σ H->
 c σ H λb H1=>if b=true then ∃N:St->Hp->Prop,(∀σ' H',N σ' H'->∃m',m'<m/\W m' σ' H')/\tb { D with nx:=N,ct:=N,bk:=D.nx } σ H1 else D.nx σ H1
def BI(hp:PassesOwn (model X.prog X.w) X.A X.env X.xe)(hc:PT X c tc)(hb:PSs X body tb):PS X (.While c body [] pos) (JN tc tb):=by
 intro pins s σ H D I h;obtain⟨W,⟨m0,w0⟩,turn⟩:=h;refine wpAny_While (codeAny_whileLoop (λn s'=>∃σ' H',Inv X pins σ' H' s'/\W n σ' H') ?_ m0 ⟨σ,H,I,w0⟩);rintro n s1 ⟨σ1,H1,I1,w1⟩;refine OR hp (thn (hc pins s1 σ1 H1 _ I1 (turn n σ1 H1 w1)) λb s2 ⟨H2,I2,q2⟩=>?_);cases b with
 |
  true=>
  obtain⟨N,hN,q2⟩:=q2;rw[if_pos rfl];refine OR hp (thn (hb pins s2 σ1 H2 _ I2 q2) λf s3 q3=>?_);cases f with
  |next=>obtain⟨σ3,H3,I3,n3⟩:=q3;obtain⟨m',hm,w3⟩:=hN σ3 H3 n3;exact⟨m',hm,σ3,H3,I3,w3⟩
  |cont=>obtain⟨σ3,H3,I3,n3⟩:=q3;obtain⟨m',hm,w3⟩:=hN σ3 H3 n3;exact⟨m',hm,σ3,H3,I3,w3⟩
  |brk=>exact q3
  |ret v=>exact q3
 |false=>rw[if_neg s_];exact P1 ⟨σ1,H2,I2,q2⟩
end
structure It where
 go:Nat->Hp->Prop
 yld:Nat->Hp->V->Hp->Prop
 stop:Nat->Hp->Prop
def FpOk(X:Cx)(pins:Qb)(H:Hp)(b:Addr):Prop:=
 H b=none/\b≠X.env.locals/\b∉X.fs/\(b∈X.ex\/X.s₀.heap.objs.size<=b)/\(∀x c,X.env.cells.lookup x=some c->c≠b)/\∀p∈X.pn++pins,p.1≠b
def Inv.fpOk(I:Inv X pins σ H s)(hb:s.heap.objs.size<=b)(hn:H' b=none):FpOk X pins H' b:=by
 refine⟨hn,Pq (A_ I.lt hb),I.nofs hb,.inr (C_ I.sz hb),λx c e z=>?_,λp hp z=>?_⟩
 .obtain⟨v,q⟩:=I.cell x c e;exact absurd (A_ q.lt (by rw[z];exact hb)) (Oy _)
 .exact absurd (A_ (w_ (I.pin p hp).1) (by rw[z];exact hb)) (Oy _)
structure Turn(P:Program)(w:World)(K:W.Frag)(tg:Expr)(J:It)(fp:List Addr)(it:Addr)(tn:Nat->Heap->Prop):Prop where
 mem:it∈fp
 obj:∀i h,tn i h->∀b∈fp,∃o,h.get? b=some o/\∀v,o.data ≠ .cell v
 keep:∀i h h',tn i h->(∀b∈fp,∀o,h.get? b=some o->h'.get? b=some o)->tn i h'
 item:∀(X:Cx),X.prog=P->X.w=w->X.K=K->X.calm=true->∀(i:Nat) (pins:Qb) (s:Shared) (σ:St) (H:Hp) (E:Qc),Inv X pins σ H s->(∀b∈fp,FpOk X pins H b)->tn i s.heap->J.go i H->
  wpAny (model P w) X.A (pyNext (.ref it)) (λr s1=>∃u,r=some u/\
   wpAny (model P w) X.A (letOwnedTupleGo tg (.ref it) u) (λ_ s2=>∃x H',Inv X pins σ H' s2/\RelV x u/\J.yld i H x H'/\tn (i+1) s2.heap/\∀b∈fp,H' b=none) E s1) E s
 done:∀(X:Cx),X.prog=P->X.w=w->X.K=K->X.calm=true->∀(i:Nat) (pins:Qb) (s:Shared) (σ:St) (H:Hp) (E:Qc),Inv X pins σ H s->(∀b∈fp,FpOk X pins H b)->tn i s.heap->J.stop i H->
  wpAny (model P w) X.A (pyNext (.ref it)) (λr s1=>r=none/\Inv X pins σ H s1) E s
 self:∀(A:Around) (i:Nat) (s:Shared) (Q:Qc) (E:Qc),tn i s.heap->Q (.ref it) s->wpAny (model P w) A (pyIter (.ref it)) Q E s
abbrev TI:=St->Hp->(It->Hp->Prop)->Prop
def PIE(X:Cx)(pins:Qb)(σ:St)(tg:Expr)(R:It->Hp->Prop)(itv:Value)(s2:Shared):Prop:=
 ∃(it:Addr) (fp:List Addr) (tn:Nat->Heap->Prop) (J:It) (H':Hp),itv=.ref it/\Inv X pins σ H' s2/\Turn X.prog X.w X.K tg J fp it tn/\tn 0 s2.heap/\(∀b∈fp,FpOk X pins H' b)/\R J H'
def PI(X:Cx)(tg am:Expr)(wi:TI):Prop:=
 ∀
  (pins:Qb) (s:Shared) (σ:St) (H:Hp) (R:It->Hp->Prop),Inv X pins σ H s->wi σ H R->
  wpAny (model X.prog X.w) X.A (eval am X.env) (λv s1=>wpAny (model X.prog X.w) X.A (pyIter v) (PIE X pins σ tg R) X.xe s1) X.xe s
def u7(ho:s.heap.get? it=some o)(hc:o.cls=.type n)(hd:o.data=.fields vs)
 (hn:["enumerate", "zip", "dict_itemiterator", "dict_reverseitemiterator", "odict_iterator", "itertools.zip_longest", "itertools.pairwise"].contains n=false) (hQ:Q () s):wpAny M A (letOwnedTupleGo tg (.ref it) u) Q E s:=by
 unfold letOwnedTupleGo;cases tg
  <;> first
  |exact v_ hQ
  |(cases u <;> first
   |exact v_ hQ
   |(
    refine j_ (wpAny_load ho ?_);rw[hc,hd];show wpAny M A (if (["enumerate", "zip", "dict_itemiterator", "dict_reverseitemiterator", "odict_iterator", "itertools.zip_longest", "itertools.pairwise"].contains n&&vs[0]?==some (rawInt _))=true then _ else _) Q E s;rw[if_neg (by intro h;rw[hn,Bool.false_and] at h;cases h)];exact v_ hQ))
noncomputable def Itl(K:W.Frag)(a:Addr):It:=
 ⟨λi H=>∃xs x,SqL K H a xs/\xs[i]?=some x,λi H x H'=>H'=H/\∀xs,SqL K H a xs->xs[i]?=some x,λi H=>∃xs,SqL K H a xs/\xs.length<=i⟩
noncomputable def Itt(K:W.Frag)(a:Addr):It:=
 ⟨λi H=>∃xs x,SqT K H a xs/\xs[i]?=some x,λi H x H'=>H'=H/\∀xs,SqT K H a xs->xs[i]?=some x,λi H=>∃xs,SqT K H a xs/\xs.length<=i⟩
noncomputable def Itr(lo:Int)(n:Nat):It:=⟨λi _=>i<n,λi H x H'=>H'=H/\x=.int (lo+i),λi _=>n<=i⟩
def zf{P:Program}{w:World}{K:W.Frag}{tg:Expr}(a it:Addr):Turn P w K tg (Itl K a) [it] it (λi h=>h.IsListIter it a i) where
 mem:=by simp
 obj:=λi h st b hb=>by
  have e:b=it:=by simpa using hb
  subst e;obtain⟨o,e,c,d⟩:=st;exact⟨o,e,λv z=>by rw[d] at z;cases z⟩
 keep:=λi h h' st k=>st.at λo e=>k it (by simp) o e
 item:=by intro X hP hw hK hc i pins s σ H E I hf st hg;subst hP hw hK;obtain⟨xs,x,hq,hx⟩:=hg;obtain⟨its,rv,p,hz⟩:=I.list hq;obtain⟨u,hu,ru⟩:=rv.get hx;obtain⟨f0,f1,f2,f3,f4,f5⟩:=hf it (by simp);refine wpAny_pyNext_list_item st p.isList (x:=u) (by simpa using hu) λh' st' sb=>?_;have I1:Inv X pins σ H { s with heap:=h' }:=I.turned (t':=s.toks) (λb o hb e=>(sb.2 b hb).trans e) f0 f1 f3 f4 f5;obtain⟨o,e,c,d⟩:=id st';exact⟨u,rfl,u7 (s:={ s with heap:=h' }) e c d (by decide) ⟨x,H,I1,ru,⟨rfl,λys hy=>by rw[I.list_inj hy hq];exact hx⟩,st',λb hb=>(hf b hb).1⟩⟩
 done:=by intro X hP hw hK hc i pins s σ H E I hf st hg;subst hP hw hK;obtain⟨xs,hq,hx⟩:=hg;obtain⟨its,rv,p,hz⟩:=I.list hq;obtain⟨f0,f1,f2,f3,f4,f5⟩:=hf it (by simp);have hl:=rv.length;exact wpAny_pyNext_list_end (I.ok.hd hc) st p.isList (by simp;omega) λh' eb=>⟨rfl,I.turned (t':=s.toks) (λb o hb e=>eb b o hb e) f0 f1 f3 f4 f5⟩
 self:=λ_ _ _ _ _ st h=>wpAny_pyIter_listiter st h
def uV{P:Program}{w:World}{K:W.Frag}{tg:Expr}(a it:Addr):Turn P w K tg (Itt K a) [it] it (λi h=>h.IsTupleIter it a i) where
 mem:=by simp
 obj:=λi h st b hb=>by
  have e:b=it:=by simpa using hb
  subst e;obtain⟨o,e,c,d⟩:=st;exact⟨o,e,λv z=>by rw[d] at z;cases z⟩
 keep:=λi h h' st k=>st.at λo e=>k it (by simp) o e
 item:=by intro X hP hw hK hc i pins s σ H E I hf st hg;subst hP hw hK;obtain⟨xs,x,hq,hx⟩:=hg;obtain⟨its,rv,p,hz⟩:=I.tuple hq;obtain⟨u,hu,ru⟩:=rv.get hx;obtain⟨f0,f1,f2,f3,f4,f5⟩:=hf it (by simp);refine wpAny_pyNext_tuple_item st (show s.heap.IsTuple a its.toArray from p) (x:=u) (by simpa using hu) λh' st' sb=>?_;have I1:Inv X pins σ H { s with heap:=h' }:=I.turned (t':=s.toks) (λb o hb e=>(sb.2 b hb).trans e) f0 f1 f3 f4 f5;obtain⟨o,e,c,d⟩:=id st';exact⟨u,rfl,u7 (s:={ s with heap:=h' }) e c d (by decide) ⟨x,H,I1,ru,⟨rfl,λys hy=>by rw[I.tuple_inj hy hq];exact hx⟩,st',λb hb=>(hf b hb).1⟩⟩
 done:=by intro X hP hw hK hc i pins s σ H E I hf st hg;subst hP hw hK;obtain⟨xs,hq,hx⟩:=hg;obtain⟨its,rv,p,hz⟩:=I.tuple hq;obtain⟨f0,f1,f2,f3,f4,f5⟩:=hf it (by simp);have hl:=rv.length;exact wpAny_pyNext_tuple_end (I.ok.hd hc) st (show s.heap.IsTuple a its.toArray from p) (by simp;omega) λh' eb=>⟨rfl,I.turned (t':=s.toks) (λb o hb e=>eb b o hb e) f0 f1 f3 f4 f5⟩
 self:=λ_ _ _ _ _ st h=>wpAny_pyIter_tupleiter st h
def wD{P:Program}{w:World}{K:W.Frag}{tg:Expr}(it:Addr)(lo:Int)(n:Nat):Turn P w K tg (Itr lo n) [it] it (λi h=>IsRangeIter h it (lo+(i:Nat)*1) ((n:Int)-(i:Nat)) 1) where
 mem:=by simp
 obj
  := λi h st b hb=>by
  have e:b=it:=by simpa using hb
  subst e;exact⟨_,st,λv z=>by have z':Data.fields _=Data.cell v:=z;cases z'⟩
 keep:=λi h h' st k=>k it (by simp) _ st
 item:=by intro X hP hw hK hc i pins s σ H E I hf st hg;subst hP hw hK;obtain⟨f0,f1,f2,f3,f4,f5⟩:=hf it (by simp);have W:=Walks.range (prog:=X.prog) (w:=X.w) (I.ok.hd hc) it lo 1 n;refine W.item i s _ _ hg st λv h' tk hv st' kk=>?_;obtain⟨t,rfl⟩:=hv;have I1:Inv X pins σ H { s with heap:=h',toks:=tk }:=I.turned (λb o hb e=>kk b o (by simpa using hb) e) f0 f1 f3 f4 f5;refine⟨_,rfl,u7 (s:={ s with heap:=h',toks:=tk }) (n:="range_iterator") st' rfl rfl (by decide) ⟨.int (lo+i),H,I1,⟨t,?_⟩,⟨rfl,rfl⟩,st',λb hb=>(hf b hb).1⟩⟩;rw[Int.mul_one]
 done:=by intro X hP hw hK hc i pins s σ H E I hf st hg;subst hP hw hK;obtain⟨f0,f1,f2,f3,f4,f5⟩:=hf it (by simp);exact wpAny_pyNext_range_end (I.ok.hd hc) st (by have:n<=i:=hg;omega) λh' eb=>⟨rfl,I.turned (t':=s.toks) (λb o hb e=>eb b o hb e) f0 f1 f3 f4 f5⟩
 self:=λ_ _ _ _ _ st h=>wpAny_pyIter_rangeiter st h
section
variable{X:Cx}{tg:Expr}
def su{pins:Qb}{σ:St}{H:Hp}{s:Shared}{R:It->Hp->Prop}{E:Qc}{lo hi:Int}{t u v:Tok}{tk:Nat}(I:Inv X pins σ H s)(h1:-(2^62)<=lo)(h2:lo<2^62)(h3:-(2^62)<=hi)(h4:hi<2^62)
 (q:R (Itr lo (hi-lo).toNat) H):wpAny (model X.prog X.w) X.A (pyIter (.ref s.heap.objs.size)) (PIE X pins σ tg R) E { s with heap:=s.heap.push { cls:=.type "range",data:=.fields #[.int lo t,.int hi u,.int 1 v] },toks:=tk }:=by
 refine wpAny_pyIter_range (IsRange.new ..) (small_one h1 h2 h3 h4) ?_;have I1:Inv X pins σ H { s with heap:=s.heap.push { cls:=.type "range",data:=.fields #[.int lo t,.int hi u,.int 1 v] },toks:=tk }:=I.kept λb o e=>t_ _ e;refine⟨(s.heap.push { cls:=.type "range",data:=.fields #[.int lo t,.int hi u,.int 1 v] }).objs.size,[(s.heap.push { cls:=.type "range",data:=.fields #[.int lo t,.int hi u,.int 1 v] }).objs.size],_,_,H,rfl,
  I1.kept (t':=tk) λb o e=>t_ _ e,wD _ lo (hi-lo).toNat,?_,λb hb=>?_,q⟩
 .have e1:lo+((0:Nat):Int)*1=lo:=by simp
  have e2:(((hi-lo).toNat:Nat):Int)-((0:Nat):Int)=Builtin.Range.rangeSize lo hi 1:=by rw[rangeSize_one];split <;> omega
  show IsRangeIter _ _ (lo+((0:Nat):Int)*1) ((((hi-lo).toNat:Nat):Int)-((0:Nat):Int)) 1;rw[e1,e2];exact Em _ rfl
 .have e:b=(s.heap.push { cls:=.type "range",data:=.fields #[.int lo t,.int hi u,.int 1 v] }).objs.size:=by simpa using hb
  subst e;exact I1.fpOk (n_ _) (I1.hok.fresh (n_ _))
def Mr(ta:TA):TI:=λσ H R=>ta σ H λvs H1=>∃j:Int,vs=[.int j]/\-(2^62)<=j/\j<2^62/\R (Itr 0 j.toNat) H1
def LS(ta:TA):TI:=λσ H R=>ta σ H λvs H1=>∃i j:Int,vs=[.int i,.int j]/\(-(2^62)<=i/\i<2^62/\-(2^62)<=j/\j<2^62)/\R (Itr i (j-i).toNat) H1
def x5(hg:Gl X "range")(hm:X.mg "range"=none)(ha:PA X [a] ta)(hs:starEach [a] X.env=[(false,eval a X.env)]):PI X tg (.Call (.Name "range" p) [a] [] pos) (Mr ta):=by
 intro pins s σ H R I h;refine Call_ (dN I hg hm boot_range (Ol (thn (ha pos pins s σ H _ I h) λus s1 ⟨vs,H1,I1,r1,q1⟩=>?_) hs rfl));obtain⟨j,e,q1,q2,q⟩:=q1;subst e;cases r1 with
 |cons r rr=>cases rr;obtain⟨t,rfl⟩:=r;exact call_range_1 (su I1 (by omega) (by omega) q1 q2 (by simpa using q))
def xk(hg:Gl X "range")(hm:X.mg "range"=none)(ha:PA X [a,b] ta)(hs:starEach [a,b] X.env=[(false,eval a X.env),(false,eval b X.env)])(hs2:starEach [b] X.env=[(false,eval b X.env)]):
 PI X tg (.Call (.Name "range" p) [a,b] [] pos) (LS ta):=by
 intro pins s σ H R I h;refine Call_ (dN I hg hm boot_range (Ol (thn (ha pos pins s σ H _ I h) λus s1 ⟨vs,H1,I1,r1,q1⟩=>?_) (by rw[hs,hs2]) (by rw[hs2];rfl)));obtain⟨i,j,e,⟨q1,q2,q3,q4⟩,q⟩:=q1;subst e;cases r1 with
 |
  cons r rr=>
  cases rr with
  |cons r' rr=>cases rr;obtain⟨t,rfl⟩:=r;obtain⟨t',rfl⟩:=r';exact call_range_2 (su I1 q1 q2 q3 q4 q)
def tFor(wi:TI)(g:TG)(tb:TS):TS:=λD σ H=>wi σ H λJ H1=>∃W:Nat->Nat->St->Hp->Prop,(∃m,W 0 m σ H1)/\∀i m σ H,W i m σ H->
 (J.stop i H/\D.nx σ H)\/(J.go i H/\∃N:St->Hp->Prop,(∀σ' H',N σ' H'->∃m',m'<m/\W (i+1) m' σ' H')/\∀x H',J.yld i H x H'->g x σ H' λσ2 H2=>tb { D with nx:=N,ct:=N,bk:=D.nx } σ2 H2)
noncomputable def je(fp:List Addr)(h:Heap):List (Addr×Obj):=fp.filterMap λb=>(h.get? b).map λo=>(b,o)
def fF(hb:b∈fp)(e:h.get? b=some o):(b,o)∈je fp h:=List.mem_filterMap.mpr ⟨b,hb,by rw[e];rfl⟩
def yt(hp:p∈je fp h):p.1∈fp/\h.get? p.1=some p.2:=by
 obtain⟨b,hb,e⟩:=List.mem_filterMap.mp hp;cases q:h.get? b with
 |none=>rw[q] at e;cases e
 |some o=>rw[q] at e;have e':(b,o)=p:=G_ e;subst e';exact⟨hb,q⟩
def Inv.pinned(I:Inv X pins σ H s)(hf:∀b∈fp,FpOk X pins H b)(ho:∀b∈fp,∃o,s.heap.get? b=some o/\∀v,o.data ≠ .cell v):Inv X (pins++je fp s.heap) σ H s:=
 I.pins_of λp hp=>(Ot.mp hp).elim (λz=>I.pin p (NZ _ z)) λz=>by obtain⟨hb,e⟩:=yt z;obtain⟨f0,f1,f2,_⟩:=hf p.1 hb;obtain⟨o,e',d⟩:=ho p.1 hb;rw[e] at e';cases e';exact⟨e,f0,f1,f2,d⟩
def Inv.unpinned(I:Inv X (pins++pl) σ H s):Inv X pins σ H s:=I.pins_of λp hp=>I.pin p (NZ _ (PV _ hp))
def FJ(hp:PassesOwn (model X.prog X.w) X.A X.env X.xe)(hc:X.calm=true)(hi:PI X tg am wi)(hg:PG X tg g)(hb:PSs X body tb)
 (hs:∀x,foldedSetIterable am X.env x=pure x):PS X (.For tg am body [] pos) (tFor wi g tb):=by
 intro pins s σ H D I h;refine wpAny_For (thn (hi pins s σ H _ I h) λv s1 h1=>thn h1 λitv s2 h2=>?_) hs;obtain⟨it,fp,tn,J,H2,e,I2,T,st2,f2,W,⟨m0,w0⟩,turn⟩:=h2;subst e;have stat:∀{H':Hp},(∀b∈fp,H' b=none)->∀b∈fp,FpOk X pins H' b:=λhn b hb=>⟨hn b hb,(f2 b hb).2⟩;refine codeAny_forLoop_any (λn s'=>∃i σ' H',Inv X pins σ' H' s'/\tn i s'.heap/\(∀b∈fp,H' b=none)/\W i n σ' H') ?_ m0 ⟨0,σ,H2,I2,st2,λb hb=>(f2 b hb).1,w0⟩;rintro n s3 ⟨i,σ3,H3,I3,st3,fr3,w3⟩;rcases turn i n σ3 H3 w3 with ⟨stop,qn⟩ |⟨go,N,hN,step⟩
 .refine OR hp (thn (T.done X rfl rfl rfl hc i pins s3 σ3 H3 X.xe I3 (stat fr3) st3 stop) λr s4 ⟨hr,I4⟩=>?_);subst hr;exact P1 ⟨σ3,H3,I4,qn⟩
 .refine OR hp (thn (T.item X rfl rfl rfl hc i pins s3 σ3 H3 X.xe I3 (stat fr3) st3 go) λr s4 ⟨u,hr,h4⟩=>?_);subst hr;refine OR hp (thn h4 λ_ s5 ⟨x,H5,I5,r5,y5,st5,fr5⟩=>?_);have I5':=I5.pinned (stat fr5) (T.obj _ _ st5);refine OR hp (thn (hg _ s5 σ3 H5 x u _ I5' r5 (step x H5 y5)) λ_ s6 ⟨σ6,H6,I6,q6⟩=>?_);refine OR hp (thn (hb _ s6 σ6 H6 _ I6 q6) λf s7 q7=>?_);have again:∀{σ7:St}{H7:Hp},Inv X (pins++je fp s5.heap) σ7 H7 s7->N σ7 H7->∃m,m<n/\∃i σ' H',Inv X pins σ' H' s7/\tn i s7.heap/\(∀b∈fp,H' b=none)/\W i m σ' H':=λ{σ7 H7} I7 n7=>by obtain⟨m',hm,w7⟩:=hN σ7 H7 n7;refine⟨m',hm,i+1,σ7,H7,I7.unpinned,T.keep _ _ _ st5 λb hb o e=>(I7.pin (b,o) (NZ _ (NZ _ (fF hb e)))).1,λb hb=>?_,w7⟩;obtain⟨o,e,d⟩:=T.obj _ _ st5 b hb;exact (I7.pin (b,o) (NZ _ (NZ _ (fF hb e)))).2.1
  cases f with
  |next=>obtain⟨σ7,H7,I7,n7⟩:=q7;exact again I7 n7
  |cont=>obtain⟨σ7,H7,I7,n7⟩:=q7;exact again I7 n7
  |brk=>obtain⟨σ7,H7,I7,q7⟩:=q7;exact⟨σ7,H7,I7.unpinned,q7⟩
  |ret v=>obtain⟨x7,σ7,H7,I7,r7,q7⟩:=q7;exact⟨x7,σ7,H7,I7.unpinned,r7,q7⟩
end
abbrev R2:=V->V->Hp->VK->Prop
def OpR(X:Cx)(f:Value->Value->Sem Value)(r:R2):Prop:=
 ∀
  (pins:Qb) (s:Shared) (σ:St) (H:Hp) (x y:V) (v u:Value) (Q:VK),Inv X pins σ H s->RelV x v->RelV y u->r x y H Q->
  wpAny (model X.prog X.w) X.A (f v u) (EP X pins σ Q) X.xe s
def UnR(X:Cx)(f:Value->Sem Value)(r:V->Hp->VK->Prop):Prop:=
 ∀
  (pins:Qb) (s:Shared) (σ:St) (H:Hp) (x:V) (v:Value) (Q:VK),Inv X pins σ H s->RelV x v->r x H Q->
  wpAny (model X.prog X.w) X.A (f v) (EP X pins σ Q) X.xe s
def CallR(X:Cx)(f:Value)(r:List V->Hp->VK->Prop):Prop:=
 ∀
  (pins:Qb) (s:Shared) (σ:St) (H:Hp) (xs:List V) (us:List Value) (Q:VK),Inv X pins σ H s->Vals xs us->r xs H Q->
  wpAny (model X.prog X.w) X.A (call f us) (EP X pins σ Q) X.xe s
def TruR(X:Cx)(r:V->Hp->(Bool->Hp->Prop)->Prop):Prop:=
 ∀
  (pins:Qb) (s:Shared) (σ:St) (H:Hp) (x:V) (v:Value) (Q:Bool->Hp->Prop),Inv X pins σ H s->RelV x v->r x H Q->
  wpAny (model X.prog X.w) X.A (truthy v) (TP X pins σ Q) X.xe s
def tOp(r:R2)(ta tb:TE):TE:=λσ H Q=>ta σ H λx H1=>tb σ H1 λy H2=>r x y H2 Q
def tUn(r:V->Hp->VK->Prop)(ta:TE):TE:=λσ H Q=>ta σ H λx H1=>r x H1 Q
def rI(C:Int->Int->Prop)(g:Int->Int->V):R2:=λx y H Q=>∃i j,x=.int i/\y=.int j/\C i j/\Q (g i j) H
def rI0(g:Int->Int->V):R2:=λx y H Q=>∃i j,x=.int i/\y=.int j/\Q (g i j) H
def rU(g:Int->V):V->Hp->VK->Prop:=λx H Q=>∃i,x=.int i/\Q (g i) H
section
variable{X:Cx}{a b c:Expr}{ta tb tc:TE}{pos:Pos}
def BE(ha:PE X a ta)(hb:PE X b tb){pins:Qb}{s:Shared}{σ:St}{H:Hp}{R:V->V->Hp->Prop}(I:Inv X pins σ H s)
 (h:ta σ H λx H1=>tb σ H1 λy H2=>R x y H2) {Q:Qc}{f:Value->Value->Sem Value}
 (hf:∀v u s2 x y H2,Inv X pins σ H2 s2->RelV x v->RelV y u->R x y H2->wpAny (model X.prog X.w) X.A (f v u) Q X.xe s2):
 wpAny (model X.prog X.w) X.A (eval a X.env) (λv s₁=>wpAny (model X.prog X.w) X.A (eval b X.env) (λu s₂=>wpAny (model X.prog X.w) X.A (f v u) Q X.xe s₂) X.xe s₁) X.xe s:=by
 refine thn (ha pins s σ H _ I h) λv s1 ⟨x,H1,I1,r1,q1⟩=>?_;refine thn (hb pins s1 σ H1 _ I1 q1) λu s2 ⟨y,H2,I2,r2,q2⟩=>?_;exact hf v u s2 x y H2 I2 r1 r2 q2
def Mu(ho:OpR X (binaryOp op) r)(ha:PE X a ta)(hb:PE X b tb):PE X (.BinOp a op b pos) (tOp r ta tb):=by intro pins s σ H Q I h;exact wpAny_BinOp (BE ha hb I h λv u s2 x y H2 I2 rx ry q=>ho pins s2 σ H2 x y v u Q I2 rx ry q)
def LR(ho:UnR X (unaryOp op) r)(ha:PE X a ta):PE X (.UnaryOp op a pos) (tUn r ta):=by intro pins s σ H Q I h;exact UnaryOp_ (thn (ha pins s σ H _ I h) λv s1 ⟨x,H1,I1,r1,q1⟩=>ho pins s1 σ H1 x v Q I1 r1 q1)
def opI{f:Value->Value->Sem Value}{C:Int->Int->Prop}{g:Int->Int->Int}
 (rule:∀(i j:Int) (t u:Tok) (s:Shared) (Q:Qc) (E:Qc),C i j->Q (.int (g i j) s.toks) { s with toks:=s.toks+1 }->wpAny (model X.prog X.w) X.A (f (.int i t) (.int j u)) Q E s):
 OpR X f (rI C λi j=>.int (g i j)):=by
 intro pins s σ H x y v u Q I rx ry h;obtain⟨i,j,rfl,rfl,hc,q⟩:=h;obtain⟨t,rfl⟩:=rx;obtain⟨t',rfl⟩:=ry;exact rule i j t t' s _ _ hc ⟨.int (g i j),H,I.tok _,⟨_,rfl⟩,q⟩
def opI0{f:Value->Value->Sem Value}{g:Int->Int->Int}
 (rule:∀(i j:Int) (t u:Tok) (s:Shared) (Q:Qc) (E:Qc),Q (.int (g i j) s.toks) { s with toks:=s.toks+1 }->wpAny (model X.prog X.w) X.A (f (.int i t) (.int j u)) Q E s):
 OpR X f (rI0 λi j=>.int (g i j)):=by
 intro pins s σ H x y v u Q I rx ry h;obtain⟨i,j,rfl,rfl,q⟩:=h;obtain⟨t,rfl⟩:=rx;obtain⟨t',rfl⟩:=ry;exact rule i j t t' s _ _ ⟨.int (g i j),H,I.tok _,⟨_,rfl⟩,q⟩
def Bp{f:Value->Value->Sem Value}{g:Int->Int->Bool}
 (rule:∀(i j:Int) (t u:Tok) (s:Shared) (Q:Qc) (E:Qc),Q (.bool (g i j)) s->wpAny (model X.prog X.w) X.A (f (.int i t) (.int j u)) Q E s):
 OpR X f (rI0 λi j=>.bl (g i j)):=by
 intro pins s σ H x y v u Q I rx ry h;obtain⟨i,j,rfl,rfl,q⟩:=h;obtain⟨t,rfl⟩:=rx;obtain⟨t',rfl⟩:=ry;exact rule i j t t' s _ _ ⟨.bl (g i j),H,I,rfl,q⟩
def ft(i j:Int):Prop:=0<=j/\j<=1000000/\i.natAbs<2^64
def CMul(i j:Int):Prop:=(-(2^64)<i/\i<2^64)\/(-(2^64)<j/\j<2^64)
def CMul.ok(h:CMul i j):IntMulOk i j:=by
 rcases h with ⟨h1,h2⟩ |⟨h1,h2⟩
 .exact .of_left (intBits_le_64 h1 h2)
 .exact .of_right (intBits_le_64 h1 h2)
def FI:OpR X (binaryOp .Add) (rI0 λi j=>.int (i+j)):=opI0 λ_ _ _ _ _ _ _ q=>add_int q
def F7:OpR X (binaryOp .Sub) (rI0 λi j=>.int (i-j)):=opI0 λ_ _ _ _ _ _ _ q=>sub_int q
def Gk:OpR X (binaryOp .Mult) (rI CMul λi j=>.int (i*j)):=opI λ_ _ _ _ _ _ _ hc q=>mul_int q hc.ok
def Fx:OpR X (binaryOp .Mod) (rI (λ_ j=>j≠0) λi j=>.int (i.fmod j)):=opI λ_ _ _ _ _ _ _ hc q=>mod_int' hc q
def IQ:OpR X (binaryOp .Pow) (rI ft λi j=>.int (i^j.toNat)):=opI λ_ _ _ _ _ _ _ hc q=>pow_int_small hc.1 hc.2.1 hc.2.2 q
def FX:OpR X (binaryOp .LShift) (rI ft λi j=>.int (i*2^j.toNat)):=opI λ_ _ _ _ _ _ _ hc q=>lshift_int_small hc.1 hc.2.1 hc.2.2 q
def unI{f:Value->Sem Value}{g:Int->Int}
 (rule:∀(i:Int) (t:Tok) (s:Shared) (Q:Qc) (E:Qc),Q (.int (g i) s.toks) { s with toks:=s.toks+1 }->wpAny (model X.prog X.w) X.A (f (.int i t)) Q E s):
 UnR X f (rU λi=>.int (g i)):=by
 intro pins s σ H x v Q I rx h;obtain⟨i,rfl,q⟩:=h;obtain⟨t,rfl⟩:=rx;exact rule i t s _ _ ⟨.int (g i),H,I.tok _,⟨_,rfl⟩,q⟩
def H9:UnR X (unaryOp .USub) (rU λi=>.int (-i)):=unI λ_ _ _ _ _ q=>neg_int q
end
section
variable{X:Cx}{a b c:Expr}{ta tb tc:TE}{pos:Pos}
def qf(I:Inv X pins σ H s)(q:Q (.bl k) H)(e:k=k'):EP X pins σ Q (.bool k') s:=by subst e;exact⟨.bl k,H,I,rfl,q⟩
def CW:OpR X (compareOp .Lt) (rI0 λi j=>.bl (decide (i<j))):=Bp λ_ _ _ _ _ _ _ q=>lt_int q
def CJ:OpR X (compareOp .Gt) (rI0 λi j=>.bl (decide (j<i))):=Bp λ_ _ _ _ _ _ _ q=>gt_int q
def Cc:OpR X (compareOp .GtE) (rI0 λi j=>.bl (decide (j<=i))):=Bp λ_ _ _ _ _ _ _ q=>ge_int q
def Ea:OpR X (compareOp .IsNot) (λx y H Q=>y=.non/\Q (.bl (!decide (x=.non))) H):=by
 intro pins s σ H x y v u Q I rx ry h;obtain⟨rfl,q⟩:=h;cases ry;refine isnot_none_gen (qf I q ?_);cases x <;> first
  |(cases rx;rfl)
  |(obtain⟨t,rfl⟩:=rx;rfl)
def OpR.or(h:OpR X f r)(h':OpR X f r'):OpR X f (λx y H Q=>r x y H Q\/r' x y H Q):=by
 intro pins s σ H x y v u Q I rx ry q;rcases q with q |q
 .exact h pins s σ H x y v u Q I rx ry q
 .exact h' pins s σ H x y v u Q I rx ry q
def o6(b:Expr)(h:op ≠ .In:=by decide)(h2:op ≠ .NotIn:=by decide):behindInMarks op b=false:=by
 have e1:(op==CmpOp.In)=false:=by cases op <;> first |rfl |exact absurd rfl h
 have e2:(op==CmpOp.NotIn)=false:=by cases op <;> first |rfl |exact absurd rfl h2
 cases b <;> simp [behindInMarks,e1,e2]
def Dc(ho:OpR X (compareOp op) r)(ha:PE X a ta)(hb:PE X b tb)(hm:behindInMarks op b=false):PE X (.Compare a [op] [b] pos) (tOp r ta tb):=by intro pins s σ H Q I h;exact wpAny_Compare1 (BE ha hb I h λv u s2 x y H2 I2 rx ry q=>ho pins s2 σ H2 x y v u Q I2 rx ry q) hm
def KR(t:TE):TT:=λσ H Q=>t σ H λx H'=>∃k,x=.bl k/\Q k H'
def Fi(ho:OpR X (compareOp op) r)(ha:PE X a ta)(hb:PE X b tb)(hm:behindInMarks op b=false):PT X (.Compare a [op] [b] pos) (KR (tOp r ta tb)):=by
 intro pins s σ H Q I h;refine wpAny_isTrue_Compare1 (thn (ha pins s σ H _ I h) λv s1 ⟨x,H1,I1,r1,q1⟩=>thn (hb pins s1 σ H1 _ I1 q1) λu s2 ⟨y,H2,I2,r2,q2⟩=>
  thn (ho pins s2 σ H2 x y v u _ I2 r1 r2 q2) λc s3 ⟨z,H3,I3,r3,k,e,q3⟩=>?_) hm
 subst e;cases r3;exact OU ⟨H3,I3,q3⟩
def Aj(K:W.Frag)(x:V)(H:Hp)(k:Bool):Prop:=
 match x with
 |.non=>k=false
 |.bl b=>k=b
 |.int i=>k=(i != 0)
 |.str y=>y.length<=sizeLine/\k=((y.length:Int) != 0)
 |.byt y=>y.size<=sizeLine/\k=((y.size:Int) != 0)
 |.ref p=>(∃xs,SqL K H p xs/\k=!xs.isEmpty)\/(∃xs,SqT K H p xs/\k=!xs.isEmpty)\/∃kvs,H p=some (.dK kvs)/\k=!kvs.isEmpty
 |_=>False
def vN(r:KV kvs vs):(!vs.isEmpty)=!kvs.isEmpty:=by cases r <;> rfl
def lr(r:Vals xs its):(!its.toArray.isEmpty)=!xs.isEmpty:=by cases r <;> simp
def fW:(sizeLine:Nat)<2^63:=by rw[sizeLine_eq];decide
def Gd:TruR X (λx H Q=>∃k,Aj X.K x H k/\Q k H):=by
 intro pins s σ H x v Q I rx h;obtain⟨k,e,q⟩:=h;have hl:=fW;have hs:sizeLine=16777216:=sizeLine_eq;cases x with
 |non=>cases rx;have e':k=false:=e;subst e';exact truthy_none ⟨H,I,q⟩
 |bl b=>cases rx;have e':k=b:=e;subst e';exact OU ⟨H,I,q⟩
 |int i=>obtain⟨t,rfl⟩:=rx;have e':k=(i != 0):=e;subst e';exact PySem.P.truthy_int ⟨H,I,q⟩
 |str y=>obtain⟨t,rfl⟩:=rx;obtain⟨hy,e'⟩:y.length<=sizeLine/\k=((y.length:Int) != 0):=e;subst e';exact PySem.P.truthy_str (by omega) ⟨H,I.tok _,q⟩
 |byt y=>obtain⟨t,rfl⟩:=rx;obtain⟨hy,e'⟩:y.size<=sizeLine/\k=((y.size:Int) != 0):=e;subst e';exact W.truthy_bytes (by omega) ⟨H,I.tok _,q⟩
 |
  ref p=>
  cases rx;have e':(∃xs,SqL X.K H p xs/\k=!xs.isEmpty)\/(∃xs,SqT X.K H p xs/\k=!xs.isEmpty)\/∃kvs,H p=some (.dK kvs)/\k=!kvs.isEmpty:=e;rcases e' with ⟨xs,hx,e'⟩ |⟨xs,hx,e'⟩ |⟨kvs,hx,e'⟩
  .subst e';obtain⟨its,r,pl,hz⟩:=I.list hx;have a_:=r.length;exact wpAny_truthy_list pl.isList (by simp only[x_];omega) ⟨H,I.tok _,by rw[lr r];exact q⟩
  .subst e';obtain⟨its,r,pl,hz⟩:=I.tuple hx;have a_:=r.length;exact truthy_tuple pl (by simp only[x_];omega) ⟨H,I.tok _,by rw[lr r];exact q⟩
  .subst e';obtain⟨hz,hS,vs,r,m⟩:kvs.length<=sizeLine/\(p==sysModules)=false/\∃vs,KV kvs vs/\s.heap.DictOf (bB X.prog X.w) p vs:=I.hok p _ hx;have a_:kvs.length=vs.length:=P7 r;exact wpAny_truthy_dict hS m (by omega) ⟨H,I.tok _,by rw[vN r];exact q⟩
 |_=>exact (show False from e).elim
def AY(ha:PE X a ta)(he:∀ci,isTrue a X.env ci=(do let v <- ci;standAt a.pos;holding [v] (truthy v))):
 PT X a (λσ H Q=>ta σ H λx H'=>∃k,Aj X.K x H' k/\Q k H'):=by
 intro pins s σ H Q I h;exact isTrue_plain (thn (ha pins s σ H _ I h) λv s1 ⟨x,H1,I1,r1,q1⟩=>Gd pins s1 σ H1 x v Q I1 r1 q1) (he _)
def dP(r:Vals [x] us):∃u,us=[u]/\RelV x u:=by
 cases r with
 |cons r1 r2=>cases r2;exact⟨_,rfl,r1⟩
def oP(r:Vals [x,y] us):∃u w',us=[u,w']/\RelV x u/\RelV y w':=by
 cases r with
 |
  cons r1 r2=>
  cases r2 with
  |cons r3 r4=>cases r4;exact⟨_,_,rfl,r1,r3⟩
def Bh:CallR X (.builtin "abs") (λxs H Q=>∃i,xs=[.int i]/\Q (.int (if i<0 then -i else i)) H):=by intro pins s σ H xs us Q I r h;obtain⟨i,rfl,q⟩:=h;obtain⟨u,rfl,t,rfl⟩:=dP r;exact call_abs_int λu tk=>⟨.int (if i<0 then -i else i),H,I.tok _,⟨_,rfl⟩,q⟩
def yG(hc:X.calm=true):CallR X (.builtin "max") (λxs H Q=>∃i j,xs=[.int i,.int j]/\Q (.int (if j>i then j else i)) H):=by
 intro pins s σ H xs us Q I r h;obtain⟨i,j,rfl,q⟩:=h;obtain⟨u,w',rfl,⟨t,rfl⟩,⟨t',rfl⟩⟩:=oP r;refine max_two_ints (I.ok.hd hc) λh' tk k=>⟨_,H,I.kept k,?_,q⟩;by_cases hj:j>i
 .rw[if_pos hj,if_pos hj];exact⟨_,rfl⟩
 .rw[if_neg hj,if_neg hj];exact⟨_,rfl⟩
def xP(hc:X.calm=true):CallR X (.builtin "min") (λxs H Q=>∃i j,xs=[.int i,.int j]/\Q (.int (if j<i then j else i)) H):=by
 intro pins s σ H xs us Q I r h;obtain⟨i,j,rfl,q⟩:=h;obtain⟨u,w',rfl,⟨t,rfl⟩,⟨t',rfl⟩⟩:=oP r;refine min_two_ints (I.ok.hd hc) λh' tk k=>⟨_,H,I.kept k,?_,q⟩;by_cases hj:j<i
 .rw[if_pos hj,if_pos hj];exact⟨_,rfl⟩
 .rw[if_neg hj,if_neg hj];exact⟨_,rfl⟩
def wZ:CallR X (.type "int") (λxs H Q=>(∃i,xs=[.int i]/\Q (.int i) H)\/∃k,xs=[.bl k]/\Q (.int (if k then 1 else 0)) H):=by
 intro pins s σ H xs us Q I r h;rcases h with ⟨i,rfl,q⟩ |⟨k,rfl,q⟩
 .obtain⟨u,rfl,t,rfl⟩:=dP r;exact call_int_int ⟨.int i,H,I,⟨_,rfl⟩,q⟩
 .obtain⟨u,rfl,r1⟩:=dP r;cases r1;exact call_int_bool ⟨.int (if k then 1 else 0),H,I.tok _,⟨_,rfl⟩,q⟩
end
structure ObjM(h:Heap)(x dx C:Addr)(mA:Qa):Prop where
 obj:h.get? x=some (W.instObj C dx)
 ns:h.Ns1 dx mA
 ne:dx≠x
def yS{h:Heap}{dx:Addr}{mA:Qa}(n:h.Ns1 dx mA):∃od,h.get? dx=some od/\∀name,W.lookIn name od=some (mA name):=by
 obtain⟨o,es,ep,ho,hd,hk,_,hm⟩:=n;refine⟨o,ho,λname=>?_⟩;have e:=hm name;unfold nsFind findBy at e;rw[<- Array.find?_toList] at e;unfold W.lookIn;rw[hd];dsimp only;split
 .rename_i y q;rw[q] at e;exact Oa some e
 .rename_i q;rw[q] at e;have a:es.toList.any (·.refKey)=false:=by rw[List.any_eq_false];intro y hy;obtain⟨z,t,hkey⟩:=hk y (Array.mem_toList_iff.mp hy);simp [DictEntry.refKey,hkey]
  have a':¬ es.toList.any (·.refKey)=true:=by rw[a];exact s_
  rw[if_neg a'];exact Oa some e
def ObjM.look(I:ObjM h x dx C mA):∃od,W.InstAt h x (W.instObj C dx) C (some od)/\∀name,W.lookIn name od=some (mA name):=
 let ⟨od,ho,hl⟩:=yS I.ns
 ⟨od,⟨I.obj,rfl,rfl,ho⟩,hl⟩
section
variable{prog:Program}{w:World}{A:Around}{E:Qc}{s:Shared}{K:W.Frag}{x dx C f:Addr}{mA:Qa}{name:Str}{v:Value}
end
def RelO.some_of(r:RelO (some v) o):∃u,o=some u/\RelV v u:=by
 cases o with
 |none=>exact (show False from r).elim
 |some u=>exact⟨u,rfl,r⟩
section
variable{P:Program}{w:World}{H H':Hp}{h h':Heap}{a C dx:Addr}{fs fs':List (Str×V)}
def DD(hok:HOk P w H h)(e:H a=some (.ins C dx fs)):∃mA,ObjM h a dx C mA/\(∀f,RelO (fs.lookup f) (mA f))/\PySem.Within mA (fs.map (·.1))/\fs.length<=1000/\H dx=some (.own a):=by obtain⟨d,z,ne,ob,mA,n,r,q⟩:=(show ObjOk P w H h a (.ins C dx fs) from hok a _ e);exact⟨mA,⟨ob,n,ne⟩,r,q,z,d⟩
end
structure Cls(K:W.Frag)(C:Addr):Prop where
 pg:W.plainGet K C Str.empty=true
 hd:W.hasDictIn K C=true
 po:W.plainOver K C=true
 sa:W.findIn K (.ref C) "__setattr__"=some (some (.builtin "object.__setattr__"))
def Cls.get{K:W.Frag}{C:Addr}(c:Cls K C)(f:Str):W.plainGet K C f=true:=c.pg
section
variable{X:Cx}{pins:Qb}{σ:St}{H:Hp}{s:Shared}{a C dx:Addr}{fs:List (Str×V)}{f:Str}{v:V}{A:Around}{E:Qc}
end
section
variable{X:Cx}{o e value:Expr}{f:Str}{pos io tpos:Pos}{ta tv:TE}
end
section
variable{X:Cx}{pins:Qb}{σ:St}{H:Hp}{s:Shared}{A:Around}{E:Qc}{Q:Qc}{c:Value}{b:Bool}
inductive TyOf(K:W.Frag)(H:Hp):V->Value->Prop where
 |non:TyOf K H .non (.type "NoneType")
 |bl (x:Bool):TyOf K H (.bl x) (.type "bool")
 |int (i:Int):TyOf K H (.int i) (.type "int")
 |str (x:Str):TyOf K H (.str x) (.type "str")
 |flt (x:UInt64):TyOf K H (.flt x) (.type "float")
 |lst {a:Addr}{xs:List V} (e:H a=some (.lst xs)):TyOf K H (.ref a) (.type "list")
 |frz {a:Addr}{o:Obj}{xs:List V} (e:H a=some (.frz o (.lst xs))):TyOf K H (.ref a) (.type "list")
 |tup {a:Addr}{xs:List V} (e:H a=some (.tup xs)):TyOf K H (.ref a) (.type "tuple")
 |dK {a:Addr}{kvs:List (Key×V)} (e:H a=some (.dK kvs)):TyOf K H (.ref a) (.type "dict")
 |dT {a:Addr}{kvs:List (List Key×V)} (e:H a=some (.dT kvs)):TyOf K H (.ref a) (.type "dict")
 |ins {a C dx:Addr}{fs:List (Str×V)} (e:H a=some (.ins C dx fs)) (cl:Cls K C) (ha:W.findIn K (.ref C) "__class__"=some (some (.builtin "object.__class__")))
  (hn:W.specialIn K (.builtin "object.__class__") "__get__"=some (some (.builtin "getset_descriptor.__get__"))) (htk:W.takesIn K (.builtin "object.__class__")=some true)
  (hm:W.mroIn K C (.type "object")=some true):TyOf K H (.ref a) (.ref C)
end
structure Room(k:Nat)(A:Around):Prop where
 hd:A.handled=none
 dp:A.depth+3*k+5<recursionLimit
 un:A.units+16*k+200<cLine
def Room.mono(r:Room k A)(h:j<=k):Room j A:=⟨r.hd,by have:=r.dp;omega,by have:=r.un;omega⟩
def Room.deeper(r:Room (k+1) A)(env:Env):Room k (A.deeper env):=
 ⟨r.hd,by have:=r.dp;show A.depth+1+3*k+5<_;omega,by have:=r.un;show A.units+3+16*k+200<_;omega⟩
def Room.depth(r:Room k A):A.depth<recursionLimit:=by have:=r.dp;omega
def Room.units(r:Room k A):A.units+64<cLine:=by have:=r.un;omega
def tNil:TA:=λ_ H Q=>Q [] H
def Lp(ta:TE)(tr:TA):TA:=λσ H Q=>ta σ H λx H1=>tr σ H1 λxs H2=>Q (x::xs) H2
section
variable{X:Cx}{e:Expr}{es:List Expr}{te:TE}{t:TA}{pos:Pos}
def Gv:PA X [] tNil:=λ_ _ _ _ H Q I h=>Calls.spliced_nil ⟨[],H,I,.nil,h⟩
def Dn(ha:PE X e te)(hr:PA X es t)(hs:starEach (e::es) X.env=(false,eval e X.env)::starEach es X.env):PA X (e::es) (Lp te t):=by intro pos pins s σ H Q I h;rw[hs];show wpAny _ _ (spliced ((false,eval e X.env)::backTo pos (starEach es X.env))) _ _ s;refine Calls.spliced_cons (thn (ha pins s σ H _ I h) λu s1 ⟨x,H1,I1,r1,q1⟩=>?_);exact thn (hr pos pins s1 σ H1 _ I1 q1) λus s2 ⟨xs,H2,I2,r2,q2⟩=>⟨x::xs,H2,I2,.cons r1 r2,q2⟩
def tTup(t:TA):TE:=λσ H Q=>t σ H λxs H1=>xs.length<=sizeLine/\∀p,H1 p=none->Q (.ref p) (upd H1 p (.tup xs))
def tLst(t:TA):TE:=λσ H Q=>t σ H λxs H1=>xs.length<=sizeLine/\∀p,H1 p=none->Q (.ref p) (upd H1 p (.lst xs))
def Ku{x1}(h:PA X es t):PE X (.Tuple es x1 pos) (tTup t):=by intro pins s σ H Q I hq;refine wpAny_Tuple_spliced (thn (h pos pins s σ H _ I hq) λus s1 ⟨xs,H1,I1,r,z,q⟩=>⟨by rw[<- r.length];exact z,?_⟩);have hf:H1 s1.heap.objs.size=none:=I1.hok.fresh (n_ _);refine⟨.ref s1.heap.objs.size,upd H1 s1.heap.objs.size (.tup xs),I1.laid (t':=s1.toks) (λb u e=>t_ _ e) (n_ _) ?_,rfl,q _ hf⟩;exact⟨z,us,r,⟨_,Em _ rfl,rfl,_,rfl⟩⟩
def He(h:PA X es t):PE X (.List es pos) (tLst t):=by intro pins s σ H Q I hq;refine wpAny_List_spliced (thn (h pos pins s σ H _ I hq) λus s1 ⟨xs,H1,I1,r,z,q⟩=>⟨by rw[<- r.length];exact z,?_⟩);have hf:H1 s1.heap.objs.size=none:=I1.hok.fresh (n_ _);refine⟨.ref s1.heap.objs.size,upd H1 s1.heap.objs.size (.lst xs),I1.laid (t':=s1.toks) (λb u e=>t_ _ e) (n_ _) ?_,rfl,q _ hf⟩;exact⟨z,us,0,r,Em _ rfl⟩
end
abbrev Sp:=List V->Hp->VK->XK->Prop
abbrev CXT:=List Env->Hp->Shared->XK->Value->Shared->Prop
structure Env0(P:Program)(w:World)(K:W.Frag)(mg:Qa)(base:Heap)(A:Around)(outer:List Env)(s:Shared)(H:Hp):Prop where
 frames:A.frames=some outer
 mod:Mod K mg base
 bs:∀b o,base.get? b=some o->s.heap.get? b=some o/\H b=none
 bsz:base.objs.size<=s.heap.objs.size
 funs:s.heap.FunFrames base outer
 frf:∀b∈frs outer,H b=none
 hok:HOk P w H s.heap
 bare:AllBare s.gens
def CE(outer:List Env)(P:Program)(w:World)(H:Hp)(s:Shared)(Q:VK)(u:Value)(s':Shared):Prop:=
 ∃v H',s'.os=s.os/\AllBare s'.gens/\Un (frs outer) [] H H' s.heap s'.heap/\HOk P w H' s'.heap/\RelV v u/\Q v H'
def CR(CX:CXT)(outer:List Env)(P:Program)(w:World)(H:Hp)(s:Shared)(Q:VK)(E:XK)(r:Result)(s':Shared):Prop:=
 match r with
 |.ok (.ret u)=>CE outer P w H s Q u s'
 |.ok _=>False
 |.error e=>CX outer H s E e s'
structure FnOk(P:Program)(w:World)(K:W.Frag)(mg:Qa)(base:Heap)(CX:CXT)(k:Nat)(f:Addr)(fd:FuncData)(ps:List Str)(sp:Sp):Prop where
 len:∀vs H Q E,sp vs H Q E->vs.length=ps.length
 run:∀(A:Around) (outer:List Env) (s:Shared) (H:Hp) (args:Args) (us:List Value) (vs:List V) (Q:VK) (E:XK),Room k A->Env0 P w K mg base A outer s H->BindsTo s fd args (ps.zip us)->Vals vs us->sp vs H Q E->
  codeAny (model P w) A (.call (.ref f) args) (CR CX outer P w H s Q E) s
def FnOk.imp{P:Program}{w:World}{K:W.Frag}{mg:Qa}{base:Heap}{CX:CXT}{k:Nat}{f:Addr}{fd:FuncData}{ps:List Str}{sp sp':Sp}(F:FnOk P w K mg base CX k f fd ps sp)
 (h:∀vs H Q E,sp' vs H Q E->sp vs H Q E):FnOk P w K mg base CX k f fd ps sp':=
 ⟨λvs H Q E q=>F.len vs H Q E (h _ _ _ _ q),λA outer s H args us vs Q E hr he hb hv hs=>F.run A outer s H args us vs Q E hr he hb hv (h _ _ _ _ hs)⟩
section
variable{X:Cx}{pins:Qb}{σ:St}{H:Hp}{s s':Shared}
def Inv.env0(I:Inv X pins σ H s):Env0 X.prog X.w X.K X.mg X.base X.A X.stack s H:=
 ⟨I.ok.frames,I.ok.mod,I.bs,C_ I.ok.bsz I.sz,I.stack,I.stkFree,I.hok,I.bare⟩
def Inv.after(I:Inv X pins σ H s)(h:CE X.stack X.prog X.w H s Q u s'):EP X pins σ Q u s':=by obtain⟨v,H',os,bare,un,hok,r,q⟩:=h;obtain⟨hh,g,d,t,os'⟩:=s';obtain rfl:os'=s.os:=os;exact⟨v,H',I.call (h':=hh) (g':=g) (d':=d) (t':=t) (ch:=[]) un hok bare (λb z=>absurd z (by simp)),r,q⟩
end
def Binds(K:W.Frag)(fd:FuncData)(ps:List Str)(ds:List Value):Prop:=
 ∀(s:Shared) (us:List Value),K.In s.heap->(us++ds).length=ps.length->BindsTo s fd ⟨us,[]⟩ (ps.zip (us++ds))
def Binds.all{K:W.Frag}{fd:FuncData}{ps:List Str}(h:∀us:List Value,us.length=ps.length->bindArgs fd ⟨us,[]⟩=pure (ps.zip us)):Binds K fd ps []:=λs us _ hl=>by rw[N7] at hl ⊢;exact .of_eq (h us hl)
def qQ(CX:CXT)(X:Cx)(E:XK):Prop:=∀(pins:Qb) (σ:St) (H:Hp) (s:Shared) (e:Value) (s':Shared),Inv X pins σ H s->CX X.stack H s E e s'->X.xe e s'
section
variable{X:Cx}{CX:CXT}{k:Nat}{f C:Addr}{fd:FuncData}{ps:List Str}{sp:Sp}{dvs:List V}{ds:List Value}{E:XK}{x m:Str}{p pos apos:Pos}{e o:Expr}{es:List Expr}{ta:TE}{t:TA}
end
section
variable{X:Cx}{CX:CXT}{k:Nat}{f C:Addr}{fd:FuncData}{ps ks:List Str}{sp:Sp}{E:XK}{x m:Str}{p pos apos kpos:Pos}{e o:Expr}{es:List Expr}{kws:List Keyword}{te ta:TE}{t tk:TA}{nm:Option Str}
variable{g:List Value->List Value->List Value}{gV:List V->List V->List V}
end
structure FnScope(N P:List Str)(sc:Scope):Prop where
 kind:sc.kind=.function
 co:sc.isCoroutine=false
 gen:sc.isGenerator=false
 nd:N.Nodup
 pre:N.take P.length=P
 par:∀x∈P,sc.names.lookup x=some .local\/sc.names.lookup x=some .cell
 nofree:∀y∈sc.names,y.2 ≠ .free
theorem nL{kindOf:Str->Option NameKind}{x:Str}:∀{binds:List (Str×Value)}{m:Qa},(∀v,(x,v)∉binds)->bindL kindOf binds m x=m x
 | [],_,_=>rfl
 |
  (n,v)::r,m,h=>by
  unfold bindL;rw[nL λw hw=>h w (l_ _ hw)];split
  .have:x≠n:=by rintro rfl;exact h v m_
   simp [this]
  .rfl
theorem nv{kindOf:Str->Option NameKind}{x:Str}:∀{binds:List (Str×Value)}{m:Qa},(∀v,(x,v)∉binds)->bindC kindOf binds m x=m x
 | [],_,_=>rfl
 |
  (n,v)::r,m,h=>by
  unfold bindC;rw[nv λw hw=>h w (l_ _ hw)];split
  .rfl
  .have:x≠n:=by rintro rfl;exact h v m_
   simp [this]
theorem nK{kindOf:Str->Option NameKind}{x:Str}{v:Value}:∀{P:List Str}{vs:List Value}{i:Nat}{m:Qa},P.Nodup->P[i]?=some x->vs[i]?=some v->kindOf x=some .local->
 bindL kindOf (P.zip vs) m x=some v
 | [],_,_,_,_,h,_,_=>by simp at h
 |_::_,[],_,_,_,_,h,_=>by simp at h
 |
  p::P,w::vs,0,m,nd,h1,h2,hk=>by
  simp at h1 h2;subst h1;subst h2;show bindL kindOf ((p,w)::P.zip vs) m p=_;unfold bindL;rw[nL λv hv=>(O2.mp nd).1 (Pl hv).1,if_pos hk];simp
 |
  p::P,w::vs,i+1,m,nd,h1,h2,hk=>by
  show bindL kindOf ((p,w)::P.zip vs) m x=_;unfold bindL;exact nK (i:=i) (O2.mp nd).2 (by simpa using h1) (by simpa using h2) hk
theorem nN{kindOf:Str->Option NameKind}{x:Str}{v:Value}:∀{P:List Str}{vs:List Value}{i:Nat}{m:Qa},P.Nodup->P[i]?=some x->vs[i]?=some v->kindOf x≠some .local->
 bindC kindOf (P.zip vs) m x=some v
 | [],_,_,_,_,h,_,_=>by simp at h
 |_::_,[],_,_,_,_,h,_=>by simp at h
 |
  p::P,w::vs,0,m,nd,h1,h2,hk=>by
  simp at h1 h2;subst h1;subst h2;show bindC kindOf ((p,w)::P.zip vs) m p=_;unfold bindC;rw[nv λv hv=>(O2.mp nd).1 (Pl hv).1,if_neg hk];simp
 |
  p::P,w::vs,i+1,m,nd,h1,h2,hk=>by
  show bindC kindOf ((p,w)::P.zip vs) m x=_;unfold bindC;exact nN (i:=i) (O2.mp nd).2 (by simpa using h1) (by simpa using h2) hk
noncomputable def eD(N:List Str)(vs:List V):St:=vs.map some++List.replicate (N.length-vs.length) none
noncomputable def cQ(CX:CXT)(P:Program)(w:World)(K:W.Frag)(mg:Qa)(base:Heap)(N:List Str)(qual:Str)(scope:Scope)(f:Addr)(cd:Value)(A:Around)(outer:List Env)(s:Shared)(H:Hp)(E:XK):Cx where
 prog:=P
 w:=w
 K:=K
 mg:=mg
 base:=base
 A:=A.deeper (envOfC qual scope s.heap.objs.size f cd)
 N:=N
 s₀:=s
 H₀:=H
 env:=envOfC qual scope s.heap.objs.size f cd
 outer:=outer
 stack:=envOfC qual scope s.heap.objs.size f cd::outer
 ex:=[]
 calm:=true
 fn:=λ_=>true
 pn:=[]
 xe:=λe s'=>wpAny (model P w) (A.deeper (envOfC qual scope s.heap.objs.size f cd)) (leaving (envOfC qual scope s.heap.objs.size f cd) e) (λ_ s''=>CX outer H s E e s'') (λe' s''=>CX outer H s E e' s'') s'
def oZ{sc:Scope}{n:Nat}{x:Str}(h:sc.names.lookup x=some .cell):∃c,(cellsFrom n sc.names []).lookup x=some c:=by have q:=W.cellsFrom_some sc.names n [] (.inl h);exact Ov.mp q
def za{CX:CXT}{P:Program}{w:World}{K:W.Frag}{mg:Qa}{base:Heap}{N ps:List Str}{qual:Str}{scope:Scope}{f:Addr}{cd:Value}{A:Around}{outer:List Env}{s s1:Shared}{H:Hp}{E:XK}{us:List Value}{vs:List V}
 (S:FnScope N ps scope) (hd:A.handled=none) (e0:Env0 P w K mg base A outer s H) (hl:vs.length=ps.length) (r:Vals vs us)
 (x:InCallC s s.heap.objs.size (bindL (envOfC qual scope s.heap.objs.size f cd).kindOf (ps.zip us) λ_=>none) (cellsFrom (s.heap.objs.size+1) scope.names []) (bindC (envOfC qual scope s.heap.objs.size f cd).kindOf (ps.zip us) λ_=>none) s1):
 Inv (cQ CX P w K mg base N qual scope f cd A outer s H E) [] (eD N vs) H s1:=by
 have hpl:ps.length<=N.length:=by have:=Oa List.length S.pre;rw[List.length_take] at this;omega
 obtain⟨h1,tk,rfl,hk⟩:=x.done;have noA:∀b:Addr,b∉(cQ CX P w K mg base N qual scope f cd A outer s H E).ex:=λb z=>absurd (show b∈([]:List Addr) from z) (by simp);refine⟨⟨e0.mod,S.kind,rfl,rfl,n_ _,λy z c h1 h2=>?_,λy hy=>?_,λy c _ h=>?_,λ_=>hd,Around.frames_deeper e0.frames,.inr ⟨rfl,rfl⟩,λb z=>absurd z (noA b),e0.bs,e0.bsz,λb _ _=>noA b,λb z=>absurd z (noA b),e0.funs,e0.frf⟩,
  rfl,e0.bare,Un.kept hk,⟨_,x.toInCall.ns,λi y v h1 h2 h3=>?_⟩,λy c h=>⟨_,x.cell y c h⟩,e0.hok.fresh (n_ _),λy c h=>?_,λp hp=>absurd (show p∈([]:Qb) from hp) (by simp),e0.hok.kept hk,?_⟩
 .exact name_of_addr x.apart (OC h1) (OC h2)
 .have hy:scope.names.lookup y=some .cell\/scope.names.lookup y=some .free:=hy;rcases hy with hy |hy
  .exact oZ hy
  .exact absurd rfl (S.nofree _ (OC hy))
 .exact O_ (x.above y c (OC h))
 .have hi:i<vs.length:=by
   unfold eD at h2;by_cases hi:i<vs.length
   .exact hi
   .rw[NX (by simpa using hi)] at h2;rw[Om] at h2;split at h2 <;> cases h2
  have ha:vs[i]?=some v:=by
   unfold eD at h2;rw[J_ (by simpa using hi),L_] at h2;cases e:vs[i]? with
   |none=>rw[e] at h2;cases h2
   |some a=>rw[e] at h2;cases h2;rfl
  obtain⟨u,hu,rv⟩:=r.get ha;have hp:ps[i]?=some y:=by rw[<- S.pre,List.getElem?_take_of_lt (by omega)];exact h1
  have ndP:ps.Nodup:=by rw[<- S.pre];exact S.nd.sublist (List.take_sublist _ _)
  refine⟨u,rv,?_⟩;rcases S.par y (OV hp) with k |k
  .exact .inl ⟨k,nK ndP hp hu k⟩
  .obtain⟨c,e⟩:=oZ (n:=s.heap.objs.size+1) k;refine .inr ⟨.inl k,c,e,?_⟩;have q:=x.cell y c e;rw[nN ndP hp hu (by show scope.names.lookup y≠_;rw[k];decide)] at q;exact q
 .exact e0.hok.fresh (O_ (x.above y c (OC h)))
 .unfold eD;show _=N.length;rw[u_,k_,Ou];omega
def Ly{CX:CXT}{P:Program}{w:World}{K:W.Frag}{mg:Qa}{base:Heap}{k:Nat}{f:Addr}{name qual:Str}{params:Arguments}{body:List Stmt}{scope:Scope}{dV kV doc pm cdv ct oc:Value}{an od:Option Addr}
 {osl:Array (Option Value)}{N ps:List Str}{sp:Sp} (lk:K.lookup f=some ⟨oc,od,.func (W.fnOf name qual params body scope dV kV doc pm an cdv ct),osl⟩) (hcd:W.codeIn K cdv qual=true) (S:FnScope N ps scope)
 (len:∀vs H Q E,sp vs H Q E->vs.length=ps.length)
 (e_:∀(A:Around) (outer:List Env) (s:Shared) (H:Hp) (vs:List V) (Q:VK) (E:XK),Room k (A.deeper (envOfC qual scope s.heap.objs.size f cdv))->sp vs H Q E->
  ∃t,PSs (cQ CX P w K mg base N qual scope f cdv A outer s H E) body t/\t { nx:=λ_ H'=>Q .non H',rt:=Q } (eD N vs) H):
 FnOk P w K mg base CX (k+1) f (W.fnOf name qual params body scope dV kV doc pm an cdv ct) ps sp:=by
 refine⟨len,λA outer s H args us vs Q E hr e0 hb r hsp=>?_⟩;have hl:=len _ _ _ _ hsp;have KX:K.In s.heap:=e0.mod.kin.keeps λb o e=>(e0.bs b o e).1;have lim:s.heap.NoLimit:=e0.mod.nolimit.keeps λb o e=>(e0.bs b o e).1;have hkind:∀y∈ps.zip us,scope.names.lookup y.1=some .local\/(scope.names.lookup y.1=some .cell/\((cellsFrom (s.heap.objs.size+1) scope.names []).lookup y.1).isSome=true):=λ⟨n,v⟩ hy=>by
  rcases S.par n (Pl hy).1 with q |q
  .exact .inl q
  .exact .inr ⟨q,W.cellsFrom_some _ _ _ (.inl q)⟩
 refine codeAny_call_function hr.depth (KX _ _ lk) rfl S.co S.gen rfl (W.codeRec_of KX hcd) (hb _ _ _ _ ?_);refine wpAny_newFunctionEnv_cells S.kind hkind λenv he s1 x=>?_;subst he;refine⟨lim.keeps x.toInCall.keep,codeAny_func ?_⟩;obtain⟨t,ht,hq⟩:=e_ A outer s H vs Q E (hr.deeper _) hsp;have I:Inv (cQ CX P w K mg base N qual scope f cdv A outer s H E) [] (eD N vs) H s1:=za S hr.hd e0 hl r x;refine N6 (ht [] s1 (eD N vs) H _ I hq) (λfl s' hs=>?_) λe s' hs=>hs;have g_:∀{σ':St}{H':Hp}{v:V}{u:Value},Inv (cQ CX P w K mg base N qual scope f cdv A outer s H E) [] σ' H' s'->RelV v u->Q v H'->CE outer P w H s Q u s':=
  λ{σ' H' v u} J rv q=>⟨v,H',J.os,J.bare,J.base,J.hok,rv,q⟩
 cases fl with
 |ret u=>obtain⟨v,σ',H',J,rv,q⟩:=hs;exact g_ J rv q
 |next=>obtain⟨σ',H',J,q⟩:=hs;exact g_ (v:=V.non) (u:=Value.none) J rfl q
 |brk=>obtain⟨_,_,_,q⟩:=hs;exact False.elim q
 |cont=>obtain⟨_,_,_,q⟩:=hs;exact False.elim q
section
variable{X:Cx}{x:Str}{p pos:Pos}{e:Expr}{es:List Expr}{t:TA}{id T:String}{r:List V->Hp->VK->Prop}
def tCB(r:List V->Hp->VK->Prop)(t:TA):TE:=λσ H Q=>t σ H λvs H1=>r vs H1 Q
def Am(hc:CallR X (.builtin id) r)(hg:Gl X x)(hm:X.mg x=none)(hv:bootBuiltins x=some (.builtin id))(ha:PA X (e::es) t)(hn:x ≠ "__name__")(hdb:(x==("__debug__" : Str))=false)
 (he:starEach (e::es) X.env=(false,eval e X.env)::starEach es X.env) (hpl:(backTo pos (starEach es X.env)).any (·.1)=false):PE X (.Call (.Name x p) (e::es) [] pos) (tCB r t):=by
 intro pins s σ H Q I h;refine OF (dN I hg hm hv ?_ hn hdb);exact PyProof.Rows.callWith_builtin1 (thn (ha pos pins s σ H _ I h) λus s1 ⟨vs,H1,I1,r1,q1⟩=>hc pins s1 σ H1 vs us Q I1 r1 q1) he hpl
def zj(hc:CallR X (.type T) r)(hg:Gl X x)(hm:X.mg x=none)(hv:bootBuiltins x=some (.type T))(ha:PA X (e::es) t)(hn:x ≠ "__name__")(hdb:(x==("__debug__" : Str))=false)
 (he:starEach (e::es) X.env=(false,eval e X.env)::starEach es X.env) (hpl:(backTo pos (starEach es X.env)).any (·.1)=false):PE X (.Call (.Name x p) (e::es) [] pos) (tCB r t):=by
 intro pins s σ H Q I h;refine OF (dN I hg hm hv ?_ hn hdb);exact Ol (thn (ha pos pins s σ H _ I h) λus s1 ⟨vs,H1,I1,r1,q1⟩=>hc pins s1 σ H1 vs us Q I1 r1 q1) he hpl
def vo(hc:CallR X (.type T) r)(hg:Gl X x)(hm:X.mg x=none)(hv:bootBuiltins x=some (.type T))(hn:x ≠ "__name__")(hdb:(x==("__debug__" : Str))=false):
 PE X (.Call (.Name x p) [] [] pos) (tCB r tNil):=by
 intro pins s σ H Q I h;refine OF (dN I hg hm hv ?_ hn hdb);exact PyProof.Rows.callWith_type0 (hc pins s σ H [] [] Q I .nil h)
end
end L2
namespace HT
open PySem PyProof.Rows
section
open PySem.SeqAt
open PySem.AutoSeq1 (wpAny_loadPart')
open PySem.MeetsSeq PySem.MeetsSeq2 PySem.MeetsSeq3
end
section
variable{prog:Program}{w:World}{A:Around}{E:Qc}{s:Shared}
def cat_tup(ht:IsTup s.heap t vs.toArray)(hb:IsTup s.heap b ws.toArray)(hv:vs≠[])
 (h1:ws=[]->Q (.ref t) s) (h2:ws≠[]->Q (.ref s.heap.objs.size) { s with heap:=s.heap.push { cls:=.type "tuple",data:=.seq (vs++ws).toArray } })
 (hsz:vs.length+ws.length<=sizeLine):wpAny (model prog w) A (binaryOp .Add (.ref t) (.ref b)) Q E s:=by
 obtain⟨⟨cls,dd,data,sl⟩,ho,hc,n,hd⟩:=id ht;obtain⟨⟨cls2,dd2,data2,sl2⟩,ho2,hc2,n2,hd2⟩:=id hb;simp only at hc hd hc2 hd2;subst hc hd hc2 hd2;have e:vs.toArray++ws.toArray=(vs++ws).toArray:=by simp
 by_cases hw:ws=[]
 .exact concat_meets ⟨_,ho,rfl⟩ ⟨_,ho2,rfl⟩ noFill_tuple_add seq_tuple_add PD Pw (Pt _ _)
   (tuple_addW1 t b vs.toArray ws.toArray n n2 dd dd2 sl sl2 (by simpa using hv) (by simp [hw])) ⟨ho,ho2,h1 hw⟩
 .refine concat_meets ⟨_,ho,rfl⟩ ⟨_,ho2,rfl⟩ noFill_tuple_add seq_tuple_add PD Pw (Pt _ _)
   (tuple_addW2 t b vs.toArray ws.toArray n n2 dd dd2 sl sl2 (by simpa using hv) (by simpa using hw) (by rw[x_,x_];exact hsz)) ⟨ho,ho2,?_⟩
  rw[e];exact h2 hw
noncomputable def sIx(n d:Nat):Option Int->Nat
 |none=>d
 |some v=>if v<0 then (v+(n:Int)).toNat else min v.toNat n
def sIx_none(n d:Nat):sIx n d none=d:=rfl
def sIx_nat(n d k:Nat):sIx n d (some (k:Int))=min k n:=by show (if (k:Int)<0 then ((k:Int)+(n:Int)).toNat else min (k:Int).toNat n)=min k n;rw[if_neg (by omega),Of]
def J5(n d:Nat)(hd:d<=n)(o:Option Int):sIx n d o<=n:=by
 cases o with
 |none=>exact hd
 |
  some v=>
  show (if v<0 then (v+(n:Int)).toNat else min v.toNat n)<=n;by_cases hv:v<0
  .rw[if_pos hv];omega
  .rw[if_neg hv];exact Nat.min_le_right _ _
def ur(v:Int)(n d:Nat):(if v<0 then max (v+(n:Int)) 0 else min v (n:Int))=((sIx n d (some v):Nat):Int):=by
 show (if v<0 then max (v+(n:Int)) 0 else min v (n:Int))=(((if v<0 then (v+(n:Int)).toNat else min v.toNat n):Nat):Int);by_cases hv:v<0
 .simp only[if_pos hv];omega
 .simp only[if_neg hv];omega
def wF(lo hi:Option Int)(n:Nat):Builtin.Slice.sliceAdjust lo hi 1 (n:Int)=(((sIx n 0 lo:Nat):Int),((sIx n n hi:Nat):Int)):=by
 have h1:¬ ((1:Int)<0):=by omega
 unfold Builtin.Slice.sliceAdjust;simp only[h1,P6];refine Prod.ext ?_ ?_
 .cases lo with
  |none=>rfl
  |some v=>exact ur v n 0
 .cases hi with
  |none=>rfl
  |some v=>exact ur v n n
def v5(i j:Nat):Builtin.Slice.slicePlaces (i:Int) (j:Int) 1=j-i:=by
 unfold Builtin.Slice.slicePlaces;have h1:(1:Int)>0:=by omega
 simp only[h1,OW,Int.ediv_one];split <;> omega
def lF(p:IsPart v o)(h:Q o s):wpAny (model prog w) A (Builtin.Slice.slicePartIndex v) Q E s:=by
 cases p with
 |none=>exact slicePart_none h
 |int i t=>exact slicePart_int h
def kG{sl:Addr}{vl vu:Value}{lo hi:Option Int}{n:Nat}{Q:Int×Int×Nat->Shared->Prop}(hs:s.heap.IsSliceOf sl vl vu .none)(pl:IsPart vl lo)(pu:IsPart vu hi)
 (h:Q (((sIx n 0 lo:Nat):Int),1,sIx n n hi-sIx n 0 lo) s):wpAny (model prog w) A (Builtin.Slice.sliceApplied (.ref sl) (pure (n:Int))) Q E s:=by
 obtain⟨os,hos,hcs,hds⟩:=id hs;unfold Builtin.Slice.sliceApplied Builtin.Slice.sliceFields;refine j_ (j_ (Oj hos hds (x:=vl) rfl (j_ (Oj hos hds (x:=vu) rfl (j_ (Oj hos hds (x:=.none) rfl (v_ ?_)))))));refine j_ (slicePart_none ?_);show wpAny _ _ (if ((1:Int)==0)=true then _ else _) _ _ s;rw[if_neg (by decide)];refine j_ (lF pl (j_ (lF pu (j_ (v_ ?_)))));show wpAny _ _ (match Builtin.Slice.sliceAdjust lo hi 1 (n:Int) with |(lo,hi)=>pure (lo,(1:Int),Builtin.Slice.slicePlaces lo hi 1)) _ _ s;rw[wF lo hi n];show wpAny _ _ (pure (((sIx n 0 lo:Nat):Int),(1:Int),Builtin.Slice.slicePlaces ((sIx n 0 lo:Nat):Int) ((sIx n n hi:Nat):Int) 1)) _ _ s;rw[v5];exact v_ h
def Bo(xs:Array Value)(i k:Nat):((List.range k).filterMap λ(m:Nat)=>xs[((i:Int)+(m:Int)*1).toNat]?).toArray=((xs.toList.drop i).take k).toArray:=by
 have e:(λ(m:Nat)=>xs[((i:Int)+(m:Int)*1).toNat]?)=λm=>xs[i+m]?:=by
  funext m;have:((i:Int)+(m:Int)*1).toNat=i+m:=by omega
  rw[this]
 rw[e]
 have:=pick_run xs i k
 rw[List.filterMap_map] at this;have e2:((λx=>xs[x]?) ∘ λx=>i+x)=λm=>xs[i+m]?:=rfl;rw[e2] at this;rw[this]
def getItem_tuple_cut{t sl:Addr}{items:Array Value}{vl vu:Value}{lo hi:Option Int}{Q:Qc}(ht:IsTup s.heap t items)(hs:s.heap.IsSliceOf sl vl vu .none)(pl:IsPart vl lo)(pu:IsPart vu hi)
 (hw:¬ (sIx items.size 0 lo=0/\sIx items.size items.size hi=items.size))
 (h:Q (.ref s.heap.objs.size) { s with heap:=s.heap.push { cls:=.type "tuple",data:=.seq ((items.toList.drop (sIx items.size 0 lo)).take (sIx items.size items.size hi-sIx items.size 0 lo)).toArray } })
 (hsz:items.size<=sizeLine):wpAny (model prog w) A (getItem (.ref t) (.ref sl)) Q E s:=by
 have htake:sizeOk (.seq ((items.toList.drop (sIx items.size 0 lo)).take (sIx items.size items.size hi-sIx items.size 0 lo)).toArray):=by show ((items.toList.drop (sIx items.size 0 lo)).take (sIx items.size items.size hi-sIx items.size 0 lo)).toArray.size<=sizeLine;rw[x_,List.length_take,Pb,OA];omega
 have hj:sIx items.size items.size hi<=items.size:=J5 _ _ (n_ _) hi;obtain⟨os,hos,hcs,hds⟩:=id hs;have hTs:s.TypeIs (.ref sl) "slice":=⟨os,hos,hcs⟩;unfold getItem;try with_reducible refine O0 ?_
 first |refine j_ (v_ ?_) |skip
 refine j_ (wpAny_sequenceKey ht.typeIs (by decide) ?_);refine j_ (OJ (name:=Str.ofString "__getitem__") ht.typeIs PyProof.Rows.slot_tuple_getitem
  (Pc PyProof.Rows.slot_tuple_getitem ht.typeIs entry_tuple_getitem ?_ (args_tuple_getitem _ _)))
 show wpAny _ _ (Builtin.Tuple.tupleItemsOf (.ref t) >>= _) _ _ s;refine j_ (tupleItemsOf_ ht ?_);refine j_ (wpAny_typeOf hTs ?_);rw[if_pos (by decide)];refine j_ (kG hs pl pu ?_);have hno:¬ ((((sIx items.size 0 lo:Nat):Int)==0&&(1:Int)==1&&(sIx items.size items.size hi-sIx items.size 0 lo)==items.size)=true):=by intro q;rw[r_,r_] at q;have q1:((sIx items.size 0 lo:Nat):Int)=0:=eq_of_beq q.1.1;have q2:sIx items.size items.size hi-sIx items.size 0 lo=items.size:=eq_of_beq q.2;exact hw ⟨by omega,by omega⟩
 show wpAny _ _ (if (((sIx items.size 0 lo:Nat):Int)==0&&(1:Int)==1&&(sIx items.size items.size hi-sIx items.size 0 lo)==items.size)=true then _ else _) _ _ s;rw[if_neg hno,Bo];first
  |exact j_ (m:=Builtin.Tuple.tupleExact _) (Oq (v_ ⟨_,rfl,v_ h⟩) htake)
  |exact j_ (m:=Builtin.Tuple.tupleExact _) (Oq (j_ (v_ (v_ ⟨_,rfl,v_ h⟩))) htake)
  |exact j_ (j_ (m:=Builtin.Tuple.tupleExact _) (Oq (v_ (v_ ⟨_,rfl,v_ h⟩)) htake))
  |exact j_ (j_ (m:=Builtin.Tuple.tupleExact _) (Oq (v_ ⟨_,rfl,v_ h⟩) htake))
end
end HT
namespace L2
open PySem PySem.Spec PyProof.Rows
abbrev TO:=St->Hp->(Option Int->Hp->Prop)->Prop
def PO(X:Cx)(e:Option Expr)(t:TO):Prop:=
 ∀
  (pins:Qb) (s:Shared) (σ:St) (H:Hp) (Q:Option Int->Hp->Prop),Inv X pins σ H s->t σ H Q->
  wpAny (model X.prog X.w) X.A (evalPart e X.env) (λu s'=>∃o H',Inv X pins σ H' s'/\IsPart u o/\Q o H') X.xe s
def E7:TO:=λ_ H Q=>Q none H
def Nt(t:TE):TO:=λσ H Q=>t σ H λx H1=>∃i,x=.int i/\Q (some i) H1
section
variable{X:Cx}{e:Expr}{te:TE}{lo hi:Option Expr}{tl th:TO}{pos p2:Pos}
def E4:PO X none E7:=by intro pins s σ H Q I h;rw[evalPart_none];exact v_ ⟨none,H,I,.none,h⟩
def EU(h:PE X e te):PO X (some e) (Nt te):=by intro pins s σ H Q I hw;rw[evalPart_some];refine thn (h pins s σ H _ I hw) λu s1 ⟨x,H1,I1,r1,q1⟩=>?_;obtain⟨i,rfl,q⟩:=q1;obtain⟨t,rfl⟩:=r1;exact⟨some i,H1,I1,.int i t,q⟩
def SlR(X:Cx)(r:V->Option Int->Option Int->Hp->VK->Prop):Prop:=
 ∀
  (pins:Qb) (s:Shared) (σ:St) (H:Hp) (x:V) (v vl vu:Value) (lo hi:Option Int) (sl:Addr) (Q:VK),Inv X pins σ H s->RelV x v->s.heap.IsSliceOf sl vl vu .none->IsPart vl lo->IsPart vu hi->r x lo hi H Q->
  ∃T id,typeLookup (.type T) "__getitem__"=pure (some (.builtin id))/\s.TypeIs v T/\wpAny (model X.prog X.w) X.A (getItem v (.ref sl)) (EP X pins σ Q) X.xe s
def SlR.or(h:SlR X r)(h':SlR X r'):SlR X (λx lo hi H Q=>r x lo hi H Q\/r' x lo hi H Q):=by
 intro pins s σ H x v vl vu lo hi sl Q I rx hs pl pu q;rcases q with q |q
 .exact h pins s σ H x v vl vu lo hi sl Q I rx hs pl pu q
 .exact h' pins s σ H x v vl vu lo hi sl Q I rx hs pl pu q
def tSl(r:V->Option Int->Option Int->Hp->VK->Prop)(te:TE)(tl th:TO):TE:=λσ H Q=>te σ H λx H1=>tl σ H1 λl H2=>th σ H2 λu H3=>r x l u H3 Q
def zD(hr:SlR X r)(he:PE X e te)(hl:PO X lo tl)(hu:PO X hi th):PE X (.Subscript e (.Slice lo hi none p2) pos) (tSl r te tl th):=by intro pins s σ H Q I h;refine Subscript_ (thn (he pins s σ H _ I h) λv s1 ⟨x,H1,I1,r1,q1⟩=>?_);refine wpAny_Slice (thn (hl pins s1 σ H1 _ I1 q1) λvl s2 ⟨l,H2,I2,pl,q2⟩=>thn (hu pins s2 σ H2 _ I2 q2) λvu s3 ⟨u,H3,I3,pu,q3⟩=>?_);rw[evalPart_none];refine v_ ?_;have I4:Inv X pins σ H3 { s3 with heap:=s3.heap.push { cls:=.type "slice",data:=.fields #[vl,vu,.none] } }:=I3.kept (t':=s3.toks) λb ob q=>t_ _ q;obtain⟨T,id,hT,ht,hg⟩:=hr pins { s3 with heap:=s3.heap.push { cls:=.type "slice",data:=.fields #[vl,vu,.none] } } σ H3 x v vl vu l u s3.heap.objs.size Q I4 r1 (Heap.IsSliceOf.new ..) pl pu q3;show wpAny (model X.prog X.w) X.A (subscriptTail e (.Slice lo hi none p2) v (.ref s3.heap.objs.size)) (EP X pins σ Q) X.xe { s3 with heap:=s3.heap.push { cls:=.type "slice",data:=.fields #[vl,vu,.none] } };exact tail_any (ops:=[.ref s3.heap.objs.size,v]) ht hT hg (by with_unfolding_all rfl)
noncomputable def jv(xs:List V)(lo hi:Option Int):List V:=(xs.drop (HT.sIx xs.length 0 lo)).take (HT.sIx xs.length xs.length hi-HT.sIx xs.length 0 lo)
def j8(xs:List V)(lo hi:Option Int):(jv xs lo hi).length<=xs.length:=by unfold jv;rw[List.length_take,Pb];omega
def rSlT(K:W.Frag):V->Option Int->Option Int->Hp->VK->Prop:=λx lo hi H Q=>∃a xs,x=.ref a/\SqT K H a xs/\
 ¬ (HT.sIx xs.length 0 lo=0/\HT.sIx xs.length xs.length hi=xs.length)/\∀p,H p=none->Q (.ref p) (upd H p (.tup (jv xs lo hi)))
def FK:SlR X (rSlT X.K):=by
 intro pins s σ H x v vl vu lo hi sl Q I rx hs pl pu h;obtain⟨a,xs,rfl,hx,hw,q⟩:=h;cases rx;obtain⟨its,r,ht,hz⟩:=I.tuple hx;have a_:its.toArray.size=xs.length:=by rw[x_];exact r.length.symm
 refine⟨"tuple",_,PyProof.Rows.slot_tuple_getitem.lookup,ht.typeIs,?_⟩;refine HT.getItem_tuple_cut ht hs pl pu (by rw[a_];exact hw) ?_ (by rw[a_];exact hz);rw[a_];refine⟨.ref s.heap.objs.size,_,I.laid (t':=s.toks) (o:=.tup (jv xs lo hi)) (λb ob q=>t_ _ q) (n_ _) ?_,rfl,q _ (I.hok.fresh (n_ _))⟩;exact⟨C_ (j8 xs lo hi) hz,_,(r.drop (HT.sIx xs.length 0 lo)).take (HT.sIx xs.length xs.length hi-HT.sIx xs.length 0 lo),IsTup.new _ _⟩
def jH(K:W.Frag):R2:=λx y H Q=>∃a b xs ys,x=.ref a/\y=.ref b/\SqT K H a xs/\SqT K H b ys/\xs≠[]/\xs.length+ys.length<=sizeLine/\
 (ys=[]->Q (.ref a) H)/\(ys≠[]->∀p,H p=none->Q (.ref p) (upd H p (.tup (xs++ys))))
def Vals.nil_iff(r:Vals xs us):us=[] ↔ xs=[]:=by
 cases r with
 |nil=>simp
 |cons _ _=>simp
def Ej:OpR X (binaryOp .Add) (jH X.K):=by intro pins s σ H x y v u Q I rx ry h;obtain⟨a,b,xs,ys,rfl,rfl,ha,hb,hx,hz,q1,q2⟩:=h;cases rx;cases ry;obtain⟨its,r1,p1,_⟩:=I.tuple ha;obtain⟨its2,r2,p2,_⟩:=I.tuple hb;refine HT.cat_tup p1 p2 (λz=>hx (r1.nil_iff.mp z)) (λz=>⟨.ref a,H,I,rfl,q1 (r2.nil_iff.mp z)⟩) (λz=>?_) (by rw[<- r1.length,<- r2.length];exact hz);refine⟨.ref s.heap.objs.size,_,I.laid (t':=s.toks) (o:=.tup (xs++ys)) (λb ob q=>t_ _ q) (n_ _) ?_,rfl,q2 (λw=>z (r2.nil_iff.mpr w)) _ (I.hok.fresh (n_ _))⟩;exact⟨by rw[u_];exact hz,_,r1.append r2,IsTup.new _ _⟩
end
noncomputable def ixN(n:Nat)(i:Int):Option Nat:=if 0<=i then (if i<n then some i.toNat else none) else if -(n:Int)<=i then some (i+n).toNat else none
noncomputable def atI{α:Type}(xs:List α)(i:Int):Option α:=(ixN xs.length i).bind λj=>xs[j]?
def tF(h:ixN n i=some j):seqIndex? i n=some j/\j<n/\-(n:Int)<=i/\i<n:=by
 unfold ixN at h;by_cases h0:0<=i
 .rw[if_pos h0] at h;by_cases h1:i<n
  .rw[if_pos h1] at h;have e:i.toNat=j:=G_ h;exact⟨by rw[seqIndex_of h0 h1,e],by omega,by omega,h1⟩
  .rw[if_neg h1] at h;cases h
 .rw[if_neg h0] at h;by_cases h1:-(n:Int)<=i
  .rw[if_pos h1] at h;have e:(i+n).toNat=j:=G_ h;exact⟨by rw[seqIndex_neg (by omega) h1,e],by omega,h1,by omega⟩
  .rw[if_neg h1] at h;cases h
def tV(h:atI xs i=some v):∃j,seqIndex? i xs.length=some j/\xs[j]?=some v/\j<xs.length/\-(xs.length:Int)<=i/\i<xs.length:=by
 unfold atI at h;cases e:ixN xs.length i with
 |none=>rw[e] at h;cases h
 |some j=>rw[e] at h;obtain⟨h1,h2,h3,h4⟩:=tF e;exact⟨j,h1,h,h2,h3,h4⟩
def mU(b:Expr):Prop:=∀o i,subscripted b false o i=operate [o,i] (getItem o i)
def IxR(X:Cx)(r:R2):Prop:=
 ∀
  (value im:Expr) (pins:Qb) (s:Shared) (σ:St) (H:Hp) (x y:V) (v u:Value) (Q:VK),Inv X pins σ H s->RelV x v->RelV y u->r x y H Q->
  subscripted im false v u=operate [v,u] (getItem v u)->wpAny (model X.prog X.w) X.A (subscriptTail value im v u) (EP X pins σ Q) X.xe s
def MtR(X:Cx)(id:String)(r:V->List V->Hp->VK->Prop):Prop:=
 ∀
  (pins:Qb) (s:Shared) (σ:St) (H:Hp) (x:V) (xs:List V) (v:Value) (us:List Value) (Q:VK),Inv X pins σ H s->RelV x v->Vals xs us->r x xs H Q->
  wpAny (model X.prog X.w) X.A (call (.builtin id) (v::us)) (EP X pins σ Q) X.xe s
section
variable{X:Cx}{a b:Expr}{ta tb:TE}{pos:Pos}
def IxR.or(h:IxR X r)(h':IxR X r'):IxR X (λx y H Q=>r x y H Q\/r' x y H Q):=by
 intro value im pins s σ H x y v u Q I rx ry q hs;rcases q with q |q
 .exact h value im pins s σ H x y v u Q I rx ry q hs
 .exact h' value im pins s σ H x y v u Q I rx ry q hs
def Mo(hr:IxR X r)(ha:PE X a ta)(hb:PE X b tb)(hs:mU b):PE X (.Subscript a b pos) (tOp r ta tb):=by intro pins s σ H Q I h;exact Subscript_ (BE ha hb I h λv u s2 x y H2 I2 rx ry q=>hr a b pins s2 σ H2 x y v u Q I2 rx ry q (hs _ _))
def vw(K:W.Frag):R2:=λx y H Q=>∃p xs i v,x=.ref p/\y=.int i/\SqL K H p xs/\atI xs i=some v/\Q v H
def v8(K:W.Frag):R2:=λx y H Q=>∃p xs i v,x=.ref p/\y=.int i/\SqT K H p xs/\atI xs i=some v/\Q v H
def Eu:IxR X (vw X.K):=by
 intro value im pins s σ H x y v u Q I rx ry h hs;obtain⟨p,xs,i,z,rfl,rfl,hq,he,q⟩:=h;cases rx;obtain⟨t,rfl⟩:=ry;obtain⟨its,r,pl,hz⟩:=I.list hq;obtain⟨j,h1,h2,h3,h4,h5⟩:=tV he;obtain⟨w,ew,rw'⟩:=r.get h2;have hl:=r.length;have hn:=fW;have g_:EP X pins σ Q w s:=⟨z,H,I,rw',q⟩;by_cases h0:0<=i
 .have hj:i.toNat=j:=by rw[seqIndex_of h0 h5] at h1;exact G_ h1
  exact item_listR pl.isList h0 (by omega) (by rw[hj];simpa using ew) g_ hs
 .have hj:(i+(its.toArray.size:Int)).toNat=j:=by rw[seqIndex_neg (by omega) h4] at h1;rw[x_,<- hl];exact G_ h1
  exact subscriptTail_builtinR (x:=w) pl.isList.typeIs slot_list_getitem.lookup
   (wpAny_getItem_list_neg (Q:=λr s'=>r=w/\EP X pins σ Q r s') pl.isList (by omega) (by rw[x_] <;> omega) (by omega) (by rw[hj];simpa using ew) ⟨rfl,g_⟩) hs
def HK:IxR X (v8 X.K):=by
 intro value im pins s σ H x y v u Q I rx ry h hs;obtain⟨p,xs,i,z,rfl,rfl,hq,he,q⟩:=h;cases rx;obtain⟨t,rfl⟩:=ry;obtain⟨its,r,pl,hz⟩:=I.tuple hq;obtain⟨j,h1,h2,h3,h4,h5⟩:=tV he;obtain⟨w,ew,rw'⟩:=r.get h2;have hl:=r.length;have hn:=fW;have g_:EP X pins σ Q w s:=⟨z,H,I,rw',q⟩;exact subscriptTail_builtinR (x:=w) pl.typeIs slot_tuple_getitem.lookup
  (getItem_tuple (j:=j) (Q:=λr s'=>r=w/\EP X pins σ Q r s') pl (by omega) (by omega) (by rw[x_,<- hl];exact h1) (by simpa using ew) ⟨rfl,g_⟩) hs
def uW(its:List Value)(n j:Nat)(u:Value):Obj.mapSeq (·.setIfInBounds j u) { cls:=.type "list",data:=.seq its.toArray n }={ cls:=.type "list",data:=.seq (its.set j u).toArray n }:=by simp [Obj.mapSeq]
def Inv.lst(I:Inv X pins σ H s)(h:H p=some (.lst xs)):
 ∃(its:List Value) (n:Nat),Vals xs its/\s.heap.get? p=some { cls:=.type "list",data:=.seq its.toArray n }/\xs.length<=sizeLine:=by
 obtain⟨z,its,n,r,e⟩:=I.hok p _ h;exact⟨its,n,r,e,z⟩
def Inv.lstUpd{pins:Qb}{σ:St}{H:Hp}{s:Shared}{p:Addr}{xs ys:List V}{its its':List Value}{n n':Nat}{f:Obj->Obj}(I:Inv X pins σ H s)(h:H p=some (.lst xs))
 (ho:s.heap.get? p=some { cls:=.type "list",data:=.seq its.toArray n }) (hf:f { cls:=.type "list",data:=.seq its.toArray n }={ cls:=.type "list",data:=.seq its'.toArray n' }) (r:Vals ys its') (hz:ys.length<=sizeLine) (t:Nat):
 Inv X pins σ (upd H p (.lst ys)) { s with heap:=s.heap.update p f,toks:=t }:=by
 have e:(s.heap.update p f).get? p=some { cls:=.type "list",data:=.seq its'.toArray n' }:=by rw[Heap.get?_update_self f ho (by rw[hf] <;> rfl),hf]
 refine I.write (x:=p) (e:=p) (by rw[h];trivial) (.inl rfl) (λb u hb q=>(Py _ _ (Ne.symm hb)).trans q) ⟨_,e⟩ ?_;exact⟨hz,its',n',r,e⟩
def vx:V->V->V->Hp->(Hp->Prop)->Prop:=λo i v H Q=>∃p xs k j,o=.ref p/\i=.int k/\H p=some (.lst xs)/\ixN xs.length k=some j/\Q (upd H p (.lst (xs.set j v)))
def BD:rB X vx:=by
 intro pins s σ H o i v ov iv u Q I ro ri rv h;obtain⟨p,xs,k,j,rfl,rfl,hp,hj,q⟩:=h;cases ro;obtain⟨t,rfl⟩:=ri;obtain⟨its,n,r,ho,hz⟩:=I.lst hp;obtain⟨h1,h2,h3,h4⟩:=tF hj;have hl:=r.length;have hn:=fW;have I':Inv X pins σ (upd H p (.lst (xs.set j v))) { s with heap:=s.heap.update p (Obj.mapSeq (·.setIfInBounds j u)) }:=
  I.lstUpd hp ho (uW its n j u) (r.set rv j) (by rw[H_];exact hz) s.toks
 by_cases h0:0<=k
 .have hk:k.toNat=j:=by rw[seqIndex_of h0 h4] at h1;exact G_ h1
  exact W.ki_setAt ho h0 (by omega) (by rw[x_,<- hl];exact h4) (by rw[hk];exact⟨_,I',q⟩)
 .have hk:(k+(its.toArray.size:Int)).toNat=j:=by rw[seqIndex_neg (by omega) h3] at h1;rw[x_,<- hl];exact G_ h1
  exact W.ki_setBack ho (by omega) (by rw[x_,<- hl];exact h3) (by omega) (by rw[hk];exact⟨_,I',q⟩)
def rO(lo hi:Option Int)(n:Nat):(sliceBounds lo hi none n).1=((HT.sIx n 0 lo:Nat):Int)/\(sliceBounds lo hi none n).2.1=((HT.sIx n n hi:Nat):Int)/\(sliceBounds lo hi none n).2.2=1:=by
 refine⟨?_,?_,rfl⟩
 .cases lo with
  |none=>simp [sliceBounds,HT.sIx]
  |
   some i=>
   simp only[sliceBounds,HT.sIx,Option.getD_none,show (1:Int)>0 by decide,OW];by_cases h:i<0
   .simp only[h,OW] <;> omega
   .simp only[h,P6] <;> omega
 .cases hi with
  |none=>simp [sliceBounds,HT.sIx]
  |
   some i=>
   simp only[sliceBounds,HT.sIx,Option.getD_none,show (1:Int)>0 by decide,OW];by_cases h:i<0
   .simp only[h,OW] <;> omega
   .simp only[h,P6] <;> omega
def nV(its:List Value)(lo hi:Option Int):slicePick its.toArray lo hi none=((its.drop (HT.sIx its.length 0 lo)).take (HT.sIx its.length its.length hi-HT.sIx its.length 0 lo)).toArray:=by obtain⟨h1,h2,h3⟩:=rO lo hi its.toArray.size;unfold slicePick;rw[h1,h2,h3];simp only[sliceRange_one,pick_run,x_] <;> rfl
def rSlL(K:W.Frag):V->Option Int->Option Int->Hp->VK->Prop:=λx lo hi H Q=>∃a xs,x=.ref a/\SqL K H a xs/\∀p,H p=none->Q (.ref p) (upd H p (.lst (jv xs lo hi)))
def Ei:SlR X (rSlL X.K):=by intro pins s σ H x v vl vu lo hi sl Q I rx hs pl pu h;obtain⟨a,xs,rfl,hx,q⟩:=h;cases rx;obtain⟨its,r,ht,hz⟩:=I.list hx;have a_:=r.length;refine⟨"list",_,slot_list_getitem.lookup,ht.isList.typeIs,?_⟩;refine wpAny_getItem_list_slice ht.isList hs pl pu .none (by simp) ?_ (by rw[x_] <;> omega);rw[nV,<- a_];refine⟨.ref s.heap.objs.size,_,I.laid (t':=s.toks) (o:=.lst (jv xs lo hi)) (λb ob q=>t_ _ q) (n_ _) ?_,rfl,q _ (I.hok.fresh (n_ _))⟩;exact⟨C_ (j8 xs lo hi) hz,_,0,(r.drop (HT.sIx xs.length 0 lo)).take (HT.sIx xs.length xs.length hi-HT.sIx xs.length 0 lo),Em _ rfl⟩
noncomputable def flatV:V->Bool
 |.non=>true
 |.bl _=>true
 |.int _=>true
 |.str _=>true
 |_=>false
noncomputable def eqV:V->V->Bool
 |.non,.non=>true
 |.bl a,.bl b=>a==b
 |.bl a,.int b=>(if a then 1 else 0)==b
 |.int a,.bl b=>a==(if b then 1 else 0)
 |.int a,.int b=>a==b
 |.str a,.str b=>a==b
 |_,_=>false
def Hk(ry:RelV y u)(rx:RelV x v)(fy:flatV y=true)(fx:flatV x=true):SeqAt.EqAt A s u v (eqV y x):=by
 cases y with
 |
  non=>
  cases ry;cases x with
  |non=>cases rx;exact SeqAt.EqAt.same _
  |bl b=>cases rx;exact SeqAt.EqAt.none_bool b
  |int b=>obtain⟨t,rfl⟩:=rx;exact SeqAt.EqAt.none_int b t
  |str b=>obtain⟨t,rfl⟩:=rx;exact SeqAt.EqAt.none_str b t
  |_=>exact absurd (show false=true from fx) s_
 |
  bl a=>
  cases ry;cases x with
  |non=>cases rx;exact SeqAt.EqAt.bool_none a
  |bl b=>cases rx;exact SeqAt.EqAt.bool_bool a b
  |int b=>obtain⟨t,rfl⟩:=rx;exact SeqAt.EqAt.bool_int a b t
  |str b=>obtain⟨t,rfl⟩:=rx;exact SeqAt.EqAt.bool_str a b t
  |_=>exact absurd (show false=true from fx) s_
 |
  int a=>
  obtain⟨t',rfl⟩:=ry;cases x with
  |non=>cases rx;exact SeqAt.EqAt.int_none a t'
  |bl b=>cases rx;exact SeqAt.EqAt.int_bool a t' b
  |int b=>obtain⟨t,rfl⟩:=rx;exact SeqAt.EqAt.int_int a t' b t
  |str b=>obtain⟨t,rfl⟩:=rx;exact SeqAt.EqAt.int_str a t' b t
  |_=>exact absurd (show false=true from fx) s_
 |
  str a=>
  obtain⟨t',rfl⟩:=ry;cases x with
  |non=>cases rx;exact SeqAt.EqAt.str_none a t'
  |bl b=>cases rx;exact SeqAt.EqAt.str_bool a t' b
  |int b=>obtain⟨t,rfl⟩:=rx;exact SeqAt.EqAt.str_int a t' b t
  |str b=>obtain⟨t,rfl⟩:=rx;exact SeqAt.EqAt.str_str a t' b t
  |_=>exact absurd (show false=true from fx) s_
 |_=>exact absurd (show false=true from fy) s_
noncomputable def eqU(x:V)(u:Value):Bool:=match u with
 |.none=>eqV .non x
 |.bool b=>eqV (.bl b) x
 |.int i _=>eqV (.int i) x
 |.str z _=>eqV (.str z) x
 |_=>false
def xQ(r:RelV y u)(f:flatV y=true):eqU x u=eqV y x:=by
 cases y with
 |non=>cases r;rfl
 |bl b=>cases r;rfl
 |int i=>obtain⟨t,rfl⟩:=r;rfl
 |str z=>obtain⟨t,rfl⟩:=r;rfl
 |_=>exact absurd (show false=true from f) s_
theorem ik:∀{xs:List V}{us:List Value},Vals xs us->xs.all flatV=true->us.any (eqU x)=xs.any λy=>eqV y x
 |_,_,.nil,_=>rfl
 |
  y::xs,u::us,.cons r t,f=>by
  rw[Pf,r_] at f;rw[Ox,Ox,xQ r f.1,ik t f.2]
theorem fX(rx:RelV x v)(fx:flatV x=true):∀{xs:List V}{us:List Value},Vals xs us->xs.all flatV=true->∀u∈us,SeqAt.EqAt A s u v (eqU x u)
 |_,_,.nil,_=>λu hu=>by cases hu
 |
  y::xs,u::us,.cons r t,f=>λu' hu=>by
  rw[Pf,r_] at f;rcases E_.mp hu with rfl |hu
  .rw[xQ r f.1];exact Hk r rx f.1 fx
  .exact fX rx fx t f.2 u' hu
noncomputable def inV(x:V)(xs:List V):Bool:=xs.any λy=>eqV y x
def rIn(K:W.Frag)(neg:Bool):R2:=λx y H Q=>∃p xs,y=.ref p/\(SqL K H p xs\/SqT K H p xs)/\flatV x=true/\xs.all flatV=true/\Q (.bl (if neg then !inV x xs else inV x xs)) H
def ya:OpR X (compareOp .In) (rIn X.K false):=by
 intro pins s σ H x y v u Q I rx ry h;obtain⟨p,xs,rfl,hq,fx,fs,q⟩:=h;cases ry;rcases hq with hq |hq
 .obtain⟨its,r,pl,hz⟩:=I.list hq;refine SeqAt.in_listAt (eqU x) pl.isList (λw hw=>fX rx fx r fs w (by simpa using hw)) ⟨.bl _,H,I,rfl,?_⟩;rw[show its.toArray.any (eqU x)=its.any (eqU x) by simp,ik r fs];exact q
 .obtain⟨its,r,pl,hz⟩:=I.tuple hq;refine SeqAt.in_tupleAt (eqU x) pl (λw hw=>fX rx fx r fs w (by simpa using hw)) ⟨.bl _,H,I,rfl,?_⟩;rw[show its.toArray.any (eqU x)=its.any (eqU x) by simp,ik r fs];exact q
def pC:OpR X (compareOp .NotIn) (rIn X.K true):=by
 intro pins s σ H x y v u Q I rx ry h;obtain⟨p,xs,rfl,hq,fx,fs,q⟩:=h;cases ry;rcases hq with hq |hq
 .obtain⟨its,r,pl,hz⟩:=I.list hq;refine SeqAt.notIn_listAt (eqU x) pl.isList (λw hw=>fX rx fx r fs w (by simpa using hw)) ⟨.bl _,H,I,rfl,?_⟩;rw[show its.toArray.any (eqU x)=its.any (eqU x) by simp,ik r fs];exact q
 .obtain⟨its,r,pl,hz⟩:=I.tuple hq;refine SeqAt.notIn_tupleAt (eqU x) pl (λw hw=>fX rx fx r fs w (by simpa using hw)) ⟨.bl _,H,I,rfl,?_⟩;rw[show its.toArray.any (eqU x)=its.any (eqU x) by simp,ik r fs];exact q
def rF:CallR X (.builtin "len") (λxs H Q=>∃p ys,xs=[.ref p]/\(SqL X.K H p ys\/SqT X.K H p ys)/\Q (.int ys.length) H):=by
 intro pins s σ H xs us Q I r h;obtain⟨p,ys,rfl,hq,q⟩:=h;obtain⟨u,rfl,rx⟩:=dP r;cases rx;have hn:=fW;rcases hq with hq |hq
 .obtain⟨its,r',pl,hz⟩:=I.list hq;have a_:=r'.length;exact Calls.call_len_list pl.isList (by simp only[x_] <;> omega) ⟨.int ys.length,H,I.tok _,⟨s.toks+1,by rw[x_,a_]⟩,q⟩
 .obtain⟨its,r',pl,hz⟩:=I.tuple hq;have a_:=r'.length;exact len_tuple pl (by simp only[x_] <;> omega) ⟨.int ys.length,H,I.tok _,⟨s.toks+1,by rw[x_,a_]⟩,q⟩
def pX:CallR X (.builtin "len") (λxs H Q=>∃z,xs=[.str z]/\z.length<=sizeLine/\Q (.int z.length) H):=by intro pins s σ H xs us Q I r h;obtain⟨z,rfl,hz,q⟩:=h;obtain⟨u,rfl,t,rfl⟩:=dP r;have hn:=fW;exact len_str (by omega) ⟨.int z.length,H,I.tok _,⟨_,rfl⟩,q⟩
def CallR.or(h:CallR X f r)(h':CallR X f r'):CallR X f (λxs H Q=>r xs H Q\/r' xs H Q):=by
 intro pins s σ H xs us Q I rs q;rcases q with q |q
 .exact h pins s σ H xs us Q I rs q
 .exact h' pins s σ H xs us Q I rs q
def qb:CallR X (.type "list") (λxs H Q=>∃p ys,xs=[.ref p]/\(SqL X.K H p ys\/SqT X.K H p ys)/\∀l,H l=none->Q (.ref l) (upd H l (.lst ys))):=by
 intro pins s σ H xs us Q I r h;obtain⟨p,ys,rfl,hq,q⟩:=h;obtain⟨u,rfl,rx⟩:=dP r;cases rx;have g_:∀(its:List Value),Vals ys its->ys.length<=sizeLine->∀(h':Heap) (c':Nat),(∀b o',s.heap.get? b=some o'->h'.get? b=some o')->
  h'.get? s.heap.objs.size=some { cls:=.type "list",dict:=none,data:=.seq its.toArray c',slots:=#[] }->EP X pins σ Q (.ref s.heap.objs.size) { s with heap:=h' }:=λits r' hz h' c' kp e=>
  ⟨.ref s.heap.objs.size,_,I.laid (t':=s.toks) kp (n_ _) (show ObjOk X.prog X.w _ h' _ (.lst ys) from ⟨hz,its,c',r',e⟩),rfl,q _ (I.hok.fresh (n_ _))⟩
 rcases hq with hq |hq
 .obtain⟨its,r',pl,hz⟩:=I.list hq;have a_:=r'.length;obtain⟨o,ho,hc,n,hd⟩:=pl.isList;exact call_list_seq p (.inl rfl) ho hc hd (λh' c' kp e=>g_ its r' hz h' c' kp e) (by simp only[x_] <;> omega)
 .obtain⟨its,r',pl,hz⟩:=I.tuple hq;have a_:=r'.length;obtain⟨o,ho,hc,n,hd⟩:=pl;exact call_list_seq p (.inr rfl) ho hc hd (λh' c' kp e=>g_ its r' hz h' c' kp e) (by simp only[x_] <;> omega)
def tyV(K:W.Frag)(T:String)(x:V)(H:Hp):Prop:=match x with
 |.str _=>T="str"
 |.int _=>T="int"
 |.ref p=>(T="list" /\ ∃xs,SqL K H p xs)\/(T="tuple" /\ ∃o,K.lookup p=some o/\o.cls=.type "tuple" /\ o.dict=none)\/
  (T="dict" /\ ((∃kvs,H p=some (.dK kvs))\/∃kvs,H p=some (.dT kvs)))\/(T="set" /\ ∃S n,H p=some (.set S n))
 |_=>False
def xO(I:Inv X pins σ H s)(r:RelV x v)(ty:tyV X.K T x H):
 s.TypeIs v T/\∀a,v=.ref a->∃ob,s.heap.get? a=some ob/\ob.dict=none:=by
 cases x with
 |str z=>obtain⟨t,rfl⟩:=r;cases (show T="str" from ty);exact⟨typeIs_str s z t,λ_ e=>nomatch e⟩
 |int i=>obtain⟨t,rfl⟩:=r;cases (show T="int" from ty);exact⟨typeIs_int s i t,λ_ e=>nomatch e⟩
 |
  ref p=>
  cases r;rcases ty with ⟨rfl,xs,hq⟩ |⟨rfl,o,hk,hc,hd⟩ |⟨rfl,hk⟩ |⟨rfl,S,n,hk⟩
  .obtain⟨its,_,pl,_⟩:=I.list hq;refine⟨pl.isList.typeIs,λa e=>?_⟩;cases e;obtain⟨o,n,e,c,hd,_⟩:=pl;exact⟨o,e,hd⟩
  .refine⟨⟨o,I.kIn p o hk,hc⟩,λa e=>?_⟩;cases e;exact⟨o,I.kIn _ o hk,hd⟩
  .have z:∃o,s.heap.get? p=some o/\o.ExactDict:=by
    rcases hk with ⟨kvs,hk⟩ |⟨kvs,hk⟩
    .obtain⟨_,_,_,_,o,_,_,e,ex,_⟩:=I.hok p _ hk;exact⟨o,e,ex⟩
    .obtain⟨_,_,_,_,o,_,_,e,ex,_⟩:=I.hok p _ hk;exact⟨o,e,ex⟩
   obtain⟨o,e,ex⟩:=z;refine⟨⟨o,e,ex.1⟩,λa e2=>?_⟩;cases e2;exact⟨o,e,ex.2.1⟩
  .obtain⟨o,_,_,_,e,ex,_⟩:=I.hok p _ hk;refine⟨⟨o,e,ex.1⟩,λa e2=>?_⟩;cases e2;exact⟨o,e,ex.2.1⟩
 |_=>exact False.elim ty
def tBM0(K:W.Frag)(T:String)(r:V->List V->Hp->VK->Prop)(to:TE):TE:=λσ H Q=>to σ H λx H1=>tyV K T x H1/\r x [] H1 Q
def tBM(K:W.Frag)(T:String)(r:V->List V->Hp->VK->Prop)(to:TE)(t:TA):TE:=λσ H Q=>to σ H λx H1=>tyV K T x H1/\t σ H1 λxs H2=>r x xs H2 Q
variable{o e:Expr}{es:List Expr}{to:TE}{t:TA}{name:Str}{apos cpos:Pos}{T id:String}{r:V->List V->Hp->VK->Prop}
def Jb(pa:PlainAttrs T)(slot:Slot T name id)(hty:typeOf (.builtin id)=pure (.type "method_descriptor"))(hm:MtR X id r)(ho:PE X o to)
 (c_:attributeBase o name X.env (eval o X.env)=eval o X.env) (db:(apos.endLine==cpos.line)=true):PE X (.Call (.Attribute o name apos) [] [] cpos) (tBM0 X.K T r to):=by
 intro pins s σ H Q I h;refine wpAny_Call_method0_late c_ db (thn (ho pins s σ H _ I h) λv s1 ⟨x,H1,I1,r1,ty,q1⟩=>?_);obtain⟨h1,h2⟩:=xO I1 r1 ty;exact⟨T,id,pa,slot,hty,h1,h2,Calls.callWith_builtin rfl (PySem.evalArgs_none (hm pins s1 σ H1 x [] v [] Q I1 r1 .nil q1))⟩
def CT(pa:PlainAttrs T)(slot:Slot T name id)(hty:typeOf (.builtin id)=pure (.type "method_descriptor"))(hm:MtR X id r)(ho:PE X o to)(ha:PA X (e::es) t)
 (c_:attributeBase o name X.env (eval o X.env)=eval o X.env)
 (hfew:((backTo cpos (starEach (e::es) X.env)).all (λx=>!x.1)&&(backToKw cpos (keywordEach [] X.env)).all (λx=>x.1.isSome)
  && decide ((e::es).length+([]:List Keyword).length+(if ([]:List Keyword).isEmpty then 0 else 1)<30))=true)
 (db:(apos.endLine==cpos.line)=true) (hs:starEach (e::es) X.env=(false,eval e X.env)::starEach es X.env) (b_:(backTo cpos (starEach es X.env)).any (·.1)=false):
 PE X (.Call (.Attribute o name apos) (e::es) [] cpos) (tBM X.K T r to t):=by
 intro pins s σ H Q I h;refine wpAny_Call_method_late c_ hfew db rfl (thn (ho pins s σ H _ I h) λv s1 ⟨x,H1,I1,r1,ty,q1⟩=>?_);obtain⟨h1,h2⟩:=xO I1 r1 ty;refine⟨T,id,pa,slot,hty,h1,h2,?_⟩;have hA:=ha cpos pins s1 σ H1 _ I1 q1;rw[hs] at hA ⊢;refine Calls.callWith_builtin (by show (false || (backTo cpos (starEach es X.env)).any (·.1))=false;rw[b_] <;> rfl) (Calls.evalArgs_plain ?_);exact thn hA λus s2 ⟨vs,H2,I2,r2,q2⟩=>hm pins s2 σ H2 x vs v us Q I2 r1 r2 q2
end
def MtM(X:Cx)(id:String)(r:V->List V->Hp->VK->Prop):Prop:=
 ∀
  (pins:Qb) (s:Shared) (σ:St) (H:Hp) (x:V) (xs:List V) (v:Value) (us:List Value) (Q:VK),Inv X pins σ H s->RelV x v->Vals xs us->r x xs H Q->
  wpAny (model X.prog X.w) X.A (call (.builtin id) (v::us)) (EP X pins σ Q) X.xe s
def Vals.one(r:Vals [x] us):∃u,us=[u]/\RelV x u:=by
 cases r with
 |cons r t=>cases t;exact⟨_,rfl,r⟩
theorem Vals.zero:∀{us:List Value},Vals [] us->us=[]
 |_,.nil=>rfl
def Vals.dropLast(h:Vals xs us):Vals xs.dropLast us.dropLast:=by
 induction h with
 |nil=>exact .nil
 |
  cons r t ih=>
  cases t with
  |nil=>exact .nil
  |cons q t'=>exact .cons r ih
def vH{α:Type}(l:List α):l.eraseIdx (l.length-1)=l.dropLast:=by
 induction l with
 |nil=>rfl
 |
  cons a r ih=>
  cases r with
  |nil=>rfl
  |
   cons b r=>
   have e:(a::b::r).length-1=((b::r).length-1)+1:=by have h1:(a::b::r).length=r.length+2:=rfl;have h2:(b::r).length=r.length+1:=rfl;omega
   rw[e,List.eraseIdx_cons_succ,ih];all_goals rfl
section
variable{X:Cx}{pins:Qb}{σ:St}{H:Hp}{s:Shared}{l b:Addr}{xs ys zs:List V}
def Inv.lset{its its':List Value}{n:Nat}{f:Array Value->Array Value}{t':Nat}(I:Inv X pins σ H s)(hH:H l=some (.lst xs))
 (e:s.heap.get? l=some { cls:=.type "list",data:=.seq its.toArray n }) (hf:f its.toArray=its'.toArray) (hv:Vals ys its') (hz:ys.length<=sizeLine):
 Inv X pins σ (upd H l (.lst ys)) { s with heap:=s.heap.update l (Obj.mapSeq f),toks:=t' }:=by
 have q:=PySem.IsL.update e f;rw[hf] at q;refine I.write (x:=l) (e:=l) (by rw[hH];exact trivial) (.inl rfl) (λb' u hb hu=>(Py s.heap (Obj.mapSeq f) (Ne.symm hb)).trans hu) ⟨_,q⟩ ?_;exact⟨hz,its',_,hv,q⟩
def Inv.lnew(I:Inv X pins σ H s)(hv:Vals ys its)(hz:ys.length<=sizeLine):
 Inv X pins σ (upd H s.heap.objs.size (.lst ys)) { s with heap:=s.heap.push { cls:=.type "list",data:=.seq its.toArray },toks:=t' }:=
 I.laid (λ_ _ q=>t_ _ q) (n_ _) ⟨hz,its,0,hv,Em _ rfl⟩
def Inv.fresh(I:Inv X pins σ H s):H s.heap.objs.size=none:=I.hok.fresh (n_ _)
def Inv.lstM(I:Inv X pins σ H s)(hH:H l=some (.lst xs)):xs.length<=sizeLine/\∃(its:List Value) (n:Nat),Vals xs its/\xs.length=its.length/\s.heap.get? l=some { cls:=.type "list",data:=.seq its.toArray n }:=by obtain⟨z,its,n,r,e⟩:=I.hok l _ hH;exact⟨z,its,n,r,r.length,e⟩
def Ba{n:Nat}(h:n<=sizeLine):Builtin.List.listTooLong n=false:=by unfold Builtin.List.listTooLong;exact z_ (by omega)
end
section
variable{X:Cx}
def mQ:V->List V->Hp->VK->Prop:=λx vs H Q=>∃l xs y,x=.ref l/\vs=[y]/\H l=some (.lst xs)/\xs.length<sizeLine/\Q .non (upd H l (.lst (xs++[y])))
def xf:MtM X "list.append" mQ:=by intro pins s σ H x vs v us Q I rx rv h;obtain⟨l,xs,y,rfl,rfl,hH,hz,q⟩:=h;cases rx;obtain⟨u,rfl,ru⟩:=rv.one;obtain⟨z,its,n,r,hl,e⟩:=I.lstM hH;refine call_meets F.slot_list_append ⟨_,e,rfl⟩ F.entry_list_append (F.args_list_append_2 _ _) (PySem.list_append l its.toArray n u (by rw[x_];omega)) ⟨e,?_⟩;refine⟨.non,_,I.lset (its':=its++[u]) hH e (by simp) (r.append (.cons ru .nil)) ?_,rfl,q⟩;rw[u_,O8];omega
def BZ:V->List V->Hp->VK->Prop:=λx vs H Q=>∃l xs y,x=.ref l/\vs=[]/\H l=some (.lst xs)/\xs[xs.length-1]?=some y/\Q y (upd H l (.lst xs.dropLast))
def Hd:MtM X "list.pop" BZ:=by
 intro pins s σ H x vs v us Q I rx rv h;obtain⟨l,xs,y,rfl,rfl,hH,hy,q⟩:=h;cases rx;have hus:=rv.zero;subst hus;obtain⟨z,its,n,r,hl,e⟩:=I.lstM hH;obtain⟨u,hu,ru⟩:=r.get hy;have hy':its.toArray[its.toArray.size-1]?=some u:=by show its.toArray[its.length-1]?=some u;rw[<- Array.getElem?_toList,<- hl];exact hu
 refine call_meets F.slot_list_pop ⟨_,e,rfl⟩ F.entry_list_pop (F.args_list_pop_1 _) (MeetsSeq.list_pop_last l its.toArray n u hy' (by rw[x_];omega)) ⟨e,?_⟩;refine⟨y,_,I.lset (its':=its.dropLast) hH e ?_ r.dropLast ?_,ru,q⟩
 .show its.toArray.eraseIdxIfInBounds (its.toArray.size-1)=its.dropLast.toArray;rw[x_,List.eraseIdxIfInBounds_toArray,vH]
 .rw[List.length_dropLast];omega
def my:R2:=λx y H Q=>∃l b xs zs,x=.ref l/\y=.ref b/\H l=some (.lst xs)/\H b=some (.lst zs)/\xs.length+zs.length<=sizeLine/\∀p,H p=none->Q (.ref p) (upd H p (.lst (xs++zs)))
def Jy:OpR X (binaryOp .Add) my:=by
 intro pins s σ H x y v u Q I rx ry h;obtain⟨l,b,xs,zs,rfl,rfl,hH,hB,hz,q⟩:=h;cases rx;cases ry;obtain⟨z,its,n,r,hl,e⟩:=I.lstM hH;obtain⟨z2,its2,n2,r2,hl2,e2⟩:=I.lstM hB;refine PySem.P.add_list e e2 ?_ (by rw[x_,x_];omega);have ea:its.toArray++its2.toArray=(its++its2).toArray:=by simp
 rw[ea];exact⟨.ref _,_,I.lnew (t':=s.toks) (r.append r2) (by rw[u_];omega),rfl,q _ I.fresh⟩
end
section
variable{prog:Program}{w:World}{A:Around}{E:Qc}{s:Shared}
set_option maxRecDepth 100000 in
end
section
variable{X:Cx}
end
end L2
namespace Att
open PySem PySem.W PySem.Calls PyProof.Rows
def l7:∀(ns:List Int) (vs:List Value),WellAll P h vs (ns.map WData.int)->IntsAre vs ns:=by
 intro ns;induction ns with
 |nil=>intro vs w;rw[K_] at w;cases w;exact .nil
 |
  cons n ns ih=>
  intro vs w;rw[o_] at w;cases w with
  |cons a b=>cases a;exact .cons _ _ (ih _ b)
def yI{l:OpenLaw}{n:Nat}(hn:l.most=some n){P:Params}{h:Heap}{args:List WData}{vals:List Value}
 (hpre:l.row.toRowW.claim.pre args=true) (hwl:WellAll P h vals args):
 ∃a vs ns,vals=[Value.ref a]/\args=[WData.list (ns.map WData.int)]/\h.get? a=some { cls:=.type "list",data:=.seq vs.toArray }/\IntsAre vs ns/\ns.length<=n:=by
 have hsh:WShape.hasAll [] args [.list .int]=true:=(pre_splitW hpre).1;have hc:l.pre.holds [] { args:=args }=true:=(pre_splitW hpre).2;obtain⟨d,r,rfl,h1,h2⟩:=hasAllW_cons hsh;obtain rfl:=hasAllW_nil h2;obtain⟨xs,rfl,h3⟩:=hasW_list h1;obtain⟨ns,rfl⟩:=items_int h3;have a_:ns.length<=n:=by
  unfold OpenLaw.pre at hc;have h4:(WTm.not (.lt (.lit (.int (n:Int))) (.len (.arg 0)))).holds [] { args:=[.list (ns.map .int)] }=true:=by have h4:=(holds_andW hc).1;rw[hn] at h4;exact h4
  have h5:=condW_of h4 (w_not (w_lt w_lit (w_len_list (w_arg rfl))));rw[k_] at h5;refine Nat.le_of_not_lt λq=>?_;have q':(n:Int)<((ns.length:Nat):Int):=by omega
  first
   |(rw[D_ q'] at h5;exact absurd h5 (by decide))
   |(simp at h5;omega)
 cases hwl with
 |
  cons w1 w2=>
  cases w2;cases w1 with
  |list ho hall=>exact⟨_,_,ns,rfl,rfl,ho,l7 ns _ hall,a_⟩
def xX(l:OpenLaw)(args:List WData):l.row.toRowW.claim.post args (.bool true) args=true:=
 postW_of (r:=l.row.toRowW) (X:=(true==true))
  (show WShape.has [] (.bool true) .bool=true by first |rfl |decide |simp [WShape.has,WShape.arms,WShape.armsAll])
  (show (WTm.eq .res (.lit (.bool true))).value [] { args:=args,res:=some (.bool true),after:=args }=some (.bool (true==true)) from w_eq_bool (w_res rfl) w_lit) rfl
def attach_call{l:OpenLaw}{n:Nat}{q:Program}{loose:List Str}{XP:(Str->Option Value)->Heap->Prop}{YP:World->Heap->Prop}{d:DefRec}
 (hn:l.most=some n) (hdf:d.params.defaults=[])
 (call:∀(w:World) (s₀ s₁:Shared) (mg mb:Qa) (fa:Addr) (o:Obj) (pm cd doc:Value) (a:Addr) (vs:List Value) (ns:List Int),
  Ground q loose [] XP w s₀ mg mb s₁.heap->YP w s₁.heap->
  s₁.heap.get? fa=some o->o.data=.func (docDef d.name d.params d.body d.scope pm cd doc)->s₁.heap.CodeRec cd d.name->mg d.name=some (.ref fa)->
  s₁.heap.get? a=some { cls:=.type "list",data:=.seq vs.toArray }->IntsAre vs ns->ns.length<=n->s₁.gens=#[]->
  codeAny (model l.prog w) callerA (.call (.ref fa) ⟨[.ref a],[]⟩) (λr s'=>r=.ok (.ret (.bool true))/\OldK s₁.heap s'.heap/\s'.os=s₁.os/\AllBare s'.gens) s₁):
 WalkO q loose XP YP l.row.toRowW d [] (λf vs=>PySem.call f vs):=by
 intro w s₀ s₁ mg mb G Y fa o pm cd doc dV kV ho hd hcd hD hmg hg args vals as hpre hlay hrd hwl hlo;obtain rfl:dV=.none:=Dflts.none hD hdf;obtain rfl:kV=.none:=Dflts.noKw hD;obtain⟨a,vs,ns,rfl,rfl,hobj,hints,a_⟩:=yI hn hpre hwl;refine enter_call (codeAny_mono (call w s₀ s₁ mg mb fa o pm cd doc a vs ns G Y ho (fd_plain hd) hcd hmg hobj hints a_ hg) λr s' hq=>?_);obtain⟨rfl,h2,h3,h4⟩:=hq;exact⟨.inl ⟨.bool true,.bool true,[],rfl,λ_=>rfl,.bool true,xX l _,λ_=>⟨List.Pairwise.nil,λ_ hm=>(nomatch hm)⟩⟩,h2,h3,h4⟩
section
variable{prog:Program}{w:World}{A:Around}{E:Qc}{s:Shared}{K:Frag}
def ledger(h:Heap)(L d:Addr):List (Addr×Obj):=(List.range h.objs.size).filterMap λa=>if a=L\/a=d then none else (h.get? a).map λo=>(a,o)
end
end Att
namespace L2
open PySem PySem.Spec PyProof.Rows
theorem fk:∀{vs:List Value}{ns:List Int},IntsAre vs ns->Vals (ns.map V.int) vs
 |_,_,.nil=>.nil
 |_,_,.cons n t h=>.cons ⟨t,rfl⟩ (fk h)
def Av(H:Hp):Prop:=∀b,H b=none\/∃o xs,H b=some (.frz o (.lst xs))
def zI{P:Program}{w:World}{K:W.Frag}{mg mb:Qa}{CX:CXT}{k:Nat}{fa a:Addr}{fd:FuncData}{x:Str}{sp:Sp}{s₁:Shared}{vs:List Value}{ns:List Int}
 (KX:K.In s₁.heap) (hns:s₁.heap.Ns mainGlobals mg) (hb:s₁.heap.Ns builtinsNs mb) (hbb:∀x:Str,x ≠ "__name__"->mb x=bootBuiltins x) (hlim:s₁.heap.NoLimit) (hg:s₁.gens=#[])
 (ha:s₁.heap.get? a=some { cls:=.type "list",data:=.seq vs.toArray }) (hi:IntsAre vs ns) (hl:ns.length<=sizeLine) (hr:Room k callerA)
 (F:∀base:Heap,K.In base->base.Ns mainGlobals mg->FnOk P w K mg base CX k fa fd [x] sp) (hbind:∀(s:Shared) (u:Value),BindsTo s fd ⟨[u],[]⟩ [(x,u)])
 (hsp:∀H:Hp,Av H->SqL K H a (ns.map V.int)->sp [.ref a] H (λv _=>v=.bl true) λ_ _ _=>False)
 (hCX:∀H e s',CX [] H s₁ (λ_ _ _=>False) e s'->False):
 codeAny (model P w) callerA (.call (.ref fa) ⟨[.ref a],[]⟩) (λr s'=>r=.ok (.ret (.bool true))/\OldK s₁.heap s'.heap/\s'.os=s₁.os/\AllBare s'.gens) s₁:=by
 have rv:=fk hi;have lenV:=hi.length;have core
  : ∀H:Hp,Av H->SqL K H a (ns.map V.int)->HOk P w H s₁.heap->(∀b,H b≠none->b=a)->(H a≠none->K.lookup a=none)->
  codeAny (model P w) callerA (.call (.ref fa) ⟨[.ref a],[]⟩) (λr s'=>r=.ok (.ret (.bool true))/\OldK s₁.heap s'.heap/\s'.os=s₁.os/\AllBare s'.gens) s₁:=by
  intro H hO hS hok hA hK;have base_of:∀{b:Addr}{o:Obj},s₁.heap.get? b=some o->H b=none->(eG s₁.heap H).get? b=some o:=λe n=>pq e n;have noA:∀{b:Addr}{o:Obj}{es:Array DictEntry}{ep:Nat},s₁.heap.get? b=some o->o.data=.dict es ep->H b=none:=λ{b o es ep} e d=>by
   cases q:H b with
   |none=>rfl
   |some u=>have e':b=a:=hA b (by rw[q];simp);subst e';rw[ha] at e;cases e;have d':Data.seq vs.toArray _=Data.dict es ep:=d;cases d'
  have nsK:∀{b:Addr}{m:Qa},s₁.heap.Ns b m->(eG s₁.heap H).Ns b m:=λ{b m} ⟨o,es,ep,e,d,r⟩=>⟨o,es,ep,base_of e (noA e d),d,r⟩;have hKb:K.In (eG s₁.heap H):=λb o e=>base_of (KX b o e) (by
   cases q:H b with
   |none=>rfl
   |some u=>have e':b=a:=hA b (by rw[q];simp);subst e';rw[hK (by rw[q];simp)] at e;cases e)
  have hM:Mod K mg (eG s₁.heap H):=⟨hKb,nsK hns,⟨mb,nsK hb,hbb⟩,let ⟨mc,h1,h2⟩:=hlim;⟨mc,nsK h1,h2⟩⟩;have e0:Env0 P w K mg (eG s₁.heap H) callerA [] s₁ H:=⟨rfl,hM,λb o e=>uK e,Nat.le_of_eq (nu _ _),trivial,λb hb=>absurd (show b∈([]:List Addr) from hb) (by simp),hok,.of_eq hg⟩;refine codeAny_mono ((F _ hKb (nsK hns)).run callerA [] s₁ H ⟨[.ref a],[]⟩ [.ref a] [.ref a] _ _ hr e0 (hbind s₁ (.ref a)) (.cons rfl .nil) (hsp H hO hS)) λr s' h=>?_;cases r with
  |error e=>exact (hCX H e s' h).elim
  |
   ok fl=>
   cases fl with
   |next=>exact False.elim h
   |brk=>exact False.elim h
   |cont=>exact False.elim h
   |
    ret u=>
    obtain⟨v,H',os,bare,un,hok',r',q⟩:=h;have q':v=.bl true:=q;subst q';obtain rfl:u=Value.bool true:=r';refine⟨rfl,OldK.of_keep λb o e=>?_,os,bare⟩;cases q:H b with
    |none=>exact un.keep b o e q (by intro z;exact absurd (show b∈([]:List Addr) from z) (by simp)) (by simp)
    |
     some u=>
     rcases hO b with z |⟨ob,xs,z⟩
     .rw[q] at z;cases z
     .have z2:=un.frzs b ob _ z;obtain⟨e1,_⟩:=hok b _ z;obtain⟨e2,_⟩:=hok' b _ z2;rw[e] at e1;cases e1;exact e2
 cases hk:K.lookup a with
 |some o=>have e:=KX a o hk;rw[ha] at e;cases e;refine core (λ_=>none) (λ_=>.inl rfl) (.inr ⟨_,vs.toArray,_,hk,rfl,rfl,rfl,by rw[x_,lenV];exact hl,by simpa using rv⟩) (λb u z=>by have z':(none:Option HO)=some u:=z;cases z') (λb z=>absurd rfl z) λz=>absurd rfl z
 |
  none=>
  refine core (λb=>if b=a then some (.frz { cls:=.type "list",data:=.seq vs.toArray } (.lst (ns.map V.int))) else none) (λb=>?_) (.inl (.inr ⟨{ cls:=.type "list",data:=.seq vs.toArray },if_pos rfl⟩)) (λb u z=>?_) (λb z=>?_) λ_=>hk
  .by_cases hb:b=a
   .exact .inr ⟨_,_,if_pos hb⟩
   .exact .inl (if_neg hb)
  .by_cases hb:b=a
   .have z':=(if_pos hb).symm.trans z;cases z';subst hb;exact⟨ha,by rw[k_];exact hl,vs,_,rv,ha⟩
   .have z':=(if_neg hb).symm.trans z;cases z'
  .by_cases hb:b=a
   .exact hb
   .exact absurd (if_neg hb) z
abbrev KOf{K:W.Frag}{h:Heap}(_:K.In h):W.Frag:=K
def NU{l:W.OpenLaw}{n k:Nat}{q:Program}{loose:List Str}{XP:(Str->Option Value)->Heap->Prop}{YP:World->Heap->Prop}{d:DefRec}{K:Params->W.Frag}{CX:World->CXT}{sp:World->Sp}{x:Str}
 (hn:l.most=some n) (hn2:n<=sizeLine) (hdf:d.params.defaults=[]) (hr:Room k callerA)
 (hY:∀(w:World) (h:Heap),YP w h->(K w.params).In h)
 (F:∀(w:World) (mg:Qa) (fa:Addr) (h:Heap),(K w.params).In h->h.Ns mainGlobals mg->mg d.name=some (.ref fa)->
  ∃
   fd:FuncData,(∀(s:Shared) (u:Value),BindsTo s fd ⟨[u],[]⟩ [(x,u)])/\
   ∀base:Heap,(K w.params).In base->base.Ns mainGlobals mg->FnOk l.prog w (K w.params) mg base (CX w) k fa fd [x] (sp w))
 (hsp:∀(w:World) (H:Hp) (a:Addr) (ns:List Int),ns.length<=n->Av H->SqL (K w.params) H a (ns.map V.int)->sp w [.ref a] H (λv _=>v=.bl true) λ_ _ _=>False)
 (hCX:∀(w:World) (H:Hp) (s:Shared) (e:Value) (s':Shared),CX w [] H s (λ_ _ _=>False) e s'->False):
 W.WalkO q loose XP YP l.row.toRowW d [] (λf vs=>PySem.call f vs):=by
 refine Att.attach_call hn hdf λw s₀ s₁ mg mb fa o pm cd doc a vs ns G Y ho hd hcd hmg hobj hints a_ hg=>?_;have KX:=hY w _ Y;obtain⟨fd,hb,hF⟩:=F w mg fa _ KX G.T.g hmg;exact zI KX G.T.g G.T.b G.T.builtins G.T.nolimit hg hobj hints (C_ a_ hn2) hr hF hb (λH hO hS=>hsp w H a ns a_ hO hS) λH e s'=>hCX w H s₁ e s'
noncomputable def bM(s:Stmt):Arguments:=match s with
 |.FunctionDef _ a _ _ _ _ _ _ _ _=>a
 |_=>{ posonlyargs:=[],args:=[],vararg:=none,kwonlyargs:=[],kw_defaults:=[],kwarg:=none,defaults:=[] }
noncomputable def aS(s:Stmt):List Stmt:=match s with
 |.FunctionDef _ _ b _ _ _ _ _ _ _=>b
 |_=>[]
noncomputable def ak(s:Stmt):Scope:=match s with
 |.FunctionDef _ _ _ _ _ _ sc _ _ _=>sc
 |_=>{ kind:=.function,names:=[],isGenerator:=false,isCoroutine:=false }
abbrev E0:XK:=λ_ _ _=>False
structure Fun(K:W.Frag)(x qual:Str)(st:Stmt)(f:Addr)(fd:FuncData):Prop where
 ex:∃(oc:Value) (od:Option Addr) (kV doc pm:Value) (an:Option Addr) (cdv ct:Value) (osl:Array (Option Value)),
  fd=W.fnOf x qual (bM st) (aS st) (ak st) .none kV doc pm an cdv ct/\K.lookup f=some ⟨oc,od,.func fd,osl⟩/\W.codeIn K cdv qual=true
 kp:W.keepIn K (.ref f)=true
section
variable{P:Program}{w:World}{K:W.Frag}{mg:Qa}{base:Heap}
def Fun.binds{x qual:Str}{st:Stmt}{f:Addr}{fd:FuncData}{ps:List Str}(F:Fun K x qual st f fd)
 (h:∀(kV doc pm:Value) (an:Option Addr) (cdv ct:Value) (us:List Value),us.length=ps.length->bindArgs (W.fnOf x qual (bM st) (aS st) (ak st) .none kV doc pm an cdv ct) ⟨us,[]⟩=pure (ps.zip us)):Binds K fd ps []:=by
 obtain⟨oc,od,kV,doc,pm,an,cdv,ct,osl,rfl,lk,hcd⟩:=F.ex;exact .all (h kV doc pm an cdv ct)
def Gn{x qual:Str}{st:Stmt}{f:Addr}{oc:Value}{od an:Option Addr}{osl:Array (Option Value)}{kV doc pm cdv ct:Value}(l:K.lookup f=some ⟨oc,od,.func (W.fnOf x qual (bM st) (aS st) (ak st) .none kV doc pm an cdv ct),osl⟩)
 (c:W.codeIn K cdv qual=true) (k:W.keepIn K (.ref f)=true):Fun K x qual st f (W.fnOf x qual (bM st) (aS st) (ak st) .none kV doc pm an cdv ct):=⟨⟨oc,od,kV,doc,pm,an,cdv,ct,osl,rfl,l,c⟩,k⟩
end
def NG(hr:Room k A):A.units+1<cLine:=OE (Nat.add_le_add_left (by decide:1<=64) _) hr.units
section
variable{X:Cx}
end
section
variable{X:Cx}{pins:Qb}{σ:St}{H:Hp}{s:Shared}
def Inv.track{a:Addr}{o:HO}(I:Inv X pins σ H s)(hn:H a=none)(h0:X.s₀.heap.get? a=none)(hL:a≠X.env.locals)(hc:∀x c,X.env.cells.lookup x=some c->c≠a)
 (hp:∀p∈X.pn++pins,p.1≠a) (new:ObjOk X.prog X.w (upd H a o) s.heap a o):Inv X pins σ (upd H a o) s:=by
 have ne:∀b u,H b=some u->b≠a:=λb u e z=>by rw[z,hn] at e;cases e
 have ne0:∀b u,X.s₀.heap.get? b=some u->b≠a:=λb u e z=>by rw[z,h0] at e;cases e
 refine⟨I.ok,I.os,I.bare,⟨I.base.keep,I.base.slot,λb u e n hx=>?_,I.base.there,λb xs e=>?_,λb u xs e=>?_,λb ps e=>?_⟩,I.loc,I.cell,?_,λx c e=>?_,λp hp'=>?_,λb u e=>?_,I.len⟩
 .rw[ay (ne0 b u e)];exact I.base.free b u e n hx
 .have q:=I.base.tups b xs e;rw[ay (ne _ _ q)];exact q
 .have q:=I.base.frzs b u xs e;rw[ay (ne _ _ q)];exact q
 .obtain⟨m,q⟩:=I.base.tbls b ps e;exact⟨m,by rw[ay (ne _ _ q)];exact q⟩
 .rw[ay (Ne.symm hL)];exact I.free
 .rw[ay (hc x c e)];exact I.freeC x c e
 .obtain⟨e,n,r⟩:=I.pin p hp';exact⟨e,by rw[ay (hp p hp')];exact n,r⟩
 .by_cases hb:b=a
  .subst hb;rw[bo] at e;cases e;exact new
  .rw[ay hb] at e;exact (I.hok b u e).stay (λc v _ q=>q) (λc q=>by rw[ay (ne _ _ q)];exact q) λc xs q=>by rw[ay (ne _ _ q)];exact q
end
theorem iB{env:Env}:∀{names:List (Str×NameKind)} (cs:List (Str×Addr)),(∀x∈names,x.2=.free->∃c,env.cells.lookup x.1=some c)->(∀x c,cs.lookup x=some c->env.cells.lookup x=some c)->
 ∃
  cl,(forIn names cs λ(x:Str×NameKind) (r:List (Str×Addr))=>if (x.2==NameKind.free)=true then do let a <- cellOf env x.1;pure (ForInStep.yield ((x.1,a)::r)) else pure (ForInStep.yield r):Sem (List (Str×Addr)))=pure cl/\
  (∀x c,cl.lookup x=some c->env.cells.lookup x=some c)/\(∀x c,cs.lookup x=some c->∃c',cl.lookup x=some c')/\∀x∈names,x.2=.free->∃c,cl.lookup x.1=some c
 | [],cs,_,h=>⟨cs,by simp,h,λx c e=>⟨c,e⟩,λ_ hx=>nomatch hx⟩
 |
  (n,k)::r,cs,hf,h=>by
  rw[List.forIn_cons];by_cases hk:k=.free
  .subst hk;obtain⟨c,hc⟩:=hf (n,.free) m_ rfl;have hcell:cellOf env n=pure c:=by unfold cellOf;rw[hc]
   have h':∀x d,((n,c)::cs).lookup x=some d->env.cells.lookup x=some d:=λx d e=>by
    rw[OL] at e;cases q:x==n with
    |true=>rw[q] at e;cases e;rw[N5.mp q];exact hc
    |false=>rw[q] at e;exact h x d e
   obtain⟨cl,e1,e2,e3,e4⟩:=iB (env:=env) (names:=r) ((n,c)::cs) (λx hx=>hf x (l_ _ hx)) h';have top:∃c',cl.lookup n=some c':=e3 n c (by rw[OL];simp);refine⟨cl,?_,e2,λx d e=>?_,λx hx hfr=>?_⟩
   .simp only[beq_self_eq_true,OW,hcell];exact e1
   .by_cases q:x=n
    .rw[q];exact top
    .exact e3 x d (by rw[OL,(F_.mpr q:(x==n)=false)];exact e)
   .rcases E_.mp hx with rfl |hx
    .exact top
    .exact e4 x hx hfr
  .have hb:(k==NameKind.free)=false:=by simpa using hk
   obtain⟨cl,e1,e2,e3,e4⟩:=iB (env:=env) (names:=r) cs (λx hx=>hf x (l_ _ hx)) h;refine⟨cl,?_,e2,e3,λx hx hfr=>?_⟩
   .simp only[hb,Pm,P6];exact e1
   .rcases E_.mp hx with rfl |hx
    .exact absurd hfr hk
    .exact e4 x hx hfr
def n9{env:Env}{scope:Scope}(hf:∀x∈scope.names,x.2=.free->∃c,env.cells.lookup x.1=some c):
 ∃cl,closureFor scope env=pure cl/\(∀x c,cl.lookup x=some c->env.cells.lookup x=some c)/\∀x∈scope.names,x.2=.free->∃c,cl.lookup x.1=some c:=by
 obtain⟨cl,e1,e2,_,e4⟩:=iB (env:=env) (names:=scope.names) [] hf (λx c e=>by simp at e);refine⟨cl,?_,e2,e4⟩;unfold closureFor;simp only[e1];rfl
noncomputable def aJ(X:Cx)(N:List Str)(scope:Scope)(cl:List (Str×Addr))(C:Addr)(s₂:Shared)(H:Hp)(fp:List Addr):Cx:=
 { X with N:=N,s₀:=s₂,H₀:=H,env:=compEnvC scope cl C X.env,outer:=X.stack,stack:=X.stack,ex:=fp,fn:=λ_=>false,pn:=[],xe:=λ_ _=>False }
noncomputable def fb(sub:Qd)(σ:St):St:=sub.map λo=>o.bind λi=>(σ[i]?).bind id
def LcW(J:It)(sub:Qd)(g:TG)(tc:TT)(te:TE)(σ:St)(H1:Hp)(Q:VK):Prop:=∃W:Nat->Nat->List V->St->Hp->Prop,(∃m,W 0 m [] (fb sub σ) H1)/\∀i m ys σ H,W i m ys σ H->
 (J.stop i H/\ys.length<=sizeLine/\∀D,H D=none->Q (.ref D) (upd H D (.lst ys)))\/
 (J.go i H/\ys.length<sizeLine/\∃Nx:List V->St->Hp->Prop,(∀ys' σ' H',Nx ys' σ' H'->∃m',m'<m/\W (i+1) m' ys' σ' H')/\
  ∀x H',J.yld i H x H'->g x σ H' λσ2 H2=>tc σ2 H2 λb H3=>if b=true then te σ2 H3 λy H4=>Nx (ys++[y]) σ2 H4 else Nx ys σ2 H3)
def iG(wi:TI)(sub:Qd)(g:TG)(tc:TT)(te:TE):TE:=λσ H Q=>wi σ H λJ H1=>LcW J sub g tc te σ H1 Q
abbrev AD:TT:=λ_ H Q=>Q true H
section
variable{prog:Program}{w:World}{A:Around}{R:Result->Shared->Prop}{s:Shared}
def qu{h_ target am:Expr}{ifs:List Expr}{scope:Scope}{pos:Pos}{it acc:Value}{env:Env}(I:Nat->Shared->Prop)
 (turn
  : ∀n s,I n s->wpAny (model prog w) A (pyNext it) (λr s₁=>match r with
  |none=>R (.ok .next) s₁
  |some v=>wpAny (model prog w) A (letOwnedTupleGo target it v) (λ_ s₁'=>wpAny (model prog w) A (assign target env v) (λ_ s₂=>
   wpAny (model prog w) A (forIn ifs true λc r=>if r=true then do let ok <- isTrue c env (eval c env);pure (ForInStep.yield ok) else pure (ForInStep.yield r))
    (λok s₃=>if ok=true then wpAny (model prog w) A (eval h_ env) (λx s₄=>wpAny (model prog w) A (call (.builtin "list.append") [acc,x]) (λ_ s₅=>∃m,m<n/\I m s₅) (λ_ _=>False) s₄) (λ_ _=>False) s₃
     else ∃m,m<n/\I m s₃) (λ_ _=>False) s₂) (λ_ _=>False) s₁') (λ_ _=>False) s₁) (λ_ _=>False) s)
 (n:Nat) (h:I n s):
 codeAny (model prog w) A (.compLoop (.ListComp h_ [⟨target,am,ifs,0⟩] scope pos) 0 it acc env) R s:=by
 refine codeAny_loop rfl I (λn s hI=>?_) n h;show wpAny _ _ ((compTurn (.ListComp h_ [⟨target,am,ifs,0⟩] scope pos) 0 it acc env).onRaise (λx=>do noteFrame x env;theTreesLotGoes x)) _ _ s;refine wpAny_noted ?_;rw[compTurn_list];refine N6 (E:=λ_ _=>False) ?_ (λ_ _ q=>q) λ_ _ q=>q.elim;refine j_ (PH (j_ (N6 (turn n s hI) (λr s₁ h₁=>?_) λ_ _ h'=>h')));cases r with
 |none=>exact v_ h₁
 |
  some v=>
  refine j_ (N6 h₁ (λ_ s₁' h₁'=>?_) λ_ _ h'=>h');refine j_ (N6 h₁' (λ_ s₂ h₂=>?_) λ_ _ h'=>h');refine j_ (N6 h₂ (λok s₃ h₃=>?_) λ_ _ h'=>h');cases ok with
  |true=>simp only[OW] at h₃ ⊢;refine j_ (j_ (N6 h₃ (λx s₄ h₄=>?_) λ_ _ h'=>h'));refine j_ (N6 h₄ (λ_ s₅ h₅=>?_) λ_ _ h'=>h');exact v_ (v_ ⟨rfl,h₅⟩)
  |
   false=>
   simp only[Pm,P6] at h₃ ⊢;first
    |exact j_ (v_ (v_ ⟨rfl,h₃⟩))
    |exact v_ ⟨rfl,h₃⟩
end
section
variable{X:Cx}
def PTs(X:Cx)(ifs:List Expr)(t:TT):Prop:=
 ∀
  (pins:Qb) (s:Shared) (σ:St) (H:Hp) (Q:Bool->Hp->Prop),Inv X pins σ H s->t σ H Q->
  wpAny (model X.prog X.w) X.A (forIn ifs true λc r=>if r=true then do let ok <- isTrue c X.env (eval c X.env);pure (ForInStep.yield ok) else pure (ForInStep.yield r)) (TP X pins σ Q) X.xe s
def uz:PTs X [] (λ_ H Q=>Q true H):=λpins s σ H Q I h=>by rw[List.forIn_nil];exact v_ ⟨H,I,h⟩
structure LcEnd(X:Cx)(pins:Qb)(σ:St)(Q:VK)(D C:Addr)(s4:Shared):Prop where
 ns:∃m,s4.heap.Ns C m
 dc:D<C
 fr:X.env.locals<D
 cell:∀x c,X.env.cells.lookup x=some c->c<D
 pin:∀p∈X.pn++pins,p.1<D
 sz:X.s₀.heap.objs.size<=D
 inv:∃H',H' C=none/\Q (.ref D) H'/\∀h',Heap.SameBut C s4.heap h'->Inv X pins σ H' { s4 with heap:=h' }
def tN{h_ am tg:Expr}{ifs:List Expr}{scope:Scope}{pos:Pos}{wi:TI}{g:TG}{tc:TT}{te:TE}{N:List Str}{sub:Qd}{use:Option (Value->Sem Unit)}{R:Qc}{pins:Qb}{s:Shared}{σ:St}{H:Hp}{Q:VK}{fpos:Pos}
 (hc:X.calm=true) (hi:PI X tg am wi)
 (hk:scope.kind=.function) (hnc:∀x∈scope.names,x.2 ≠ .cell) (bn:∀x∈scope.names,x.2=.local->scope.names.lookup x.1=some .local)
 (hfr:∀x∈scope.names,x.2=.free->X.env.kindOf x.1=some .cell\/X.env.kindOf x.1=some .free)
 (hsl:sub.length=N.length) (d_:∀(j i:Nat) (x:Str),sub[j]?=some (some i)->N[j]?=some x->X.N[i]?=some x/\scope.names.lookup x=some .free)
 (hg:∀cl C s₂ H fp,PG (aJ X N scope cl C s₂ H fp) tg g) (ht:∀cl C s₂ H fp,PTs (aJ X N scope cl C s₂ H fp) ifs tc) (he:∀cl C s₂ H fp,PE (aJ X N scope cl C s₂ H fp) h_ te)
 (hs:∀x,foldedSetIterable am X.env x=pure x) (I:Inv X pins σ H s) (h:iG wi sub g tc te σ H Q)
 (g_:∀D C s4,LcEnd X pins σ Q D C s4->compPost (model X.prog X.w) X.A X.xe use R (.ref D) C (.ok .next) s4):
 wpAny (model X.prog X.w) X.A (comprehension (.ListComp h_ [⟨tg,am,ifs,0⟩] scope pos) scope X.env fpos (newList []) false (eval am X.env) use) R X.xe s:=by
 obtain⟨cl,hclos,hcl,hclf⟩:=n9 (env:=X.env) (scope:=scope) λx hx hf=>I.ok.has x.1 (hfr x hx hf);refine wpAny_comprehension_free rfl hs hclos hk bn ?_;show wpAny _ _ (eval am X.env) _ _ _;refine thn (hi pins s σ H _ I h) λv s1 h1=>thn h1 λitv s2 h2=>?_;obtain⟨it,fp,tn,J,H2,e,I2,T,st2,f2,W,⟨m0,w0⟩,turn⟩:=h2;subst e;refine Oq (wpAny_newFunctionEnv hnc (by intro y hy;simp at hy) (λh₁ hns₁ hsb₁=>?_) hk);dsimp only at hns₁ hsb₁ ⊢;generalize hH2:s2.heap.push { cls:=.type "list",dict:=none,data:=.seq ([]:List Value).toArray }=G2 at hns₁ hsb₁ ⊢;have hC:G2.objs.size=s2.heap.objs.size+1:=by rw[<- hH2,Pu]
 have hDC:s2.heap.objs.size≠G2.objs.size:=by omega
 have below:∀b,b<s2.heap.objs.size->b≠G2.objs.size/\b≠s2.heap.objs.size:=λb hb=>⟨by omega,by omega⟩;have old:∀b o,s2.heap.get? b=some o->h₁.get? b=some o:=λb o e=>hsb₁.extBut b o (below b (w_ e)).1 (t_ _ (hH2 ▸ t_ _ e));have hD₁:h₁.get? s2.heap.objs.size=some { cls:=.type "list",dict:=none,data:=.seq ([]:List Value).toArray }:=hsb₁.extBut _ _ hDC (t_ _ (hH2 ▸ Em _ rfl));have fresh:∀a,s2.heap.objs.size<=a->s2.heap.get? a=none:=λa ha=>PQ ha;have cellOld:∀x c,cl.lookup x=some c->c<s2.heap.objs.size:=λx c e=>by obtain⟨v,z⟩:=I2.cell x c (hcl x c e);exact z.lt
 have fpOld:∀b∈fp,b<s2.heap.objs.size:=λb hb=>by obtain⟨o,e,_⟩:=T.obj _ _ st2 b hb;exact w_ e
 let Y:Cx:=aJ X N scope cl G2.objs.size s2 H2 fp
 have okY:Y.Ok
  := by
  refine⟨I2.ok.mod,?_,I2.ok.glob,I2.ok.blt,?_,λx y c e1 e2=>I2.ok.inj x y c (hcl x c e1) (hcl y c e2),λx hx=>?_,λx c hfn _=>absurd hfn s_,I2.ok.hd,I2.ok.frames,.inl rfl,
   λb hb=>⟨?_,λx c e z=>?_⟩,I2.bs,C_ I2.ok.bsz I2.sz,λb o e hb=>?_,λb hb hf=>?_,I2.stack,I2.stkFree⟩
  .show (relabel scope X.env).kind=.function;exact hk
  .show s2.heap.objs.size<=G2.objs.size;omega
  .have hx':(
    relabel scope X.env).names.lookup x=some .cell\/(relabel scope X.env).names.lookup x=some .free:=hx
   have:∃k,
    (x,k)∈scope.names/\k=.free:=by
    have gen:∀(names:List (Str×NameKind)),(∀y∈names,y.2 ≠ .cell)->∀kk,(kk=NameKind.cell\/kk=NameKind.free)->(names.map λ(n,k)=>if (k==NameKind.free&&X.env.scope.kind == .function&&X.env.kindOf n==some .cell) then (n,NameKind.cell) else (n,k)).lookup x=some kk->∃k,(x,k)∈names/\k=.free:=by
     intro names;induction names with
     |nil=>intro _ kk _ e;simp at e
     |
      cons y r ih=>
      intro hn kk hkk e;obtain⟨n,k⟩:=y;rw[o_,OL] at e;by_cases hkf:k=.free
      .subst hkf;by_cases hxn:x=n
       .exact⟨.free,by rw[hxn];exact m_,rfl⟩
       .have hb:(x==(if (NameKind.free==NameKind.free&&X.env.scope.kind == .function&&X.env.kindOf n==some .cell)=true then (n,NameKind.cell) else (n,NameKind.free)).1)=false:=by split <;> exact F_.mpr hxn
        rw[hb] at e;obtain⟨k',m,q⟩:=ih (λz hz=>hn z (l_ _ hz)) kk hkk e;exact⟨k',l_ _ m,q⟩
      .have hb0:(k==NameKind.free&&X.env.scope.kind == .function&&X.env.kindOf n==some .cell)=false:=by
        have:(k==NameKind.free)=false:=by simpa using hkf
        rw[this];rfl
       rw[hb0] at e;simp only[Pm,P6] at e;cases q:x==n with
       |
        true=>
        rw[q] at e;have e':k=kk:=G_ e;subst e';rcases hkk with z |z
        .exact absurd z (hn (n,k) m_)
        .exact absurd z hkf
       |false=>rw[q] at e;obtain⟨k',m,q⟩:=ih (λz hz=>hn z (l_ _ hz)) kk hkk e;exact⟨k',l_ _ m,q⟩
    rcases hx' with z |z
    .exact gen scope.names hnc _ (.inl rfl) z
    .exact gen scope.names hnc _ (.inr rfl) z
   obtain⟨k,m,q⟩:=this;exact hclf (x,k) m q
  .show b≠G2.objs.size;exact (below b (fpOld b hb)).1
  .exact (f2 b hb).2.2.2.2.1 x c (hcl x c e) z
  .rcases (f2 b hb).2.2.2.1 with z |z
   .exact I2.ok.noex b o e z
   .exact absurd (A_ (w_ e) (C_ I2.ok.bsz z)) (Oy _)
  .have hf':b∈frs X.stack:=hf;rcases E_.mp (I2.stkSub b hf') with z |z
   .exact (f2 b hb).2.1 z
   .exact (f2 b hb).2.2.1 z
 have startLoc
  : ∃m,h₁.Ns G2.objs.size m/\∀(i:Nat) (x:Str) (v:V),N[i]?=some x->(fb sub σ)[i]?=some (some v)->Vis (relabel scope X.env) x->∃u,RelV v u/\Look Y.env h₁ m x u:=by
  refine⟨_,hns₁,λj x v e1 e2 e3=>?_⟩;unfold fb at e2;rw[L_] at e2;cases q:sub[j]? with
  |none=>rw[q] at e2;cases e2
  |
   some o=>
   rw[q] at e2;cases o with
   |none=>cases e2
   |
    some i=>
    obtain⟨hNi,hfree⟩:=d_ j i x q e1;have e2':(σ[i]?).bind id=some v:=G_ e2;have e2'':σ[i]?=some (some v):=by
     cases z:σ[i]? with
     |none=>rw[z] at e2';cases e2'
     |some y=>rw[z] at e2';rw[show y=some v from e2']
    obtain⟨m2,hn2,hl2⟩:=I2.loc;have hkx:=hfr (x,.free) (OC hfree) rfl;obtain⟨u,r,l⟩:=hl2 i x v hNi e2'' (by rcases hkx with z |z;exact .inr (.inl z);exact .inr (.inr z));refine⟨u,r,.inr ⟨?_,?_⟩⟩
    .rcases e3
      with z |z |z
     .exfalso;have gen:∀(names:List (Str×NameKind)),names.lookup x=some .free->(names.map λ(n,k)=>if (k==NameKind.free&&X.env.scope.kind == .function&&X.env.kindOf n==some .cell) then (n,NameKind.cell) else (n,k)).lookup x=some .local->False:=by
       intro names;induction names with
       |nil=>intro e _;simp at e
       |
        cons y r ih=>
        intro e1 e2;obtain⟨n,k⟩:=y;rw[OL] at e1;rw[o_,OL] at e2;by_cases hxn:x=n
        .have hb1:(x==n)=true:=N5.mpr hxn;rw[hb1] at e1;have:k=.free:=G_ e1;subst this;split at e2
         .rename_i hq;split at e2 <;> cases e2
         .rename_i hq;split at hq <;> (rw[hb1] at hq;cases hq)
        .have hb1:(x==n)=false:=F_.mpr hxn;rw[hb1] at e1;refine ih e1 ?_;split at e2
         .rename_i hq;split at hq <;> (rw[hb1] at hq;cases hq)
         .exact e2
      exact gen scope.names hfree z
     .exact .inl z
     .exact .inr z
    .obtain⟨c,hc'⟩:=hclf (x,.free) (OC hfree) rfl;refine⟨c,hc',?_⟩;rcases l with ⟨k,_⟩ |⟨_,c2,ec2,z⟩
     .rcases hkx with z |z <;> (rw[k] at z;cases z)
     .have:=hcl x c hc'
      rw[ec2] at this;cases this;obtain⟨oc,hoc,hd⟩:=z;exact⟨oc,old _ _ hoc,hd⟩
 have pinD:∀{σ':St}{H':Hp}{s':Shared}{pl:Qb}{o:Obj},Inv Y pl σ' H' s'->s'.heap.get? s2.heap.objs.size=some o->(∀v,o.data ≠ .cell v)->H' s2.heap.objs.size=none->Inv Y [(s2.heap.objs.size,o)] σ' H' s':=λ{σ' H' s' pl o} IY e d n=>
  IY.pins_of λp hp=>by
   have e':p=(s2.heap.objs.size,o):=by simpa using hp
   subst e';refine⟨e,n,?_,?_,d⟩
   .show s2.heap.objs.size≠G2.objs.size;omega
   .intro hf;have hf':s2.heap.objs.size∈frs X.stack:=hf;obtain⟨_,o',ho',_⟩:=I2.stack.mem hf';exact absurd (w_ ho') (Oy _)
 have fpY:∀{H':Hp}{pl:Qb},(∀b∈fp,H' b=none)->(∀p∈pl,p.1∉fp)->∀b∈fp,FpOk Y pl H' b:=λ{H' pl} hn hp b hb=>by
  refine⟨hn b hb,?_,?_,.inl hb,λx c e=>?_,λp hp'=>?_⟩
  .exact (okY.exf b hb).1
  .exact okY.exfs b hb
  .exact (okY.exf b hb).2 x c e
  .intro z;have hp'':p∈pl:=by simpa [Y,aJ] using hp'
   exact hp p hp'' (by rw[z];exact hb)
 have hDfp:s2.heap.objs.size∉fp:=λz=>Oy _ (fpOld _ z);have loop
  : ∀s₃:Shared,s₃={ s2 with heap:=h₁,toks:=s2.toks+([]:List (Str×Value)).length }->
  codeAny (model X.prog X.w) X.A (.compLoop (.ListComp h_ [⟨tg,am,ifs,0⟩] scope pos) 0 (.ref it) (.ref s2.heap.objs.size) (compEnvC scope cl G2.objs.size X.env))
   (compPost (model X.prog X.w) X.A X.xe use R (.ref s2.heap.objs.size) G2.objs.size) s₃:=by
  rintro s₃ rfl;have IY0:Inv Y [(s2.heap.objs.size,{ cls:=.type "list",dict:=none,data:=.seq ([]:List Value).toArray })] (fb sub σ) H2 { s2 with heap:=h₁,toks:=s2.toks+([]:List (Str×Value)).length }:=by
   have J0:Inv Y [] (fb sub σ) H2 { s2 with heap:=h₁,toks:=s2.toks+([]:List (Str×Value)).length }:=by
    refine⟨okY,rfl,I2.bare,Un.kept old,startLoc,λx c e=>?_,I2.hok.fresh (by show s2.heap.objs.size<=G2.objs.size;omega),λx c e=>I2.freeC x c (hcl x c e),λp hp=>absurd (show p∈([]:Qb) from hp) (by simp),I2.hok.kept old,?_⟩
    .obtain⟨v,oc,hoc,hd⟩:=I2.cell x c (hcl x c e);exact⟨v,oc,old _ _ hoc,hd⟩
    .show (fb sub σ).length=N.length;unfold fb;rw[k_];exact hsl
   exact pinD J0 hD₁ (λv z=>by cases z) I2.fresh
  refine qu (λn s'=>∃(i:Nat) (ys:List V) (its:List Value) (k:Nat) (σ':St) (H':Hp),Inv Y [(s2.heap.objs.size,{ cls:=.type "list",dict:=none,data:=.seq its.toArray k })] σ' H' s'/\Vals ys its/\tn i s'.heap/\(∀b∈fp,H' b=none)/\W i n ys σ' H') ?_ m0
   ⟨0,[],[],0,fb sub σ,H2,IY0,.nil,T.keep _ _ _ st2 (λb hb o e=>old b o e),λb hb=>(f2 b hb).1,w0⟩
  rintro n s3 ⟨i,ys,its,k,σ3,H3,I3,rv,st3,fr3,w3⟩;have npl:∀(o:Obj),∀p∈[(s2.heap.objs.size,o)],p.1∉fp:=λo p hp=>by
   have e':p=(s2.heap.objs.size,o):=by simpa using hp
   subst e';exact hDfp
  rcases turn i n ys σ3 H3 w3 with ⟨stop,hz,qn⟩ |⟨go,hz,Nx,hNx,step⟩
  .refine N6 (T.done Y rfl rfl rfl hc i _ s3 σ3 H3 (λ_ _=>False) I3 (fpY fr3 (npl _)) st3 stop) (λr s4 ⟨hr,I4⟩=>?_) λ_ _ z=>z;subst hr;obtain⟨m4,hn4,_⟩:=I4.loc;have hCfree:H3 G2.objs.size=none:=I4.free;have hD4:=I4.pin (s2.heap.objs.size,{ cls:=.type "list",dict:=none,data:=.seq its.toArray k }) (NZ _ m_);have un4:Un (frs X.stack) fp H2 H3 s2.heap s4.heap:=I4.base;have ne2:∀b o,s2.heap.get? b=some o->b≠G2.objs.size:=λb o e=>(below b (w_ e)).1;have hDfree:H3 s2.heap.objs.size=none:=hD4.2.1;have sz0:X.s₀.heap.objs.size<=s2.heap.objs.size:=I2.sz;refine g_ s2.heap.objs.size G2.objs.size s4 ⟨⟨m4,hn4⟩,by rw[hC];exact Nat.lt_succ_self _,I2.lt,λx c e=>?_,λp hp=>w_ (I2.pin p hp).1,sz0,upd H3 s2.heap.objs.size (.lst ys),by rw[ay (Ne.symm hDC)];exact hCfree,qn _ hDfree,λh' hs'=>?_⟩
   .obtain⟨v,q⟩:=I2.cell x c e;exact q.lt
   have up:∀b o,b≠G2.objs.size->s4.heap.get? b=some o->h'.get? b=some o:=λb o hb e=>hs'.extBut b o hb e;have un5:Un (frs X.stack) fp H2 H3 s2.heap h':=by
    refine⟨λb o e n hb hx=>up b o (ne2 b o e) (un4.keep b o e n hb hx),λb o e n hb hx=>?_,un4.free,λb o e hx=>?_,un4.tups,un4.frzs,un4.tbls⟩
    .obtain⟨sl,q⟩:=un4.slot b o e n hb hx;exact⟨sl,up b _ (ne2 b o e) q⟩
    .obtain⟨o',q⟩:=un4.there b o e hx;exact⟨o',up b _ (ne2 b o e) q⟩
   have hok5:HOk X.prog X.w H3 h':=λb u e=>(I4.hok b u e).stay (λc v hcc q=>up c v (λz=>by
    rcases hcc with zz |zz
    .rw[zz] at z;rw[z,hCfree] at e;cases e
    .rw[z,hCfree] at zz;cases zz) q) (λ_ q=>q) λ_ _ q=>q
   have I5:Inv X pins σ H3 { s4 with heap:=h' }:=I2.call' (s':={ s4 with heap:=h' }) (ch:=fp) I4.os un5 hok5 I4.bare λb hb=>by obtain⟨_,g1,_,g3,g4,g5⟩:=f2 b hb;exact⟨g3,g1,g4,g5⟩
   refine I5.track (o:=.lst ys) hDfree (PQ sz0) (Pq I2.lt) (λx c e z=>?_) (λp hp z=>?_) ?_
   .obtain⟨v,q⟩:=I2.cell x c e;exact absurd q.lt (by rw[z];exact Oy _)
   .exact absurd (w_ (I2.pin p hp).1) (by rw[z];exact Oy _)
   .exact⟨hz,its,k,rv,up _ _ hDC hD4.1⟩
  .refine N6 (T.item Y rfl rfl rfl hc i _ s3 σ3 H3 (λ_ _=>False) I3 (fpY fr3 (npl _)) st3 go) (λr s4 ⟨u,hr,h4⟩=>?_) λ_ _ z=>z;subst hr;refine N6 h4 (λ_ s5 ⟨x,H5,I5,r5,y5,st5,fr5⟩=>?_) λ_ _ z=>z;have I5':=I5.pinned (fpY fr5 (npl _)) (T.obj _ _ st5);refine N6 (hg cl G2.objs.size s2 H2 fp _ s5 σ3 H5 x u _ I5' r5 (step x H5 y5)) (λ_ s6 ⟨σ6,H6,I6,q6⟩=>?_) λ_ _ z=>z;refine N6 (ht cl G2.objs.size s2 H2 fp _ s6 σ6 H6 _ I6 q6) (λok s7 ⟨H7,I7,q7⟩=>?_) λ_ _ z=>z;have back:∀{σ':St}{H':Hp}{s':Shared},Inv Y ([(s2.heap.objs.size,{ cls:=.type "list",dict:=none,data:=.seq its.toArray k })]++je fp s5.heap) σ' H' s'->tn (i+1) s'.heap/\∀b∈fp,H' b=none:=λ{σ' H' s'} IB=>by refine⟨T.keep _ _ _ st5 λb hb o e=>(IB.pin (b,o) (NZ _ (NZ _ (fF hb e)))).1,λb hb=>?_⟩;obtain⟨o,e,d⟩:=T.obj _ _ st5 b hb;exact (IB.pin (b,o) (NZ _ (NZ _ (fF hb e)))).2.1
   cases ok with
   |false=>rw[if_neg s_] at q7;obtain⟨m',hm,w7⟩:=hNx _ _ _ q7;rw[if_neg s_];obtain⟨t7,f7⟩:=back I7;exact⟨m',hm,i+1,ys,its,k,σ6,H7,I7.unpinned,rv,t7,f7,w7⟩
   |
    true=>
    rw[if_pos rfl] at q7;rw[if_pos rfl];refine N6 (he cl G2.objs.size s2 H2 fp _ s7 σ6 H7 _ I7 q7) (λy s8 ⟨yv,H8,I8,r8,q8⟩=>?_) λ_ _ z=>z;obtain⟨m',hm,w8⟩:=hNx _ _ _ q8;obtain⟨t8,f8⟩:=back I8;have I9:=I8.unpinned;have hD9:=I9.pin (s2.heap.objs.size,{ cls:=.type "list",dict:=none,data:=.seq its.toArray k }) (NZ _ m_);have e9:s8.heap.get? s2.heap.objs.size=some { cls:=.type "list",dict:=none,data:=.seq its.toArray k }:=hD9.1;have a_:=rv.length;refine call_meets F.slot_list_append ⟨_,e9,rfl⟩ F.entry_list_append (F.args_list_append_2 _ _) (PySem.list_append _ its.toArray k y (by rw[x_];omega)) ⟨e9,?_⟩;have q9:=PySem.IsL.update e9 (λxs=>xs.push y);have ea:its.toArray.push y=(its++[y]).toArray:=by simp
    rw[ea] at q9;have k9:∀b o,b≠s2.heap.objs.size->s8.heap.get? b=some o->(s8.heap.update s2.heap.objs.size (Obj.mapSeq λxs=>xs.push y)).get? b=some o:=λb o hb e=>(Py _ _ (Ne.symm hb)).trans e;have I10:Inv Y [] σ6 H8 { s8 with heap:=s8.heap.update s2.heap.objs.size (Obj.mapSeq λxs=>xs.push y) }:=
     (I9.pins_of (pins':=[]) (λp hp=>nomatch hp)).turned (t':=s8.toks) k9 hD9.2.1 hD9.2.2.1 (.inr (n_ _)) (λx c e z=>absurd (cellOld x c e) (by rw[z];exact Oy _))
      (λp hp=>absurd (show p∈([]:Qb) from hp) (by simp))
    refine⟨m',hm,i+1,ys++[yv],its++[y],_,σ6,H8,pinD I10 q9 (λv z=>by cases z) hD9.2.1,rv.append (.cons r8 .nil),?_,f8,w8⟩;exact T.keep _ _ _ t8 λb hb o e=>k9 b o (λz=>hDfp (by rw[<- z];exact hb)) e
 exact codeAny_compStart_list (loop _ rfl) (T.self _ 0 _ _ _ (T.keep _ _ _ st2 λb hb o e=>old b o e) (loop _ rfl))
def Jd{h_ am tg:Expr}{ifs:List Expr}{scope:Scope}{pos:Pos}{wi:TI}{g:TG}{tc:TT}{te:TE}{N:List Str}{sub:Qd}
 (hc:X.calm=true) (hi:PI X tg am wi)
 (hk:scope.kind=.function) (hnc:∀x∈scope.names,x.2 ≠ .cell) (bn:∀x∈scope.names,x.2=.local->scope.names.lookup x.1=some .local)
 (hfr:∀x∈scope.names,x.2=.free->X.env.kindOf x.1=some .cell\/X.env.kindOf x.1=some .free)
 (hsl:sub.length=N.length) (d_:∀(j i:Nat) (x:Str),sub[j]?=some (some i)->N[j]?=some x->X.N[i]?=some x/\scope.names.lookup x=some .free)
 (hg:∀cl C s₂ H fp,PG (aJ X N scope cl C s₂ H fp) tg g) (ht:∀cl C s₂ H fp,PTs (aJ X N scope cl C s₂ H fp) ifs tc) (he:∀cl C s₂ H fp,PE (aJ X N scope cl C s₂ H fp) h_ te)
 (hs:∀x,foldedSetIterable am X.env x=pure x):
 PE X (.ListComp h_ [⟨tg,am,ifs,0⟩] scope pos) (iG wi sub g tc te):=by
 intro pins s σ H Q I h;rw[eval_ListComp];refine tN hc hi hk hnc bn hfr hsl d_ hg ht he hs I h λD C s4 e=>?_;obtain⟨m,hm⟩:=e.ns;obtain⟨H',_,q,i⟩:=e.inv;exact⟨m,hm,λh' hs'=>⟨.ref D,H',i h' hs',rfl,q⟩⟩
noncomputable def ff(M:List Str)(names:List (Str×NameKind))(sub:Qd)(N:List Str):Bool:=(sub.zip N).all λp=>match p.1 with
 |none=>true
 |some i=>M[i]?==some p.2&&names.lookup p.2==some .free
def qP{M:List Str}{names:List (Str×NameKind)}{sub:Qd}{N:List Str}(h:ff M names sub N=true)(j i:Nat)(x:Str)(h1:sub[j]?=some (some i))(h2:N[j]?=some x):
 M[i]?=some x/\names.lookup x=some .free:=by
 unfold ff at h;rw[M_] at h;have hm:(some i,x)∈sub.zip N:=by refine OV (i:=j) ?_;rw[List.getElem?_zip_eq_some];exact⟨h1,h2⟩
 have q:=h _ hm;simp only[r_,N5] at q;exact q
noncomputable def gO(kn names:List (Str×NameKind)):Bool:=names.all λx=>x.2 != .free || kn.lookup x.1==some .cell || kn.lookup x.1==some .free
def uJ{kn names:List (Str×NameKind)}(h:gO kn names=true):∀x∈names,x.2=.free->kn.lookup x.1=some .cell\/kn.lookup x.1=some .free:=λx hx hf=>by unfold gO at h;rw[M_] at h;have q:=h x hx;rw[hf] at q;simpa using q
def KZ{h_ am tg:Expr}{scope:Scope}{pos:Pos}{wi:TI}{g:TG}{te:TE}(M:List Str)(kn:List (Str×NameKind))(N:List Str)(sub:Qd)
 (hc:X.calm=true) (hi:PI X tg am wi)
 (hg:∀cl C s₂ H fp,PG (aJ X N scope cl C s₂ H fp) tg g) (he:∀cl C s₂ H fp,PE (aJ X N scope cl C s₂ H fp) h_ te)
 (hM:X.N=M) (hkn:X.env.scope.names=kn) (d_:ff M scope.names sub N=true)
 (hk:scope.kind=.function) (hnc:∀x∈scope.names,x.2 ≠ .cell) (bn:∀x∈scope.names,x.2=.local->scope.names.lookup x.1=some .local)
 (hfr:gO kn scope.names=true)
 (hsl:sub.length=N.length) (hs:∀x,foldedSetIterable am X.env x=pure x):
 PE X (.ListComp h_ [⟨tg,am,[],0⟩] scope pos) (iG wi sub g AD te):=
 Jd hc hi hk hnc bn (by subst hkn;exact uJ hfr) hsl (by subst hM;exact qP d_) hg (λcl C s₂ H fp=>uz) he hs
end
end L2
namespace L2
open PySem PySem.Spec PyProof.Rows PySem.W PySem.Builtin PySem.Builtin.ObjectAttr PySem.Builtin.Getset_descriptor
structure XCls(K:W.Frag)(C:Addr):Prop where
 cls:(clsIn K C).isSome=true
 ga:findIn K (.ref C) "__getattribute__"=some (some (.builtin "BaseException.__getattribute__"))
 gt:findIn K (.ref C) "__getattr__"=some none
 at_:findIn K (.ref C) "__class__"=some (some (.builtin "object.__class__"))
 gs:specialIn K (.builtin "object.__class__") "__get__"=some (some (.builtin "getset_descriptor.__get__"))
 tk:takesIn K (.builtin "object.__class__")=some true
 mo:mroIn K C (.type "object")=some true
 mb:mroIn K C (.type "BaseException")=some true
section
variable{prog:Program}{w:World}{A:Around}{E:Qc}{K:W.Frag}{x C:Addr}{o:Obj}
def iX(hx:h.get? x=some o)(hc:o.cls=.ref C):Looks M h (typeOf (.ref x)) (.ref C):=hc ▸ (Looks.ld hx).andThen .now
def z8(X:K.In h)(T:XCls K C):Looks M h (find (.ref x) (.ref C) "__class__") (.bind (.builtin "getset_descriptor.__get__") (.builtin "object.__class__")):=by have L1:=looks_findIn (M:=M) X T.at_;have L2:Looks M h (getOf (some (.builtin "object.__class__"))) (some (.builtin "getset_descriptor.__get__")):=looks_specialIn X T.gs;have L3:=looks_takesIn (M:=M) X T.tk;refine L1.andThen (L2.andThen ?_);exact (show Looks M h (dataDescriptor? (some (.builtin "object.__class__")) (some (.builtin "getset_descriptor.__get__"))) (some (.builtin "getset_descriptor.__get__",.builtin "object.__class__")) from L3.andThen .now).andThen (Looks.tag .now)
def oo(X:K.In s.heap)(hx:s.heap.get? x=some o)(hc:o.cls=.ref C)(T:XCls K C)
 (h:R (.ok (.ret (.ref C))) s):codeAny (model prog w) A (.call (.builtin "getset_descriptor.__get__") ⟨[.builtin "object.__class__",.ref x,tp],[]⟩) R s:=by
 obtain⟨hh,g,dr,t,os⟩:=s;have L0:=iX (M:=model prog w) hx hc;have L1:=looks_mroIn (M:=model prog w) X T.mo;refine codeAny_call_builtin KF.slot_gs.plain KF.entry_gs (KF.slot_gs.check _ _ _ _ _ _ _ _ KF.type_class (KF.args_gs _ _ _) ?_);unfold Builtin.«getset_descriptor.__get__» descrGet;rw[dga_obj];refine j_ (v_ ?_);unfold descrGetter descrCheckInstance descrNameAndClass isInstance;simp only[KF.owner_class];repeat lk
 refine⟨Code.quiet_builtin _ (by decide),P0 KF.entry_class ?_⟩;unfold Builtin.«object.__class__» shownTypeOf;repeat lk
 exact h
def w6(X:K.In s.heap)(hx:s.heap.get? x=some o)(hc:o.cls=.ref C)(T:XCls K C)(hq:Q () s):
 wpAny M A (checkBuiltinCall "BaseException.__getattribute__" ⟨[.ref x,nameV],[]⟩) Q E s:=by
 obtain⟨h,g,dr,t,os⟩:=s;have hk:builtinKind "BaseException.__getattribute__"=some .slot:=by decide
 have hsplit:splitId "BaseException.__getattribute__"=some ("BaseException", "__getattribute__"):=by decide
 have ha:=PySem.F.args_bexc_ga (.ref x) nameV;have L0:=iX (M:=M) hx hc;have LM:=looks_mroIn (M:=M) X T.mb;have LI:Looks M h (isInstance (.ref x) (.type "BaseException")) true:=L0.andThen LM;simp only[checkBuiltinCall,hk,hsplit];refine j_ ?_;refine LI.at ?_;repeat (first |wp_step)
 all_goals exact hq
def HS(X:K.In s.heap)(hx:s.heap.get? x=some o)(hc:o.cls=.ref C)(T:XCls K C)(h:Q (some (.ref C)) { s with toks:=s.toks+1 }):
 wpAny (model prog w) A (getAttr? (.ref x) "__class__") Q E s:=by
 obtain⟨hh,g,d,t,os⟩:=s;have L0:=iX (M:=model prog w) hx hc;have L1:=looks_findIn (M:=model prog w) X T.ga;have L2:=looks_findIn (M:=model prog w) X T.gt;have LF:=z8 (M:=model prog w) (x:=x) X T;have f3:=PySem.F.excAttr_ValueError.ga.bind (.ref x);have hx2:(Value.builtin "BaseException.__getattribute__" == Value.builtin "object.__getattribute__")=false:=by decide
 unfold getAttr? getAttrBy? getAttrBy;refine j_ (wpAny_mkText (j_ (P8 (O0 (j_ (L0.at (j_ (L1.at ?_))))))));dsimp only;rw[if_neg (by rw[hx2];simp)];unfold getAttrByItsOwn hookBefore;rw[if_pos (show onTheHeap (Value.ref C)=true from rfl)];refine j_ (L2.at ?_);unfold callGetattribute;refine j_ (P8 (O0 ?_));rw[if_neg (by simp)];unfold boundAndCalled;refine j_ (wpAny_of_eq f3 ?_);refine wpAny_call (codeAny_call_builtin PySem.F.excAttr_ValueError.ga.plain PySem.F.entry_bexc_ga (w6 X hx hc T ?_));unfold Builtin.«object.__getattribute__»;repeat (first |(refine j_ (L0.at ?_)) |(refine j_ (LF.at ?_)) |wp_step)
 refine oo (s:=⟨hh,g,d,t+1,os⟩) X hx hc T ?_;repeat (first |exact h |wp_step)
def A7(x:Addr)(C:Addr)(h:Heap):Prop:=∃o vs,h.get? x=some o/\o.cls=.ref C/\o.data=.fields vs
def Bt(T:XCls K C):KitX K (.ref x) (.ref C) (A7 x C) where
 ty:=λM h _ ⟨o,_,hx,hc,_⟩=>iX hx hc
 it:=λM h X _=>by
  obtain⟨cd,hcd⟩:=Ov.mp T.cls;unfold clsIn at hcd;split at hcd
  .rename_i c' d' cd' sl' ho;intro A' Q' E' s' k q;unfold isType loadHead;exact j_ (wpAny_loadPart (k _ _ (X _ _ ho)) (v_ q))
  .cases hcd
 ne:=λh tp dd its n sl X htp=>by
  obtain⟨cd,hcd⟩:=Ov.mp T.cls;refine Bool.eq_false_iff.mpr λq=>?_;have e:C=tp:=Value.ref.inj (N5.mp q);subst e;unfold clsIn at hcd;split at hcd
  .rename_i c' d' cd' sl' ho;have z:=(X _ _ ho).symm.trans htp;cases z
  .cases hcd
 ca:=λX ⟨o,_,hx,hc,_⟩ k=>HS X hx hc T k
end
inductive TyX(K:W.Frag)(H:Hp):V->Value->Prop where
 |of {x:V}{t:Value} (h:TyOf K H x t):TyX K H x t
 |exc {a C:Addr} (e:H a=some (.ext (A7 a C))) (T:XCls K C):TyX K H (.ref a) (.ref C)
 |sqT {a:Addr}{xs:List V} (h:SqT K H a xs):TyX K H (.ref a) (.type "tuple")
 |sqL {a:Addr}{xs:List V} (h:SqL K H a xs):TyX K H (.ref a) (.type "list")
section
variable{X:Cx}{pins:Qb}{σ:St}{H:Hp}{s:Shared}{A:Around}{E:Qc}{Q:Qc}{c:Value}{b:Bool}
def uv(I:Inv X pins σ H s)(rx:RelV x u)(ty:TyX X.K H x t):∃Hh:Heap->Prop,KitX X.K u t Hh/\Hh s.heap/\u ≠ .builtin "__main__.__loader__#opaque":=by
 cases ty with
 |exc ea T=>cases (show u=Value.ref _ from rx);exact⟨_,Bt T,(I.hok _ _ ea).1,λz=>nomatch z⟩
 |sqT h=>cases (show u=Value.ref _ from rx);obtain⟨its,rv,⟨o,e,c,_⟩,_⟩:=I.tuple h;exact⟨_,kitx_tuple,⟨o,e,c⟩,λz=>nomatch z⟩
 |sqL h=>cases (show u=Value.ref _ from rx);obtain⟨its,rv,⟨o,n,e,c,_⟩,_⟩:=I.list h;exact⟨_,kitx_list,⟨o,e,c⟩,λz=>nomatch z⟩
 |
  of ty=>
  cases ty with
  |non=>cases (show u=Value.none from rx);exact⟨_,kitx_none,True.intro,λz=>nomatch z⟩
  |bl y=>cases (show u=Value.bool y from rx);exact⟨_,kitx_bool,True.intro,λz=>nomatch z⟩
  |int i=>obtain⟨t,q⟩:=(show ∃t,u=Value.int i t from rx);cases q;exact⟨_,kitx_int,True.intro,λz=>nomatch z⟩
  |str y=>obtain⟨t,q⟩:=(show ∃t,u=Value.str y t from rx);cases q;exact⟨_,kitx_str,True.intro,λz=>nomatch z⟩
  |flt y=>obtain⟨t,q⟩:=(show ∃t,u=Value.float y t from rx);cases q;exact⟨_,kitx_float,True.intro,λz=>nomatch z⟩
  |@lst a xs ea=>cases (show u=Value.ref a from rx);obtain⟨_,_,n,_,h1⟩:=(show ObjOk X.prog X.w H s.heap a (.lst xs) from I.hok a _ ea);exact⟨_,kitx_list,⟨_,h1,rfl⟩,λz=>nomatch z⟩
  |@frz a ob xs ea=>cases (show u=Value.ref a from rx);obtain⟨_,_,_,n,_,h1⟩:=(show ObjOk X.prog X.w H s.heap a (.frz ob (.lst xs)) from I.hok a _ ea);exact⟨_,kitx_list,⟨_,h1,rfl⟩,λz=>nomatch z⟩
  |@tup a xs ea=>cases (show u=Value.ref a from rx);obtain⟨_,_,_,p⟩:=(show ObjOk X.prog X.w H s.heap a (.tup xs) from I.hok a _ ea);obtain⟨o,h1,h2,_⟩:=p;exact⟨_,kitx_tuple,⟨o,h1,h2⟩,λz=>nomatch z⟩
  |@dK a kvs ea=>cases (show u=Value.ref a from rx);obtain⟨_,_,vs,_,p⟩:=(show ObjOk X.prog X.w H s.heap a (.dK kvs) from I.hok a _ ea);obtain⟨o,es,ep,h1,h2,_⟩:=p;exact⟨_,kitx_dict,⟨o,h1,h2.1⟩,λz=>nomatch z⟩
  |@dT a kvs ea=>cases (show u=Value.ref a from rx);obtain⟨_,_,xs,_,o,es,ep,h1,h2,_⟩:=(show ObjOk X.prog X.w H s.heap a (.dT kvs) from I.hok a _ ea);exact⟨_,kitx_dict,⟨o,h1,h2.1⟩,λz=>nomatch z⟩
  |@ins a C dx fs ea cl ha hn htk hm=>cases (show u=Value.ref a from rx);obtain⟨mA,O,_⟩:=DD I.hok ea;obtain⟨od,J,_⟩:=O.look;exact⟨_,kitx_own (cl.get _) cl.hd ha hn htk hm,J,λz=>nomatch z⟩
end
section
variable{X:Cx}
noncomputable def eI:V->Option Value
 |.ref C=>some (.ref C)
 |.ty T=>some (.type T)
 |_=>none
def qH(h:eI c=some v)(r:RelV c u):u=v:=by
 cases c with
 |ref C=>cases r;exact G_ h
 |ty T=>cases r;exact G_ h
 |_=>cases h
theorem nH:∀{cs:List V}{us vs:List Value},cs.mapM eI=some vs->Vals cs us->us=vs
 |
  [],_,vs,h,.nil=>by
  have h':some ([]:List Value)=some vs:=h;exact G_ h'
 |
  c::cs,_,vs,h,.cons r rr=>by
  rw[O9] at h;cases q:eI c with
  |none=>rw[q] at h;cases h
  |
   some v=>
   rw[q] at h;cases q2:cs.mapM eI with
   |none=>rw[q2] at h;cases h
   |some vs'=>rw[q2] at h;have h':some (v::vs')=some vs:=h;cases h';rw[qH q r,nH q2 rr]
def Bc:CallR X (.builtin "isinstance") (λxs H Q=>∃x c t v b,xs=[x,c]/\TyX X.K H x t/\eI c=some v/\kitOne X.K t v=some b/\Q (.bl b) H):=by intro pins s σ H xs us Q I r h;obtain⟨x,c,t,v,b,rfl,ty,hc,hk,q⟩:=h;obtain⟨u,w',rfl,rx,rc⟩:=oP r;obtain rfl:=qH hc rc;obtain⟨Hh,Z,p,hne⟩:=uv I rx ty;exact kia_one Z I.kIn p hk hne λtk=>⟨.bl b,H,I.tok _,rfl,q⟩
end
end L2
namespace L2
open PySem PySem.Spec PyProof.Rows
def ObjOk.there(x:ObjOk P w H h a o):∃u,h.get? a=some u:=by
 cases o with
 |lst xs=>obtain⟨_,_,_,_,e⟩:=x;exact⟨_,e⟩
 |tup xs=>obtain⟨_,_,_,ob,e,_⟩:=x;exact⟨_,e⟩
 |dK kvs=>obtain⟨_,_,_,_,o,_,_,e,_⟩:=x;exact⟨_,e⟩
 |dT kvs=>obtain⟨_,_,_,_,o,_,_,e,_⟩:=x;exact⟨_,e⟩
 |set S n=>obtain⟨o,_,_,_,e,_⟩:=x;exact⟨_,e⟩
 |ins C dx fs=>obtain⟨_,_,_,e,_⟩:=x;exact⟨_,e⟩
 |own y=>exact x
 |xd fs=>obtain⟨_,⟨_,_,_,e,_⟩,_⟩:=x;exact⟨_,e⟩
 |rng lo hi=>obtain⟨_,_,_,e⟩:=x;exact⟨_,e⟩
 |frz ob u=>obtain⟨e,_⟩:=x;exact⟨_,e⟩
 |tbl ps=>exact⟨_,show h.get? a=some _ from x⟩
 |met f y=>exact⟨_,show h.get? a=some _ from x⟩
 |ext φ=>obtain⟨_,e,_⟩:=x;exact e
structure Fly(P:Program)(w:World)(outer:List Env)(H:Hp)(h₀:Heap)(H':Hp)(ea:Addr)(cls:Value)(h:Heap)(B:Heap)(t:Addr):Prop where
 un:Un (frs outer) [] H H' h₀ h
 hok:HOk P w H' h
 fl:Heap.FlyingW B outer ea cls (.ref t) h
 old:∀b o,h₀.get? b=some o->b∉frs outer->∃o',B.get? b=some o'
 trk:∀b o,H' b=some o->∃o',B.get? b=some o'
def CX1(P:Program)(w:World):CXT:=λouter H s E e s'=>∃(ea t:Addr) (cls:Value) (H':Hp) (B:Heap),e=.ref ea/\s'.os=s.os/\AllBare s'.gens/\Fly P w outer H s.heap H' ea cls s'.heap B t/\E cls none H'
def qh(h:env.frame=some L):frs (env::outer)=L::frs outer:=by unfold frs;rw[OK,h]
section
variable{P:Program}{w:World}{outer:List Env}{H H':Hp}{h₀ h h' B:Heap}{ea t L:Addr}{cls:Value}
def Fly.step(F:Fly P w outer H h₀ H' ea cls h B t)(fl':Heap.FlyingW B outer' ea cls (.ref t) h')(up:h.UpToSlots h'):
 Un (frs outer) [] H H' h₀ h'/\HOk P w H' h':=by
 have st:=F.fl.1;have same:∀b o,(∃o',B.get? b=some o')->h.get? b=some o->h'.get? b=some o:=λb o ⟨o',e⟩ q=>by have z:=st b o' e;rw[q] at z;cases z;exact fl'.1 b _ e
 have frame:∀b o,b∈frs outer->h.get? b=some o->∃sl,h'.get? b=some { o with slots:=sl }:=λb o hb q=>by obtain⟨_,o',ho',hd⟩:=F.fl.2.2.1.mem hb;rw[q] at ho';cases ho';exact up b o q hd
 refine⟨⟨λb o e n hb hx=>same b o (F.old b o e hb) (F.un.keep b o e n hb hx),λb o e n hb hx=>?_,F.un.free,λb o e hx=>?_,F.un.tups,F.un.frzs,F.un.tbls⟩,λa o e=>?_⟩
 .obtain⟨sl,q⟩:=F.un.slot b o e n hb hx;obtain⟨sl',q'⟩:=frame b _ hb q;exact⟨sl',q'⟩
 .obtain⟨o',q⟩:=F.un.there b o e hx;by_cases hb:b∈frs outer
  .obtain⟨sl,q'⟩:=frame b _ hb q;exact⟨_,q'⟩
  .exact⟨o',same b o' (F.old b o e hb) q⟩
 .refine (F.hok a o e).stay (λb u hb q=>same b u ?_ q) (λ_ q=>q) λ_ _ q=>q;rcases hb with z |z
  .rw[z];exact F.trk a o e
  .exact F.trk b _ z
end
structure Cx.Top(X:Cx):Prop where
 ex:X.ex=[]
 stk:X.stack=X.env::X.outer
 fr:X.env.frame=some X.env.locals
section
variable{X:Cx}{pins:Qb}{σ:St}{H:Hp}{s s':Shared}{E:XK}{e:Value}
def yk(T:X.Top)(hA:A.frames=some X.stack)(I:Inv X pins σ H s)(h:CX1 X.prog X.w X.stack H s E e s'):
 wpAny (model X.prog X.w) A (leaving X.env e) (λ_ s''=>CX1 X.prog X.w X.outer X.H₀ X.s₀ E e s'') E' s':=by
 obtain⟨ea,t,cls,H',B,rfl,os,bare,F,q⟩:=h;have F0:=F;rw[T.stk] at F;have hf:=qh (outer:=X.outer) T.fr;refine wpAny_leaves_onW (by rw[hA,T.stk]) T.fr F.fl λh'' fl'' up=>?_;obtain⟨un2,hok2⟩:=F.step fl'' up;have exn:∀b,b∉X.ex:=λb z=>by rw[T.ex] at z;cases z
 have neL:∀b o,X.s₀.heap.get? b=some o->b≠X.env.locals:=λb o e=>NY (A_ (w_ e) I.ok.above);have notin:∀b o,X.s₀.heap.get? b=some o->b∉frs X.outer->b∉frs (X.env::X.outer):=λb o e hb z=>by
  rw[hf] at z;rcases E_.mp z with z |z
  .exact neL b o e z
  .exact hb z
 refine⟨ea,t,cls,H',B,rfl,os.trans I.os,bare,⟨⟨λb o e n hb hx=>?_,λb o e n hb hx=>?_,λb o e n hx=>?_,λb o e hx=>?_,λb xs e=>un2.tups b xs (I.base.tups b xs e),λb o xs e=>un2.frzs b o xs (I.base.frzs b o xs e),λb ps e=>?_⟩,hok2,fl'',λb o e hb=>?_,F.trk⟩,q⟩
 .exact un2.keep b o (I.base.keep b o e n hb (exn b)) (I.base.free b o e n (exn b)) (notin b o e hb) (by simp)
 .obtain⟨sl,e1⟩:=I.base.slot b o e n hb (exn b);obtain⟨sl',e2⟩:=un2.slot b _ e1 (I.base.free b o e n (exn b)) (by rw[hf];exact l_ _ hb) (by simp);exact⟨sl',e2⟩
 .obtain⟨o',e1⟩:=I.base.there b o e (exn b);exact un2.free b o' e1 (I.base.free b o e n (exn b)) (by simp)
 .obtain⟨o',e1⟩:=I.base.there b o e (exn b);exact un2.there b o' e1 (by simp)
 .obtain⟨m1,e1⟩:=I.base.tbls b ps e;obtain⟨m2,e2⟩:=un2.tbls b _ e1;exact⟨m1++m2,by rw[e2,Array.append_assoc]⟩
 .obtain⟨o',e1⟩:=I.base.there b o e (exn b);exact F.old b o' e1 (notin b o e hb)
def zW(T:X.Top)(hA:A.frames=some X.stack)(I:Inv X pins σ H s)(hx:Heap.MadeExcOf s.heap h' ea cls args)(q:E cls none H):
 wpAny (model X.prog X.w) A (leaving X.env (.ref ea)) (λ_ s''=>CX1 X.prog X.w X.outer X.H₀ X.s₀ E (.ref ea) s'') E' { s with heap:=h' }:=by
 have hf:=qh (outer:=X.outer) T.fr;have stk:=I.stack;rw[T.stk] at stk;have hin:∀env∈(X.env::X.outer),∀b,env.frame=some b->b∈frs (X.env::X.outer):=λenv he b hb=>List.mem_filterMap.mpr ⟨env,he,hb⟩;refine wpAny_leaves_madeW (base:=W.hideAll s.heap (frs (X.env::X.outer))) (h:=s.heap) (by rw[hA,T.stk]) T.fr (λb o q=>W.of_hideAll _ q) (W.funFrames_hide stk hin) hx λh'' t fl tup tn up=>?_;have inB:∀b o,s.heap.get? b=some o->b∉frs (X.env::X.outer)->(W.hideAll s.heap (frs (X.env::X.outer))).get? b=some o:=λb o e hb=>W.hideAll_get _ e hb;have free:∀b∈frs (X.env::X.outer),H b=none:=λb hb=>I.stkFree b (by rw[T.stk];exact hb);have up2:s.heap.UpToSlots h'':=(Heap.UpToSlots.of_keeps hx.keeps).trans up;have exn:∀b,b∉X.ex:=λb z=>by rw[T.ex] at z;cases z
 have neL:∀b o,X.s₀.heap.get? b=some o->b≠X.env.locals:=λb o e=>NY (A_ (w_ e) I.ok.above);have notin:∀b o,X.s₀.heap.get? b=some o->b∉frs X.outer->b∉frs (X.env::X.outer):=λb o e hb z=>by
  rw[hf] at z;rcases E_.mp z with z |z
  .exact neL b o e z
  .exact hb z
 have trk:∀b o,H b=some o->∃o',(W.hideAll s.heap (frs (X.env::X.outer))).get? b=some o':=λb o e=>by obtain⟨u,hu⟩:=(I.hok b o e).there;exact⟨u,inB b u hu λz=>by rw[free b z] at e;cases e⟩
 refine⟨ea,t,cls,H,_,rfl,I.os,I.bare,⟨⟨λb o e n hb hx=>?_,λb o e n hb hx=>?_,λb o e n hx=>?_,λb o e hx=>?_,I.base.tups,I.base.frzs,I.base.tbls⟩,λa o e=>?_,fl,λb o e hb=>?_,trk⟩,q⟩
 .exact fl.1 b o (inB b o (I.base.keep b o e n hb (exn b)) (notin b o e hb))
 .obtain⟨sl,e1⟩:=I.base.slot b o e n hb (exn b);obtain⟨_,o',ho',hd⟩:=I.ok.funs.mem hb;rw[e] at ho';cases ho';obtain⟨sl',e2⟩:=up2 b _ e1 hd;exact⟨sl',e2⟩
 .exact I.base.free b o e n (exn b)
 .obtain⟨o',e1⟩:=I.base.there b o e (exn b);by_cases hb:b∈frs X.outer
  .obtain⟨_,o2,ho2,hd⟩:=I.funs.mem hb;rw[e1] at ho2;cases ho2;obtain⟨sl',e2⟩:=up2 b _ e1 hd;exact⟨_,e2⟩
  .exact⟨o',fl.1 b o' (inB b o' e1 (notin b o e hb))⟩
 .refine (I.hok a o e).stay (λb u hb q=>?_) (λ_ q=>q) λ_ _ q=>q;refine fl.1 b u (inB b u q λz=>?_);rcases hb with y |y
  .rw[y] at z;rw[free a z] at e;cases e
  .rw[free b z] at y;cases y
 .obtain⟨o',e1⟩:=I.base.there b o e (exn b);exact⟨o',inB b o' e1 (notin b o e hb)⟩
end
section
variable{P:Program}{w:World}{K:W.Frag}{mg:Qa}{base:Heap}{N:List Str}{qual:Str}{scope:Scope}{f:Addr}{cd:Value}{A:Around}{outer:List Env}{s:Shared}{H:Hp}{E:XK}
def Cn:(cQ (CX1 P w) P w K mg base N qual scope f cd A outer s H E).Top:=⟨rfl,rfl,rfl⟩
def Ml:qQ (CX1 P w) (cQ (CX1 P w) P w K mg base N qual scope f cd A outer s H E) E:=λpins σ H s e s' I h=>yk Cn I.ok.frames I h
def MC:qQ (CX1 P w) X E0:=λpins σ H s e s' I ⟨_,_,_,_,_,_,_,_,_,q⟩=>q.elim
def own1:PassesOwn (model P w) (cQ (CX1 P w) P w K mg base N qual scope f cd A outer s H E).A (cQ (CX1 P w) P w K mg base N qual scope f cd A outer s H E).env (cQ (CX1 P w) P w K mg base N qual scope f cd A outer s H E).xe:=PassesOwn.leaving
def Rz(X:Cx)(E:XK):Prop:=∀(pins:Qb) (σ:St) (H:Hp) (s:Shared) (h':Heap) (ea:Addr) (cls:Value) (args:List Value),Inv X pins σ H s->Heap.MadeExcOf s.heap h' ea cls args->E cls none H->X.xe (.ref ea) { s with heap:=h' }
def rz1:Rz (cQ (CX1 P w) P w K mg base N qual scope f cd A outer s H E) E:=λpins σ H s h' ea cls args I hx q=>zW Cn I.ok.frames I hx q
def Fun.okR{x qual:Str}{st:Stmt}{f:Addr}{fd:FuncData}{N ps:List Str}{k:Nat}{sp:Sp}(F:Fun K x qual st f fd)(S:FnScope N ps (ak st))(len:∀vs H Q E,sp vs H Q E->vs.length=ps.length)
 (e_:∀(cdv:Value) (A:Around) (outer:List Env) (s:Shared) (H:Hp) (vs:List V) (Q:VK) (E:XK),Room k (A.deeper (envOfC qual (ak st) s.heap.objs.size f cdv))->sp vs H Q E->
  ∃t,PSs (cQ (CX1 P w) P w K mg base N qual (ak st) f cdv A outer s H E) (aS st) t/\t { nx:=λ_ H'=>Q .non H',rt:=Q } (eD N vs) H):FnOk P w K mg base (CX1 P w) (k+1) f fd ps sp:=by
 obtain⟨oc,od,kV,doc,pm,an,cdv,ct,osl,rfl,lk,hcd⟩:=F.ex;exact Ly lk hcd S len λA outer s H vs Q E hr hsp=>e_ cdv A outer s H vs Q E hr hsp
end
abbrev kq:List Value:=[.type "ValueError",.type "Exception",.type "BaseException",.type "object"]
def xG{K:W.Frag}{h:Heap}{C:Addr}(X:K.In h)(q:W.excIn K C kq "ValueError.__new__"=true):
 ∃bm N nm q' bs hdct sn sub ab col dd k0 k1 k2 k3 k5 mN,h.get? C=some (excClassObj nm q' C N bs bm hdct sn sub ab col dd k0 k1 k2 k3 k5 "ValueError.__new__")/\h.Ns N mN/\mN "__init__"=none/\OwnTail h kq bm:=by
 unfold W.excIn at q;split at q
 .rename_i dd cd sl ho;split at q
  .rename_i C' bm k0 k1 k2 k3 n k5 hm hs;simp only[r_,N5,Bool.not_eq_true'] at q;obtain⟨⟨⟨⟨⟨rfl,rfl⟩,hdel⟩,ht⟩,hok⟩,hni⟩:=q;obtain⟨nm,bs,mro,ns,qn,hd,sn,sub,ab,col,del⟩:=cd;dsimp only at hm hdel hok hni;subst hm hdel;have hsl:sl=#[k0,k1,k2,k3,some (.builtin "ValueError.__new__"),k5]:=by obtain⟨l⟩:=sl;simp only at hs;rw[hs]
   subst hsl;exact⟨bm,ns,nm,qn,bs,hd,sn,sub,ab,col,dd,k0,k1,k2,k3,k5,_,X _ _ ho,.of_isNs (W.isNs_of_in X hok),W.nsMap_none_of_in X hok hni,W.tail_of_in X ht⟩
  .cases q
 .cases q
section
variable{X:Cx}{x:Str}{C:Addr}{E:XK}{np cpos pos:Pos}{e₀:Expr}{es:List Expr}{ta:TA}
def Kh(C:Addr)(E:XK)(ta:TA):TS:=λ_ σ H=>ta σ H λvs H1=>vs.length<=sizeLine/\E (.ref C) none H1
def Aq(hc:X.calm=true)(hR:Rz X E)(hg:Gl X x)(hm:X.mg x=some (.ref C))(hq:W.excIn X.K C kq "ValueError.__new__"=true)(ha:PA X (e₀::es) ta)
 (he:starEach (e₀::es) X.env=(false,eval e₀ X.env)::starEach es X.env) (b_:(backTo cpos (starEach es X.env)).any (·.1)=false) (hd:(x==("__debug__" : Str))=false):
 PS X (.Raise (some (.Call (.Name x np) (e₀::es) [] cpos)) none pos) (Kh C E ta):=by
 intro pins s σ H D I h;obtain⟨bm,N,nm,q',bs,hdct,sn,sub,ab,col,dd,k0,k1,k2,k3,k5,mN,hC,hN,hni,T⟩:=xG I.ok.mod.kin hq;refine wpAny_Raise_call_subT (C:=C) (nm:=nm) (q:=q') (N:=N) (bs:=bs) (bm:=bm) (hdct:=hdct) (sn:=sn) (sub:=sub) (ab:=ab) (col:=col) (dd:=dd) (k0:=k0) (k1:=k1) (k2:=k2) (k3:=k3) (k5:=k5)
  PySem.F.excBase_ValueError (mN:=mN) (T.hasType PySem.F.excBase_ValueError.hasBase) (I.ok.hd hc) (by rw[he];show (false || (backTo cpos (starEach es X.env)).any (·.1))=false;rw[b_];rfl) hni (mV I hg hm ⟨rfl,?_⟩ hd)
 have hA:=ha cpos pins s σ H _ I h;rw[he] at hA ⊢;refine Calls.evalArgs_plain (thn hA λus s2 ⟨vs,H2,I2,r2,hz,q2⟩=>⟨rfl,by rw[<- r2.length];exact hz,I2.bk _ _ hC,hN.keeps I2.bk,T.keeps I2.bk,λh' e hm'=>?_⟩);exact hR pins σ H2 s2 h' e _ _ I2 hm' q2
end
abbrev XS:=St->XK
abbrev TEx:=St->Hp->VK->XK->Prop
abbrev TSx:=Ends->XS->St->Hp->Prop
def XP(X:Cx)(pins:Qb)(E:XS)(e:Value)(s':Shared):Prop:=∃σ1 H1 s1,Inv X pins σ1 H1 s1/\CX1 X.prog X.w X.stack H1 s1 (E σ1) e s'
def PEx(X:Cx)(e:Expr)(t:TEx):Prop:=
 ∀(pins:Qb) (s:Shared) (σ:St) (H:Hp) (Q:VK) (E:XS),Inv X pins σ H s->t σ H Q (E σ)->wpAny (model X.prog X.w) X.A (eval e X.env) (EP X pins σ Q) (XP X pins E) s
section
variable{X:Cx}{st:Stmt}{fP:List Stmt}{t u:TSx}{e:Expr}{es:List Expr}{te:TEx}{pos p:Pos}{x:Str}{f:Addr}{fd:FuncData}{ps:List Str}{sp:Sp}{k:Nat}{ta:TA}{dvs:List V}{ds:List Value}
end
section
variable{X:Cx}{pins:Qb}{σ:St}{H:Hp}{s:Shared}{ea:Addr}
end
structure XHand(K:W.Frag)(C:Addr):Prop where
 ty:W.typeIn K (.ref C)=some (.type "type")
 cls:(W.clsIn K C).isSome=true
 mb:W.mroIn K C (.type "BaseException")=some true
section
variable{X:Cx}{x n:Str}{C:Addr}{i:Nat}{body suite:List Stmt}{b₀:Stmt}{tb:TSx}{ts:TS}{np hpos pos:Pos}
end
mutual
inductive Rep(K:W.Frag)(H:Hp):V->PyData->Prop where
 |non:Rep K H .non .none
 |bl (b:Bool):Rep K H (.bl b) (.bool b)
 |int (i:Int):Rep K H (.int i) (.int i)
 |str (x:Str):Rep K H (.str x) (.str x)
 |tup {a:Addr}{xs:List V}{ds:List PyData} (h:SqT K H a xs) (r:Reps K H xs ds):Rep K H (.ref a) (.tuple ds)
 |lst {a:Addr}{xs:List V}{ds:List PyData} (h:SqL K H a xs) (r:Reps K H xs ds):Rep K H (.ref a) (.list ds)
inductive Reps(K:W.Frag)(H:Hp):List V->List PyData->Prop where
 |nil:Reps K H [] []
 |cons {x:V}{d:PyData}{xs:List V}{ds:List PyData} (r:Rep K H x d) (rr:Reps K H xs ds):Reps K H (x::xs) (d::ds)
end
section
variable{X:Cx}{pins:Qb}{σ:St}{H H':Hp}{s:Shared}{K:W.Frag}
def Rep.reads(I:Inv X pins σ H s)(r:Rep X.K H v d)(q:RelV v u):∃as,Reads s.heap u d as:=
 Rep.rec (motive_1:=λv d _=>∀u,RelV v u->∃as,Reads s.heap u d as) (motive_2:=λvs ds _=>∀us,Vals vs us->∃as,ReadsAll s.heap us ds as)
  (λu r=>by cases r;exact⟨_,.none⟩) (λb u r=>by cases r;exact⟨_,.bool b⟩) (λi u r=>by obtain⟨t,rfl⟩:=r;exact⟨_,.int i t⟩) (λx u r=>by obtain⟨t,rfl⟩:=r;exact⟨_,.str x t⟩)
  (λh _ ih u r=>by cases r;obtain⟨its,rv,⟨o,e,c,n,d⟩,_⟩:=I.tuple h;obtain⟨as,q⟩:=ih _ rv;exact⟨as,.tuple e c d (by simpa using q)⟩)
  (λh _ ih u r=>by cases r;obtain⟨its,rv,⟨o,n,e,c,_,d⟩,_⟩:=I.list h;obtain⟨as,q⟩:=ih _ rv;exact⟨_,.list e c d (by simpa using q)⟩)
  (λus r=>by cases r;exact⟨_,.nil⟩)
  (λ_ _ a b us q=>by
   cases q with
   |cons q1 q2=>obtain⟨as,h1⟩:=a _ q1;obtain⟨bs,h2⟩:=b _ q2;exact⟨_,.cons h1 h2⟩) r u q
end
section
variable{X:Cx}
noncomputable def shp(d:PyData):Bool:=d.canLay0&&decide (d.depth<=160)
def eQ(h:shp d=true):d.canLay0=true:=(Bool.and_eq_true_iff.mp h).1
def kE{A:Around}{d e:PyData}(h:shp d=true)(hu:A.units+180<cLine):A.units+min d.depth e.depth<cLine:=by have h1:d.depth<=160:=O6 (Bool.and_eq_true_iff.mp h).2;have h2:min d.depth e.depth<=d.depth:=Nat.min_le_left _ _;omega
def vF(K:W.Frag):R2:=λx y H Q=>∃dx dy,Rep K H x dx/\Rep K H y dy/\shp dx=true/\shp dy=true/\Q (.bl (PyData.eqv dx dy)) H
def wA(K:W.Frag):R2:=λx y H Q=>∃dx dy,Rep K H x dx/\Rep K H y dy/\shp dx=true/\shp dy=true/\Q (.bl (!PyData.eqv dx dy)) H
def HV(hu:X.A.units+180<cLine):OpR X (compareOp .Eq) (vF X.K):=by intro pins s σ H x y v u Q I rx ry h;obtain⟨dx,dy,r1,r2,h1,h2,q⟩:=h;obtain⟨as,q1⟩:=r1.reads I rx;obtain⟨bs,q2⟩:=r2.reads I ry;exact SeqAt.compareEq_reads q1 q2 (eQ h1) (eQ h2) (kE h1 hu) (qf I q rfl)
def Kq(hu:X.A.units+180<cLine):OpR X (compareOp .NotEq) (wA X.K):=by intro pins s σ H x y v u Q I rx ry h;obtain⟨dx,dy,r1,r2,h1,h2,q⟩:=h;obtain⟨as,q1⟩:=r1.reads I rx;obtain⟨bs,q2⟩:=r2.reads I ry;exact SeqAt.compareNe_reads q1 q2 (eQ h1) (eQ h2) (kE h1 hu) (qf I q rfl)
open PySem.Builtin.Int (intBits)
def CDivB(i j:Int):Prop:=j≠0/\intBits j<=8000
def CQ(i j:Int):Prop:=intBits i<=100000/\intBits j<=100000
def BY:OpR X (binaryOp .FloorDiv) (rI CDivB λi j=>.int (i.fdiv j)):=opI λi j _ _ _ _ _ hc q=>floordiv_int hc.1 q (.inl (PyProof.noPylong_of_log2 (by
 have h:=hc.2;have h0:=hc.1;unfold intBits at h;have hb:(j==0)=false:=by simpa using h0
 rw[hb] at h;simp only[Pm,P6] at h;omega)))
def D7:OpR X (binaryOp .Mult) (rI CQ λi j=>.int (i*j)):=opI λi j _ _ _ _ _ hc q=>mul_int q (PySem.IntMulOk.of_le hc.1 hc.2 (by decide))
def xb(bs:List Bool):((List.range bs.length).all λi=>bs.getD i false)=bs.all id:=by
 rw[PM,M_,M_];constructor
 .intro h x hx;obtain⟨i,hi,rfl⟩:=List.mem_iff_getElem.mp hx
  have:=h i (Oh.mpr hi)
  simpa [NW,hi] using this
 .intro h i hi;have hi':=Oh.mp hi
  have:=h bs[i] (PJ hi')
  simpa [NW,hi'] using this
def AG(hc:X.calm=true):CallR X (.builtin "all") (λxs H Q=>∃(a:Addr) (bs:List Bool),xs=[.ref a]/\SqL X.K H a (bs.map V.bl)/\Q (.bl (bs.all id)) H):=by
 intro pins s σ H xs us Q I r h;obtain⟨a,bs,rfl,hq,q⟩:=h;obtain⟨u,rfl,ru⟩:=dP r;cases ru;obtain⟨its,rv,p,hz⟩:=I.list hq;have hl:=rv.length;rw[k_] at hl;have hlt:a<s.heap.objs.size:=by obtain⟨o,n,e,_⟩:=p;exact w_ e
 refine call_all_walk (wpAny_pyIter_list p.isList ?_);refine⟨s.heap.objs.size,_,_,_,_,_,λi=>bs.getD i false,rfl,Walks.list (A:=X.A.in1) (I.ok.hd hc) s.heap.objs.size a (NY hlt) its.toArray,⟨⟨_,Em _ rfl,rfl,rfl⟩,(p.keeps λb o e=>t_ _ e).isList⟩,λi v s' Q' E' hP hQ=>?_,λh' tk hk=>?_⟩
 .have hP':its[i]?=some v:=by simpa using hP
  have hi:i<bs.length:=by rw[hl];exact (p_.mp hP').1
  have hb:(bs.map V.bl)[i]?=some (V.bl bs[i]):=by simp [hi]
  obtain⟨u,hu,ru⟩:=rv.get hb;rw[hP'] at hu;cases hu;cases ru;refine OU ?_;have e:bs.getD i false=bs[i]:=by simp [NW,hi]
  show Q' bs[i] s';rw[<- e];exact hQ
 .have e1:its.toArray.size=bs.length:=by rw[x_,hl]
  rw[e1,xb];have hn:H s.heap.objs.size=none:=I.fresh;have I1:Inv X pins σ H { s with heap:=s.heap.push { cls:=.type "list_iterator",dict:=none,data:=.fields #[.ref a,rawInt 0] } }:=I.kept (t':=s.toks) λb o e=>t_ _ e;refine⟨.bl _,H,?_,rfl,q⟩;refine I.kept (t':=tk) λb o e=>?_;have hne:b≠s.heap.objs.size:=NY (w_ e);exact hk b o (by simpa using hne) (t_ _ e)
end
structure Def(K:W.Frag)(mg:Qa)(x:Str)(st:Stmt):Prop where
 ex:∃f fd,Fun K x x st f fd/\mg x=some (.ref f)
def zd{K:W.Frag}{h:Heap}{mg:Qa}{x:Str}{st:Stmt}{f:Addr}{oc:Value}{od an:Option Addr}{osl:Array (Option Value)}{kV doc pm cdv ct:Value}(X:K.In h)(G:h.Ns mainGlobals mg)
 (a:W.nsIn K mainGlobals x=some (some (.ref f))) (l:K.lookup f=some ⟨oc,od,.func (W.fnOf x x (bM st) (aS st) (ak st) .none kV doc pm an cdv ct),osl⟩)
 (c:W.codeIn K cdv x=true) (k:W.keepIn K (.ref f)=true):Def K mg x st:=⟨f,_,Gn l c k,W.mg_of X G a⟩
def Fun.look{K:W.Frag}{x qual:Str}{st:Stmt}{f:Addr}{fd:FuncData}(F:Fun K x qual st f fd):∃oc od osl,K.lookup f=some ⟨oc,od,.func fd,osl⟩:=by obtain⟨oc,od,kV,doc,pm,an,cdv,ct,osl,rfl,lk,hcd⟩:=F.ex;exact⟨oc,od,osl,lk⟩
structure Callee(P:Program)(w:World)(K:W.Frag)(mg:Qa)(base:Heap)(x:Str)(k:Nat)(ps:List Str)(sp:Sp):Prop where
 ex:∃f fd,FnOk P w K mg base (CX1 P w) k f fd ps sp/\mg x=some (.ref f)/\W.keepIn K (.ref f)=true/\Binds K fd ps []/\∃oc od osl,K.lookup f=some ⟨oc,od,.func fd,osl⟩
section
variable{P:Program}{w:World}{K:W.Frag}{mg:Qa}{base:Heap}{x:Str}{st:Stmt}{k:Nat}{ps N:List Str}{sp:Sp}
def Callee.imp(C:Callee P w K mg base x k ps sp)(h:∀vs H Q E,sp' vs H Q E->sp vs H Q E):Callee P w K mg base x k ps sp':=by obtain⟨f,fd,F,r⟩:=C.ex;exact⟨f,fd,F.imp h,r⟩
def Def.okR(D:Def K mg x st)(S:FnScope N ps (ak st))
 (hb:∀(kV doc pm:Value) (an:Option Addr) (cdv ct:Value) (us:List Value),us.length=ps.length->bindArgs (W.fnOf x x (bM st) (aS st) (ak st) .none kV doc pm an cdv ct) ⟨us,[]⟩=pure (ps.zip us))
 (len:∀vs H Q E,sp vs H Q E->vs.length=ps.length)
 (e_:∀(f:Addr) (cdv:Value) (A:Around) (outer:List Env) (s:Shared) (H:Hp) (vs:List V) (Q:VK) (E:XK),Room k (A.deeper (envOfC x (ak st) s.heap.objs.size f cdv))->sp vs H Q E->
  ∃t,PSs (cQ (CX1 P w) P w K mg base N x (ak st) f cdv A outer s H E) (aS st) t/\t { nx:=λ_ H'=>Q .non H',rt:=Q } (eD N vs) H):Callee P w K mg base x (k+1) ps sp:=by
 obtain⟨f,fd,F,m⟩:=D.ex;exact⟨f,fd,F.okR S len (e_ f),m,F.kp,F.binds hb,F.look⟩
end
section
variable{X:Cx}{x:Str}{p pos:Pos}{e:Expr}{es:List Expr}{ta:TA}{k:Nat}{ps:List Str}{sp:Sp}{E:XK}
end
section
variable{X:Cx}{K:W.Frag}{tg l:Expr}{tl:TE}
def allK(h:X.K=K)(hc:X.calm=true):CallR X (.builtin "all") (λxs H Q=>∃(a:Addr) (bs:List Bool),xs=[.ref a]/\SqL K H a (bs.map V.bl)/\Q (.bl (bs.all id)) H):=by subst h;exact AG hc
def Room.u180(r:Room k A):A.units+180<cLine:=by have:=r.un;omega
def eqDK(h:X.K=K)(hu:X.A.units+180<cLine):OpR X (compareOp .Eq) (vF K):=by subst h;exact HV hu
def neDK(h:X.K=K)(hu:X.A.units+180<cLine):OpR X (compareOp .NotEq) (wA K):=by subst h;exact Kq hu
def inK(h:X.K=K):OpR X (compareOp .In) (rIn K false):=by subst h;exact ya
def FN(h:X.K=K):OpR X (compareOp .NotIn) (rIn K true):=by subst h;exact pC
end
section
variable{X:Cx}
def Jj{h_ am tg:Expr}{ifs:List Expr}{scope:Scope}{pos:Pos}{wi:TI}{g:TG}{tc:TT}{te:TE}{N:List Str}{sub:Qd}{iT:Nat}{xT:Str}{px spos:Pos}
 (hc:X.calm=true) (hN:X.N.Nodup) (hix:X.N[iT]?=some xT) (hxl:Loc X.env.scope xT) (hi:PI X tg am wi)
 (hk:scope.kind=.function) (hnc:∀x∈scope.names,x.2 ≠ .cell) (bn:∀x∈scope.names,x.2=.local->scope.names.lookup x.1=some .local)
 (hfr:∀x∈scope.names,x.2=.free->X.env.kindOf x.1=some .cell\/X.env.kindOf x.1=some .free)
 (hsl:sub.length=N.length) (d_:∀(j i:Nat) (x:Str),sub[j]?=some (some i)->N[j]?=some x->X.N[i]?=some x/\scope.names.lookup x=some .free)
 (hg:∀cl C s₂ H fp,PG (aJ X N scope cl C s₂ H fp) tg g) (ht:∀cl C s₂ H fp,PTs (aJ X N scope cl C s₂ H fp) ifs tc) (he:∀cl C s₂ H fp,PE (aJ X N scope cl C s₂ H fp) h_ te)
 (hsw:swapsWith (.ListComp h_ [⟨tg,am,ifs,0⟩] scope pos) (some (.Name xT px)) spos.line X.env=pure true)
 (hs:∀x,foldedSetIterable am X.env x=pure x) (hf:X.fn xT=true\/X.env.scope.names.lookup xT=some .local):
 PS X (.Assign [.Name xT px] (.ListComp h_ [⟨tg,am,ifs,0⟩] scope pos) spos) (rY (iG wi sub g tc te) (kX iT)):=by
 intro pins s σ H D0 I h;rw[exec_Assign_Name_used _ _ _ _ hsw];refine j_ (PH (j_ ?_));show wpAny _ X.A (do let _ <- comprehension (.ListComp h_ [⟨tg,am,ifs,0⟩] scope pos) scope X.env _ (newList []) false (eval am X.env) (some (assign (.Name xT px) X.env))) _ _ s;refine j_ (N6 (tN (use:=some (assign (.Name xT px) X.env)) (R:=λ_ s'=>SP X pins D0 .next s') hc hi hk hnc bn hfr hsl d_ hg ht he hs I h λD C s4 e=>?_) (λ_ s' hq=>v_ (v_ hq)) λ_ _ e=>e);obtain⟨m,hm⟩:=e.ns;obtain⟨H',hC,q,i⟩:=e.inv;have dc:=e.dc;have fr:=e.fr;refine wpAny_assign_Name (nO (v:=.ref D) (i s4.heap ⟨rfl,λ_ _=>rfl⟩) hN hix hxl rfl (λs7 I7 ⟨a7,sb7,ha7⟩=>?_) hf);have ha:a7<D:=by
  rcases ha7 with z |z
  .rw[z];exact fr
  .exact e.cell xT a7 z
 refine⟨m,hm.sameBut sb7 (Pq (PY ha dc)),λh8 hs8=>⟨_,_,I7.turned (it:=C) (t':=s7.toks) (λb o hb e=>hs8.extBut b o hb e) hC (Pq (PY fr dc)) (.inr (C_ e.sz (O_ dc))) (λx c q=>NY (PY (e.cell x c q) dc)) (λp hp=>NY (PY (e.pin p hp) dc)),q⟩⟩
def LB{h_ am tg:Expr}{scope:Scope}{pos px spos:Pos}{wi:TI}{g:TG}{te:TE}{iT:Nat}{xT:Str}(M:List Str)(kn:List (Str×NameKind))(N:List Str)(sub:Qd)
 (hc:X.calm=true) (hN:X.N.Nodup) (hix:X.N[iT]?=some xT) (hxl:Loc X.env.scope xT) (hi:PI X tg am wi)
 (hg:∀cl C s₂ H fp,PG (aJ X N scope cl C s₂ H fp) tg g) (he:∀cl C s₂ H fp,PE (aJ X N scope cl C s₂ H fp) h_ te)
 (hsw:swapsWith (.ListComp h_ [⟨tg,am,[],0⟩] scope pos) (some (.Name xT px)) spos.line X.env=pure true)
 (hM:X.N=M) (hkn:X.env.scope.names=kn) (d_:ff M scope.names sub N=true)
 (hk:scope.kind=.function) (hnc:∀x∈scope.names,x.2 ≠ .cell) (bn:∀x∈scope.names,x.2=.local->scope.names.lookup x.1=some .local)
 (hfr:gO kn scope.names=true)
 (hsl:sub.length=N.length) (hs:∀x,foldedSetIterable am X.env x=pure x) (hf:X.fn xT=true\/X.env.scope.names.lookup xT=some .local):
 PS X (.Assign [.Name xT px] (.ListComp h_ [⟨tg,am,[],0⟩] scope pos) spos) (rY (iG wi sub g AD te) (kX iT)):=
 Jj hc hN hix hxl hi hk hnc bn (by subst hkn;exact uJ hfr) hsl (by subst hM;exact qP d_) hg (λcl C s₂ H fp=>uz) he hsw hs hf
end
theorem gX:∀{ns:List Int}{its:List Value},Vals (ns.map V.int) its->IntsAre its ns
 | [],_,h=>by cases h;exact .nil
 |
  i::r,_,h=>by
  cases h with
  |cons h1 h2=>obtain⟨t,rfl⟩:=h1;exact .cons i t (gX h2)
def nG{X:Cx}{K:W.Frag}(hK:X.K=K)(hc:X.calm=true):CallR X (.builtin "sum") (λxs H Q=>∃(a:Addr) (ns:List Int),xs=[.ref a]/\SqL K H a (ns.map V.int)/\Q (.int ns.sum) H):=by
 subst hK;intro pins s σ H xs us Q I r h;obtain⟨a,ns,rfl,hq,q⟩:=h;obtain⟨u,rfl,ru⟩:=dP r;cases ru;obtain⟨its,rv,p,hz⟩:=I.list hq;have hi:=gX rv;obtain⟨ys,hy⟩:=hi.allInts.items;have hn:numsOf its.toArray.toList=ns:=by rw[show its.toArray.toList=its from rfl,hi.numsOf]
 have pl:=p.isList;rw[hy] at pl hn;rw[nums_intItems] at hn;refine sum_intListG (I.ok.hd hc) pl λh' tk t' hk=>?_;rw[preSum_eq,List.take_of_length_le (by simp),hn];exact⟨.int ns.sum,H,I.kept (t':=tk) hk,⟨_,rfl⟩,q⟩
end L2
namespace Fr
noncomputable def dv(a b:Int):Int:=if b<0 then -((Int.gcd a b:Nat):Int) else ((Int.gcd a b:Nat):Int)
def T(a b:Int):Int:=a.fdiv (dv a b)
def B(a b:Int):Int:=b.fdiv (dv a b)
def sx(hb:b≠0):0<Int.gcd a b:=Int.gcd_pos_of_ne_zero_right a hb
def dv_ne(hb:b≠0):dv a b≠0:=by
 have:=sx (a:=a) hb
 unfold dv;split <;> omega
def zk(a b:Int):dv a b ∣ a:=by
 have h:((Int.gcd a b:Nat):Int) ∣ a:=Int.gcd_dvd_left a b;unfold dv;split
 .exact Int.neg_dvd.mpr h
 .exact h
def Bw(a b:Int):dv a b ∣ b:=by
 have h:((Int.gcd a b:Nat):Int) ∣ b:=Int.gcd_dvd_right a b;unfold dv;split
 .exact Int.neg_dvd.mpr h
 .exact h
def tL{a d q:Int}(hd:d≠0)(h:a=d*q):a.fdiv d=q:=by rw[h,Pn];exact Int.mul_fdiv_cancel q hd
def T_mul(hb:b≠0):T a b*dv a b=a:=by obtain⟨q,h⟩:=zk a b;have:T a b=q:=tL (dv_ne hb) h;rw[this,Pn];exact h.symm
def B_mul(hb:b≠0):B a b*dv a b=b:=by obtain⟨q,h⟩:=Bw a b;have:B a b=q:=tL (dv_ne hb) h;rw[this,Pn];exact h.symm
def B_pos(hb:b≠0):0<B a b:=by
 have h:=B_mul (a:=a) hb;have hg:=sx (a:=a) hb;generalize hx:B a b=x at h ⊢;unfold dv at h;split at h
 .rename_i hneg;have h2:x*((Int.gcd a b:Nat):Int)=-b:=by rw[Int.mul_neg] at h;omega
  rcases Int.lt_or_le 0 x with z |z
  .exact z
  .have:x*((Int.gcd a b:Nat):Int)<=0:=Int.mul_nonpos_of_nonpos_of_nonneg z (by omega);omega
 .rename_i hpos;rcases Int.lt_or_le 0 x with z |z
  .exact z
  .have:x*((Int.gcd a b:Nat):Int)<=0:=Int.mul_nonpos_of_nonpos_of_nonneg z (by omega);omega
def cross(hb:b≠0):T a b*b=a*B a b:=by have h1:=T_mul (a:=a) hb;have h2:=B_mul (a:=a) hb;generalize T a b=x at *;generalize B a b=y at *;generalize dv a b=d at *;rw[<- h2,<- h1];rw[<- Ow,Pp]
def dv_abs(a b:Int):(dv a b).natAbs=Int.gcd a b:=by unfold dv;split <;> simp
def low(hb:b≠0):Int.gcd (T a b) (B a b)=1:=by
 have h1:=T_mul (a:=a) hb;have h2:=B_mul (a:=a) hb;have hg:=sx (a:=a) hb;have e1:a.natAbs=(T a b).natAbs*Int.gcd a b:=by rw[<- dv_abs a b,<- Oo,h1]
 have e2:b.natAbs=(B a b).natAbs*Int.gcd a b:=by rw[<- dv_abs a b,<- Oo,h2]
 have e3:Int.gcd a b=Nat.gcd ((T a b).natAbs*Int.gcd a b) ((B a b).natAbs*Int.gcd a b):=by rw[<- e1,<- e2];rfl
 rw[Nat.gcd_mul_right] at e3;show Nat.gcd (T a b).natAbs (B a b).natAbs=1;generalize Nat.gcd (T a b).natAbs (B a b).natAbs=k at *;generalize Int.gcd a b=g at *;have:(1:Nat)*g=k*g:=by omega
 exact (Nat.eq_of_mul_eq_mul_right hg this).symm
def uniq(hy:0<y)(hy':0<y')(h:Int.gcd x y=1)(h':Int.gcd x' y'=1)(e:x*y'=x'*y):x=x'/\y=y':=by
 have c1:Nat.Coprime y.natAbs x.natAbs:=by rw[Nat.coprime_comm];exact h
 have c2:Nat.Coprime y'.natAbs x'.natAbs:=by rw[Nat.coprime_comm];exact h'
 have e1:x.natAbs*y'.natAbs=x'.natAbs*y.natAbs:=by rw[<- Oo,<- Oo,e]
 have d1:y.natAbs ∣ y'.natAbs:=c1.dvd_of_dvd_mul_left (by rw[e1];exact Nat.dvd_mul_left _ _);have d2:y'.natAbs ∣ y.natAbs:=c2.dvd_of_dvd_mul_left (by rw[<- e1];exact Nat.dvd_mul_left _ _);have ey:y.natAbs=y'.natAbs:=Nat.dvd_antisymm d1 d2;have ey':y=y':=by omega
 subst ey';exact⟨Pd (by omega) e,rfl⟩
def same(hb:b≠0)(hd:d≠0)(e:a*d=c*b):T a b=T c d/\B a b=B c d:=by
 refine uniq (B_pos hb) (B_pos hd) (low hb) (low hd) ?_;have h1:=cross (a:=a) hb;have h2:=cross (a:=c) hd;have hbd:b*d≠0:=O1 hb hd;refine Pd hbd ?_
 calc T a b*B c d*(b*d)=(T a b*b)*(B c d*d):=by rw[Ow,O5 (B c d) b d,<- Ow]
  _=(a*B a b)*(B c d*d):=by rw[h1]
  _=(a*d)*(B c d*B a b):=by rw[Ow a,Ow a,O5 (B a b),O5 d,Pn (B a b) d]
  _=(c*b)*(B c d*B a b):=by rw[e]
  _=(c*B c d)*(B a b*b):=by rw[Ow c,Ow c,O5 b,Pn b (B a b)]
  _=(T c d*d)*(B a b*b):=by rw[<- h2]
  _=T c d*B a b*(b*d):=by rw[Ow,Ow,O5 d,Pn d b]
def self(hb:0<b)(h:Int.gcd a b=1):T a b=a/\B a b=b:=
 uniq (B_pos (by omega)) hb (low (by omega)) h (cross (by omega))
def euc(m n:Nat):Nat.gcd n (m % n)=Nat.gcd m n:=by rw[Nat.gcd_comm,<- Nat.gcd_rec,Nat.gcd_comm]
end Fr
set_option maxHeartbeats 1000000
namespace L2
open PySem PySem.Spec PyProof.Rows
def Inv.turnedL{X:Cx}{pins:Qb}{σ:St}{H:Hp}{s:Shared}{h':Heap}{t':Nat}{ch:List Addr}(I:Inv X pins σ H s)(k:∀b o,b∉ch->s.heap.get? b=some o->h'.get? b=some o)(hf:∀b∈ch,FpOk X pins H b):Inv X pins σ H { s with heap:=h',toks:=t' }:=by
 have away:∀b u,H b=some u->b∉ch:=λb u e z=>by have:=(hf b z).1;rw[e] at this;cases this
 refine I.step (g':=s.gens) (d':=s.drawn) (ch:=ch) (λb hb=>⟨(hf b hb).2.2.2.1,(hf b hb).2.1,(hf b hb).2.2.2.2.1,(hf b hb).2.2.2.2.2⟩) (λb o _ _ hc e _=>k b o hc e) (λb o _ _ hc e _=>⟨o.slots,k b o hc e⟩) (λ_ _ _ _ n=>n)
  (λb o hc e=>⟨o,k b o hc e⟩) (λ_ _ e=>e) (λ_ _ _ e=>e) (λb ps e=>⟨#[],by rw[e];simp⟩) (λm hm=>?_) (λb u e=>?_) I.bare
 .obtain⟨o,es,ep,ho,r⟩:=hm;exact⟨o,es,ep,k _ o (λz=>(hf _ z).2.1 rfl) ho,r⟩
 .refine (I.hok b u e).stay (λc v hc q=>k c v ?_ q) (λ_ q=>q) λ_ _ q=>q;rcases hc with z |z
  .rw[z];exact away b u e
  .exact away c _ z
def FpOk.up(f:FpOk X pins H b)(hn:b≠p):FpOk X pins (upd H p o) b:=⟨by rw[ay hn];exact f.1,f.2⟩
def vI(hj:s.heap.IsTupleIter j t n)(ht:s.heap.IsTuple t its)(hv:its[n]?=some v)
 (k:∀h',h'.IsTupleIter j t (n+1)->Heap.SameBut j s.heap h'->Q v { s with heap:=h' }):wpAny (model prog w) A (Builtin.SmallTypes.nextOf (.ref j)) Q E s:=by
 obtain⟨oj,ej,cj,dj⟩:=id hj;obtain⟨ot,et,_,m,dt⟩:=ht;unfold Builtin.SmallTypes.nextOf;refine j_ (OJ (name:=Str.ofString "__next__") hj.typeIs OS (Pc OS hj.typeIs F.entry_tuple_iterator_next ?_ (F.args_tuple_iterator_next_1 _)));show wpAny _ _ (field (.ref j) 0 >>= _) _ _ s;refine j_ (Oj ej dj (x:=.ref t) rfl ?_);show wpAny _ _ (if (Value.ref t==Value.none)=true then _ else _) _ _ s;rw[if_neg (show ¬ ((Value.ref t==Value.none)=true) from s_)];show wpAny _ _ (field (.ref j) 1 >>= _) _ _ s;refine j_ (Oj ej dj (x:=.int n 0) rfl ?_);show wpAny _ _ (seqItems? (.ref t) >>= _) _ _ s;refine j_ (OM et dt ?_);simp only[Of,hv];refine j_ (wpAny_setField ej dj (by simp) (v_ ⟨v,rfl,v_ (k _ ?_ (Heap.SameBut.update ..))⟩));exact⟨_,Heap.get?_update_self _ ej (Obj.isFreed_of_fields (Obj.data_mapFields dj _)),(Obj.cls_mapFields ..).trans cj,by rw[Obj.data_mapFields dj];simp [rawInt]⟩
def nj(hh:A.handled=none)(hj:s.heap.IsTupleIter j t n)(ht:s.heap.IsTuple t its)(hv:its[n]?=none)
 (k:∀h' e,Heap.ExtBut j s.heap h'->(∃o,h'.get? e=some o/\o.cls=.type "StopIteration")->E (.ref e) { s with heap:=h' }):wpAny (model prog w) A (Builtin.SmallTypes.nextOf (.ref j)) Q E s:=by
 obtain⟨oj,ej,cj,dj⟩:=id hj;obtain⟨ot,et,_,m,dt⟩:=ht;unfold Builtin.SmallTypes.nextOf;refine j_ (OJ (name:=Str.ofString "__next__") hj.typeIs OS (Pc OS hj.typeIs F.entry_tuple_iterator_next ?_ (F.args_tuple_iterator_next_1 _)));show wpAny _ _ (field (.ref j) 0 >>= _) _ _ s;refine j_ (Oj ej dj (x:=.ref t) rfl ?_);show wpAny _ _ (if (Value.ref t==Value.none)=true then _ else _) _ _ s;rw[if_neg (show ¬ ((Value.ref t==Value.none)=true) from s_)];show wpAny _ _ (field (.ref j) 1 >>= _) _ _ s;refine j_ (Oj ej dj (x:=.int n 0) rfl ?_);show wpAny _ _ (seqItems? (.ref t) >>= _) _ _ s;refine j_ (OM et dt ?_);simp only[Of,hv];refine j_ (wpAny_rule (j_ (wpAny_setField ej dj (by simp) ?_)));show wpAny _ _ (newExc (.type "StopIteration") [] >>= _) _ _ _;refine j_ ?_;simp only[newExc,newTuple];refine j_ (Oq ?_ (by size_fits));refine j_ (m:=firstArgMember _ _) (wpAny_of_eq (a:=Value.none) (by first |rfl |(simp only[firstArgMember];rfl)) ?_);refine Oq ?_ (by size_fits);simp only[raiseNew];refine j_ (wpAny_handled ?_);first |rw[show A.in1.handled=none from hh] |rw[hh]
 refine j_ (v_ (wpAny_throw ?_));exact k _ _ (((Heap.SameBut.update ..).extBut.push _).push _) ⟨_,Em _ rfl,rfl⟩
def SqB(K:W.Frag)(b:Bool)(H:Hp)(a:Addr)(xs:List V):Prop:=match b with
 |true=>SqL K H a xs
 |false=>SqT K H a xs
def ItB(b:Bool)(h:Heap)(j a:Addr)(i:Nat):Prop:=match b with
 |true=>h.IsListIter j a i
 |false=>h.IsTupleIter j a i
def SqB.inj(I:Inv X pins σ H s)(x:SqB X.K b H a xs)(y:SqB X.K b H a ys):xs=ys:=by
 cases b with
 |true=>exact I.list_inj x y
 |false=>exact I.tuple_inj x y
noncomputable def IteE(K:W.Frag)(b:Bool)(a:Addr):It:=
 ⟨λi H=>∃xs x,SqB K b H a xs/\xs[i]?=some x,λi H x H'=>∃p u,x=.ref p/\H p=none/\H'=upd H p (.tup [.int (i:Nat),u])/\∀xs,SqB K b H a xs->xs[i]?=some u,λi H=>∃xs,SqB K b H a xs/\xs.length=i⟩
def jO(z:ItB b h j a i):∃o,h.get? j=some o/\(∀v,o.data ≠ .cell v)/\o.cls=.type (if b then "list_iterator" else "tuple_iterator"):=by
 cases b with
 |true=>obtain⟨o,e,c,d⟩:=z;exact⟨o,e,(λv y=>by rw[d] at y;cases y),c⟩
 |false=>obtain⟨o,e,c,d⟩:=z;exact⟨o,e,(λv y=>by rw[d] at y;cases y),c⟩
def bj(z:ItB b h j a i)(k:∀o,h.get? j=some o->h'.get? j=some o):ItB b h' j a i:=by
 cases b with
 |true=>obtain⟨o,e,r⟩:=z;exact⟨o,k o e,r⟩
 |false=>obtain⟨o,e,r⟩:=z;exact⟨o,k o e,r⟩
def LsB(b:Bool)(h:Heap)(a:Addr)(its:Array Value):Prop:=match b with
 |true=>h.IsList a its
 |false=>h.IsTuple a its
def LsB.keep(z:LsB b h a its)(k:∀o,h.get? a=some o->h'.get? a=some o):LsB b h' a its:=by cases b <;> (obtain⟨o,e,r⟩:=z;exact⟨o,k o e,r⟩)
def vE(hj:ItB b s.heap j a n)(ht:LsB b s.heap a its)(hv:its[n]?=some v)
 (k:∀h',ItB b h' j a (n+1)->Heap.SameBut j s.heap h'->Q v { s with heap:=h' }):wpAny (model prog w) A (Builtin.SmallTypes.nextOf (.ref j)) Q E s:=by
 cases b with
 |true=>exact wpAny_nextOf_list_item hj ht hv k
 |false=>exact vI hj ht hv k
def nC(hh:A.handled=none)(hj:ItB b s.heap j a n)(ht:LsB b s.heap a its)(hv:its[n]?=none)
 (k:∀h' e,Heap.ExtBut j s.heap h'->(∃o,h'.get? e=some o/\o.cls=.type "StopIteration")->E (.ref e) { s with heap:=h' }):wpAny (model prog w) A (Builtin.SmallTypes.nextOf (.ref j)) Q E s:=by
 cases b with
 |true=>exact wpAny_nextOf_list_end hh hj ht hv k
 |false=>exact nj hh hj ht hv k
section
variable{prog:Program}{w:World}{A:Around}{E:Qc}{s:Shared}{b1 b2:Bool}{z p q j1 j2 a1 a2:Addr}{n:Nat}{xs ys:Array Value}{x y u v:Value}
def zipN{Q:Qc}(D:ZipApart z p q j1 j2 a1 a2)(hz:IsZip s.heap z p q .none)(hp:IsPair s.heap p (.ref j1) (.ref j2))(hq:IsPair s.heap q u v)
 (i1:ItB b1 s.heap j1 a1 n) (i2:ItB b2 s.heap j2 a2 n) (l1:LsB b1 s.heap a1 xs) (l2:LsB b2 s.heap a2 ys) (ex:xs[n]?=some x) (ey:ys[n]?=some y)
 (k:∀h',IsZip h' z p q (rawInt s.heap.objs.size)->IsPair h' q x y->ItB b1 h' j1 a1 (n+1)->ItB b2 h' j2 a2 (n+1)->IsPair h' s.heap.objs.size x y->(∀c o,c≠z->c≠q->c≠j1->c≠j2->s.heap.get? c=some o->h'.get? c=some o)->Q (.ref s.heap.objs.size) { s with heap:=h' }):
 wpAny (model prog w) A (Builtin.«zip.__next__» ⟨[.ref z],[]⟩) (λg_ s'=>∃v,g_=.done (.ret v)/\Q v s') E s:=by
 show wpAny _ _ (field (.ref z) 2 >>= _) _ _ _;refine j_ (Oj hz rfl (x:=.bool false) rfl ?_);show wpAny _ _ (field (.ref z) 3 >>= _) _ _ _;refine j_ (Oj hz rfl (x:=.ref p) rfl ?_);refine j_ (OM hp rfl ?_);show wpAny _ _ (Builtin.SmallTypes.ownedTupleIsFree (.ref z) >>= _) _ _ _;refine j_ ?_;unfold Builtin.SmallTypes.ownedTupleIsFree;refine j_ (Oj hz rfl (x:=.none) rfl (v_ ?_));simp only[OW];refine j_ (wpAny_rule ?_);refine j_ (Oj hz rfl (x:=.ref q) rfl ?_);refine j_ (OO hz (by simp) λg1 (y1:IsZip g1 z p q .ellipsis) t1=>?_);refine j_ ?_;simp only[List.zipIdx_cons,List.zipIdx_nil,List.forIn_cons,List.forIn_nil];refine j_ (j_ (P9 ?_));show wpAny _ _ (Builtin.SmallTypes.nextOf (.ref j1) >>= _) _ _ _;refine j_ (vE (bj i1 λo e=>t1.extBut _ _ D.i1z e) (l1.keep λo e=>t1.extBut _ _ D.l1z e) ex λg2 m1 t2=>v_ ?_);have q2:IsPair g2 q u v:=t2.extBut _ _ D.TOi1 (t1.extBut _ _ D.TOz hq);refine j_ (OM q2 rfl ?_);refine j_ (P2 q2 λg3 (q3:IsPair g3 q x v) t3=>?_);refine j_ (wpAny_letGo (v_ ?_));refine j_ (j_ (P9 ?_));show wpAny _ _ (Builtin.SmallTypes.nextOf (.ref j2) >>= _) _ _ _;refine j_ (vE (bj i2 λo e=>t3.extBut _ _ D.TOi2.symm (t2.extBut _ _ D.i12.symm (t1.extBut _ _ D.i2z e))) (l2.keep λo e=>t3.extBut _ _ D.l2TO (t2.extBut _ _ D.l2i1 (t1.extBut _ _ D.l2z e))) ey λg4 m2 t4=>v_ ?_);have q4:IsPair g4 q x v:=t4.extBut _ _ D.TOi2 q3;refine j_ (OM q4 rfl ?_);refine j_ (P2 q4 λg5 (q5:IsPair g5 q x y) t5=>?_);refine j_ (wpAny_letGo (v_ (v_ ?_)));refine j_ (OM q5 rfl ?_);refine j_ (wpAny_newTuple ?_);have sz:g5.objs.size=s.heap.objs.size:=by rw[t5.1,t4.1,t3.1,t2.1,t1.1]
 have y5:IsZip g5 z p q .ellipsis:=t5.extBut _ _ D.TOz.symm (t4.extBut _ _ D.i2z.symm (t3.extBut _ _ D.TOz.symm (t2.extBut _ _ D.i1z.symm y1)));have all5:∀c o,c≠z->c≠q->c≠j1->c≠j2->s.heap.get? c=some o->g5.get? c=some o:=λc o c1 c2 c3 c4 e=>t5.extBut _ _ c2 (t4.extBut _ _ c4 (t3.extBut _ _ c2 (t2.extBut _ _ c3 (t1.extBut _ _ c1 e))));have n1:ItB b1 g5 j1 a1 (n+1):=bj m1 λo e=>t5.extBut _ _ D.TOi1.symm (t4.extBut _ _ D.i12 (t3.extBut _ _ D.TOi1.symm e));have n2:ItB b2 g5 j2 a2 (n+1):=bj m2 λo e=>t5.extBut _ _ D.TOi2.symm e;have zl:z<g5.objs.size:=w_ y5;show wpAny _ _ (Builtin.SmallTypes.ownedTupleHandOut (.ref z) (.ref g5.objs.size) >>= _) _ _ _;refine j_ ?_;unfold Builtin.SmallTypes.ownedTupleHandOut;have y6:IsZip (g5.push { cls:=.type "tuple",data:=.seq #[x,y] }) z p q .ellipsis:=t_ _ y5;refine j_ (OO y6 (by simp) λg7 (y7:IsZip g7 z p q (rawInt g5.objs.size)) t7=>?_);refine OO y7 (by simp) λg8 (y8:IsZip g8 z p q (rawInt g5.objs.size)) t8=>?_;have up:∀c o,c≠z->g5.get? c=some o->g8.get? c=some o:=λc o c1 e=>t8.extBut _ _ c1 (t7.extBut _ _ c1 (t_ _ e));have w8:IsPair g8 g5.objs.size x y:=t8.extBut _ _ (Pq zl) (t7.extBut _ _ (Pq zl) (Em _ rfl));rw[sz] at y8 w8;refine v_ ⟨_,rfl,?_⟩;show Q (.ref g5.objs.size) _;rw[sz];exact k g8 y8 (up _ _ D.TOz q5) (bj n1 λo e=>up _ o D.i1z e) (bj n2 λo e=>up _ o D.i2z e) w8 λc o c1 c2 c3 c4 e=>up c o c1 (all5 c o c1 c2 c3 c4 e)
def B4(hh:A.handled=none)(D:ZipApart z p q j1 j2 a1 a2)(hz:IsZip s.heap z p q .none)(hp:IsPair s.heap p (.ref j1) (.ref j2))(hq:IsPair s.heap q u v)
 (i1:ItB b1 s.heap j1 a1 n) (i2:ItB b2 s.heap j2 a2 n) (l1:LsB b1 s.heap a1 xs) (l2:LsB b2 s.heap a2 ys) (en:xs[n]?=none\/ys[n]?=none)
 (k:∀h' e,(∀c o,c≠z->c≠q->c≠j1->c≠j2->s.heap.get? c=some o->h'.get? c=some o)->(∃o,h'.get? e=some o/\o.cls=.type "StopIteration")->E (.ref e) { s with heap:=h' }):wpAny (model prog w) A (Builtin.«zip.__next__» ⟨[.ref z],[]⟩) Q E s:=by
 show wpAny _ _ (field (.ref z) 2 >>= _) _ _ _;refine j_ (Oj hz rfl (x:=.bool false) rfl ?_);show wpAny _ _ (field (.ref z) 3 >>= _) _ _ _;refine j_ (Oj hz rfl (x:=.ref p) rfl ?_);refine j_ (OM hp rfl ?_);show wpAny _ _ (Builtin.SmallTypes.ownedTupleIsFree (.ref z) >>= _) _ _ _;refine j_ ?_;unfold Builtin.SmallTypes.ownedTupleIsFree;refine j_ (Oj hz rfl (x:=.none) rfl (v_ ?_));simp only[OW];refine j_ (wpAny_rule ?_);refine j_ (Oj hz rfl (x:=.ref q) rfl ?_);refine j_ (OO hz (by simp) λg1 (y1:IsZip g1 z p q .ellipsis) t1=>?_);refine j_ ?_;simp only[List.zipIdx_cons,List.zipIdx_nil,List.forIn_cons,List.forIn_nil];refine j_ (j_ (P9 ?_));show wpAny _ _ (Builtin.SmallTypes.nextOf (.ref j1) >>= _) _ _ _;cases ex:xs[n]? with
 |
  none=>
  refine j_ (nC hh (bj i1 λo e=>t1.extBut _ _ D.i1z e) (l1.keep λo e=>t1.extBut _ _ D.l1z e) ex λg2 e t2 ⟨oe,he,ce⟩=>?_);have y2:IsZip g2 z p q .ellipsis:=t2 _ _ D.i1z.symm y1;have ez:e≠z:=λw=>by subst w;rw[y2] at he;cases he;simp at ce
  exact OO y2 (by simp) λg3 _ t3=>k g3 e (λc o c1 _ c3 _ w=>t3.extBut _ _ c1 (t2 _ _ c3 (t1.extBut _ _ c1 w))) ⟨oe,t3.extBut _ _ ez he,ce⟩
 |
  some x=>
  have ey:ys[n]?=none:=en.resolve_left λw=>by rw[ex] at w;cases w
  refine j_ (vE (bj i1 λo e=>t1.extBut _ _ D.i1z e) (l1.keep λo e=>t1.extBut _ _ D.l1z e) ex λg2 m1 t2=>v_ ?_);have q2:IsPair g2 q u v:=t2.extBut _ _ D.TOi1 (t1.extBut _ _ D.TOz hq);refine j_ (OM q2 rfl ?_);refine j_ (P2 q2 λg3 q3 t3=>?_);refine j_ (wpAny_letGo (v_ ?_));refine j_ (j_ (P9 ?_));show wpAny _ _ (Builtin.SmallTypes.nextOf (.ref j2) >>= _) _ _ _;refine j_ (nC hh (bj i2 λo e=>t3.extBut _ _ D.TOi2.symm (t2.extBut _ _ D.i12.symm (t1.extBut _ _ D.i2z e))) (l2.keep λo e=>t3.extBut _ _ D.l2TO (t2.extBut _ _ D.l2i1 (t1.extBut _ _ D.l2z e))) ey λg4 e t4 ⟨oe,he,ce⟩=>?_);have y4:IsZip g4 z p q .ellipsis:=t4 _ _ D.i2z.symm (t3.extBut _ _ D.TOz.symm (t2.extBut _ _ D.i1z.symm y1));have ez:e≠z:=λw=>by subst w;rw[y4] at he;cases he;simp at ce
  exact OO y4 (by simp) λg5 _ t5=>k g5 e (λc o c1 c2 c3 c4 w=>t5.extBut _ _ c1 (t4 _ _ c4 (t3.extBut _ _ c2 (t2.extBut _ _ c3 (t1.extBut _ _ c1 w))))) ⟨oe,t5.extBut _ _ ez he,ce⟩
end
noncomputable def AM(b:Bool):String:=if b then "list_iterator" else "tuple_iterator"
def um(h:LsB b s.heap a its)(k:Q (.ref s.heap.objs.size) { s with heap:=s.heap.push { cls:=.type (AM b),data:=.fields #[.ref a,.int 0 0] } }):wpAny (model prog w) A (pyIter (.ref a)) Q E s:=by
 cases b with
 |true=>exact wpAny_pyIter_list h k
 |false=>exact wpAny_pyIter_tuple h k
abbrev zp1(h:Heap)(b:Bool)(a:Addr):Heap:=h.push { cls:=.type (AM b),data:=.fields #[.ref a,.int 0 0] }
abbrev zp2(h:Heap)(b c:Bool)(a d:Addr):Heap:=zp1 (zp1 h b a) c d
abbrev zp3(h:Heap)(b c:Bool)(a d:Addr):Heap:=(zp2 h b c a d).push { cls:=.type "tuple",data:=.seq #[.ref h.objs.size,.ref (zp1 h b a).objs.size] }
abbrev zp4(h:Heap)(b c:Bool)(a d:Addr):Heap:=(zp3 h b c a d).push { cls:=.type "tuple",data:=.seq #[.none,.none] }
abbrev zp5(h:Heap)(b c:Bool)(a d:Addr):Heap:=(zp4 h b c a d).push { cls:=.type "zip",data:=.fields #[.none,.bool false,.bool false,.ref (zp2 h b c a d).objs.size,.ref (zp3 h b c a d).objs.size] }
def BV(b c:Bool)(a d:Addr)(xs ys:Array Value):Meets (Builtin.«zip.__new__» ⟨[.type "zip",.ref a,.ref d],[]⟩) (λ_ R s=>LsB b s.heap a xs/\LsB c s.heap d ys/\R (.ok (.ret (.ref (zp4 s.heap b c a d).objs.size))) { s with heap:=zp5 s.heap b c a d }):=
 .of_wp λprog w A R s h=>by
  obtain⟨hp,g,dr,tk,os⟩:=s;obtain⟨la,ld,h⟩:=h;have d_:=sub_zip;have L1:LsB b (Shared.heap ⟨hp,g,dr,tk,os⟩) a xs:=la;have L2':LsB c (Shared.heap ⟨hp.push { cls:=.type (AM b),data:=.fields #[.ref a,.int 0 0] },g,dr,tk,os⟩) d ys:=ld.keep λo e=>t_ _ e
  wp_walk using um L1,um L2'
  exact⟨_,rfl,h⟩
def yu(la:LsB b s.heap a xs)(ld:LsB c s.heap d ys)
 (k:∀h',IsZip h' (s.heap.objs.size+4) (s.heap.objs.size+2) (s.heap.objs.size+3) .none->IsPair h' (s.heap.objs.size+2) (.ref s.heap.objs.size) (.ref (s.heap.objs.size+1))->IsPair h' (s.heap.objs.size+3) .none .none->
  ItB b h' s.heap.objs.size a 0->ItB c h' (s.heap.objs.size+1) d 0->(∀c o,s.heap.get? c=some o->h'.get? c=some o)->Q (.ref (s.heap.objs.size+4)) { s with heap:=h' }):wpAny (model prog w) A (call (.type "zip") [.ref a,.ref d]) Q E s:=by
 refine callType_new F.called_zip (by decide) (F.typeCall_zip_2 _ _) (F.newCall_zip_2 _ _) (λobj=>F.args_object_init_3 obj _ _) F.entry_zip_new (BV b c a d xs ys) ⟨la,ld,?_⟩;have n1:(zp1 s.heap b a).objs.size=s.heap.objs.size+1:=Pu ..;have n2:(zp2 s.heap b c a d).objs.size=s.heap.objs.size+2:=by rw[Pu,n1]
 have n3:(zp3 s.heap b c a d).objs.size=s.heap.objs.size+3:=by rw[Pu,n2]
 have n4:(zp4 s.heap b c a d).objs.size=s.heap.objs.size+4:=by rw[Pu,n3]
 have up:=λ{h:Heap}{x:Addr}{o:Obj} (o':Obj) (e:h.get? x=some o)=>t_ o' e;have e5:(zp5 s.heap b c a d).get? (zp4 s.heap b c a d).objs.size=some _:=Em _ rfl;have e4:(zp5 s.heap b c a d).get? (zp3 s.heap b c a d).objs.size=some _:=up _ (Em _ rfl);have e3:(zp5 s.heap b c a d).get? (zp2 s.heap b c a d).objs.size=some _:=up _ (up _ (Em _ rfl));have e2:(zp5 s.heap b c a d).get? (zp1 s.heap b a).objs.size=some _:=up _ (up _ (up _ (Em _ rfl)));have e1:(zp5 s.heap b c a d).get? s.heap.objs.size=some _:=up _ (up _ (up _ (up _ (Em _ rfl))));show _/\_;rw[n2,n3,n4] at e5;rw[n1,n2] at e3;rw[n3] at e4;rw[n1] at e2;rw[n4];have i1:ItB b (zp5 s.heap b c a d) s.heap.objs.size a 0:=by cases b <;> exact⟨_,e1,rfl,rfl⟩
 have i2:ItB c (zp5 s.heap b c a d) (s.heap.objs.size+1) d 0:=by cases c <;> exact⟨_,e2,rfl,rfl⟩
 exact⟨⟨_,e5,rfl⟩,k _ e5 e3 e4 i1 i2 λx o e=>up _ (up _ (up _ (up _ (up _ e))))⟩
noncomputable def ItZ(K:W.Frag)(b c:Bool)(a d:Addr):It:=
 ⟨λi H=>∃xs ys x y,SqB K b H a xs/\SqB K c H d ys/\xs[i]?=some x/\ys[i]?=some y,
  λi H x H'=>∃p u v,x=.ref p/\H p=none/\H'=upd H p (.tup [u,v])/\(∀xs,SqB K b H a xs->xs[i]?=some u)/\∀ys,SqB K c H d ys->ys[i]?=some v,
  λi H=>∃xs ys,SqB K b H a xs/\SqB K c H d ys/\(xs[i]?=none\/ys[i]?=none)⟩
def ia(I:Inv X pins σ H s)(hq:SqB X.K b H a xs):∃its:List Value,Vals xs its/\LsB b s.heap a its.toArray:=by
 cases b with
 |true=>obtain⟨its,rv,p,_⟩:=I.list hq;exact⟨its,rv,p.isList⟩
 |false=>obtain⟨its,rv,p,_⟩:=I.tuple hq;exact⟨its,rv,p⟩
def Ak{P:Program}{w:World}{K:W.Frag}{elts:List Expr}{x1:Nat}{tp:Pos}(b c:Bool)(a d z p q j1 j2:Addr)(D:ZipApart z p q j1 j2 a d):
 Turn P w K (.Tuple elts x1 tp) (ItZ K b c a d) [z,p,q,j1,j2] z (λi h=>IsZip h z p q .none/\IsPair h p (.ref j1) (.ref j2)/\(∃u v,IsPair h q u v)/\ItB b h j1 a i/\ItB c h j2 d i) where
 mem:=by simp
 obj:=λi h st e he=>by
  obtain⟨s1,s2,⟨u,v,s3⟩,s4,s5⟩:=st;obtain⟨o4,k4,l4,_⟩:=jO s4;obtain⟨o5,k5,l5,_⟩:=jO s5;simp only[E_,PK,or_false] at he;rcases he with rfl |rfl |rfl |rfl |rfl
  .exact⟨_,s1,λv y=>by cases y⟩
  .exact⟨_,s2,λv y=>by cases y⟩
  .exact⟨_,s3,λv y=>by cases y⟩
  .exact⟨o4,k4,l4⟩
  .exact⟨o5,k5,l5⟩
 keep:=λi h h' st k=>by obtain⟨s1,s2,⟨u,v,s3⟩,s4,s5⟩:=st;exact⟨k z (by simp) _ s1,k p (by simp) _ s2,⟨u,v,k q (by simp) _ s3⟩,bj s4 λo e=>k j1 (by simp) o e,bj s5 λo e=>k j2 (by simp) o e⟩
 item:=
  by
  intro X hP hw hK hc i pins s σ H E I hf st hg;subst hP hw hK;obtain⟨xs,ys,x,y,qx,qy,ex,ey⟩:=hg;obtain⟨s1,s2,⟨u,v,s3⟩,s4,s5⟩:=st;obtain⟨ix,rx,lx⟩:=ia I qx;obtain⟨iy,ry,ly⟩:=ia I qy;obtain⟨ux,hux,rux⟩:=rx.get ex;obtain⟨uy,huy,ruy⟩:=ry.get ey;have hTy:s.TypeIs (.ref z) "zip":=⟨_,s1,rfl⟩;have zl:=w_ s1;have pl:=w_ s2;have ql:=w_ s3;obtain⟨o4,k4,_,_⟩:=jO s4;obtain⟨o5,k5,_,_⟩:=jO s5;have j1l:=w_ k4;have j2l:=w_ k5;unfold pyNext;refine j_ (P8 (OJ (name:=Str.ofString "__next__") hTy PN (Pc PN hTy F.entry_zip_next (zipN D s1 s2 s3 s4 s5 lx ly (by simpa using hux) (by simpa using huy) λh' y1 y3 y4 y5 yT hk=>v_ ?_) (F.args_zip_next_1 _))));refine⟨_,rfl,wpAny_letOwnedTupleGo_zip (s:={ s with heap:=h' }) y1 λh2 z2 sb=>?_⟩;have sb':Heap.SameBut z h' h2:=sb;have hT:H s.heap.objs.size=none:=I.hok.fresh (n_ _);have I1:Inv X pins σ (upd H s.heap.objs.size (.tup [x,y])) { s with heap:=s.heap.push { cls:=.type "tuple",data:=.seq #[ux,uy] },toks:=s.toks }:=
   I.laid (t':=s.toks) (λc o q=>t_ _ q) (n_ _) ⟨by show 2<=sizeLine;decide,[ux,uy],.cons rux (.cons ruy .nil),⟨_,Em _ rfl,rfl,_,rfl⟩⟩
  have fp':∀e∈[z,p,q,j1,j2],FpOk X pins (upd H s.heap.objs.size (.tup [x,y])) e:=λe he=>by
   have:=hf e he
   simp only[E_,PK,or_false] at he;rcases he with rfl |rfl |rfl |rfl |rfl
   .exact this.up (NY zl)
   .exact this.up (NY pl)
   .exact this.up (NY ql)
   .exact this.up (NY j1l)
   .exact this.up (NY j2l)
  have I2:Inv X pins σ (upd H s.heap.objs.size (.tup [x,y])) { s with heap:=h2,toks:=s.toks }:=
   Inv.turnedL (s:={ s with heap:=s.heap.push { cls:=.type "tuple",data:=.seq #[ux,uy] },toks:=s.toks }) (ch:=[z,p,q,j1,j2]) (t':=s.toks) I1 (λe o he qe=>by
    have c1:e≠z:=λw=>he (by simp [w]);have c2:e≠q:=λw=>he (by simp [w]);have c3:e≠j1:=λw=>he (by simp [w]);have c4:e≠j2:=λw=>he (by simp [w]);rw[sb'.2 e c1];have q':(s.heap.push { cls:=.type "tuple",data:=.seq #[ux,uy] }).get? e=some o:=qe;by_cases w:e=s.heap.objs.size
    .subst w;rw[Em _ rfl] at q';cases q';exact yT
    .rw[Heap.get?_push_ne _ _ _ w] at q';exact hk e o c1 c2 c3 c4 q') fp'
  refine⟨.ref s.heap.objs.size,_,I2,rfl,⟨_,x,y,rfl,hT,rfl,λzs hz=>by rw[SqB.inj I hz qx];exact ex,λzs hz=>by rw[SqB.inj I hz qy];exact ey⟩,⟨z2,?_,⟨ux,uy,?_⟩,bj y4 λo e=>(sb'.2 j1 D.i1z).trans e,bj y5 λo e=>(sb'.2 j2 D.i2z).trans e⟩,λe he=>(fp' e he).1⟩
  .exact (sb'.2 p D.TIz).trans (hk p _ D.TIz D.TITO D.TIi1 D.TIi2 s2)
  .exact (sb'.2 q D.TOz).trans y3
 done:=by
  intro X hP hw hK hc i pins s σ H E I hf st hg;subst hP hw hK;obtain⟨xs,ys,qx,qy,en⟩:=hg;obtain⟨s1,s2,⟨u,v,s3⟩,s4,s5⟩:=st;obtain⟨ix,rx,lx⟩:=ia I qx;obtain⟨iy,ry,ly⟩:=ia I qy;have hTy:s.TypeIs (.ref z) "zip":=⟨_,s1,rfl⟩;have en':ix.toArray[i]?=none\/iy.toArray[i]?=none:=by
   rcases en with e |e
   .left;rw[OG] at e;simp;rw[<- rx.length];exact e
   .right;rw[OG] at e;simp;rw[<- ry.length];exact e
  unfold pyNext;refine j_ (P8 (OJ (name:=Str.ofString "__next__") hTy PN (Pc PN hTy F.entry_zip_next (B4 (I.ok.hd hc) D s1 s2 s3 s4 s5 lx ly en' λh' e hk ⟨o,ho,co⟩=>?_) (F.args_zip_next_1 _))));refine j_ (wpAny_isInstance (T:="StopIteration") (b:=true) ⟨o,ho,co⟩ isSubtype_stop (v_ ⟨rfl,?_⟩));exact Inv.turnedL (ch:=[z,p,q,j1,j2]) (t':=s.toks) I (λe o he qe=>hk e o (λw=>he (by simp [w])) (λw=>he (by simp [w])) (λw=>he (by simp [w])) (λw=>he (by simp [w])) qe) hf
 self:=λ_ _ _ _ _ st h=>wpAny_pyIter_zip st.1 h
def xa:bootBuiltins "zip"=some (.type "zip"):=by decide
def HN(hg:Gl X "zip")(hm:X.mg "zip"=none)(ha:PA X [l,m] tl)(hs:starEach [l,m] X.env=[(false,eval l X.env),(false,eval m X.env)])(hs2:starEach [m] X.env=[(false,eval m X.env)]):
 PI X (.Tuple elts x1 tp) (.Call (.Name "zip" p) [l,m] [] pos) (λσ H R=>tl σ H λvs H1=>∃(b c:Bool) (a d:Addr) (xs ys:List V),vs=[.ref a,.ref d]/\SqB X.K b H1 a xs/\SqB X.K c H1 d ys/\R (ItZ X.K b c a d) H1):=by
 intro pins s σ H R I h;refine Call_ (dN I hg hm xa (Ol (thn (ha pos pins s σ H _ I h) λus s1 ⟨vs,H1,I1,r1,q1⟩=>?_) (by rw[hs,hs2]) (by rw[hs2];rfl)));obtain⟨b,c,a,d,xs,ys,e,qx,qy,q⟩:=q1;subst e;cases r1 with
 |
  cons r rr=>
  cases rr with
  |
   cons r' rr=>
   cases rr;cases r;cases r';obtain⟨ix,rx,lx⟩:=ia I1 qx;obtain⟨iy,ry,ly⟩:=ia I1 qy;have la:a<s1.heap.objs.size:=by cases b <;> (obtain⟨o,e,_⟩:=lx;exact w_ e)
   have ld:d<s1.heap.objs.size:=by cases c <;> (obtain⟨o,e,_⟩:=ly;exact w_ e)
   refine yu lx ly λh' y1 y2 y3 y4 y5 hk=>wpAny_pyIter_zip y1 ⟨s1.heap.objs.size+4,[s1.heap.objs.size+4,s1.heap.objs.size+2,s1.heap.objs.size+3,s1.heap.objs.size,s1.heap.objs.size+1],_,_,H1,rfl,I1.kept (t':=s1.toks) λc o z=>hk c o z,Ak b c a d _ _ _ _ _ (W.ktu_apart _ _ _ la ld),⟨y1,y2,⟨_,_,y3⟩,y4,y5⟩,λe he=>?_,q⟩;have hge:s1.heap.objs.size<=e:=by
    simp only[E_,PK,or_false] at he;rcases he with rfl |rfl |rfl |rfl |rfl
    .exact PL _ _
    .exact PL _ _
    .exact PL _ _
    .exact n_ _
    .exact PL _ _
   exact I1.fpOk hge (I1.hok.fresh hge)
inductive D where
 |non |bl (b:Bool) |int (i:Int) |str (x:Str) |ty (n:String) |glb (x:Str) |exc (x:Str) |tup (xs:List D) |ref (n:Nat) |kl (xs:List D)
 deriving Inhabited
inductive Ob where
 |lst (xs:List D) |fz (xs:List D) |set (xs:List Int) |dct (kvs:List (Key×D)) |any
 deriving Inhabited
abbrev AH:=List Ob
abbrev AE:=List (Option D)
inductive R(α:Type) where
 |ok (a:α) (h:AH) |exc (c:Str) (h:AH) |stuck
inductive SR where
 |nx (ae:AE) (h:AH) |rt (d:D) (h:AH) |bk (ae:AE) (h:AH) |ct (ae:AE) (h:AH) |exc (c:Str) (ae:AE) (h:AH) |stuck
abbrev ME:=AE->AH->R D
abbrev MT:=AE->AH->R Bool
abbrev MA:=AE->AH->R (List D)
abbrev MS:=AE->AH->SR
abbrev Fn:=List D->AH->R D
noncomputable def R.bind{α β:Type}(r:R α)(f:α->AH->R β):R β:=match r with
 |.ok a h=>f a h
 |.exc c h=>.exc c h
 |.stuck=>.stuck
section
variable(K:W.Frag)(mg:Qa)
mutual
inductive RelD(ρ:List Addr)(H:Hp):D->V->Prop where
 |non:RelD ρ H .non .non
 |bl (b:Bool):RelD ρ H (.bl b) (.bl b)
 |int (i:Int):RelD ρ H (.int i) (.int i)
 |str (x:Str):RelD ρ H (.str x) (.str x)
 |ty (n:String):RelD ρ H (.ty n) (.ty n)
 |glb {x:Str}{a:Addr} (m:mg x=some (.ref a)):RelD ρ H (.glb x) (.ref a)
 |exc {x:Str}{a C:Addr} (m:mg x=some (.ref C)) (e:H a=some (.ext (A7 a C))):RelD ρ H (.exc x) (.ref a)
 |tup {p:Addr}{vs:List V}{ds:List D} (h:SqT K H p vs) (r:RelDs ρ H ds vs):RelD ρ H (.tup ds) (.ref p)
 |ref {n:Nat}{a:Addr} (e:ρ[n]?=some a):RelD ρ H (.ref n) (.ref a)
 |kl {a:Addr}{vs:List V}{ds:List D} (h:∃(o:Obj) (its:Array Value) (n:Nat),K.lookup a=some o/\o.cls=.type "list" /\ o.dict=none/\o.data=.seq its n/\its.size<=sizeLine/\Vals vs its.toList) (r:RelDs ρ H ds vs):RelD ρ H (.kl ds) (.ref a)
inductive RelDs(ρ:List Addr)(H:Hp):List D->List V->Prop where
 |nil:RelDs ρ H [] []
 |cons {d:D}{v:V}{ds:List D}{vs:List V} (r:RelD ρ H d v) (rr:RelDs ρ H ds vs):RelDs ρ H (d::ds) (v::vs)
end
structure Le(ρ:List Addr)(H:Hp)(ρ':List Addr)(H':Hp):Prop where
 pre:∀(n:Nat) (a:Addr),ρ[n]?=some a->ρ'[n]?=some a
 tup:∀b xs,H b=some (.tup xs)->H' b=some (.tup xs)
 frz:∀b o u,H b=some (.frz o u)->H' b=some (.frz o u)
 ext:∀b φ,H b=some (.ext φ)->H' b=some (.ext φ)
def ObR(ρ:List Addr)(H:Hp)(a:Addr):Ob->Prop
 |.lst ds=>∃vs,H a=some (.lst vs)/\RelDs K mg ρ H ds vs
 |.fz ds=>∃o vs,H a=some (.frz o (.lst vs))/\RelDs K mg ρ H ds vs
 |.set xs=>xs.Nodup/\H a=some (.set (λi=>decide (i∈xs)) xs.length)
 |.dct kvs=>∃ws,H a=some (.dK ws)/\ws.map (·.1)=kvs.map (·.1)/\RelDs K mg ρ H (kvs.map (·.2)) (ws.map (·.2))
 |.any=>∃o,H a=some o
def codO(c:Addr)(q:Str):Heap->Prop:=λh=>h.CodeRec (.ref c) q
noncomputable def kB:List Str:=["by_falling_weights", "least_around"]
def wm(P:Addr)(q:Str):Prop:=∃(x:Str) (f:Addr) (oc:Value) (od:Option Addr) (fd:FuncData) (sl:Array (Option Value)) (c:Addr),x∈kB/\(∀y∈kB,y≠x->mg y=none)/\mg x=some (.ref f)/\K.lookup f=some ⟨oc,od,.func fd,sl⟩/\fd.code=.ref c/\W.codeHdIn K c P=true/\q=fd.qualname ++ ".<locals>." ++ "<lambda>"
def TbP(ρ:List Addr)(H:Hp)(P:Addr)(q:Str):Prop:=P∉ρ/\∃ps:Array Value,H P=some (.tbl ps)/\TriplesOk ps.toList/\∀pos cv,codeAmong pos ps.toList=some cv->∃c,cv=.ref c/\H c=some (.ext (codO c q))
def bmP(o:Obj):Prop:=o.cls=.type "module" /\ o.dict=some builtinsNs/\o.data=.plain
def BMok(H:Hp):Prop:=∃b o,mg "__builtins__"=some (.ref b)/\b≠builtinsNs/\b≠mainGlobals/\bmP o/\(K.lookup b=some o\/∃u,H b=some (.frz o u))
structure Wd(ρ:List Addr)(h:AH)(H:Hp):Prop where
 len:ρ.length=h.length
 nd:ρ.Nodup
 tb:∀P q,wm K mg P q->TbP ρ H P q/\BMok K mg H
 ob:∀(n:Nat) (a:Addr) (o:Ob),ρ[n]?=some a->h[n]?=some o->ObR K mg ρ H a o
structure RelE(ρ:List Addr)(H:Hp)(ae:AE)(σ:St):Prop where
 len:ae.length=σ.length
 at_:∀(i:Nat) (d:D),ae[i]?=some (some d)->∃v,σ[i]?=some (some v)/\RelD K mg ρ H d v
def PostG{α:Type}(ρ:List Addr)(H:Hp)(E:XK)(k:α->AH->List Addr->Hp->Prop):R α->Prop
 |.ok a h=>∀ρ' H',Le ρ H ρ' H'->Wd K mg ρ' h H'->k a h ρ' H'
 |.exc c h=>∀ρ' H' C,Le ρ H ρ' H'->Wd K mg ρ' h H'->mg c=some (.ref C)->E (.ref C) none H'
 |.stuck=>False
abbrev cS(ρ:List Addr)(H:Hp)(Q:VK)(E:XK)(r:R D):Prop:=PostG K mg ρ H E (λd _ ρ' H'=>∀v,RelD K mg ρ' H' d v->Q v H') r
abbrev C0(ρ:List Addr)(H:Hp)(Q:Bool->Hp->Prop)(E:XK)(r:R Bool):Prop:=PostG K mg ρ H E (λb _ ρ' H'=>Q b H') r
abbrev CO(ρ:List Addr)(H:Hp)(Q:List V->Hp->Prop)(E:XK)(r:R (List D)):Prop:=PostG K mg ρ H E (λd _ ρ' H'=>∀vs,RelDs K mg ρ' H' d vs->Q vs H') r
def PostS(ρ:List Addr)(H:Hp)(D:Ends)(ES:St->XK):SR->Prop
 |.nx ae h=>∀ρ' H' σ',Le ρ H ρ' H'->Wd K mg ρ' h H'->RelE K mg ρ' H' ae σ'->D.nx σ' H'
 |.bk ae h=>∀ρ' H' σ',Le ρ H ρ' H'->Wd K mg ρ' h H'->RelE K mg ρ' H' ae σ'->D.bk σ' H'
 |.ct ae h=>∀ρ' H' σ',Le ρ H ρ' H'->Wd K mg ρ' h H'->RelE K mg ρ' H' ae σ'->D.ct σ' H'
 |.rt d h=>∀ρ' H' v,Le ρ H ρ' H'->Wd K mg ρ' h H'->RelD K mg ρ' H' d v->D.rt v H'
 |.exc c ae h=>∀ρ' H' σ' C,Le ρ H ρ' H'->Wd K mg ρ' h H'->RelE K mg ρ' H' ae σ'->mg c=some (.ref C)->ES σ' (.ref C) none H'
 |.stuck=>False
def rdE(ES:St->XK)(F:ME):TE:=λσ H Q=>∃ρ h ae,Wd K mg ρ h H/\RelE K mg ρ H ae σ/\cS K mg ρ H Q (ES σ) (F ae h)
def rdT(ES:St->XK)(F:MT):TT:=λσ H Q=>∃ρ h ae,Wd K mg ρ h H/\RelE K mg ρ H ae σ/\C0 K mg ρ H Q (ES σ) (F ae h)
def rdA(ES:St->XK)(F:MA):TA:=λσ H Q=>∃ρ h ae,Wd K mg ρ h H/\RelE K mg ρ H ae σ/\CO K mg ρ H Q (ES σ) (F ae h)
def rdS(ES:St->XK)(F:MS):TS:=λD σ H=>∃ρ h ae,Wd K mg ρ h H/\RelE K mg ρ H ae σ/\PostS K mg ρ H D ES (F ae h)
def spD(n:Nat)(S:Fn):Sp:=λvs H Q E=>∃ρ h ds,Wd K mg ρ h H/\RelDs K mg ρ H ds vs/\ds.length=n/\cS K mg ρ H Q E (S ds h)
end
def rdE.el{K:W.Frag}{mg:Qa}{ES:St->XK}{F:ME}{σ:St}{H:Hp}{Q:VK}{C:Prop}(q:rdE K mg ES F σ H Q)(k:∀ρ h ae,Wd K mg ρ h H->RelE K mg ρ H ae σ->cS K mg ρ H Q (ES σ) (F ae h)->C):C:=by obtain⟨ρ,h,ae,w,re,p⟩:=q;exact k ρ h ae w re p
def rdT.el{K:W.Frag}{mg:Qa}{ES:St->XK}{F:MT}{σ:St}{H:Hp}{Q:Bool->Hp->Prop}{C:Prop}(q:rdT K mg ES F σ H Q)(k:∀ρ h ae,Wd K mg ρ h H->RelE K mg ρ H ae σ->C0 K mg ρ H Q (ES σ) (F ae h)->C):C:=by obtain⟨ρ,h,ae,w,re,p⟩:=q;exact k ρ h ae w re p
def rdA.el{K:W.Frag}{mg:Qa}{ES:St->XK}{F:MA}{σ:St}{H:Hp}{Q:List V->Hp->Prop}{C:Prop}(q:rdA K mg ES F σ H Q)(k:∀ρ h ae,Wd K mg ρ h H->RelE K mg ρ H ae σ->CO K mg ρ H Q (ES σ) (F ae h)->C):C:=by obtain⟨ρ,h,ae,w,re,p⟩:=q;exact k ρ h ae w re p
def rdS.el{K:W.Frag}{mg:Qa}{ES:St->XK}{F:MS}{σ:St}{H:Hp}{De:Ends}{C:Prop}(q:rdS K mg ES F De σ H)(k:∀ρ h ae,Wd K mg ρ h H->RelE K mg ρ H ae σ->PostS K mg ρ H De ES (F ae h)->C):C:=by obtain⟨ρ,h,ae,w,re,p⟩:=q;exact k ρ h ae w re p
section
variable{K:W.Frag}{mg:Qa}{ρ ρ' ρ1:List Addr}{H H' H1:Hp}{h h':AH}{ae:AE}{σ:St}
def Le.refl:Le ρ H ρ H:=⟨λ_ _ e=>e,λ_ _ e=>e,λ_ _ _ e=>e,λ_ _ e=>e⟩
def Le.trans(a:Le ρ H ρ1 H1)(b:Le ρ1 H1 ρ' H'):Le ρ H ρ' H':=
 ⟨λn x e=>b.pre n x (a.pre n x e),λx y e=>b.tup x y (a.tup x y e),λx y z e=>b.frz x y z (a.frz x y z e),λx y e=>b.ext x y (a.ext x y e)⟩
def Le.sqT(l:Le ρ H ρ' H')(q:SqT K H a xs):SqT K H' a xs:=by
 rcases q with (q |⟨o,q⟩) |q
 .exact .inl (.inl (l.tup _ _ q))
 .exact .inl (.inr ⟨o,l.frz _ _ _ q⟩)
 .exact .inr q
def RelD.mono(l:Le ρ H ρ' H')(r:RelD K mg ρ H d v):RelD K mg ρ' H' d v:=
 RelD.rec (motive_1:=λd v _=>RelD K mg ρ' H' d v) (motive_2:=λds vs _=>RelDs K mg ρ' H' ds vs) .non (λb=>.bl b) (λi=>.int i) (λx=>.str x) (λn=>.ty n) (λm=>.glb m) (λm e=>.exc m (l.ext _ _ e)) (λh _ ih=>.tup (l.sqT h) ih) (λe=>.ref (l.pre _ _ e)) (λh _ ih=>.kl h ih) .nil (λ_ _ a b=>.cons a b) r
def RelDs.ind{M:List D->List V->Prop}(h0:M [] [])(h1:∀{d v ds vs},RelD K mg ρ H d v->RelDs K mg ρ H ds vs->M ds vs->M (d::ds) (v::vs)){ds:List D}{vs:List V}(r:RelDs K mg ρ H ds vs):M ds vs:=by
 induction ds generalizing vs with
 |nil=>cases r;exact h0
 |
  cons d ds ih=>
  cases r with
  |cons r rr=>exact h1 r rr (ih rr)
def RelDs.mono(l:Le ρ H ρ' H'){ds:List D}{vs:List V}(r:RelDs K mg ρ H ds vs):RelDs K mg ρ' H' ds vs:=r.ind .nil λr _ ih=>.cons (r.mono l) ih
def RelDs.len{ds:List D}{vs:List V}(r:RelDs K mg ρ H ds vs):ds.length=vs.length:=r.ind (M:=λds vs=>ds.length=vs.length) rfl λ_ _ ih=>Oa (· + 1) ih
def RelDs.getD{ds:List D}{vs:List V}{i:Nat}{d:D}(r:RelDs K mg ρ H ds vs)(e:ds[i]?=some d):∃v,vs[i]?=some v/\RelD K mg ρ H d v:=
 r.ind (M:=λds vs=>∀i,ds[i]?=some d->∃v,vs[i]?=some v/\RelD K mg ρ H d v) (λ_ e=>by rw[List.getElem?_nil] at e;cases e) (λr _ ih i e=>match i,e with
  |0,e=>by cases e;exact⟨_,rfl,r⟩
  |i+1,e=>ih i e) i e
def RelDs.append{ds es:List D}{vs ws:List V}(r:RelDs K mg ρ H ds vs)(q:RelDs K mg ρ H es ws):RelDs K mg ρ H (ds++es) (vs++ws):=r.ind (M:=λds vs=>RelDs K mg ρ H (ds++es) (vs++ws)) q λr _ ih=>.cons r ih
def RelDs.take{ds:List D}{vs:List V}(n:Nat)(r:RelDs K mg ρ H ds vs):RelDs K mg ρ H (ds.take n) (vs.take n):=
 r.ind (M:=λds vs=>∀n:Nat,RelDs K mg ρ H (ds.take n) (vs.take n)) (λn=>by rw[OZ,OZ];exact .nil) (λr _ ih n=>by cases n with |zero=>exact .nil |succ n=>exact .cons r (ih n)) n
def RelDs.drop{ds:List D}{vs:List V}(n:Nat)(r:RelDs K mg ρ H ds vs):RelDs K mg ρ H (ds.drop n) (vs.drop n):=
 r.ind (M:=λds vs=>∀n:Nat,RelDs K mg ρ H (ds.drop n) (vs.drop n)) (λn=>by rw[Pg,Pg];exact .nil) (λr rr ih n=>by cases n with |zero=>exact .cons r rr |succ n=>exact ih n) n
def RelDs.set{d:D}{v:V}(r:RelD K mg ρ H d v){ds:List D}{vs:List V}(i:Nat)(q:RelDs K mg ρ H ds vs):RelDs K mg ρ H (ds.set i d) (vs.set i v):=
 q.ind (M:=λds vs=>∀i:Nat,RelDs K mg ρ H (ds.set i d) (vs.set i v)) (λ_=>.nil) (λq qq ih i=>by cases i with |zero=>exact .cons r qq |succ i=>exact .cons q (ih i)) i
def RelDs.ints:∀{ns:List Int}{vs:List V},RelDs K mg ρ H (ns.map D.int) vs->vs=ns.map V.int:=by
 intro ns;induction ns with
 |nil=>intro vs r;cases r;rfl
 |
  cons n ns ih=>
  intro vs r;cases r with
  |cons r rr=>cases r;rw[ih rr];rfl
def RelDs.bls:∀{ns:List Bool}{vs:List V},RelDs K mg ρ H (ns.map D.bl) vs->vs=ns.map V.bl:=by
 intro ns;induction ns with
 |nil=>intro vs r;cases r;rfl
 |
  cons n ns ih=>
  intro vs r;cases r with
  |cons r rr=>cases r;rw[ih rr];rfl
def RelE.mono(l:Le ρ H ρ' H')(r:RelE K mg ρ H ae σ):RelE K mg ρ' H' ae σ:=⟨r.len,λi d e=>by obtain⟨v,h1,h2⟩:=r.at_ i d e;exact⟨v,h1,h2.mono l⟩⟩
def RelE.set(i:Nat)(r:RelE K mg ρ H ae σ)(q:RelD K mg ρ H d v):RelE K mg ρ H (ae.set i (some d)) (σ.set i (some v)):=⟨by rw[H_,H_];exact r.len,λj d' e=>by
 rw[Px] at e ⊢;by_cases hij:i=j
 .rw[if_pos hij] at e ⊢;by_cases hi:i<ae.length
  .rw[if_pos hi] at e;cases e;rw[if_pos (by rw[<- r.len];exact hi)];exact⟨v,rfl,q⟩
  .rw[if_neg hi] at e;cases e
 .rw[if_neg hij] at e ⊢;exact r.at_ j d' e⟩
def ObR.mono(l:Le ρ H ρ' H')(e:H' a=H a)(q:ObR K mg ρ H a o):ObR K mg ρ' H' a o:=by
 cases o with
 |lst ds=>obtain⟨vs,h1,h2⟩:=q;exact⟨vs,e.trans h1,h2.mono l⟩
 |fz ds=>obtain⟨o,vs,h1,h2⟩:=q;exact⟨o,vs,e.trans h1,h2.mono l⟩
 |set xs=>exact⟨q.1,e.trans q.2⟩
 |dct kvs=>obtain⟨ws,h1,h2,h3⟩:=q;exact⟨ws,e.trans h1,h2,h3.mono l⟩
 |any=>obtain⟨o,h1⟩:=q;exact⟨o,e.trans h1⟩
def ObR.there(q:ObR K mg ρ H a o):∃u,H a=some u:=by
 cases o with
 |lst ds=>obtain⟨vs,h1,_⟩:=q;exact⟨_,h1⟩
 |fz ds=>obtain⟨o,vs,h1,_⟩:=q;exact⟨_,h1⟩
 |set xs=>exact⟨_,q.2⟩
 |dct kvs=>obtain⟨ws,h1,_⟩:=q;exact⟨_,h1⟩
 |any=>exact q
def Wd.fresh(w:Wd K mg ρ h H)(hp:H p=none):p∉ρ:=λhm=>by
 obtain⟨n,hn⟩:=List.getElem?_of_mem hm;have hl:n<h.length:=by rw[<- w.len];exact (p_.mp hn).1
 obtain⟨u,hu⟩:=(w.ob n p h[n] hn (y_ hl)).there;rw[hp] at hu;cases hu
def TbP.up{P:Addr}{q:Str}(t:TbP ρ H P q)(hp:H p=none):TbP ρ (upd H p u) P q:=by obtain⟨a,ps,b,c,d⟩:=t;refine⟨a,ps,by rw[ay (aX b hp)];exact b,c,λpos cv e=>?_⟩;obtain⟨x,e1,e2⟩:=d pos cv e;exact⟨x,e1,by rw[ay (aX e2 hp)];exact e2⟩
def TbP.rho{P:Addr}{q:Str}(t:TbP ρ H P q)(h:P∉ρ'):TbP ρ' H P q:=⟨h,t.2⟩
def TbP.more{P:Addr}{q:Str}(t:TbP ρ H P q)(hp:H p=none):TbP (ρ++[p]) (upd H p u) P q:=by
 obtain⟨ps,b,_⟩:=t.2;refine (t.up hp).rho λz=>?_;rcases Ot.mp z with z |z
 .exact t.1 z
 .rw[OD] at z;subst z;rw[hp] at b;cases b
def TbP.wr{P:Addr}{q:Str}{a:Addr}{o u:HO}(t:TbP ρ H P q)(ha:a∈ρ)(e:H a=some u)(hu:∀φ,u ≠ .ext φ):TbP ρ (upd H a o) P q:=by
 obtain⟨z,ps,b,c,d⟩:=t;refine⟨z,ps,by rw[ay (λw=>z (by rw[w];exact ha))];exact b,c,λpos cv y=>?_⟩;obtain⟨x,e1,e2⟩:=d pos cv y;refine⟨x,e1,?_⟩;rw[ay]
 .exact e2
 .intro w;subst w;rw[e] at e2;exact hu _ (G_ e2)
def bU(hp:H p=none):Le ρ H ρ (upd H p o):=
 ⟨λ_ _ e=>e,λb xs e=>by rw[ay (aX e hp)];exact e,λb xs u e=>by rw[ay (aX e hp)];exact e,λb xs e=>by rw[ay (aX e hp)];exact e⟩
def BMok.le(b:BMok K mg H)(l:Le ρ H ρ' H'):BMok K mg H':=by
 obtain⟨x,o,h1,h2,h3,h4,h5⟩:=b;refine⟨x,o,h1,h2,h3,h4,?_⟩;rcases h5 with z |⟨u,z⟩
 .exact .inl z
 .exact .inr ⟨u,l.frz _ _ _ z⟩
def jE:Le ρ H (ρ++m) H:=
 ⟨λn a e=>by rw[J_ (p_.mp e).1];exact e,λ_ _ e=>e,λ_ _ _ e=>e,λ_ _ e=>e⟩
def Wd.alloc(w:Wd K mg ρ h H)(hp:H p=none)(hn:ObR K mg (ρ++[p]) (upd H p u) p o):Wd K mg (ρ++[p]) (h++[o]) (upd H p u):=by
 refine⟨by rw[u_,u_,w.len];rfl,?_,λP q l=>⟨(w.tb P q l).1.more hp,(w.tb P q l).2.le (ρ:=ρ) (bU hp)⟩,λn a ob e1 e2=>?_⟩
 .rw[List.nodup_append];exact⟨w.nd,by simp,λa ha b hb=>by rw[OD] at hb;subst hb;intro z;subst z;exact w.fresh hp ha⟩
 .by_cases hl:n<ρ.length
  .rw[J_ hl] at e1;rw[J_ (by rw[<- w.len];exact hl)] at e2;have q:=w.ob n a ob e1 e2;obtain⟨v,hv⟩:=q.there;exact q.mono ((bU hp).trans jE) (ay (aX hv hp))
  .have h1:n=ρ.length:=by
    have:=(p_.mp e1).1
    rw[u_] at this;simp at this;omega
   subst h1;rw[NX (n_ _),Pa] at e1;rw[w.len,NX (n_ _),Pa] at e2;simp at e1 e2;subst e1 e2;exact hn
def Wd.tuple(w:Wd K mg ρ h H)(hp:H p=none):Wd K mg ρ h (upd H p u):=
 ⟨w.len,w.nd,λP q l=>⟨(w.tb P q l).1.up hp,(w.tb P q l).2.le (ρ:=ρ) (bU hp)⟩,λn a ob e1 e2=>by have q:=w.ob n a ob e1 e2;obtain⟨v,hv⟩:=q.there;exact q.mono (bU hp) (ay (aX hv hp))⟩
def jN(e:H a=some u)(hu:(∀xs,u ≠ .tup xs)/\(∀x y,u ≠ .frz x y)/\∀φ,u ≠ .ext φ):Le ρ H ρ (upd H a o):=by refine⟨λ_ _ e=>e,λb xs q=>?_,λb x y q=>?_,λb φ q=>?_⟩ <;> rw[ay] <;> (try exact q) <;> (intro z;subst z;rw[e] at q;have:=G_ q;first |exact hu.1 _ this |exact hu.2.1 _ _ this |exact hu.2.2 _ this)
def Wd.write{n:Nat}{a:Addr}{o u:HO}{ob:Ob}(w:Wd K mg ρ h H)(ea:ρ[n]?=some a)(e:H a=some u)(hu:(∀xs,u ≠ .tup xs)/\(∀x y,u ≠ .frz x y)/\∀φ,u ≠ .ext φ)
 (hn:ObR K mg ρ (upd H a o) a ob):Wd K mg ρ (h.set n ob) (upd H a o):=by
 refine⟨by rw[H_];exact w.len,w.nd,λP q l=>⟨(w.tb P q l).1.wr (OV ea) e hu.2.2,(w.tb P q l).2.le (ρ:=ρ) (jN e hu)⟩,λm b ob' e1 e2=>?_⟩;rw[Px] at e2;by_cases hm:n=m
 .subst hm;rw[ea] at e1;cases e1;rw[if_pos rfl] at e2;split at e2
  .cases e2;exact hn
  .cases e2
 .rw[if_neg hm] at e2;have q:=w.ob m b ob' e1 e2;refine q.mono (jN e hu) (ay λz=>hm ?_);subst z;have h1:=(p_.mp e1);have h2:=(p_.mp ea);exact (List.getElem_inj (h₀:=h2.1) (h₁:=h1.1) w.nd).mp (h2.2.trans h1.2.symm)
def oF:(∀xs,HO.lst vs ≠ .tup xs)/\(∀x y,HO.lst vs ≠ .frz x y)/\∀φ,HO.lst vs ≠ .ext φ:=⟨λ_ z=>(nomatch z),λ_ _ z=>(nomatch z),λ_ z=>(nomatch z)⟩
def CI:(∀xs,HO.set S n ≠ .tup xs)/\(∀x y,HO.set S n ≠ .frz x y)/\∀φ,HO.set S n ≠ .ext φ:=⟨λ_ z=>(nomatch z),λ_ _ z=>(nomatch z),λ_ z=>(nomatch z)⟩
def dKNo:(∀xs,HO.dK ws ≠ .tup xs)/\(∀x y,HO.dK ws ≠ .frz x y)/\∀φ,HO.dK ws ≠ .ext φ:=⟨λ_ z=>(nomatch z),λ_ _ z=>(nomatch z),λ_ z=>(nomatch z)⟩
def PostG.mono(l:Le ρ H ρ' H')(p:PostG K mg ρ H E k r):PostG K mg ρ' H' E k r:=by
 cases r with
 |ok d h=>exact λρ2 H2 l2=>p ρ2 H2 (l.trans l2)
 |exc c h=>exact λρ2 H2 C l2=>p ρ2 H2 C (l.trans l2)
 |stuck=>exact p
def PostG.imp(p:PostG K mg ρ H E k r)(i:∀a h1 ρ' H',Le ρ H ρ' H'->Wd K mg ρ' h1 H'->k a h1 ρ' H'->k' a h1 ρ' H'):PostG K mg ρ H E k' r:=by
 cases r with
 |ok d h=>exact λρ2 H2 l2 w2=>i _ _ _ _ l2 w2 (p ρ2 H2 l2 w2)
 |exc c h=>exact p
 |stuck=>exact p
def PostG.bind(p:PostG K mg ρ H E k (r.bind f)):PostG K mg ρ H E (λa h1 ρ' H'=>PostG K mg ρ' H' E k (f a h1)) r:=by
 cases r with
 |ok d h=>exact λρ2 H2 l2 w2=>PostG.mono l2 p
 |exc c h=>exact p
 |stuck=>exact p
def PostS.mono(l:Le ρ H ρ' H')(p:PostS K mg ρ H De ES r):PostS K mg ρ' H' De ES r:=by
 cases r with
 |nx ae h=>exact λρ2 H2 σ l2=>p ρ2 H2 σ (l.trans l2)
 |bk ae h=>exact λρ2 H2 σ l2=>p ρ2 H2 σ (l.trans l2)
 |ct ae h=>exact λρ2 H2 σ l2=>p ρ2 H2 σ (l.trans l2)
 |rt d h=>exact λρ2 H2 v l2=>p ρ2 H2 v (l.trans l2)
 |exc c ae h=>exact λρ2 H2 σ C l2=>p ρ2 H2 σ C (l.trans l2)
 |stuck=>exact p
end
section
variable{X:Cx}{e:Expr}{es:List Expr}{st:Stmt}{sts:List Stmt}
def PE.imp(h:PE X e t)(k:∀σ H Q,t' σ H Q->t σ H Q):PE X e t':=λpins s σ H Q I w=>h pins s σ H Q I (k σ H Q w)
def PT.imp(h:PT X e t)(k:∀σ H Q,t' σ H Q->t σ H Q):PT X e t':=λpins s σ H Q I w=>h pins s σ H Q I (k σ H Q w)
def PW.imp(h:PW X e t)(k:∀σ H Q,t' σ H Q->t σ H Q):PW X e t':=λwh pins s σ H Q I w=>h wh pins s σ H Q I (k σ H Q w)
def PA.imp(h:PA X es t)(k:∀σ H Q,t' σ H Q->t σ H Q):PA X es t':=λpos pins s σ H Q I w=>h pos pins s σ H Q I (k σ H Q w)
def PS.imp(h:PS X st t)(k:∀D σ H,t' D σ H->t D σ H):PS X st t':=λpins s σ H D I w=>h pins s σ H D I (k D σ H w)
def PSs.imp(h:PSs X sts t)(k:∀D σ H,t' D σ H->t D σ H):PSs X sts t':=λpins s σ H D I w=>h pins s σ H D I (k D σ H w)
def PG.imp(h:PG X e t)(k:∀v σ H Q,t' v σ H Q->t v σ H Q):PG X e t':=λpins s σ H v u Q I r w=>h pins s σ H v u Q I r (k v σ H Q w)
def PGs.imp(h:PGs X es t)(k:∀v σ H Q,t' v σ H Q->t v σ H Q):PGs X es t':=λpins s σ H v u Q I r w=>h pins s σ H v u Q I r (k v σ H Q w)
def PO.imp(h:PO X o t)(k:∀σ H Q,t' σ H Q->t σ H Q):PO X o t':=λpins s σ H Q I w=>h pins s σ H Q I (k σ H Q w)
end
section
variable(K:W.Frag)(mg:Qa)(X:Cx)(ES:St->XK)
def DE(e:Expr)(F:ME):Prop:=PE X e (rdE K mg ES F)
def DT(e:Expr)(F:MT):Prop:=PT X e (rdT K mg ES F)
def DW(e:Expr)(F:MT):Prop:=PW X e (rdT K mg ES F)
def DA(es:List Expr)(F:MA):Prop:=PA X es (rdA K mg ES F)
def DS(st:Stmt)(F:MS):Prop:=PS X st (rdS K mg ES F)
def DSs(st:List Stmt)(F:MS):Prop:=PSs X st (rdS K mg ES F)
end
def OpD(K:W.Frag)(mg:Qa)(r:R2)(g:D->D->AH->R D):Prop:=∀ρ h H dx dy x y Q E,Wd K mg ρ h H->RelD K mg ρ H dx x->RelD K mg ρ H dy y->cS K mg ρ H Q E (g dx dy h)->r x y H Q
def UnD(K:W.Frag)(mg:Qa)(r:V->Hp->VK->Prop)(g:D->AH->R D):Prop:=∀ρ h H dx x Q E,Wd K mg ρ h H->RelD K mg ρ H dx x->cS K mg ρ H Q E (g dx h)->r x H Q
def aO(K:W.Frag)(mg:Qa)(r:List V->Hp->VK->Prop)(g:Fn):Prop:=∀ρ h H ds vs Q E,Wd K mg ρ h H->RelDs K mg ρ H ds vs->cS K mg ρ H Q E (g ds h)->r vs H Q
noncomputable def bJ(i:Nat):ME:=λae h=>match ae[i]? with
 |some (some d)=>.ok d h
 |_=>.stuck
noncomputable def eC(d:D):ME:=λ_ h=>.ok d h
noncomputable def eOp(g:D->D->AH->R D)(F G:ME):ME:=λae h=>(F ae h).bind λx h1=>(G ae h1).bind λy h2=>g x y h2
noncomputable def eUn(g:D->AH->R D)(F:ME):ME:=λae h=>(F ae h).bind g
noncomputable def o8:MA:=λ_ h=>.ok [] h
noncomputable def va(F:ME)(G:MA):MA:=λae h=>(F ae h).bind λx h1=>(G ae h1).bind λxs h2=>.ok (x::xs) h2
noncomputable def eFn(g:Fn)(A:MA):ME:=λae h=>(A ae h).bind g
noncomputable def lV(ds:List D)(h:AH):R D:=if ds.length<=16777216 then .ok (.tup ds) h else .stuck
noncomputable def cU(ds:List D)(h:AH):R D:=if ds.length<=16777216 then .ok (.ref h.length) (h++[.lst ds]) else .stuck
noncomputable def asB(d:D)(h:AH):R Bool:=match d with
 |.bl b=>.ok b h
 |_=>.stuck
noncomputable def BR(F G:ME):ME:=λae h=>(F ae h).bind λx h1=>(asB x h1).bind λb h2=>if b=true then G ae h2 else .ok (.bl false) h2
noncomputable def B6(F:ME):ME:=λae h=>(F ae h).bind λx h1=>(asB x h1).bind λb h2=>.ok (.bl (!b)) h2
noncomputable def tOf(F:ME):MT:=λae h=>(F ae h).bind asB
noncomputable def tAn(c d:MT):MT:=λae h=>(c ae h).bind λb h1=>if b=true then d ae h1 else .ok false h1
noncomputable def tO(c d:MT):MT:=λae h=>(c ae h).bind λb h1=>if b=true then .ok true h1 else d ae h1
noncomputable def tNo(c:MT):MT:=λae h=>(c ae h).bind λb h1=>.ok (!b) h1
section
variable{K:W.Frag}{mg:Qa}{ρ:List Addr}{H:Hp}{h:AH}
def cW(w:Wd K mg ρ h H)(rs:RelDs K mg ρ H ds vs)(hp:H p=none)(q:cS K mg ρ H Q E (.ok (.ref h.length) (h++[.lst ds]))):Q (.ref p) (upd H p (.lst vs)):=by have l:Le ρ H (ρ++[p]) (upd H p (.lst vs)):=(bU hp).trans jE;refine q (ρ++[p]) _ l (w.alloc hp ⟨vs,bo,rs.mono l⟩) _ (.ref ?_);rw[<- w.len,NX (n_ _),Pa];rfl
def iu(w:Wd K mg ρ h H)(rs:RelDs K mg ρ H ds vs)(hp:H p=none)(q:cS K mg ρ H Q E (.ok (.tup ds) h)):Q (.ref p) (upd H p (.tup vs)):=
 q ρ _ (bU hp) (w.tuple hp) _ (.tup (SqT.of bo) (rs.mono (bU hp)))
def aw(w:Wd K mg ρ h H)(r:RelD K mg ρ H d v)(q:cS K mg ρ H Q E (.ok d h)):Q v H:=q ρ H Le.refl w v r
end
section
variable{K:W.Frag}{mg:Qa}{X:Cx}{ES:St->XK}{e a b c:Expr}{es:List Expr}{F G:ME}{A:MA}{cf cg:MT}{pos:Pos}
def HQ(i:Nat)(hN:X.N[i]?=some x)(hv:Vis X.env.scope x)(hd:(x==("__debug__" : Str))=false)
 (hcd:(x==("__classdict__" : Str))=false):DE K mg X ES (.Name x pos) (bJ i):=PE.imp (Ka hN hv hd hcd) λσ H Q q_=>q_.el λρ h ae w re p=>by
 unfold bJ at p;split at p
 .rename_i d ed;obtain⟨v,e1,r⟩:=re.at_ i d ed;exact⟨v,e1,aw w r p⟩
 .exact p.elim
def mr(hp:PE X e (tC v))(r:∀ρ H,RelD K mg ρ H d v):DE K mg X ES e (eC d):=PE.imp hp λσ H Q q_=>q_.el λρ h ae w re p=>aw w (r ρ H) p
def Iy:DE K mg X ES (.Constant (.int i) j pos) (eC (.int i)):=mr G7 λ_ _=>.int i
def LN:DE K mg X ES (.Constant (.bool i) j pos) (eC (.bl i)):=mr Nz λ_ _=>.bl i
def GI:DE K mg X ES (.Constant .none j pos) (eC .non):=mr GL λ_ _=>.non
def Ks:DE K mg X ES (.Constant (.str x) j pos) (eC (.str x)):=mr Gb λ_ _=>.str x
structure GC(K:W.Frag)(mg:Qa)(x:Str)(d:D):Prop where
 ex:∃u v,mg x=some u/\RelV v u/\∀ρ H,RelD K mg ρ H d v
def MD(hg:Gl X x)(ha:GC K mg x d)(hm:X.mg=mg)(hd:(x==("__debug__" : Str))=false):DE K mg X ES (.Name x pos) (eC d):=by subst hm;obtain⟨u,v,h1,h2,h3⟩:=ha.ex;exact mr (DK hg h1 h2 hd) h3
def Nw(hg:Gl X x)(hm:mg x=none)(hv:bootBuiltins x=some (.type n))(he:X.mg=mg)(hn:x ≠ "__name__")(hd:(x==("__debug__" : Str))=false):DE K mg X ES (.Name x pos) (eC (.ty n)):=by subst he;exact mr (FA hg hm hv (v:=.ty n) rfl hn hd) λ_ _=>.ty n
def oO(hd:OpD K mg r g)(σ:St)(H:Hp)(Q:VK)(q:rdE K mg ES (eOp g F G) σ H Q):tOp r (rdE K mg ES F) (rdE K mg ES G) σ H Q:=by obtain⟨ρ,h,ae,w,re,p⟩:=q;exact⟨ρ,h,ae,w,re,p.bind.imp λdx h1 ρ1 H1 l1 w1 p1 x rx=>⟨ρ1,h1,ae,w1,re.mono l1,p1.bind.imp λdy h2 ρ2 H2 l2 w2 p2 y ry=>hd ρ2 h2 H2 dx dy x y Q _ w2 (rx.mono l2) ry p2⟩⟩
def L8(ho:OpR X (binaryOp op) r)(hd:OpD K mg r g)(ha:DE K mg X ES a F)(hb:DE K mg X ES b G):DE K mg X ES (.BinOp a op b pos) (eOp g F G):=PE.imp (Mu ho ha hb) (oO hd)
def MB(hr:IxR X r)(hd:OpD K mg r g)(ha:DE K mg X ES a F)(hb:DE K mg X ES b G)(hs:mU b):DE K mg X ES (.Subscript a b pos) (eOp g F G):=PE.imp (Mo hr ha hb hs) (oO hd)
def GF(ho:OpR X (compareOp op) r)(hd:OpD K mg r g)(ha:DE K mg X ES a F)(hb:DE K mg X ES b G)(hm:behindInMarks op b=false):DE K mg X ES (.Compare a [op] [b] pos) (eOp g F G):=PE.imp (Dc ho ha hb hm) (oO hd)
def uw(σ:St)(H:Hp)(Q:Bool->Hp->Prop)(q:rdT K mg ES (tOf F) σ H Q):rdE K mg ES F σ H λx H'=>∃k,x=.bl k/\Q k H':=by
 obtain⟨ρ,h,ae,w,re,p⟩:=q;refine⟨ρ,h,ae,w,re,p.bind.imp λd h1 ρ1 H1 l1 w1 p1 x rx=>?_⟩;unfold asB at p1;split at p1
 .cases rx;exact⟨_,rfl,p1 ρ1 H1 Le.refl w1⟩
 .exact p1.elim
def ID(ho:OpR X (compareOp op) r)(hd:OpD K mg r g)(ha:DE K mg X ES a F)(hb:DE K mg X ES b G)(hm:behindInMarks op b=false):DT K mg X ES (.Compare a [op] [b] pos) (tOf (eOp g F G)):=
 PT.imp (Fi ho ha hb hm) λσ H Q q=>oO hd σ H _ (uw σ H Q q)
def FL(ha:DE K mg X ES a F)(he:∀ci,isTrue a X.env ci=(do let v <- ci;standAt a.pos;holding [v] (truthy v))):DT K mg X ES a (tOf F):=
 PT.imp (GA ha he) λσ H Q q=>uw σ H Q q
def Jm(ha:DT K mg X ES a cf):DT K mg X ES (.UnaryOp .Not a pos) (tNo cf):=PT.imp (Hm ha) λσ H Q q_=>q_.el λρ h ae w re p=>
 ⟨ρ,h,ae,w,re,p.bind.imp λb h1 ρ1 H1 l1 w1 p1=>p1 ρ1 H1 Le.refl w1⟩
def Dh(ha:DT K mg X ES a cf):DW K mg X ES (.BoolOp .And [a] pos) cf:=Fp ha
def FZ(ha:DT K mg X ES a cf):DW K mg X ES (.BoolOp .Or [a] pos) cf:=Je ha
def IP(ha:DT K mg X ES a cf)(hb:DW K mg X ES (.BoolOp .And (b::es) pos) cg):DW K mg X ES (.BoolOp .And (a::b::es) pos) (tAn cf cg):=PW.imp (Ib ha hb) λσ H Q q_=>q_.el λρ h ae w re p=>
 ⟨ρ,h,ae,w,re,p.bind.imp λb h1 ρ1 H1 l1 w1 p1=>by
  cases b with
  |true=>exact⟨ρ1,h1,ae,w1,re.mono l1,p1⟩
  |false=>exact p1 ρ1 H1 Le.refl w1⟩
def Lv(ha:DT K mg X ES a cf)(hb:DW K mg X ES (.BoolOp .Or (b::es) pos) cg):DW K mg X ES (.BoolOp .Or (a::b::es) pos) (tO cf cg):=PW.imp (LX ha hb) λσ H Q q_=>q_.el λρ h ae w re p=>
 ⟨ρ,h,ae,w,re,p.bind.imp λb h1 ρ1 H1 l1 w1 p1=>by
  cases b with
  |true=>exact p1 ρ1 H1 Le.refl w1
  |false=>exact⟨ρ1,h1,ae,w1,re.mono l1,p1⟩⟩
def DW.dt(h:DW K mg X ES a cf):DT K mg X ES a cf:=PW.pt h
def FQ{op}(h:DE K mg X ES a F):DE K mg X ES (.BoolOp op [a] pos) F:=J1 h
def G5(ha:DE K mg X ES a F)(hb:DE K mg X ES (.BoolOp .And (b::es) pos) G):DE K mg X ES (.BoolOp .And (a::b::es) pos) (BR F G):=PE.imp (GQ ha hb) λσ H Q q_=>q_.el λρ h ae w re p=>by
 refine⟨ρ,h,ae,w,re,p.bind.imp λd h1 ρ1 H1 l1 w1 p1 x rx=>?_⟩;unfold asB at p1;split at p1
 .rename_i b';cases rx;refine⟨b',rfl,?_⟩;cases b' with
  |true=>exact⟨ρ1,h1,ae,w1,re.mono l1,p1⟩
  |false=>exact p1 ρ1 H1 Le.refl w1 _ (.bl false)
 .exact p1.elim
def FW(ha:DE K mg X ES a F):DE K mg X ES (.UnaryOp .Not a pos) (B6 F):=PE.imp (Ip ha) λσ H Q q_=>q_.el λρ h ae w re p=>by
 refine⟨ρ,h,ae,w,re,p.bind.imp λd h1 ρ1 H1 l1 w1 p1 x rx=>?_⟩;unfold asB at p1;split at p1
 .cases rx;exact⟨_,rfl,p1 ρ1 H1 Le.refl w1 _ (.bl _)⟩
 .exact p1.elim
def Lc(ho:UnR X (unaryOp op) r)(hd:UnD K mg r g)(ha:DE K mg X ES a F):DE K mg X ES (.UnaryOp op a pos) (eUn g F):=PE.imp (LR ho ha) λσ H Q q_=>q_.el λρ h ae w re p=>
 ⟨ρ,h,ae,w,re,p.bind.imp λd h1 ρ1 H1 l1 w1 p1 x rx=>hd ρ1 h1 H1 d x Q _ w1 rx p1⟩
def J7:DA K mg X ES [] o8:=PA.imp Gv λσ H Q q_=>q_.el λρ h ae w re p=>p ρ H Le.refl w _ .nil
def Fj(ha:DE K mg X ES e F)(hr:DA K mg X ES es A)(hs:starEach (e::es) X.env=(false,eval e X.env)::starEach es X.env):DA K mg X ES (e::es) (va F A):=PA.imp (Dn ha hr hs) λσ H Q q_=>q_.el λρ h ae w re p=>
 ⟨ρ,h,ae,w,re,p.bind.imp λd h1 ρ1 H1 l1 w1 p1 x rx=>⟨ρ1,h1,ae,w1,re.mono l1,p1.bind.imp λds h2 ρ2 H2 l2 w2 p2 vs rs=>p2 ρ2 H2 Le.refl w2 _ (.cons (rx.mono l2) rs)⟩⟩
def G4{x1}(h:DA K mg X ES es A):DE K mg X ES (.Tuple es x1 pos) (eFn lV A):=PE.imp (Ku h) λσ H Q q_=>q_.el λρ h ae w re p=>
 ⟨ρ,
  h,ae,w,re,p.bind.imp λds h1 ρ1 H1 l1 w1 p1 vs rs=>by
  unfold lV at p1;split at p1
  .rename_i hl;exact⟨by rw[<- rs.len];exact hl,λq hq=>iu w1 rs hq p1⟩
  .exact p1.elim⟩
def JE(h:DA K mg X ES es A):DE K mg X ES (.List es pos) (eFn cU A):=PE.imp (He h) λσ H Q q_=>q_.el λρ h ae w re p=>
 ⟨ρ,
  h,ae,w,re,p.bind.imp λds h1 ρ1 H1 l1 w1 p1 vs rs=>by
  unfold cU at p1;split at p1
  .rename_i hl;exact⟨by rw[<- rs.len];exact hl,λq hq=>cW w1 rs hq p1⟩
  .exact p1.elim⟩
def Cv(hd:aO K mg r g)(σ:St)(H:Hp)(Q:VK)(q:rdE K mg ES (eFn g A) σ H Q):tCB r (rdA K mg ES A) σ H Q:=by obtain⟨ρ,h,ae,w,re,p⟩:=q;exact⟨ρ,h,ae,w,re,p.bind.imp λds h1 ρ1 H1 l1 w1 p1 vs rs=>hd ρ1 h1 H1 ds vs Q _ w1 rs p1⟩
def Ac{id:String}{r:List V->Hp->VK->Prop}{g:Fn}{x:Str}{p:Pos}(hc:CallR X (.builtin id) r)(hd:aO K mg r g)(hg:Gl X x)(hm:mg x=none)(hv:bootBuiltins x=some (.builtin id))(ha:DA K mg X ES (e::es) A)(hk:X.mg=mg)(hn:x ≠ "__name__")(hdb:(x==("__debug__" : Str))=false)
 (he:starEach (e::es) X.env=(false,eval e X.env)::starEach es X.env) (hpl:(backTo pos (starEach es X.env)).any (·.1)=false):DE K mg X ES (.Call (.Name x p) (e::es) [] pos) (eFn g A):=by
 subst hk;exact PE.imp (Am hc hg hm hv ha hn hdb he hpl) (Cv hd)
def yh(hc:CallR X (.type T) r)(hd:aO K mg r g)(hg:Gl X x)(hm:mg x=none)(hv:bootBuiltins x=some (.type T))(ha:DA K mg X ES (e::es) A)(hk:X.mg=mg)(hn:x ≠ "__name__")(hdb:(x==("__debug__" : Str))=false)
 (he:starEach (e::es) X.env=(false,eval e X.env)::starEach es X.env) (hpl:(backTo pos (starEach es X.env)).any (·.1)=false):DE K mg X ES (.Call (.Name x p) (e::es) [] pos) (eFn g A):=by
 subst hk;exact PE.imp (zj hc hg hm hv ha hn hdb he hpl) (Cv hd)
end
noncomputable def SR.then(r:SR)(f:AE->AH->SR):SR:=match r with
 |.nx ae h=>f ae h
 |.rt d h=>.rt d h
 |.bk ae h=>.bk ae h
 |.ct ae h=>.ct ae h
 |.exc c ae h=>.exc c ae h
 |.stuck=>.stuck
noncomputable def R.toS{α:Type}(r:R α)(ae:AE)(f:α->AH->SR):SR:=match r with
 |.ok a h=>f a h
 |.exc c h=>.exc c ae h
 |.stuck=>.stuck
noncomputable def sNx:MS:=λae h=>.nx ae h
noncomputable def wK:MS:=λ_ h=>.rt .non h
noncomputable def zN(F G:MS):MS:=λae h=>(F ae h).then G
noncomputable def A8(F:ME):MS:=λae h=>(F ae h).toS ae λd h1=>.rt d h1
noncomputable def vh(F:ME):MS:=λae h=>(F ae h).toS ae λ_ h1=>.nx ae h1
noncomputable def sIf(c:MT)(F G:MS):MS:=λae h=>(c ae h).toS ae λb h1=>if b=true then F ae h1 else G ae h1
abbrev MG:=D->AE->AH->R AE
abbrev MGs:=List D->AE->AH->R AE
noncomputable def gx(F:ME)(g:MG):MS:=λae h=>(F ae h).toS ae λd h1=>(g d ae h1).toS ae λbi h2=>.nx bi h2
noncomputable def gN(i:Nat):MG:=λd ae h=>.ok (ae.set i (some d)) h
noncomputable def gsN:MGs:=λds ae h=>match ds with
 | []=>.ok ae h
 |_=>.stuck
noncomputable def gsC(g:MG)(u:MGs):MGs:=λds ae h=>match ds with
 |d::r=>(g d ae h).bind λbi h'=>u r bi h'
 | []=>.stuck
noncomputable def gT(u:MGs):MG:=λd ae h=>match d with
 |.tup ds=>u ds ae h
 |_=>.stuck
noncomputable def gS(F G:ME)(w:D->D->D->AH->R Unit):MG:=λv ae h=>(F ae h).bind λo h1=>(G ae h1).bind λi h2=>(w o i v h2).bind λ_ h3=>.ok ae h3
noncomputable def zE(i j:Nat)(A:MA):MS:=λae h=>(A ae h).toS ae λds h1=>match ds with
 | [d,e]=>.nx ((ae.set i (some d)).set j (some e)) h1
 |_=>.stuck
noncomputable def sf(i:Nat)(g:D->D->AH->R D)(F:ME):MS:=λae h=>match ae[i]? with
 |some (some x)=>(F ae h).toS ae λy h1=>(g x y h1).toS ae λz h2=>.nx (ae.set i (some z)) h2
 |_=>.stuck
noncomputable def o9(c:Str)(A:MA):MS:=λae h=>(A ae h).toS ae λds h1=>if ds.length<=16777216 then .exc c ae h1 else .stuck
section
variable(K:W.Frag)(mg:Qa)
def rdG(ES:St->XK)(g:MG):TG:=λv σ H Q=>∃ρ h ae d,Wd K mg ρ h H/\RelE K mg ρ H ae σ/\RelD K mg ρ H d v/\PostG K mg ρ H (ES σ) (λbi _ ρ' H'=>∀σ',RelE K mg ρ' H' bi σ'->Q σ' H') (g d ae h)
def rdGs(ES:St->XK)(g:MGs):TGs:=λvs σ H Q=>∃ρ h ae ds,Wd K mg ρ h H/\RelE K mg ρ H ae σ/\RelDs K mg ρ H ds vs/\PostG K mg ρ H (ES σ) (λbi _ ρ' H'=>∀σ',RelE K mg ρ' H' bi σ'->Q σ' H') (g ds ae h)
def DG(X:Cx)(ES:St->XK)(e:Expr)(g:MG):Prop:=PG X e (rdG K mg ES g)
def DGs(X:Cx)(ES:St->XK)(es:List Expr)(g:MGs):Prop:=PGs X es (rdGs K mg ES g)
def jG(X:Cx)(ES:St->XK):Prop:=∀(pins:Qb) (σ:St) (H:Hp) (s:Shared) (e:Value) (s':Shared),Inv X pins σ H s->CX1 X.prog X.w X.stack H s (ES σ) e s'->X.xe e s'
end
def rdG.el{K:W.Frag}{mg:Qa}{ES:St->XK}{g:MG}{v:V}{σ:St}{H:Hp}{Q:St->Hp->Prop}{C:Prop}(q:rdG K mg ES g v σ H Q)(k:∀ρ h ae d,Wd K mg ρ h H->RelE K mg ρ H ae σ->RelD K mg ρ H d v->PostG K mg ρ H (ES σ) (λbi _ ρ' H'=>∀σ',RelE K mg ρ' H' bi σ'->Q σ' H') (g d ae h)->C):C:=by obtain⟨ρ,h,ae,d,w,re,rd,p⟩:=q;exact k ρ h ae d w re rd p
def rdGs.el{K:W.Frag}{mg:Qa}{ES:St->XK}{g:MGs}{v:List V}{σ:St}{H:Hp}{Q:St->Hp->Prop}{C:Prop}(q:rdGs K mg ES g v σ H Q)(k:∀ρ h ae d,Wd K mg ρ h H->RelE K mg ρ H ae σ->RelDs K mg ρ H d v->PostG K mg ρ H (ES σ) (λbi _ ρ' H'=>∀σ',RelE K mg ρ' H' bi σ'->Q σ' H') (g d ae h)->C):C:=by obtain⟨ρ,h,ae,d,w,re,rd,p⟩:=q;exact k ρ h ae d w re rd p
section
variable{K:W.Frag}{mg:Qa}{X:Cx}{ES:St->XK}{ρ:List Addr}{H:Hp}{h:AH}{ae:AE}{σ:St}{De:Ends}
def bA(p:PostS K mg ρ H De ES (r.toS ae f))(re:RelE K mg ρ H ae σ)
 (i:∀a h1 ρ1 H1,Le ρ H ρ1 H1->Wd K mg ρ1 h1 H1->RelE K mg ρ1 H1 ae σ->PostS K mg ρ1 H1 De ES (f a h1)->k a h1 ρ1 H1):PostG K mg ρ H (ES σ) k r:=by
 cases r with
 |ok a h1=>exact λρ1 H1 l1 w1=>i a h1 ρ1 H1 l1 w1 (re.mono l1) (PostS.mono l1 p)
 |exc c h1=>exact λρ1 H1 C l1 w1 m=>p ρ1 H1 σ C l1 w1 (re.mono l1) m
 |stuck=>exact p
def fD(p:PostS K mg ρ H De ES (.nx bi h))(w:Wd K mg ρ h H)(re:RelE K mg ρ H bi σ):De.nx σ H:=p ρ H σ Le.refl w re
def BN(p:PostS K mg ρ H De ES (r.then f))(i:∀gl h1 ρ1 H1 σ1,Le ρ H ρ1 H1->Wd K mg ρ1 h1 H1->RelE K mg ρ1 H1 gl σ1->PostS K mg ρ1 H1 De ES (f gl h1)->N σ1 H1):PostS K mg ρ H { De with nx:=N } ES r:=by
 cases r with
 |nx gl h1=>exact λρ1 H1 σ1 l1 w1 re1=>i gl h1 ρ1 H1 σ1 l1 w1 re1 (PostS.mono l1 p)
 |rt d h1=>exact p
 |bk gl h1=>exact p
 |ct gl h1=>exact p
 |exc c gl h1=>exact p
 |stuck=>exact p
end
section
variable{K:W.Frag}{mg:Qa}{X:Cx}{ES:St->XK}{e a b c o i:Expr}{es:List Expr}{st:Stmt}{sts sts':List Stmt}{F G:ME}{A:MA}{cf:MT}{U V':MS}{g:MG}{gs:MGs}{pos:Pos}
def DC:DSs K mg X ES [] sNx:=PSs.imp DF λD σ H q_=>q_.el λρ h ae w re p=>fD p w re
def EB(h1:DS K mg X ES st U):DSs K mg X ES [st] U:=DZ h1
def AV(h1:DS K mg X ES st U)(h2:DSs K mg X ES sts V'):DSs K mg X ES (st::sts) (zN U V'):=PSs.imp (zu h1 h2) λD σ H q_=>q_.el λρ h ae w re p=>
 ⟨ρ,h,ae,w,re,BN p λgl h1 ρ1 H1 σ1 l1 w1 re1 p1=>⟨ρ1,h1,gl,w1,re1,p1⟩⟩
def Dv:DS K mg X ES (.Return none pos) wK:=PS.imp C7 λD σ H q_=>q_.el λρ h ae w re p=>p ρ H _ Le.refl w .non
def HD(he:DE K mg X ES e F):DS K mg X ES (.Return (some e) pos) (A8 F):=PS.imp (HP he) λD σ H q_=>q_.el λρ h ae w re p=>
 ⟨ρ,h,ae,w,re,bA p re λd h1 ρ1 H1 l1 w1 re1 p1 v rv=>p1 ρ1 H1 v Le.refl w1 rv⟩
def Dq(he:DE K mg X ES e F)(hs:swapsWith e none pos.line X.env=pure false):DS K mg X ES (.Expr e pos) (vh F):=PS.imp (Fs he hs) λD σ H q_=>q_.el λρ h ae w re p=>
 ⟨ρ,h,ae,w,re,bA p re λd h1 ρ1 H1 l1 w1 re1 p1 v rv=>fD p1 w1 re1⟩
def L7(hc:DT K mg X ES c cf)(ha:DSs K mg X ES sts U)(hb:DSs K mg X ES sts' V'):DS K mg X ES (.If c sts sts' pos) (sIf cf U V'):=PS.imp (Lo hc ha hb) λD σ H q_=>q_.el λρ h ae w re p=>
 ⟨ρ,h,ae,w,re,bA p re λb h1 ρ1 H1 l1 w1 re1 p1=>by
  cases b with
  |true=>exact⟨ρ1,h1,ae,w1,re1,p1⟩
  |false=>exact⟨ρ1,h1,ae,w1,re1,p1⟩⟩
def Fw{i:Nat}{x:Str}(hN:X.N.Nodup)(hi:X.N[i]?=some x)(hx:Loc X.env.scope x)(hf:X.fn x=true\/X.env.scope.names.lookup x=some .local):DG K mg X ES (.Name x pos) (gN i):=
 PG.imp (FF hN hi hx hf) λv σ H Q q_=>q_.el λρ h ae d w re rd p=>p ρ H Le.refl w _ (re.set i rd)
def ET:DGs K mg X ES [] gsN:=PGs.imp Ey λvs σ H Q q_=>q_.el λρ h ae ds w re rd p=>by
 cases rd with
 |nil=>exact⟨rfl,p ρ H Le.refl w _ re⟩
 |cons r rr=>exact p.elim
def A4(h1:DG K mg X (λ_=>E0) e g)(h2:DGs K mg X (λ_=>E0) es gs)
 (hs:(assignEach (e::es) X.env).map (·.2)=assign e X.env::(assignEach es X.env).map (·.2)):DGs K mg X (λ_=>E0) (e::es) (gsC g gs):=PGs.imp (zC h1 h2 hs) λvs σ H Q q_=>q_.el λρ h ae ds w re rd p=>by
 cases rd with
 |nil=>exact p.elim
 |cons r rr=>exact⟨_,_,rfl,ρ,h,ae,_,w,re,r,p.bind.imp λgl h1 ρ1 H1 l1 w1 p1 σ1 re1=>⟨ρ1,h1,gl,_,w1,re1,rr.mono l1,p1⟩⟩
def Hu{k n:Nat}(hK:X.K=K)(hc:X.calm=true)(h:DGs K mg X (λ_=>E0) es gs)
 (hn:(assignEach es X.env).length=n) (hst:(assignEach es X.env).findIdx? (·.1)=none):DG K mg X (λ_=>E0) (.Tuple es k pos) (gT λds ae h=>if ds.length=n then gs ds ae h else .stuck):=by
 subst hK;refine PG.imp (KQ hc h hn hst) λv σ H Q q_=>q_.el λρ h ae d w re rd p=>?_;unfold gT at p;cases rd with
 |
  tup q rs=>
  dsimp only at p;split at p
  .rename_i hl;exact⟨_,_,rfl,q,by rw[<- rs.len];exact hl,ρ,h,ae,_,w,re,rs,p⟩
  .exact p.elim
 |_=>exact p.elim
noncomputable def noX{α:Type}(r:R α):R α:=match r with
 |.exc _ _=>.stuck
 |.ok a h=>.ok a h
 |.stuck=>.stuck
def DG.weak(hg:DG K mg X (λ_=>E0) e g):DG K mg X ES e (λd ae h=>noX (g d ae h)):=PG.imp hg λv σ H Q q_=>q_.el λρ h ae d w re rd p=>by
 refine⟨ρ,h,ae,d,w,re,rd,?_⟩;try dsimp only at p
 cases q:g d ae h with
 |ok a h1=>rw[q] at p;exact p
 |exc c h1=>rw[q] at p;exact p.elim
 |stuck=>rw[q] at p;exact p.elim
def mJ(K:W.Frag)(mg:Qa)(r:uU)(f:D->D->D->AH->R Unit):Prop:=∀ρ h H do_ di dv o i v (Q:Hp->Prop) E,Wd K mg ρ h H->RelD K mg ρ H do_ o->RelD K mg ρ H di i->RelD K mg ρ H dv v->PostG K mg ρ H E (λ_ _ _ H'=>Q H') (f do_ di dv h)->r o i v H Q
def zc(he:DE K mg X ES e F)(hg:DG K mg X ES a g)(hs:swapsWithSole [a] e pos.line X.env=pure false)(hw:swappedStores [a] e X.env=pure none)
 (h1:(assignEach [a] X.env).map (·.2)=[assign a X.env]):DS K mg X ES (.Assign [a] e pos) (gx F g):=PS.imp (Ge he hg hs hw h1) λD σ H q_=>q_.el λρ h ae w re p=>
 ⟨ρ,h,ae,w,re,bA p re λd h1 ρ1 H1 l1 w1 re1 p1 v rv=>⟨ρ1,h1,ae,d,w1,re1,rv,bA p1 re1 λae2 h2 ρ2 H2 l2 w2 re2 p2 σ' re'=>fD p2 w2 re'⟩⟩
def Gh{i:Nat}{x:Str}{io:Pos}(hN:X.N.Nodup)(hi:X.N[i]?=some x)(hx:Loc X.env.scope x)(he:DE K mg X ES e F)(hs:swapsWith e (some (.Name x io)) pos.line X.env=pure false)(hf:X.fn x=true\/X.env.scope.names.lookup x=some .local):
 DS K mg X ES (.Assign [.Name x io] e pos) (gx F (gN i)):=PS.imp (Ik hN hi hx he hs hf) λD σ H q_=>q_.el λρ h ae w re p=>
 ⟨ρ,h,ae,w,re,bA p re λd h1 ρ1 H1 l1 w1 re1 p1 v rv=>fD p1 w1 (re1.set i rv)⟩
def JP{i j:Nat}{x y:Str}{px py pt:Pos}{kt k2 pt2}(hc:X.calm=true)(hN:X.N.Nodup)(hi:X.N[i]?=some x)(hj:X.N[j]?=some y)(hij:i≠j)
 (hx:X.env.scope.names.lookup x=some .local) (hy:X.env.scope.names.lookup y=some .local) (ha:DA K mg X ES [a,b] A)
 (hw:swappedStores [.Tuple [.Name x px,.Name y py] kt pt] (.Tuple [a,b] k2 pt2) X.env=pure (some [x,y]))
 (hs:swapsWithSole [.Tuple [.Name x px,.Name y py] kt pt] (.Tuple [a,b] k2 pt2) pos.line X.env=pure false):
 DS K mg X ES (.Assign [.Tuple [.Name x px,.Name y py] kt pt] (.Tuple [a,b] k2 pt2) pos) (zE i j A):=PS.imp (JC hc hN hi hj hij hx hy ha hw hs) λD σ H q_=>q_.el λρ h ae w re p=>
 ⟨ρ,h,ae,w,re,bA p re λds h1 ρ1 H1 l1 w1 re1 p1 vs rs=>by
  split at p1
  .cases rs with
   |
    cons r1 rs=>
    cases rs with
    |cons r2 rs=>cases rs;exact⟨_,_,rfl,fD p1 w1 ((re1.set i r1).set j r2)⟩
  .exact p1.elim⟩
def IpD(K:W.Frag)(mg:Qa)(r:TIp)(g:D->D->AH->R D):Prop:=∀ρ h H dx dy x y Q E,Wd K mg ρ h H->RelD K mg ρ H dx x->RelD K mg ρ H dy y->cS K mg ρ H Q E (g dx dy h)->r x y H Q
def Ii{i:Nat}{x:Str}{op:Operator}{ti:TIp}{io:Pos}{gg:D->D->AH->R D}(hN:X.N.Nodup)(hi:X.N[i]?=some x)(hx:Loc X.env.scope x)(he:DE K mg X ES e F)(ho:PIp X op ti)(hd:IpD K mg ti gg)(hf:X.fn x=true\/X.env.scope.names.lookup x=some .local):
 DS K mg X ES (.AugAssign (.Name x io) op e pos) (sf i gg F):=PS.imp (Iz hN hi hx he ho hf) λD σ H q_=>q_.el λρ h ae w re p=>by
 unfold sf at p;split at p
 .rename_i d ed;obtain⟨v,e1,r⟩:=re.at_ i d ed;exact⟨v,e1,ρ,h,ae,w,re,bA p re λdy h1 ρ1 H1 l1 w1 re1 p1 y ry=>hd ρ1 h1 H1 d dy v y _ _ w1 (r.mono l1) ry (bA p1 re1 λdz h2 ρ2 H2 l2 w2 re2 p2 z rz=>fD p2 w2 (re2.set i rz))⟩
 .exact p.elim
def BP(hc:X.calm=true)(hR:Rz X E)(hg:Gl X x)(hm:mg x=some (.ref C))(hq:W.excIn X.K C kq "ValueError.__new__"=true)(ha:DA K mg X (λ_=>E) (e::es) A)(hk:X.mg=mg)
 (he:starEach (e::es) X.env=(false,eval e X.env)::starEach es X.env) (b_:(backTo cpos (starEach es X.env)).any (·.1)=false) (hd:(x==("__debug__" : Str))=false):
 DS K mg X (λ_=>E) (.Raise (some (.Call (.Name x np) (e::es) [] cpos)) none pos) (o9 x A):=by
 subst hk;exact
  PS.imp (Aq hc hR hg hm hq ha he b_ hd) λD σ H q_=>q_.el λρ h ae w re p=>
  ⟨ρ,
   h,ae,w,re,bA p re λds h1 ρ1 H1 l1 w1 re1 p1 vs rs=>by
   split at p1
   .rename_i hl;exact⟨by rw[<- rs.len];exact hl,p1 ρ1 H1 σ C Le.refl w1 re1 hm⟩
   .exact p1.elim⟩
def ER(C:Callee X.prog X.w X.K X.mg X.base x k ps (spD K mg n S))(hr:Room k X.A)(hg:Gl X x)(hx:jG X ES)(ha:DA K mg X ES (e::es) A)
 (hdb:(x==("__debug__" : Str))=false) (he:starEach (e::es) X.env=(false,eval e X.env)::starEach es X.env) (hpl:(backTo pos (starEach es X.env)).any (·.1)=false):
 DE K mg X ES (.Call (.Name x p) (e::es) [] pos) (eFn (λds h=>if ds.length=n then S ds h else .stuck) A):=by
 obtain⟨f,fd,F',m,kp,bb,_⟩:=C.ex;intro pins s σ H Q I hh;refine OF (mV I hg m ?_ hdb);have rd:rdA K mg ES A σ H (λvs H1=>spD K mg n S vs H1 Q (ES σ)):=by
  obtain⟨ρ,h,ae,w,re,p⟩:=hh;refine⟨ρ,h,ae,w,re,p.bind.imp λds h1 ρ1 H1 l1 w1 p1 vs rs=>?_⟩;split at p1
  .rename_i hl;exact⟨ρ1,h1,ds,w1,rs,hl,p1⟩
  .exact p1.elim
 refine W.callWith_K (h₀:=X.base) I.ok.mod.kin kp (N6 (ha pos pins s σ H _ I rd) (λus s1 ⟨vs,H1,I1,r,q⟩=>⟨I1.kIn,?_⟩) λ_ _ z=>z) he hpl;have hl:(us++[]).length=ps.length:=by rw[N7,<- r.length];exact F'.len _ _ _ _ q
 refine wpAny_call (codeAny_mono (F'.run X.A X.stack s1 H1 ⟨us,[]⟩ us vs Q (ES σ) hr I1.env0 (by simpa using bb s1 us I1.kIn hl) r q) λr s' hq=>?_);cases r with
 |error ex=>exact hx pins σ H1 s1 ex s' I1 hq
 |
  ok fl=>
  cases fl with
  |ret u=>exact I1.after hq
  |next=>exact False.elim hq
  |brk=>exact False.elim hq
  |cont=>exact False.elim hq
noncomputable def fnD(n:Nat)(F:MS):Fn:=λds h=>match F (ds.map some++List.replicate (n-ds.length) none) h with
 |.nx _ h'=>.ok .non h'
 |.rt d h'=>.ok d h'
 |.exc c _ h'=>.exc c h'
 |_=>.stuck
def sF(hp:qQ (CX1 X.prog X.w) X E):jG X (λ_=>E):=λpins σ H s e s' I h=>hp pins σ H s e s' I h
def BB:jG X (λ_=>E0):=λpins σ H s e s' I h=>MC pins σ H s e s' I h
end
section
variable{P:Program}{w:World}{K:W.Frag}{mg:Qa}{base:Heap}{x:Str}{st:Stmt}{k:Nat}{ps N:List Str}{F:MS}
def uZ(rs:RelDs K mg ρ H ds vs):RelE K mg ρ H (ds.map some++List.replicate (N.length-ds.length) none) (eD N vs):=by
 unfold eD;refine⟨by rw[u_,u_,k_,k_,Ou,Ou,rs.len],λi d e=>?_⟩;by_cases hi:i<ds.length
 .rw[J_ (by rw[k_];exact hi),L_] at e;have e':ds[i]?=some d:=by
   cases q:ds[i]? with
   |none=>rw[q] at e;cases e
   |some z=>rw[q] at e;cases e;rfl
  obtain⟨v,h1,h2⟩:=rs.getD e';refine⟨v,?_,h2⟩;rw[J_ (by rw[k_,<- rs.len];exact hi),L_,h1];rfl
 .rw[NX (by rw[k_];omega),Om] at e;split at e <;> cases e
def Def.okD(D:Def K mg x st)(S:FnScope N ps (ak st))
 (hb:∀(kV doc pm:Value) (an:Option Addr) (cdv ct:Value) (us:List Value),us.length=ps.length->bindArgs (W.fnOf x x (bM st) (aS st) (ak st) .none kV doc pm an cdv ct) ⟨us,[]⟩=pure (ps.zip us))
 (e_:∀(f:Addr) (cdv:Value) (A:Around) (outer:List Env) (s:Shared) (H:Hp) (E:XK),Room k (A.deeper (envOfC x (ak st) s.heap.objs.size f cdv))->
  DSs K mg (cQ (CX1 P w) P w K mg base N x (ak st) f cdv A outer s H E) (λ_=>E) (aS st) F):Callee P w K mg base x (k+1) ps (spD K mg ps.length (fnD N.length F)):=by
 refine D.okR S hb (λvs H Q E ⟨ρ,h,ds,w,rs,hl,p⟩=>by rw[<- rs.len];exact hl) λf cdv A outer s H vs Q E hr ⟨ρ,h,ds,w',rs,hl,p⟩=>?_;refine⟨_,e_ f cdv A outer s H E hr,ρ,h,_,w',uZ rs,?_⟩;unfold fnD at p;split at p
 .rename_i e;rw[e];exact λρ1 H1 σ1 l1 w1 re1=>p ρ1 H1 l1 w1 _ .non
 .rename_i e;rw[e];exact λρ1 H1 v l1 w1 rv=>p ρ1 H1 l1 w1 v rv
 .rename_i e;rw[e];exact λρ1 H1 σ1 C l1 w1 re1 m=>p ρ1 H1 C l1 w1 m
 .exact p.elim
end
noncomputable def aL(h:AH)(n:Nat):Option (List D):=match h[n]? with
 |some (.lst xs)=>some xs
 |some (.fz xs)=>some xs
 |_=>none
noncomputable def cM(h:AH):D->Option (List D)
 |.tup xs=>some xs
 |.ref n=>aL h n
 |.kl xs=>some xs
 |_=>none
section
variable{K:W.Frag}{mg:Qa}{ρ:List Addr}{H:Hp}{h:AH}
def aZ(w:Wd K mg ρ h H)(ea:ρ[n]?=some a)(e:aL h n=some xs):∃vs,SqL K H a vs/\RelDs K mg ρ H xs vs:=by
 unfold aL at e;split at e
 .rename_i ys eo;cases e;obtain⟨vs,h1,h2⟩:=w.ob n a _ ea eo;exact⟨vs,SqL.of h1,h2⟩
 .rename_i ys eo;cases e;obtain⟨o,vs,h1,h2⟩:=w.ob n a _ ea eo;exact⟨vs,.inl (.inr ⟨o,h1⟩),h2⟩
 .cases e
def dC(w:Wd K mg ρ h H)(r:RelD K mg ρ H d v)(e:cM h d=some xs):∃p vs,v=.ref p/\(SqL K H p vs\/SqT K H p vs)/\RelDs K mg ρ H xs vs:=by
 cases r with
 |tup q rs=>have e':some _=some xs:=e;cases e';exact⟨_,_,rfl,.inr q,rs⟩
 |ref ea=>obtain⟨vs,h1,h2⟩:=aZ w ea e;exact⟨_,vs,rfl,.inl h1,h2⟩
 |kl q rs=>have e':some _=some xs:=e;cases e';exact⟨_,_,rfl,.inl (.inr q),rs⟩
 |_=>cases e
end
noncomputable def g2(f:Int->Int->R D)(x y:D):R D:=match x,y with
 |.int i,.int j=>f i j
 |_,_=>.stuck
noncomputable def gI(f:Int->Int->D):D->D->AH->R D:=λx y h=>match x,y with
 |.int i,.int j=>.ok (f i j) h
 |_,_=>.stuck
open Classical in
def gIc(C:Int->Int->Prop)(f:Int->Int->D):D->D->AH->R D:=λx y h=>match x,y with
 |.int i,.int j=>if C i j then .ok (f i j) h else .stuck
 |_,_=>.stuck
section
variable{K:W.Frag}{mg:Qa}{X:Cx}
def js(hr:∀i j ρ H,RelD K mg ρ H (g i j) (f i j)):OpD K mg (rI0 f) (gI g):=λρ h H dx dy x y Q E w rx ry p=>by
 unfold gI at p;split at p
 .cases rx;cases ry;exact⟨_,_,rfl,rfl,aw w (hr _ _ ρ H) p⟩
 .exact p.elim
def lO(hr:∀i j ρ H,RelD K mg ρ H (g i j) (f i j)):OpD K mg (rI C f) (gIc C g):=λρ h H dx dy x y Q E w rx ry p=>by
 unfold gIc at p;split at p
 .cases rx;cases ry;split at p
  .rename_i hc;exact⟨_,_,rfl,rfl,hc,aw w (hr _ _ ρ H) p⟩
  .exact p.elim
 .exact p.elim
noncomputable def gOr(g g':D->D->AH->R D):D->D->AH->R D:=λx y h=>match g x y h with
 |.stuck=>g' x y h
 |r=>r
def OpD.or(a:OpD K mg r g)(b:OpD K mg r' g'):OpD K mg (λx y H Q=>r x y H Q\/r' x y H Q) (gOr g g'):=λρ h H dx dy x y Q E w rx ry p=>by
 unfold gOr at p;split at p
 .exact .inr (b ρ h H dx dy x y Q E w rx ry p)
 .exact .inl (a ρ h H dx dy x y Q E w rx ry p)
end
noncomputable def kQ:D->D->AH->R D:=λx y h=>match x,y with
 |.ref n,.ref m=>match h[n]?,h[m]? with
  |some (.lst xs),some (.lst ys)=>if xs.length+ys.length<=16777216 then .ok (.ref h.length) (h++[.lst (xs++ys)]) else .stuck
  |_,_=>.stuck
 |.tup xs,.tup ys=>if xs.length+ys.length<=16777216 then .ok (.tup (xs++ys)) h else .stuck
 |_,_=>.stuck
noncomputable def gIx:D->D->AH->R D:=λx y h=>match cM h x,y with
 |some xs,.int i=>match atI xs i with
  |some d=>.ok d h
  |none=>.stuck
 |_,_=>.stuck
section
variable{K:W.Frag}{mg:Qa}{X:Cx}
def jJ(K:W.Frag):R2:=λx y H Q=>∃a b ys,x=.ref a/\y=.ref b/\SqT K H a []/\SqT K H b ys/\Q (.ref b) H
def FG:OpR X (binaryOp .Add) (jJ X.K):=by
 intro pins s σ H x y v u Q I rx ry h;obtain⟨a,b,ys,rfl,rfl,ha,hb,q⟩:=h;cases rx;cases ry;obtain⟨its,r1,p1,_⟩:=I.tuple ha;obtain⟨its2,r2,p2,_⟩:=I.tuple hb;have e:its=[]:=r1.nil_iff.mpr rfl;subst e;obtain⟨⟨cls,dd,data,sl⟩,ho,hc,n,hd⟩:=id p1;obtain⟨⟨cls2,dd2,data2,sl2⟩,ho2,hc2,n2,hd2⟩:=id p2;simp only at hc hd hc2 hd2;subst hc hd hc2 hd2;exact concat_meets ⟨_,ho,rfl⟩ ⟨_,ho2,rfl⟩ noFill_tuple_add seq_tuple_add PD Pw (Pt _ _)
  (tuple_addW0 _ _ _ _ n n2 dd dd2 sl sl2 rfl) ⟨ho,ho2,⟨.ref b,H,I,rfl,q⟩⟩
def Fy:OpD K mg (λx y H Q=>my x y H Q\/(jH K x y H Q\/jJ K x y H Q)) kQ:=λρ h H dx dy x y Q E w rx ry p=>by
 unfold kQ at p;split at p
 .cases
   rx with
  |
   ref ea=>
   cases ry with
   |
    ref eb=>
    split at p
    .rename_i xs ys e1 e2;split at p
     .rename_i hl;obtain⟨vs,q1,r1⟩:=w.ob _ _ _ ea e1;obtain⟨ws,q2,r2⟩:=w.ob _ _ _ eb e2;exact .inl ⟨_,_,vs,ws,rfl,rfl,q1,q2,by rw[<- r1.len,<- r2.len];exact hl,λp' hp=>cW w (r1.append r2) hp p⟩
     .exact p.elim
    .exact p.elim
 .cases
   rx with
  |
   tup q1 r1=>
   cases ry with
   |
    tup q2 r2=>
    split at p
    .rename_i hl;cases r1 with
     |nil=>exact .inr (.inr ⟨_,_,_,rfl,rfl,q1,q2,aw w (.tup q2 r2) p⟩)
     |cons r0 r1=>refine .inr (.inl ⟨_,_,_,_,rfl,rfl,q1,q2,(λz=>nomatch z),by rw[<- (RelDs.cons r0 r1).len,<- r2.len];exact hl,λz=>?_,λ_ p' hp=>iu w ((RelDs.cons r0 r1).append r2) hp p⟩);subst z;cases r2;rw[N7] at p;exact aw w (.tup q1 (.cons r0 r1)) p
    .exact p.elim
 .exact p.elim
def Fd(r:RelDs K mg ρ H xs vs)(e:atI xs i=some d):∃v,atI vs i=some v/\RelD K mg ρ H d v:=by
 unfold atI at e ⊢;rw[<- r.len];cases q:ixN xs.length i with
 |none=>rw[q] at e;cases e
 |some j=>rw[q] at e;exact r.getD e
def IV:OpD K mg (λx y H Q=>vw K x y H Q\/v8 K x y H Q) gIx:=λρ h H dx dy x y Q E w rx ry p=>by
 unfold gIx at p;split at p
 .rename_i xs i e1;split at p
  .rename_i d e2;cases ry;obtain⟨pa,vs,rfl,hq,rs⟩:=dC w rx e1;obtain⟨v,e3,rv⟩:=Fd rs e2;rcases hq with hq |hq
   .exact .inl ⟨_,_,_,_,rfl,rfl,hq,e3,aw w rv p⟩
   .exact .inr ⟨_,_,_,_,rfl,rfl,hq,e3,aw w rv p⟩
  .exact p.elim
 .exact p.elim
def ixK(h:X.K=K):IxR X (λx y H Q=>vw K x y H Q\/v8 K x y H Q):=by subst h;exact Eu.or HK
def catK(h:X.K=K):OpR X (binaryOp .Add) (λx y H Q=>my x y H Q\/(jH K x y H Q\/jJ K x y H Q)):=by subst h;exact Jy.or (Ej.or FG)
end
noncomputable def cR:Nat->AH->D->Option PyData
 |0,_,_=>none
 |_+1,_,.non=>some .none
 |_+1,_,.bl b=>some (.bool b)
 |_+1,_,.int i=>some (.int i)
 |_+1,_,.str x=>some (.str x)
 |k+1,h,.tup xs=>(xs.mapM (cR k h)).map .tuple
 |k+1,h,.ref n=>match aL h n with
  |some xs=>(xs.mapM (cR k h)).map .list
  |none=>none
 |_+1,_,_=>none
def nM{K:W.Frag}{mg:Qa}{ρ:List Addr}{H:Hp}{f:D->Option PyData}(hf:∀d v pd,RelD K mg ρ H d v->f d=some pd->Rep K H v pd):∀{xs:List D}{vs:List V}{ps:List PyData},RelDs K mg ρ H xs vs->xs.mapM f=some ps->Reps K H vs ps:=by
 intro xs;induction xs with
 |nil=>intro vs ps r e;cases r;have e':some []=some _:=e;cases e';exact .nil
 |
  cons x xs ih=>
  intro vs ps r e;cases r with
  |
   cons r rr=>
   rw[O9] at e;cases q:f x with
   |none=>rw[q] at e;cases e
   |
    some pd=>
    rw[q] at e;cases q2:xs.mapM f with
    |none=>rw[q2] at e;cases e
    |some pds=>rw[q2] at e;have e':some (pd::pds)=some ps:=e;cases e';exact .cons (hf _ _ _ r q) (ih rr q2)
theorem eS{K:W.Frag}{mg:Qa}{ρ:List Addr}{H:Hp}{h:AH}(w:Wd K mg ρ h H):∀(k:Nat) {d:D}{v:V}{pd:PyData},RelD K mg ρ H d v->cR k h d=some pd->Rep K H v pd
 |0,_,_,_,_,e=>by cases e
 |
  k+1,d,v,pd,r,e=>by
  cases r with
  |non=>have e':some _=some pd:=e;cases e';exact .non
  |bl b=>have e':some _=some pd:=e;cases e';exact .bl b
  |int b=>have e':some _=some pd:=e;cases e';exact .int b
  |str b=>have e':some _=some pd:=e;cases e';exact .str b
  |
   tup q rs=>
   rename_i ds;have e':(ds.mapM (cR k h)).map PyData.tuple=some pd:=e;cases q2:ds.mapM (cR k h) with
   |none=>rw[q2] at e';cases e'
   |some ps=>rw[q2] at e';cases e';exact .tup q (nM (λd v pd r e=>eS w k r e) rs q2)
  |
   ref ea=>
   rename_i n a;unfold cR at e;split at e
   .rename_i xs e1;obtain⟨vs,h1,h2⟩:=aZ w ea e1;cases q2:xs.mapM (cR k h) with
    |none=>rw[q2] at e;cases e
    |some ps=>rw[q2] at e;cases e;exact .lst h1 (nM (λd v pd r e=>eS w k r e) h2 q2)
   .cases e
  |_=>cases e
noncomputable def jx(h:AH)(x y:D):Option Bool:=match cR 164 h x,cR 164 h y with
 |some a,some b=>if shp a=true/\shp b=true then some (PyData.eqv a b) else none
 |_,_=>none
noncomputable def gEq(neg:Bool):D->D->AH->R D:=λx y h=>match jx h x y with
 |some b=>.ok (.bl (if neg then !b else b)) h
 |none=>.stuck
section
variable{K:W.Frag}{mg:Qa}{X:Cx}
def uH(w:Wd K mg ρ h H)(rx:RelD K mg ρ H dx x)(ry:RelD K mg ρ H dy y)(e:jx h dx dy=some b):
 ∃a c,Rep K H x a/\Rep K H y c/\shp a=true/\shp c=true/\PyData.eqv a c=b:=by
 unfold jx at e;split at e
 .rename_i a c e1 e2;split at e
  .rename_i hs;cases e;exact⟨a,c,eS w 164 rx e1,eS w 164 ry e2,hs.1,hs.2,rfl⟩
  .cases e
 .cases e
def JF:OpD K mg (vF K) (gEq false):=λρ h H dx dy x y Q E w rx ry p=>by
 unfold gEq at p;split at p
 .rename_i b e;obtain⟨a,c,h1,h2,h3,h4,rfl⟩:=uH w rx ry e;exact⟨a,c,h1,h2,h3,h4,aw w (.bl _) p⟩
 .exact p.elim
def Ic:OpD K mg (wA K) (gEq true):=λρ h H dx dy x y Q E w rx ry p=>by
 unfold gEq at p;split at p
 .rename_i b e;obtain⟨a,c,h1,h2,h3,h4,rfl⟩:=uH w rx ry e;exact⟨a,c,h1,h2,h3,h4,aw w (.bl _) p⟩
 .exact p.elim
end
noncomputable def jW:D->Bool
 |.non=>true
 |.bl _=>true
 |.int _=>true
 |.str _=>true
 |_=>false
noncomputable def toV:D->V
 |.bl b=>.bl b
 |.int i=>.int i
 |.str x=>.str x
 |_=>.non
noncomputable def eqF(x y:D):Bool:=eqV (toV x) (toV y)
noncomputable def gIn(neg:Bool):D->D->AH->R D:=λx y h=>match cM h y with
 |some xs=>if jW x=true/\xs.all jW=true then .ok (.bl (if neg then !(xs.any λd=>eqF d x) else xs.any λd=>eqF d x)) h else .stuck
 |none=>.stuck
section
variable{K:W.Frag}{mg:Qa}{X:Cx}{ρ:List Addr}{H:Hp}
def sA(r:RelD K mg ρ H d v)(f:jW d=true):v=toV d/\flatV v=true:=by
 cases r with
 |non=>exact⟨rfl,rfl⟩
 |bl=>exact⟨rfl,rfl⟩
 |int=>exact⟨rfl,rfl⟩
 |str=>exact⟨rfl,rfl⟩
 |_=>cases f
def yK:∀{ds:List D}{vs:List V},RelDs K mg ρ H ds vs->ds.all jW=true->vs=ds.map toV/\vs.all flatV=true:=by
 intro ds;induction ds with
 |nil=>intro vs r f;cases r;exact⟨rfl,rfl⟩
 |
  cons d0 ds ih=>
  intro vs r f;cases r with
  |cons r rr=>rw[Pf,r_] at f;obtain⟨rfl,h1⟩:=sA r f.1;obtain⟨rfl,h2⟩:=ih rr f.2;exact⟨rfl,by rw[Pf,h1,h2];rfl⟩
def yL(neg:Bool):OpD K mg (rIn K neg) (gIn neg):=λρ h H dx dy x y Q E w rx ry p=>by
 unfold gIn at p;split at p
 .rename_i xs e;split at p
  .rename_i hf;obtain⟨pa,vs,rfl,hq,rs⟩:=dC w ry e;obtain⟨rfl,f1⟩:=sA rx hf.1;obtain⟨rfl,f2⟩:=yK rs hf.2;refine⟨pa,_,rfl,hq,f1,f2,?_⟩;have e2:inV (toV dx) (xs.map toV)=xs.any λd=>eqF d dx:=by unfold inV eqF;rw[List.any_map];rfl
   rw[e2];exact aw w (.bl _) p
  .exact p.elim
 .exact p.elim
def mS(neg:Bool):D->D->AH->R D:=λx y h=>match x,y with
 |.non,.non=>.ok (.bl (!neg)) h
 |_,.non=>.ok (.bl neg) h
 |_,_=>.stuck
def Ao:OpD K mg (λx y H Q=>y=.non/\Q (.bl (!decide (x=.non))) H) (mS true):=λρ h H dx dy x y Q E w rx ry p=>by
 unfold mS at p;split at p
 .cases rx;cases ry;exact⟨rfl,aw w (.bl _) p⟩
 .rename_i hne;cases ry;refine⟨rfl,?_⟩;have e:decide (x=V.non)=false:=by rw[decide_eq_false_iff_not];rintro rfl;cases rx;exact hne rfl
  rw[e];exact aw w (.bl _) p
 .exact p.elim
end
noncomputable def Itd(lo:Int)(n:Nat):It:=⟨λj _=>j<n,λj G v G'=>G'=G/\v=.int (lo-j),λj _=>n<=j⟩
inductive AIt where
 |lst (n:Nat) (xs:List D) |tup (xs:List D) |rng (lo:Int) (k:Nat) |rgd (lo:Int) (k:Nat) |enm (s:AIt) |zip (s t:AIt)
noncomputable def gA:Nat->List D->List D
 |_,[]=>[]
 |i,d::ds=>.tup [.int (i:Nat),d]::gA (i+1) ds
noncomputable def AIt.items:AIt->List D
 |.lst _ xs=>xs
 |.tup xs=>xs
 |.rng lo k=>(List.range k).map λi=>D.int (lo+(i:Nat))
 |.rgd lo k=>(List.range k).map λi=>D.int (lo-(i:Nat))
 |.enm s=>gA 0 s.items
 |.zip s t=>List.zipWith (λx y=>.tup [x,y]) s.items t.items
def AIt.guard:AIt->AH->Prop
 |.lst n xs,h=>aL h n=some xs
 |.enm s,h=>s.guard h
 |.zip s t,h=>s.guard h/\t.guard h
 |_,_=>True
def SrcR(K:W.Frag)(mg:Qa)(ρ:List Addr)(H:Hp):AIt->Bool->Addr->Prop
 |.lst n _,true,a=>ρ[n]?=some a
 |.tup xs,false,p=>∃vs,SqT K H p vs/\RelDs K mg ρ H xs vs
 |_,_,_=>False
def ItR(K:W.Frag)(mg:Qa)(ρ:List Addr)(H:Hp):AIt->It->Prop
 |.lst n _,J=>∃a,ρ[n]?=some a/\J=Itl K a
 |.tup xs,J=>∃p vs,SqT K H p vs/\RelDs K mg ρ H xs vs/\J=Itt K p
 |.rng lo k,J=>J=Itr lo k
 |.rgd lo k,J=>J=Itd lo k
 |.enm s,J=>∃b a,SrcR K mg ρ H s b a/\J=IteE K b a
 |.zip s t,J=>∃b c a d,SrcR K mg ρ H s b a/\SrcR K mg ρ H t c d/\J=ItZ K b c a d
theorem sd:∀{ds:List D}{k i:Nat}{e:D},(gA k ds)[i]?=some e->∃d,ds[i]?=some d/\e=.tup [.int ((k+i:Nat):Int),d]
 | [],_,_,_,q=>by simp [gA] at q
 |d::ds,k,0,e,q=>⟨d,rfl,by simpa [gA] using q.symm⟩
 |
  d::ds,k,i+1,e,q=>by
  obtain⟨d',q1,q2⟩:=sd (ds:=ds) (k:=k+1) (i:=i) (e:=e) (by simpa [gA] using q);refine⟨d',by simpa using q1,?_⟩;rw[q2];congr 4;omega
theorem qa:∀(ds:List D) (k:Nat),(gA k ds).length=ds.length
 | [],_=>rfl
 |_::ds,k=>by show (gA (k+1) ds).length+1=ds.length+1;rw[qa ds]
section
variable{K:W.Frag}{mg:Qa}{ρ ρ1:List Addr}{H H1:Hp}{h h1:AH}
def SrcR.at_(r:SrcR K mg ρ H s b a)(l:Le ρ H ρ1 H1)(w:Wd K mg ρ1 h1 H1)(g:s.guard h1):∃vs,SqB K b H1 a vs/\RelDs K mg ρ1 H1 s.items vs:=by
 cases s with
 |
  lst n xs=>
  cases b with
  |true=>exact aZ w (l.pre _ _ r) g
  |false=>exact r.elim
 |
  tup xs=>
  cases b with
  |true=>exact r.elim
  |false=>obtain⟨vs,q,rs⟩:=r;exact⟨vs,l.sqT q,rs.mono l⟩
 |rng _ _=>cases b <;> exact r.elim
 |rgd _ _=>cases b <;> exact r.elim
 |enm _=>cases b <;> exact r.elim
 |zip _ _=>cases b <;> exact r.elim
def ItR.nums{f:Nat->Int}{k:Nat}(w:Wd K mg ρ1 h1 H1):(∀(i:Nat) (d:D),((List.range k).map λi=>D.int (f i))[i]?=some d->i<k/\∀x H',(H'=H1/\x=V.int (f i))->Le ρ1 H1 ρ1 H'/\Wd K mg ρ1 h1 H'/\RelD K mg ρ1 H' d x)/\k<=((List.range k).map λi=>D.int (f i)).length:=by
 refine⟨λi d e=>?_,by simp⟩;rw[L_] at e;cases q:(List.range k)[i]? with
 |none=>rw[q] at e;cases e
 |some j=>rw[q] at e;have hj:=p_.mp q;have e2:=hj.2;rw[List.getElem_range] at e2;subst e2;cases e;refine⟨by simpa using hj.1,λx H' ⟨e1,e2⟩=>?_⟩;subst e1 e2;exact⟨Le.refl,w,.int _⟩
def ItR.step(hJ:ItR K mg ρ H it J)(l:Le ρ H ρ1 H1)(w:Wd K mg ρ1 h1 H1)(g:it.guard h1):
 (∀(i:Nat) (d:D),it.items[i]?=some d->J.go i H1/\∀x H',J.yld i H1 x H'->Le ρ1 H1 ρ1 H'/\Wd K mg ρ1 h1 H'/\RelD K mg ρ1 H' d x)/\J.stop it.items.length H1:=by
 cases it with
 |
  lst n xs=>
  obtain⟨a,ea,rfl⟩:=hJ;obtain⟨vs,q,rs⟩:=aZ w (l.pre _ _ ea) g;refine⟨λi d e=>?_,vs,q,by rw[<- rs.len];exact n_ _⟩;obtain⟨v,ev,rv⟩:=rs.getD e;refine⟨⟨vs,v,q,ev⟩,λx H' ⟨e1,y⟩=>?_⟩;subst e1
  have:=(y vs q).symm.trans ev
  cases this;exact⟨Le.refl,w,rv⟩
 |
  tup xs=>
  obtain⟨p,vs,q,rs,rfl⟩:=hJ;have q1:=l.sqT q;have rs1:=rs.mono l;refine⟨λi d e=>?_,vs,q1,by rw[<- rs1.len];exact n_ _⟩;obtain⟨v,ev,rv⟩:=rs1.getD e;refine⟨⟨vs,v,q1,ev⟩,λx H' ⟨e1,y⟩=>?_⟩;subst e1
  have:=(y vs q1).symm.trans ev
  cases this;exact⟨Le.refl,w,rv⟩
 |rng lo k=>cases hJ;exact ItR.nums w
 |rgd lo k=>cases hJ;exact ItR.nums w
 |
  enm s=>
  obtain⟨b,a,r,rfl⟩:=hJ;obtain⟨vs,q,rs⟩:=r.at_ l w g;refine⟨λi d e=>?_,vs,q,by show vs.length=(gA 0 s.items).length;rw[qa,rs.len]⟩;obtain⟨d',q1,rfl⟩:=sd (show (gA 0 s.items)[i]?=some d from e);obtain⟨v,ev,rv⟩:=rs.getD q1;refine⟨⟨vs,v,q,ev⟩,λx H' ⟨p,u,e1,hp,e2,hu⟩=>?_⟩;subst e1 e2
  have:=(hu vs q).symm.trans ev
  cases this;rw[Nat.zero_add];exact⟨bU hp,w.tuple hp,.tup (SqT.of bo) (.cons (.int _) (.cons (rv.mono (bU hp)) .nil))⟩
 |
  zip s t=>
  obtain⟨b,c,a,d,r1,r2,rfl⟩:=hJ;obtain⟨vs,q,rs⟩:=r1.at_ l w g.1;obtain⟨us,q',rs'⟩:=r2.at_ l w g.2;refine⟨λi e ei=>?_,vs,us,q,q',?_⟩
  .have ei':(List.zipWith (λx y=>D.tup [x,y]) s.items t.items)[i]?=some e:=ei;rw[OQ] at ei';cases k1:s.items[i]? with
   |none=>rw[k1] at ei';cases ei'
   |
    some d1=>
    cases k2:t.items[i]? with
    |none=>rw[k1,k2] at ei';cases ei'
    |
     some d2=>
     rw[k1,k2] at ei';cases ei';obtain⟨v,ev,rv⟩:=rs.getD k1;obtain⟨v',ev',rv'⟩:=rs'.getD k2;refine⟨⟨vs,us,v,v',q,q',ev,ev'⟩,λx H' ⟨p,u,u',e1,hp,e2,hu,hu'⟩=>?_⟩;subst e1 e2
     have:=(hu vs q).symm.trans ev
     cases this
     have:=(hu' us q').symm.trans ev'
     cases this;exact⟨bU hp,w.tuple hp,.tup (SqT.of bo) (.cons (rv.mono (bU hp)) (.cons (rv'.mono (bU hp)) .nil))⟩
  .have hl:(AIt.zip s t).items.length=min s.items.length t.items.length:=OY ..;rw[hl,rs.len,rs'.len];rcases Nat.le_total vs.length us.length with z |z
   .left;rw[Nat.min_eq_left z];exact List.getElem?_eq_none (n_ _)
   .right;rw[Nat.min_eq_right z];exact List.getElem?_eq_none (n_ _)
end
noncomputable def SR.loop(r:SR)(f:AE->AH->SR):SR:=match r with
 |.nx ae h=>f ae h
 |.ct ae h=>f ae h
 |.bk ae h=>.nx ae h
 |.rt d h=>.rt d h
 |.exc c ae h=>.exc c ae h
 |.stuck=>.stuck
open Classical in
def ip(G:AH->Prop)(g:MG)(B:MS):List D->MS
 | [],ae,h=>if G h then .nx ae h else .stuck
 |d::ds,ae,h=>if G h then (g d ae h).toS ae λgl h1=>(B gl h1).loop (ip G g B ds) else .stuck
abbrev MI:=AE->AH->R AIt
def Ae(I:MI)(g:MG)(B:MS):MS:=λae h=>(I ae h).toS ae λit h1=>ip it.guard g B it.items ae h1
open Classical in
def lcL(G:AH->Prop)(g:MG)(c:MT)(F:ME):List D->List D->AE->AH->R (List D)
 | [],acc,_,h=>if G h then .ok acc h else .stuck
 |d::ds,acc,ae,h=>if G h/\acc.length<16777216 then (g d ae h).bind λgl h1=>(c gl h1).bind λb h2=>if b=true then (F gl h2).bind λy h3=>lcL G g c F ds (acc++[y]) gl h3 else lcL G g c F ds acc gl h2 else .stuck
noncomputable def iI(sub:Qd)(ae:AE):AE:=sub.map λo=>o.bind λi=>(ae[i]?).bind id
def eLC(I:MI)(sub:Qd)(g:MG)(c:MT)(F:ME):ME:=λae h=>(I ae h).bind λit h1=>(noX (lcL it.guard g c F it.items [] (iI sub ae) h1)).bind cU
noncomputable def tY:MT:=λ_ h=>.ok true h
section
variable(K:W.Frag)(mg:Qa)
def rdI(ES:St->XK)(F:MI):TI:=λσ H R'=>∃ρ h ae,Wd K mg ρ h H/\RelE K mg ρ H ae σ/\PostG K mg ρ H (ES σ) (λit _ ρ' H'=>∀J,ItR K mg ρ' H' it J->R' J H') (F ae h)
def DI(X:Cx)(ES:St->XK)(tg am:Expr)(F:MI):Prop:=PI X tg am (rdI K mg ES F)
end
noncomputable def BM(F:ME):MI:=λae h=>(F ae h).bind λd h1=>match d with
 |.tup xs=>.ok (.tup xs) h1
 |.ref n=>match aL h1 n with
  |some xs=>.ok (.lst n xs) h1
  |none=>.stuck
 |_=>.stuck
noncomputable def Af(A:MA):MI:=λae h=>(A ae h).bind λds h1=>match ds with
 | [.int j]=>if -(2^62)<=j/\j<2^62 then .ok (.rng 0 j.toNat) h1 else .stuck
 |_=>.stuck
noncomputable def Bj(A:MA):MI:=λae h=>(A ae h).bind λds h1=>match ds with
 | [.int i,.int j]=>if -(2^62)<=i/\i<2^62/\-(2^62)<=j/\j<2^62 then .ok (.rng i (j-i).toNat) h1 else .stuck
 |_=>.stuck
noncomputable def fH(d:D)(h:AH):Option AIt:=match d with
 |.tup xs=>some (.tup xs)
 |.ref n=>(aL h n).map (.lst n)
 |_=>none
noncomputable def zK(A:MA):MI:=λae h=>(A ae h).bind λds h1=>match ds with
 | [d,e]=>(match fH d h1,fH e h1 with
  |some s,some t=>.ok (.zip s t) h1
  |_,_=>.stuck)
 |_=>.stuck
section
variable{K:W.Frag}{mg:Qa}{X:Cx}{ES:St->XK}{tg am e a b c h_:Expr}{F:ME}{A:MA}{I:MI}{g:MG}{cf:MT}{U:MS}{sts:List Stmt}{pos:Pos}
def PI.imp(h:PI X tg am t)(k:∀σ H Q,t' σ H Q->t σ H Q):PI X tg am t':=λpins s σ H Q I w=>h pins s σ H Q I (k σ H Q w)
def HC(hl:PE X l tl):PI X tg l (λσ H R=>tl σ H λx H1=>(∃a,x=.ref a/\(∃xs,SqL X.K H1 a xs)/\R (Itl X.K a) H1)\/(∃a,x=.ref a/\(∃xs,SqT X.K H1 a xs)/\R (Itt X.K a) H1)):=by
 intro pins s σ H R I h;refine thn (hl pins s σ H _ I h) λv s1 ⟨x,H1,I1,r1,q1⟩=>?_;rcases q1 with ⟨a,e,⟨xs,hq⟩,q⟩ |⟨a,e,⟨xs,hq⟩,q⟩
 .subst e;cases r1;obtain⟨its,rv,p,hz⟩:=I1.list hq;refine wpAny_pyIter_list p.isList ?_;refine⟨s1.heap.objs.size,[s1.heap.objs.size],_,_,H1,rfl,I1.kept (t':=s1.toks) λb o e=>t_ _ e,zf a _,⟨_,Em _ rfl,rfl,rfl⟩,λb hb=>?_,q⟩;have e:b=s1.heap.objs.size:=by simpa using hb
  subst e;exact I1.fpOk (n_ _) (I1.hok.fresh (n_ _))
 .subst e;cases r1;obtain⟨its,rv,p,hz⟩:=I1.tuple hq;refine wpAny_pyIter_tuple (show s1.heap.IsTuple a its.toArray from p) ?_;refine⟨s1.heap.objs.size,[s1.heap.objs.size],_,_,H1,rfl,I1.kept (t':=s1.toks) λb o e=>t_ _ e,uV a _,⟨_,Em _ rfl,rfl,rfl⟩,λb hb=>?_,q⟩;have e:b=s1.heap.objs.size:=by simpa using hb
  subst e;exact I1.fpOk (n_ _) (I1.hok.fresh (n_ _))
def J4(hK:X.K=K)(he:DE K mg X ES e F):DI K mg X ES tg e (BM F):=by
 subst hK;refine PI.imp (HC he) λσ H R ⟨ρ,h,ae,w,re,p⟩=>⟨ρ,h,ae,w,re,p.bind.imp λd h1 ρ1 H1 l1 w1 p1 v rv=>?_⟩;cases rv with
 |tup q rs=>exact .inr ⟨_,rfl,⟨_,q⟩,p1 ρ1 H1 Le.refl w1 _ ⟨_,_,q,rs,rfl⟩⟩
 |
  ref ea=>
  dsimp only at p1;split at p1
  .rename_i xs e1;obtain⟨vs,q,rs⟩:=aZ w1 ea e1;exact .inl ⟨_,rfl,⟨_,q⟩,p1 ρ1 H1 Le.refl w1 _ ⟨_,ea,rfl⟩⟩
  .exact p1.elim
 |_=>exact p1.elim
def xv(hg:Gl X "range")(hm:mg "range"=none)(ha:DA K mg X ES [a] A)(hk:X.mg=mg)(hs:starEach [a] X.env=[(false,eval a X.env)]):DI K mg X ES tg (.Call (.Name "range" p) [a] [] pos) (Af A):=by
 subst hk;refine PI.imp (x5 hg hm ha hs) λσ H R ⟨ρ,h,ae,w,re,p⟩=>⟨ρ,h,ae,w,re,p.bind.imp λds h1 ρ1 H1 l1 w1 p1 vs rs=>?_⟩;split at p1
 .cases rs with
  |
   cons r rs=>
   cases r;cases rs;split at p1
   .rename_i hb;exact⟨_,rfl,hb.1,hb.2,p1 ρ1 H1 Le.refl w1 _ rfl⟩
   .exact p1.elim
 .exact p1.elim
def w9(hg:Gl X "range")(hm:mg "range"=none)(ha:DA K mg X ES [a,b] A)(hk:X.mg=mg)(hs:starEach [a,b] X.env=[(false,eval a X.env),(false,eval b X.env)])(hs2:starEach [b] X.env=[(false,eval b X.env)]):DI K mg X ES tg (.Call (.Name "range" p) [a,b] [] pos) (Bj A):=by
 subst hk;refine PI.imp (xk hg hm ha hs hs2) λσ H R ⟨ρ,h,ae,w,re,p⟩=>⟨ρ,h,ae,w,re,p.bind.imp λds h1 ρ1 H1 l1 w1 p1 vs rs=>?_⟩;split at p1
 .cases
   rs with
  |
   cons r rs=>
   cases rs with
   |
    cons r2 rs=>
    cases r;cases r2;cases rs;split at p1
    .rename_i hb;exact⟨_,_,rfl,hb,p1 ρ1 H1 Le.refl w1 _ rfl⟩
    .exact p1.elim
 .exact p1.elim
def nQ(w:Wd K mg ρ h H)(r:RelD K mg ρ H d v)(q:fH d h=some s):∃b p,v=.ref p/\SrcR K mg ρ H s b p/\∃vs,SqB K b H p vs:=by
 cases r with
 |tup hq rs=>cases q;exact⟨false,_,rfl,⟨_,hq,rs⟩,_,hq⟩
 |ref ea=>obtain⟨xs,q1,rfl⟩:=I_.mp q;obtain⟨vs,h1,h2⟩:=aZ w ea q1;exact⟨true,_,rfl,ea,vs,h1⟩
 |_=>cases q
def JM(hK:X.K=K)(hg:Gl X "zip")(hm:mg "zip"=none)(ha:DA K mg X ES [a,b] A)(hk:X.mg=mg)(hs:starEach [a,b] X.env=[(false,eval a X.env),(false,eval b X.env)])(hs2:starEach [b] X.env=[(false,eval b X.env)]):DI K mg X ES (.Tuple elts x1 tp) (.Call (.Name "zip" p) [a,b] [] pos) (zK A):=by
 subst hk hK;refine PI.imp (HN hg hm ha hs hs2) λσ H R ⟨ρ,h,ae,w,re,p⟩=>⟨ρ,h,ae,w,re,p.bind.imp λds h1 ρ1 H1 l1 w1 p1 vs rs=>?_⟩;split at p1
 .cases
   rs with
  |
   cons r rs=>
   cases rs with
   |
    cons r' rs=>
    cases rs;split at p1
    .rename_i s t q q';obtain⟨b,pa,rfl,sr,xs,hx⟩:=nQ w1 r q;obtain⟨c,pd,rfl,sr',ys,hy⟩:=nQ w1 r' q';exact⟨b,c,pa,pd,xs,ys,rfl,hx,hy,p1 ρ1 H1 Le.refl w1 _ ⟨b,c,pa,pd,sr,sr',rfl⟩⟩
    .exact p1.elim
 .exact p1.elim
def rm(p:PostS K mg ρ H De ES (r.loop f))(i:∀gl h1 ρ1 H1 σ1,Le ρ H ρ1 H1->Wd K mg ρ1 h1 H1->RelE K mg ρ1 H1 gl σ1->PostS K mg ρ1 H1 De ES (f gl h1)->N σ1 H1):
 PostS K mg ρ H { De with nx:=N,ct:=N,bk:=De.nx } ES r:=by
 cases r with
 |nx gl h1=>exact λρ1 H1 σ1 l1 w1 re1=>i gl h1 ρ1 H1 σ1 l1 w1 re1 (PostS.mono l1 p)
 |rt d h1=>exact p
 |bk gl h1=>exact p
 |ct gl h1=>exact λρ1 H1 σ1 l1 w1 re1=>i gl h1 ρ1 H1 σ1 l1 w1 re1 (PostS.mono l1 p)
 |exc c gl h1=>exact p
 |stuck=>exact p
def JI(hp:PassesOwn (model X.prog X.w) X.A X.env X.xe)(hc:X.calm=true)(hi:DI K mg X ES tg am I)(hg:DG K mg X ES tg g)(hb:DSs K mg X ES sts U)
 (hs:∀x,foldedSetIterable am X.env x=pure x):DS K mg X ES (.For tg am sts [] pos) (Ae I g U):=by
 refine PS.imp (FJ hp hc hi hg hb hs) λDe σ H q_=>q_.el λρ h ae w re p=>⟨ρ,h,ae,w,re,bA p re λit h1 ρ1 H1 l1 w1 re1 p1 J hJ=>?_⟩;refine⟨λi m σ2 H2=>m=it.items.length-i/\i<=it.items.length/\∃ρ2 h2 ae2,Le ρ1 H1 ρ2 H2/\Wd K mg ρ2 h2 H2/\RelE K mg ρ2 H2 ae2 σ2/\PostS K mg ρ2 H2 De ES (ip it.guard g U (it.items.drop i) ae2 h2),⟨_,rfl,N2 _,ρ1,h1,ae,Le.refl,w1,re1,p1⟩,?_⟩;rintro i m σ2 H2 ⟨rfl,hi',ρ2,h2,ae2,l2,w2,re2,p2⟩;by_cases hlt:i<it.items.length
 .have hd:it.items.drop i=it.items[i]::it.items.drop (i+1):=List.drop_eq_getElem_cons hlt;rw[hd] at p2;unfold ip at p2;split at p2
  .rename_i hG;obtain⟨st,_⟩:=hJ.step l2 w2 hG;obtain⟨go,yl⟩:=st i it.items[i] (y_ hlt);refine .inr ⟨go,λσ' H'=>∃ρ3 h3 ae3,Le ρ1 H1 ρ3 H'/\Wd K mg ρ3 h3 H'/\RelE K mg ρ3 H' ae3 σ'/\PostS K mg ρ3 H' De ES (ip it.guard g U (it.items.drop (i+1)) ae3 h3),
    λσ' H' ⟨ρ3,h3,ae3,q⟩=>⟨_,by omega,rfl,hlt,ρ3,h3,ae3,q⟩,λx H' hy=>?_⟩
   obtain⟨ly,wy,rx⟩:=yl x H' hy;refine⟨ρ2,h2,ae2,_,wy,re2.mono ly,rx,bA (PostS.mono ly p2) (re2.mono ly) λae3 h3 ρ3 H3 l3 w3 re3 p3 σ' re'=>⟨ρ3,h3,ae3,w3,re',rm p3 λae4 h4 ρ4 H4 σ4 l4 w4 re4 p4=>⟨ρ4,h4,ae4,((l2.trans ly).trans l3).trans l4,w4,re4,p4⟩⟩⟩
  .exact p2.elim
 .have hi2:i=it.items.length:=by omega
  subst hi2;rw[List.drop_length] at p2;unfold ip at p2;split at p2
  .rename_i hG;exact .inl ⟨(hJ.step l2 w2 hG).2,fD p2 w2 re2⟩
  .exact p2.elim
def BL(re:RelE K mg ρ H ae σ)(sub:Qd):RelE K mg ρ H (iI sub ae) (fb sub σ):=by
 unfold iI fb;refine⟨by rw[k_,k_],λj d e=>?_⟩;rw[L_] at e ⊢;cases q:sub[j]? with
 |none=>rw[q] at e;cases e
 |
  some o=>
  rw[q] at e;cases o with
  |none=>cases e
  |
   some i=>
   have e':(ae[i]?).bind id=some d:=G_ e;cases q2:ae[i]? with
   |none=>rw[q2] at e';cases e'
   |some z=>rw[q2] at e';have e3:z=some d:=e';subst e3;obtain⟨v,h1,h2⟩:=re.at_ i d q2;refine⟨v,?_,h2⟩;show some ((σ[i]?).bind id)=some (some v);rw[h1];rfl
def kN(p:PostG K mg ρ H E k ((noX (r.bind f)).bind m)):
 PostG K mg ρ H E0 (λa h1 ρ' H'=>PostG K mg ρ' H' E k ((noX (f a h1)).bind m)) r:=by
 cases r with
 |ok a h1=>exact λρ1 H1 l1 w1=>PostG.mono l1 p
 |exc c h1=>exact p.elim
 |stuck=>exact p.elim
def Cy(σ:St)(H:Hp)(Q:VK)(q:rdE K mg ES (eLC I sub g cf F) σ H Q):iG (rdI K mg ES I) sub (rdG K mg (λ_=>E0) g) (rdT K mg (λ_=>E0) cf) (rdE K mg (λ_=>E0) F) σ H Q:=by
 obtain⟨ρ,h,ae,w,re,p⟩:=q;refine⟨ρ,h,ae,w,re,p.bind.imp λit h1 ρ1 H1 l1 w1 p1 J hJ=>?_⟩;have re1:=BL (re.mono l1) sub;refine⟨λi m ys σ2 H2=>m=it.items.length-i/\i<=it.items.length/\∃ρ2 h2 ae2 acc,Le ρ1 H1 ρ2 H2/\Wd K mg ρ2 h2 H2/\RelE K mg ρ2 H2 ae2 σ2/\RelDs K mg ρ2 H2 acc ys/\
  PostG K mg ρ2 H2 (ES σ) (λd _ ρ' H'=>∀v,RelD K mg ρ' H' d v->Q v H') ((noX (lcL it.guard g cf F (it.items.drop i) acc ae2 h2)).bind cU),
  ⟨_,rfl,N2 _,ρ1,h1,iI sub ae,[],Le.refl,w1,re1,.nil,p1⟩,?_⟩
 rintro i m ys σ2 H2 ⟨rfl,hi',ρ2,h2,ae2,acc,l2,w2,re2,rs,p2⟩;by_cases hlt:i<it.items.length
 .have hd:it.items.drop i=it.items[i]::it.items.drop (i+1):=List.drop_eq_getElem_cons hlt;rw[hd] at p2;unfold lcL at p2;split at p2
  .rename_i hG;obtain⟨st,_⟩:=hJ.step l2 w2 hG.1;obtain⟨go,yl⟩:=st i it.items[i] (y_ hlt);refine .inr ⟨go,by rw[<- rs.len];exact hG.2,λys' σ' H'=>∃ρ3 h3 ae3 acc3,Le ρ1 H1 ρ3 H'/\Wd K mg ρ3 h3 H'/\RelE K mg ρ3 H' ae3 σ'/\RelDs K mg ρ3 H' acc3 ys'/\
    PostG K mg ρ3 H' (ES σ) (λd _ ρ' H'=>∀v,RelD K mg ρ' H' d v->Q v H') ((noX (lcL it.guard g cf F (it.items.drop (i+1)) acc3 ae3 h3)).bind cU),
    λys' σ' H' ⟨ρ3,h3,ae3,acc3,q⟩=>⟨_,by omega,rfl,hlt,ρ3,h3,ae3,acc3,q⟩,λx H' hy=>?_⟩
   obtain⟨ly,wy,rx⟩:=yl x H' hy;refine⟨ρ2,h2,ae2,_,wy,re2.mono ly,rx,(kN (PostG.mono ly p2)).imp λae3 h3 ρ3 H3 l3 w3 p3 σ3 re3=>⟨ρ3,h3,ae3,w3,re3,(kN p3).imp λb h4 ρ4 H4 l4 w4 p4=>?_⟩⟩;cases b with
   |true=>exact⟨ρ4,h4,ae3,w4,re3.mono l4,(kN p4).imp λy h5 ρ5 H5 l5 w5 p5 v rv=>⟨ρ5,h5,ae3,acc++[y],(((l2.trans ly).trans l3).trans l4).trans l5,w5,(re3.mono l4).mono l5,((((rs.mono ly).mono l3).mono l4).mono l5).append (.cons rv .nil),p5⟩⟩
   |false=>exact⟨ρ4,h4,ae3,acc,((l2.trans ly).trans l3).trans l4,w4,re3.mono l4,((rs.mono ly).mono l3).mono l4,p4⟩
  .exact p2.elim
 .have hi2:i=it.items.length:=by omega
  subst hi2;rw[List.drop_length] at p2;unfold lcL at p2;split at p2
  .rename_i hG;refine .inl ⟨(hJ.step l2 w2 hG).2,?_⟩;have p3:PostG K mg ρ2 H2 (ES σ) (λd _ ρ' H'=>∀v,RelD K mg ρ' H' d v->Q v H') (cU acc h2):=p2;unfold cU at p3;split at p3
   .rename_i hl;exact⟨by rw[<- rs.len];exact hl,λq hq=>cW w2 rs hq p3⟩
   .exact p3.elim
  .exact p2.elim
def Lu(M:List Str)(kn:List (Str×NameKind))(N:List Str)(sub:Qd)
 (hc:X.calm=true) (hi:DI K mg X ES tg am I)
 (hg:∀cl C s₂ H fp,DG K mg (aJ X N scope cl C s₂ H fp) (λ_=>E0) tg g) (he:∀cl C s₂ H fp,DE K mg (aJ X N scope cl C s₂ H fp) (λ_=>E0) h_ F)
 (hM:X.N=M) (hkn:X.env.scope.names=kn) (d_:ff M scope.names sub N=true)
 (hk:scope.kind=.function) (hnc:∀x∈scope.names,x.2 ≠ .cell) (bn:∀x∈scope.names,x.2=.local->scope.names.lookup x.1=some .local)
 (hfr:gO kn scope.names=true)
 (hsl:sub.length=N.length) (hs:∀x,foldedSetIterable am X.env x=pure x):
 DE K mg X ES (.ListComp h_ [⟨tg,am,[],0⟩] scope pos) (eLC I sub g tY F):=
 PE.imp (KZ M kn N sub hc hi hg he hM hkn d_ hk hnc bn hfr hsl hs) λσ H Q q=>by
  have:=Cy (cf:=tY) σ H Q q
  obtain⟨ρ,h,ae,w,re,p⟩:=this;refine⟨ρ,h,ae,w,re,p.imp λit h1 ρ1 H1 l1 w1 k J hJ=>?_⟩;obtain⟨W,w0,tn⟩:=k J hJ;refine⟨W,w0,λi m ys σ2 H2 hW=>?_⟩;rcases tn i m ys σ2 H2 hW with z |⟨go,hl,Nx,hN,st⟩
  .exact .inl z
  .refine .inr ⟨go,hl,Nx,hN,λx H' hy=>?_⟩;obtain⟨ρ3,h3,ae3,d3,w3,re3,rd3,p3⟩:=st x H' hy;refine⟨ρ3,h3,ae3,d3,w3,re3,rd3,p3.imp λae4 h4 ρ4 H4 l4 w4 k4 σ4 re4=>?_⟩;obtain⟨ρ5,h5,ae5,w5,re5,p5⟩:=k4 σ4 re4;exact p5 ρ5 _ Le.refl w5
def GS(σ:St)(H:Hp)(Q:VK)(q:rdE K mg ES (eLC I sub g tY F) σ H Q):iG (rdI K mg ES I) sub (rdG K mg (λ_=>E0) g) AD (rdE K mg (λ_=>E0) F) σ H Q:=by
 have:=Cy (cf:=tY) σ H Q q
 obtain⟨ρ,h,ae,w,re,p⟩:=this;refine⟨ρ,h,ae,w,re,p.imp λit h1 ρ1 H1 l1 w1 k J hJ=>?_⟩;obtain⟨W,w0,tn⟩:=k J hJ;refine⟨W,w0,λi m ys σ2 H2 hW=>?_⟩;rcases tn i m ys σ2 H2 hW with z |⟨go,hl,Nx,hN,st⟩
 .exact .inl z
 .refine .inr ⟨go,hl,Nx,hN,λx H' hy=>?_⟩;obtain⟨ρ3,h3,ae3,d3,w3,re3,rd3,p3⟩:=st x H' hy;refine⟨ρ3,h3,ae3,d3,w3,re3,rd3,p3.imp λae4 h4 ρ4 H4 l4 w4 k4 σ4 re4=>?_⟩;obtain⟨ρ5,h5,ae5,w5,re5,p5⟩:=k4 σ4 re4;exact p5 ρ5 _ Le.refl w5
def E6(ht:∀σ H Q,rdE K mg ES F σ H Q->t σ H Q)(De:Ends)(σ:St)(H:Hp)(q:rdS K mg ES (gx F (gN i)) De σ H):rY t (kX i) De σ H:=by obtain⟨ρ,h,ae,w,re,p⟩:=q;exact ht σ H _ ⟨ρ,h,ae,w,re,bA p re λd h1 ρ1 H1 l1 w1 re1 p1 v rv=>fD p1 w1 (re1.set i rv)⟩
def K8(M:List Str)(kn:List (Str×NameKind))(N:List Str)(sub:Qd)
 (hc:X.calm=true) (hN:X.N.Nodup) (hix:X.N[iT]?=some xT) (hxl:Loc X.env.scope xT) (hi:DI K mg X ES tg am I)
 (hg:∀cl C s₂ H fp,DG K mg (aJ X N scope cl C s₂ H fp) (λ_=>E0) tg g) (he:∀cl C s₂ H fp,DE K mg (aJ X N scope cl C s₂ H fp) (λ_=>E0) h_ F)
 (hsw:swapsWith (.ListComp h_ [⟨tg,am,[],0⟩] scope pos) (some (.Name xT px)) spos.line X.env=pure true)
 (hM:X.N=M) (hkn:X.env.scope.names=kn) (d_:ff M scope.names sub N=true)
 (hk:scope.kind=.function) (hnc:∀x∈scope.names,x.2 ≠ .cell) (bn:∀x∈scope.names,x.2=.local->scope.names.lookup x.1=some .local)
 (hfr:gO kn scope.names=true)
 (hsl:sub.length=N.length) (hs:∀x,foldedSetIterable am X.env x=pure x) (hf:X.fn xT=true\/X.env.scope.names.lookup xT=some .local):
 DS K mg X ES (.Assign [.Name xT px] (.ListComp h_ [⟨tg,am,[],0⟩] scope pos) spos) (gx (eLC I sub g tY F) (gN iT)):=
 PS.imp (LB M kn N sub hc hN hix hxl hi hg he hsw hM hkn d_ hk hnc bn hfr hsl hs hf) (E6 GS)
end
noncomputable def whN(c:MT)(B:MS):Nat->MS
 |0,_,_=>.stuck
 |k+1,ae,h=>(c ae h).toS ae λb h1=>if b=true then (B ae h1).loop (whN c B k) else .nx ae h1
open Classical in
def sWh(c:MT)(B:MS):MS:=λae h=>if q:∃k,whN c B k ae h ≠ .stuck then whN c B q.choose ae h else .stuck
theorem kU:∀{k:Nat}{ae:AE}{h:AH},whN c B k ae h ≠ .stuck->whN c B (k+1) ae h=whN c B k ae h
 |0,_,_,q=>absurd rfl q
 |
  k+1,ae,h,q=>by
  have e1:whN c B (k+2) ae h=(c ae h).toS ae λb h1=>if b=true then (B ae h1).loop (whN c B (k+1)) else .nx ae h1:=rfl
  have e2:whN c B (k+1) ae h=(c ae h).toS ae λb h1=>if b=true then (B ae h1).loop (whN c B k) else .nx ae h1:=rfl
  rw[e2] at q;rw[e1,e2];cases r:c ae h with
  |exc _ _=>rfl
  |stuck=>rfl
  |
   ok b h1=>
   rw[r] at q;cases b with
   |false=>rfl
   |
    true=>
    have q':(B ae h1).loop (whN c B k) ≠ .stuck:=q;show (B ae h1).loop (whN c B (k+1))=(B ae h1).loop (whN c B k);cases s:B ae h1 with
    |nx a2 h2=>rw[s] at q';exact kU q'
    |ct a2 h2=>rw[s] at q';exact kU q'
    |_=>rfl
def xI(q:whN c B k ae h ≠ .stuck)(hj:k<=j):whN c B j ae h=whN c B k ae h:=by
 induction hj with
 |refl=>rfl
 |step _ ih=>rw[kU (by rw[ih];exact q),ih]
def yo(q:whN c B k ae h ≠ .stuck):sWh c B ae h=whN c B k ae h:=by
 have hq:∃k,whN c B k ae h ≠ .stuck:=⟨k,q⟩;unfold sWh;rw[dif_pos hq];rcases Nat.le_total hq.choose k with z |z
 .exact (xI hq.choose_spec z).symm
 .exact xI q z
section
variable{K:W.Frag}{mg:Qa}{X:Cx}{ES:St->XK}{c:Expr}{cf:MT}{U:MS}{sts:List Stmt}{pos:Pos}
def AS(hp:PassesOwn (model X.prog X.w) X.A X.env X.xe)(hc:DT K mg X ES c cf)(hb:DSs K mg X ES sts U):DS K mg X ES (.While c sts [] pos) (sWh cf U):=by
 refine PS.imp (BI hp hc hb) λDe σ H q_=>q_.el λρ h ae w re p=>?_;have hx:∃k,whN cf U k ae h ≠ .stuck:=Pj λz=>by unfold sWh at p;rw[dif_neg z] at p;exact p.elim
 obtain⟨k,hk⟩:=hx;rw[yo hk] at p;refine⟨λm σ2 H2=>∃ρ2 h2 ae2,Wd K mg ρ2 h2 H2/\RelE K mg ρ2 H2 ae2 σ2/\PostS K mg ρ2 H2 De ES (whN cf U m ae2 h2),⟨k,ρ,h,ae,w,re,p⟩,?_⟩;rintro m σ2 H2 ⟨ρ2,h2,ae2,w2,re2,p2⟩;cases m with
 |zero=>exact p2.elim
 |
  succ m=>
  refine⟨ρ2,h2,ae2,w2,re2,bA p2 re2 λb h3 ρ3 H3 l3 w3 re3 p3=>?_⟩;cases b with
  |true=>exact⟨λσ' H'=>∃ρ4 h4 ae4,Wd K mg ρ4 h4 H'/\RelE K mg ρ4 H' ae4 σ'/\PostS K mg ρ4 H' De ES (whN cf U m ae4 h4),λσ' H' q=>⟨m,Nat.lt_succ_self _,q⟩,ρ3,h3,ae2,w3,re3,rm p3 λae4 h4 ρ4 H4 σ4 l4 w4 re4 p4=>⟨ρ4,h4,ae4,w4,re4,p4⟩⟩
  |false=>exact fD p3 w3 re3
end
noncomputable def pz:Fn:=λds h=>match ds with
 | [d]=>match cM h d with
  |some xs=>.ok (.int xs.length) h
  |none=>match d with
   |.str z=>if z.length<=16777216 then .ok (.int z.length) h else .stuck
   |_=>.stuck
 |_=>.stuck
noncomputable def uX:Fn:=λds h=>match ds with
 | [.int i]=>.ok (.int (if i<0 then -i else i)) h
 |_=>.stuck
noncomputable def oR:Fn:=λds h=>match ds with
 | [.int i,.int j]=>.ok (.int (if j>i then j else i)) h
 |_=>.stuck
noncomputable def oM:Fn:=λds h=>match ds with
 | [.int i,.int j]=>.ok (.int (if j<i then j else i)) h
 |_=>.stuck
noncomputable def gp:List D->Option (List Bool)
 | []=>some []
 |.bl b::r=>(gp r).map (b :: ·)
 |_=>none
noncomputable def dG:List D->Option (List Int)
 | []=>some []
 |.int b::r=>(dG r).map (b :: ·)
 |_=>none
theorem qt:∀{ds:List D}{bs:List Bool},gp ds=some bs->ds=bs.map D.bl
 | [],bs,e=>by cases e;rfl
 |
  .bl b::r,bs,e=>by
  have e':(gp r).map (b :: ·)=some bs:=e;cases q:gp r with
  |none=>rw[q] at e';cases e'
  |some z=>rw[q] at e';cases e';rw[qt q];rfl
theorem jw:∀{ds:List D}{bs:List Int},dG ds=some bs->ds=bs.map D.int
 | [],bs,e=>by cases e;rfl
 |
  .int b::r,bs,e=>by
  have e':(dG r).map (b :: ·)=some bs:=e;cases q:dG r with
  |none=>rw[q] at e';cases e'
  |some z=>rw[q] at e';cases e';rw[jw q];rfl
noncomputable def p7:Fn:=λds h=>match ds with
 | [.ref n]=>match (aL h n).bind gp with
  |some bs=>.ok (.bl (bs.all id)) h
  |none=>.stuck
 |_=>.stuck
noncomputable def qr:Fn:=λds h=>match ds with
 | [.ref n]=>match (aL h n).bind dG with
  |some ns=>.ok (.int ns.sum) h
  |none=>.stuck
 |_=>.stuck
noncomputable def ma:Fn:=λds h=>match ds with
 | [d]=>match cM h d with
  |some xs=>.ok (.ref h.length) (h++[.lst xs])
  |none=>.stuck
 |_=>.stuck
noncomputable def vt:Fn:=λds h=>match ds with
 | [.int i]=>.ok (.int i) h
 | [.bl b]=>.ok (.int (if b then 1 else 0)) h
 |_=>.stuck
section
variable{K:W.Frag}{mg:Qa}{X:Cx}
def KG:aO K mg (λxs H Q=>(∃p ys,xs=[.ref p]/\(SqL K H p ys\/SqT K H p ys)/\Q (.int ys.length) H)\/(∃z,xs=[.str z]/\z.length<=sizeLine/\Q (.int z.length) H)) pz:=λρ h H ds vs Q E w rs p=>by
 unfold pz at p;split at p
 .cases
   rs with
  |
   cons r rs=>
   cases rs;split at p
   .rename_i xs e;obtain⟨pa,vs,rfl,hq,rs⟩:=dC w r e;exact .inl ⟨_,_,rfl,hq,by rw[<- rs.len];exact aw w (.int _) p⟩
   .split at p
    .cases r;split at p
     .rename_i hl;exact .inr ⟨_,rfl,hl,aw w (.int _) p⟩
     .exact p.elim
    .exact p.elim
 .exact p.elim
def Lk(h:X.K=K):CallR X (.builtin "len") (λxs H Q=>(∃p ys,xs=[.ref p]/\(SqL K H p ys\/SqT K H p ys)/\Q (.int ys.length) H)\/(∃z,xs=[.str z]/\z.length<=sizeLine/\Q (.int z.length) H)):=by subst h;exact rF.or pX
def IS:aO K mg (λxs H Q=>∃i,xs=[.int i]/\Q (.int (if i<0 then -i else i)) H) uX:=λρ h H ds vs Q E w rs p=>by
 unfold uX at p;split at p
 .cases rs with
  |cons r rs=>cases r;cases rs;exact⟨_,rfl,aw w (.int _) p⟩
 .exact p.elim
def EL:aO K mg (λxs H Q=>∃i j,xs=[.int i,.int j]/\Q (.int (if j>i then j else i)) H) oR:=λρ h H ds vs Q E w rs p=>by
 unfold oR at p;split at p
 .cases rs with
  |cons r rs=>cases rs with |cons r2 rs=>cases r;cases r2;cases rs;exact⟨_,_,rfl,aw w (.int _) p⟩
 .exact p.elim
def En:aO K mg (λxs H Q=>∃i j,xs=[.int i,.int j]/\Q (.int (if j<i then j else i)) H) oM:=λρ h H ds vs Q E w rs p=>by
 unfold oM at p;split at p
 .cases rs with
  |cons r rs=>cases rs with |cons r2 rs=>cases r;cases r2;cases rs;exact⟨_,_,rfl,aw w (.int _) p⟩
 .exact p.elim
def IF:aO K mg (λxs H Q=>∃(a:Addr) (bs:List Bool),xs=[.ref a]/\SqL K H a (bs.map V.bl)/\Q (.bl (bs.all id)) H) p7:=λρ h H ds vs Q E w rs p=>by
 unfold p7 at p;split at p
 .cases
   rs with
  |
   cons r rs=>
   cases r with
   |
    ref ea=>
    cases rs;split at p
    .rename_i bs e;obtain⟨xs,q,e2⟩:=NV.mp e
     .obtain⟨vs,h1,h2⟩:=aZ w ea q;rw[qt e2] at h2;rw[h2.bls] at h1;exact⟨_,bs,rfl,h1,aw w (.bl _) p⟩
    .exact p.elim
 .exact p.elim
def JA:aO K mg (λxs H Q=>∃(a:Addr) (ns:List Int),xs=[.ref a]/\SqL K H a (ns.map V.int)/\Q (.int ns.sum) H) qr:=λρ h H ds vs Q E w rs p=>by
 unfold qr at p;split at p
 .cases
   rs with
  |
   cons r rs=>
   cases r with
   |
    ref ea=>
    cases rs;split at p
    .rename_i bs e;obtain⟨xs,q,e2⟩:=NV.mp e
     .obtain⟨vs,h1,h2⟩:=aZ w ea q;rw[jw e2] at h2;rw[h2.ints] at h1;exact⟨_,bs,rfl,h1,aw w (.int _) p⟩
    .exact p.elim
 .exact p.elim
def E8:aO K mg (λxs H Q=>∃p ys,xs=[.ref p]/\(SqL K H p ys\/SqT K H p ys)/\∀l,H l=none->Q (.ref l) (upd H l (.lst ys))) ma:=λρ h H ds vs Q E w rs p=>by
 unfold ma at p;split at p
 .cases rs with
  |
   cons r rs=>
   cases rs;split at p
   .rename_i xs e;obtain⟨pa,vs,rfl,hq,rs⟩:=dC w r e;exact⟨_,_,rfl,hq,λl hl=>cW w rs hl p⟩
   .exact p.elim
 .exact p.elim
def IG:aO K mg (λxs H Q=>(∃i,xs=[.int i]/\Q (.int i) H)\/∃k,xs=[.bl k]/\Q (.int (if k then 1 else 0)) H) vt:=λρ h H ds vs Q E w rs p=>by
 unfold vt at p;split at p
 .cases rs with
  |cons r rs=>cases r;cases rs;exact .inl ⟨_,rfl,aw w (.int _) p⟩
 .cases rs with
  |cons r rs=>cases r;cases rs;exact .inr ⟨_,rfl,aw w (.int _) p⟩
 .exact p.elim
def KA(h:X.K=K):CallR X (.type "list") (λxs H Q=>∃p ys,xs=[.ref p]/\(SqL K H p ys\/SqT K H p ys)/\∀l,H l=none->Q (.ref l) (upd H l (.lst ys))):=by subst h;exact qb
end
inductive Cl where
 |b (n:String) |o (x:Str)
 deriving DecidableEq
noncomputable def tyD(h:AH):D->Option Cl
 |.non=>some (.b "NoneType")
 |.bl _=>some (.b "bool")
 |.int _=>some (.b "int")
 |.str _=>some (.b "str")
 |.tup _=>some (.b "tuple")
 |.exc x=>some (.o x)
 |.ref n=>match h[n]? with
  |some (.lst _)=>some (.b "list")
  |some (.fz _)=>some (.b "list")
  |some (.dct _)=>some (.b "dict")
  |_=>none
 |_=>none
noncomputable def clD:D->Option Cl
 |.ty n=>some (.b n)
 |.glb x=>some (.o x)
 |_=>none
def ClV(mg:Qa):Cl->Value->Prop
 |.b n,v=>v=.type n
 |.o x,v=>∃a,v=.ref a/\mg x=some (.ref a)
abbrev iO:=List (Cl×Cl×Bool)
structure KitsOk(K:W.Frag)(mg:Qa)(kt:iO):Prop where
 one:∀p∈kt,∀t v,ClV mg p.1 t->ClV mg p.2.1 v->W.kitOne K t v=some p.2.2
 xc:∀p∈kt,∀x C,p.1=.o x->mg x=some (.ref C)->XCls K C
noncomputable def kit(kt:iO)(t c:Cl):Option Bool:=(kt.find? λp=>decide (p.1=t)&&decide (p.2.1=c)).map (·.2.2)
noncomputable def eK(kt:iO)(t:Cl):List Cl->Option Bool
 | []=>some false
 |c::r=>match kit kt t c with
  |some true=>some true
  |some false=>eK kt t r
  |none=>none
noncomputable def rP(kt:iO):Fn:=λds h=>match ds with
 | [d,c]=>match tyD h d with
  |some t=>match c with
   |.tup cs=>match cs.mapM clD with
    |some (c0::cr)=>match eK kt t (c0::cr),kit kt t c0 with
     |some b,some _=>.ok (.bl b) h
     |_,_=>.stuck
    |_=>.stuck
   |c=>match clD c with
    |some cl=>match kit kt t cl with
     |some b=>.ok (.bl b) h
     |none=>.stuck
    |none=>.stuck
  |none=>.stuck
 |_=>.stuck
def mz(e:kit kt t c=some b):(t,c,b)∈kt:=by
 unfold kit at e;cases q:kt.find? (λp=>decide (p.1=t)&&decide (p.2.1=c)) with
 |none=>rw[q] at e;cases e
 |some p=>rw[q] at e;have h1:=List.find?_some q;have h2:=List.mem_of_find?_eq_some q;simp only[r_,OT] at h1;obtain⟨p1,p2,p3⟩:=p;have e3:p3=b:=G_ e;obtain⟨rfl,rfl⟩:=h1;subst e3;exact h2
section
variable{K:W.Frag}{mg:Qa}{X:Cx}{ρ:List Addr}{H:Hp}{h:AH}
def tG(ok:KitsOk K mg kt)(w:Wd K mg ρ h H)(r:RelD K mg ρ H d v)(e:tyD h d=some t)(k:kit kt t c=some b):∃tv,TyX K H v tv/\ClV mg t tv:=by
 cases r with
 |non=>cases e;exact⟨_,.of .non,rfl⟩
 |bl=>cases e;exact⟨_,.of (.bl _),rfl⟩
 |int=>cases e;exact⟨_,.of (.int _),rfl⟩
 |str=>cases e;exact⟨_,.of (.str _),rfl⟩
 |tup q rs=>cases e;exact⟨_,.sqT q,rfl⟩
 |exc m ex=>cases e;exact⟨_,.exc ex (ok.xc _ (mz k) _ _ rfl m),_,rfl,m⟩
 |
  ref ea=>
  unfold tyD at e;dsimp only at e;split at e
  .rename_i e1;cases e;obtain⟨vs,h1,h2⟩:=w.ob _ _ _ ea e1;exact⟨_,.of (.lst h1),rfl⟩
  .rename_i e1;cases e;obtain⟨o,vs,h1,h2⟩:=w.ob _ _ _ ea e1;exact⟨_,.of (.frz h1),rfl⟩
  .rename_i e1;cases e;obtain⟨ws,h1,_⟩:=w.ob _ _ _ ea e1;exact⟨_,.of (.dK h1),rfl⟩
  .cases e
 |_=>cases e
def tS(r:RelD K mg ρ H d v)(e:clD d=some c):∃cv,eI v=some cv/\ClV mg c cv:=by
 cases r with
 |ty n=>cases e;exact⟨_,rfl,rfl⟩
 |glb m=>cases e;exact⟨_,rfl,_,rfl,m⟩
 |_=>cases e
def AF:∀{ds:List D}{vs:List V}{cs:List Cl},RelDs K mg ρ H ds vs->ds.mapM clD=some cs->∃cvs,vs.mapM eI=some cvs/\Paired (ClV mg) cs cvs:=by
 intro ds;induction ds with
 |nil=>intro vs cs r e;cases r;have e':some ([]:List Cl)=some cs:=e;cases e';exact⟨[],rfl,.nil⟩
 |
  cons d ds ih=>
  intro vs cs r e;cases r with
  |
   cons r rr=>
   rw[O9] at e;cases q:clD d with
   |none=>rw[q] at e;cases e
   |
    some c=>
    rw[q] at e;cases q2:ds.mapM clD with
    |none=>rw[q2] at e;cases e
    |some cs'=>rw[q2] at e;have e':some (c::cs')=some cs:=e;cases e';obtain⟨cv,h1,h2⟩:=tS r q;obtain⟨cvs,h3,h4⟩:=ih rr q2;refine⟨cv::cvs,?_,.cons h2 h4⟩;rw[O9,h1,h3];rfl
def xt(ok:KitsOk K mg kt)(ht:ClV mg t tv):∀{cs:List Cl}{cvs:List Value}{b:Bool},Paired (ClV mg) cs cvs->eK kt t cs=some b->W.kitAny K tv cvs=some b:=by
 intro cs;induction cs with
 |nil=>intro cvs b r e;cases r;cases e;rfl
 |
  cons c cs ih=>
  intro cvs b r e;cases r with
  |
   cons r rr=>
   unfold eK at e;unfold W.kitAny;cases q:kit kt t c with
   |none=>rw[q] at e;cases e
   |
    some z=>
    rw[q] at e;rw[ok.one _ (mz q) _ _ ht r];cases z with
    |true=>exact e
    |false=>exact ih rr e
def xh:CallR X (.builtin "isinstance") (λxs H Q=>∃x tp cs t vs b,xs=[x,.ref tp]/\SqT X.K H tp cs/\TyX X.K H x t/\cs.mapM eI=some vs/\W.kitAny X.K t vs=some b/\Q (.bl b) H):=by intro pins s σ H xs us Q I r h;obtain⟨x,tp,cs,t,vs,b,rfl,ht,ty,hc,hk,q⟩:=h;obtain⟨u,w',rfl,rx,rc⟩:=oP r;cases rc;obtain⟨its,rv,⟨o,e,c,n,d⟩,_⟩:=I.tuple ht;obtain rfl:=nH hc rv;obtain⟨Hh,Z,p,hne⟩:=uv I rx ty;obtain⟨oc,od,odt,osl⟩:=o;have c':oc=.type "tuple":=c;have d':odt=.seq its.toArray n:=d;subst c' d';exact W.kia_tup Z I.kIn p e hk hne λtk=>⟨.bl b,H,I.tok _,rfl,q⟩
def Lw(hK:X.K=K):CallR X (.builtin "isinstance") (λxs H Q=>(∃x c t v b,xs=[x,c]/\TyX K H x t/\eI c=some v/\W.kitOne K t v=some b/\Q (.bl b) H)\/
 (∃x tp cs t vs b,xs=[x,.ref tp]/\SqT K H tp cs/\TyX K H x t/\cs.mapM eI=some vs/\W.kitAny K t vs=some b/\Q (.bl b) H)):=by subst hK;exact Bc.or xh
def IL(ok:KitsOk K mg kt):aO K mg (λxs H Q=>(∃x c t v b,xs=[x,c]/\TyX K H x t/\eI c=some v/\W.kitOne K t v=some b/\Q (.bl b) H)\/
 (∃x tp cs t vs b,xs=[x,.ref tp]/\SqT K H tp cs/\TyX K H x t/\cs.mapM eI=some vs/\W.kitAny K t vs=some b/\Q (.bl b) H)) (rP kt):=λρ h H ds vs Q E w rs p=>by
 unfold rP at p;split at p
 .cases
   rs with
  |
   cons r rs=>
   cases rs with
   |
    cons r2 rs=>
    cases rs;split at p
    .rename_i t e1;split at p
     .split
       at p
      .rename_i cs c0 cr e2;split at p
       .rename_i b b' e3 e4;cases r2 with
        |tup q rs2=>obtain⟨tv,h1,h2⟩:=tG ok w r e1 e4;obtain⟨cvs,h3,h4⟩:=AF rs2 e2;exact .inr ⟨_,_,_,tv,cvs,b,rfl,q,h1,h3,xt ok h2 h4 e3,aw w (.bl _) p⟩
       .exact p.elim
      .exact p.elim
     .split at p
      .rename_i cl e2;split at p
       .rename_i b e3;obtain⟨tv,h1,h2⟩:=tG ok w r e1 e3;obtain⟨cv,h3,h4⟩:=tS r2 e2;exact .inl ⟨_,_,tv,cv,b,rfl,h1,h3,ok.one _ (mz e3) _ _ h2 h4,aw w (.bl _) p⟩
       .exact p.elim
      .exact p.elim
    .exact p.elim
 .exact p.elim
end
def MtD(K:W.Frag)(mg:Qa)(r:V->List V->Hp->VK->Prop)(g:D->List D->AH->R D):Prop:=∀ρ h H dx ds x vs Q E,Wd K mg ρ h H->RelD K mg ρ H dx x->RelDs K mg ρ H ds vs->cS K mg ρ H Q E (g dx ds h)->r x vs H Q
noncomputable def iU(h:AH):D->Bool
 |.ref n=>(aL h n).isSome
 |_=>false
noncomputable def eM(g:D->List D->AH->R D)(F:ME)(A:MA):ME:=λae h=>(F ae h).bind λx h1=>if iU h1 x=true then (A ae h1).bind λds h2=>g x ds h2 else .stuck
noncomputable def eM0(g:D->List D->AH->R D)(F:ME):ME:=λae h=>(F ae h).bind λx h1=>if iU h1 x=true then g x [] h1 else .stuck
section
variable{K:W.Frag}{mg:Qa}{X:Cx}{ES:St->XK}{o e:Expr}{es:List Expr}{F G:ME}{A:MA}{pos:Pos}
def nE(w:Wd K mg ρ h H)(r:RelD K mg ρ H d v)(q:iU h d=true):tyV K "list" v H:=by
 cases r with
 |ref ea=>obtain⟨xs,e⟩:=Ov.mp q;obtain⟨vs,h1,_⟩:=aZ w ea e;exact .inl ⟨rfl,vs,h1⟩
 |_=>cases q
def de_m{name:Str}{id:String}{apos cpos:Pos}{r:V->List V->Hp->VK->Prop}{g:D->List D->AH->R D}(hK:X.K=K)(slot:Slot "list" name id)(hty:typeOf (.builtin id)=pure (.type "method_descriptor"))(hm:MtM X id r)(hd:MtD K mg r g)(ho:DE K mg X ES o F)(ha:DA K mg X ES (e::es) A)
 (c_:attributeBase o name X.env (eval o X.env)=eval o X.env)
 (hfew:((backTo cpos (starEach (e::es) X.env)).all (λx=>!x.1)&&(backToKw cpos (keywordEach [] X.env)).all (λx=>x.1.isSome)
  && decide ((e::es).length+([]:List Keyword).length+(if ([]:List Keyword).isEmpty then 0 else 1)<30))=true)
 (db:(apos.endLine==cpos.line)=true) (hs:starEach (e::es) X.env=(false,eval e X.env)::starEach es X.env) (b_:(backTo cpos (starEach es X.env)).any (·.1)=false):
 DE K mg X ES (.Call (.Attribute o name apos) (e::es) [] cpos) (eM g F A):=by
 subst hK;refine PE.imp (CT PySem.F.plainAttrs_list slot hty hm ho ha c_ hfew db hs b_) λσ H Q q_=>q_.el λρ h ae w re p=>⟨ρ,h,ae,w,re,p.bind.imp λdx h1 ρ1 H1 l1 w1 p1 x rx=>?_⟩;split at p1
 .rename_i hl;exact⟨nE w1 rx hl,ρ1,h1,ae,w1,re.mono l1,p1.bind.imp λds h2 ρ2 H2 l2 w2 p2 vs rs=>hd ρ2 h2 H2 dx ds x vs Q _ w2 (rx.mono l2) rs p2⟩
 .exact p1.elim
def NJ{name:Str}{id:String}{apos cpos:Pos}{r:V->List V->Hp->VK->Prop}{g:D->List D->AH->R D}(hK:X.K=K)(slot:Slot "list" name id)(hty:typeOf (.builtin id)=pure (.type "method_descriptor"))(hm:MtM X id r)(hd:MtD K mg r g)(ho:DE K mg X ES o F)
 (c_:attributeBase o name X.env (eval o X.env)=eval o X.env) (db:(apos.endLine==cpos.line)=true):DE K mg X ES (.Call (.Attribute o name apos) [] [] cpos) (eM0 g F):=by
 subst hK;refine PE.imp (Jb PySem.F.plainAttrs_list slot hty hm ho c_ db) λσ H Q q_=>q_.el λρ h ae w re p=>⟨ρ,h,ae,w,re,p.bind.imp λdx h1 ρ1 H1 l1 w1 p1 x rx=>?_⟩;split at p1
 .rename_i hl;exact⟨nE w1 rx hl,hd ρ1 h1 H1 dx [] x [] Q _ w1 rx .nil p1⟩
 .exact p1.elim
end
noncomputable def iP(h:AH)(d:D)(f:Nat->List D->R D):R D:=match d with
 |.ref n=>match h[n]? with
  |some (.lst xs)=>f n xs
  |_=>.stuck
 |_=>.stuck
noncomputable def jQ:D->List D->AH->R D:=λx ds h=>iP h x λn xs=>match ds with
 | [d]=>if xs.length<16777216 then .ok .non (h.set n (.lst (xs++[d]))) else .stuck
 |_=>.stuck
noncomputable def wJ:D->List D->AH->R D:=λx ds h=>iP h x λn xs=>match ds with
 | []=>match xs[xs.length-1]? with
  |some d=>.ok d (h.set n (.lst xs.dropLast))
  |none=>.stuck
 |_=>.stuck
noncomputable def fE(h:AH)(d:D):List D->Option (List Bool)
 | []=>some []
 |x::r=>match jx h x d,fE h d r with
  |some b,some bs=>some (b::bs)
  |_,_=>none
noncomputable def jq:D->List D->AH->R D:=λx ds h=>match x,ds with
 |.ref n,[d]=>match (aL h n).bind (fE h d) with
  |some bs=>if bs.idxOf true<bs.length then .ok (.int (bs.idxOf true:Nat)) h else .stuck
  |none=>.stuck
 |_,_=>.stuck
section
variable{K:W.Frag}{mg:Qa}{X:Cx}{ρ:List Addr}{H:Hp}{h:AH}
def jf(w:Wd K mg ρ h H)(r:RelD K mg ρ H d v)(p:cS K mg ρ H Q E (iP h d f)):
 ∃n xs a vs,d=.ref n/\h[n]?=some (.lst xs)/\ρ[n]?=some a/\v=.ref a/\H a=some (.lst vs)/\RelDs K mg ρ H xs vs/\cS K mg ρ H Q E (f n xs):=by
 unfold iP at p;split at p
 .cases r with
  |
   ref ea=>
   split at p
   .rename_i n xs e;obtain⟨vs,h1,h2⟩:=w.ob _ _ _ ea e;exact⟨_,_,_,vs,rfl,e,ea,rfl,h1,h2,p⟩
   .exact p.elim
 .exact p.elim
def kM(w:Wd K mg ρ h H)(ea:ρ[n]?=some a)(e:H a=some (.lst vs))(rs:RelDs K mg ρ H ys ws)(rd:RelD K mg ρ H d v)(p:cS K mg ρ H Q E (.ok d (h.set n (.lst ys)))):Q v (upd H a (.lst ws)):=by have l:Le ρ H ρ (upd H a (.lst ws)):=jN e oF;exact p ρ _ l (w.write ea e oF ⟨ws,bo,rs.mono l⟩) v (rd.mono l)
def yV:MtD K mg mQ jQ:=λρ h H dx ds x vs Q E w rx rs p=>by
 obtain⟨n,xs,a,us,rfl,e,ea,rfl,h1,h2,p⟩:=jf w rx p;split at p
 .cases rs with
  |
   cons r rs=>
   cases rs;split at p
   .rename_i hl;exact⟨a,us,_,rfl,rfl,h1,by rw[<- h2.len];exact hl,kM w ea h1 (h2.append (.cons r .nil)) .non p⟩
   .exact p.elim
 .exact p.elim
def Hr:MtD K mg BZ wJ:=λρ h H dx ds x vs Q E w rx rs p=>by
 obtain⟨n,xs,a,us,rfl,e,ea,rfl,h1,h2,p⟩:=jf w rx p;split at p
 .cases rs;split at p
  .rename_i d ed;obtain⟨v,ev,rv⟩:=h2.getD ed;rw[h2.len] at ev;refine⟨a,us,v,rfl,rfl,h1,ev,kM w ea h1 ?_ rv p⟩;rw[O7,O7,h2.len];exact h2.take _
  .exact p.elim
 .exact p.elim
inductive EqsR(K:W.Frag)(H:Hp)(y:V)(pd:PyData):List V->List Bool->Prop where
 |nil:EqsR K H y pd [] []
 |cons {x:V}{px:PyData}{xs:List V}{bs:List Bool} (rx:Rep K H x px) (hx:shp px=true) (r:EqsR K H y pd xs bs):EqsR K H y pd (x::xs) (PyData.eqv px pd::bs)
def rEqs(K:W.Frag)(H:Hp)(l:Addr)(y:V)(bs:List Bool):Prop:=∃xs pd,SqL K H l xs/\Rep K H y pd/\shp pd=true/\EqsR K H y pd xs bs
def EW(w:Wd K mg ρ h H)(ry:RelD K mg ρ H d y)(es:cR 164 h d=some pd):∀{xs:List D}{vs:List V}{bs:List Bool},RelDs K mg ρ H xs vs->fE h d xs=some bs->EqsR K H y pd vs bs:=by
 intro xs;induction xs with
 |nil=>intro vs bs r e;cases r;have e':some ([]:List Bool)=some bs:=e;cases e';exact .nil
 |
  cons x xs ih=>
  intro vs bs r e;cases r with
  |
   cons r rr=>
   unfold fE at e;split at e
   .rename_i b bs' e1 e2;cases e;unfold jx at e1;rw[es] at e1;split at e1
    .rename_i a c e3 e4;cases e4;split at e1
     .rename_i hs;cases e1;exact .cons (eS w 164 r e3) hs.1 (ih rr e2)
     .cases e1
    .cases e1
   .cases e
theorem zp:∀{xs:List D}{bs:List Bool},fE h d xs=some bs->xs=[]\/∃pd,cR 164 h d=some pd/\shp pd=true
 | [],_,_=>.inl rfl
 |
  x::xs,bs,e=>by
  right;unfold fE at e;split at e
  .rename_i b bs' e1 e2;unfold jx at e1;split at e1
   .rename_i a c e3 e4;split at e1
    .rename_i hs;exact⟨c,e4,hs.2⟩
    .cases e1
   .cases e1
  .cases e
def BC(I:Inv X pins σ H s)(hu:X.A.units+190<cLine)(ry:Rep X.K H y pd)(rv:RelV y v)(hy:shp pd=true):∃e:Value->Bool,∀{xs:List V}{bs:List Bool}{its:List Value},EqsR X.K H y pd xs bs->Vals xs its->its.map e=bs/\∀u∈its,SeqAt.EqAt X.A.in1 s u v (e u):=by
 classical
 obtain⟨as,q1⟩:=ry.reads I rv;refine⟨λu=>if q:∃d as,Reads s.heap u d as/\shp d=true then PyData.eqv q.choose pd else false,λ{xs bs its} r rr=>?_⟩;induction r generalizing its with
 |nil=>cases rr;exact⟨rfl,λu hu=>nomatch hu⟩
 |
  cons rx hx r ih=>
  rename_i x px xs bs;cases rr with
  |
   cons r1 rr=>
   rename_i u us;obtain⟨ih1,ih2⟩:=ih rr;obtain⟨as1,q2⟩:=rx.reads I r1;have hq:∃d as,Reads s.heap u d as/\shp d=true:=⟨px,as1,q2,hx⟩;have e1:(if q:∃d as,Reads s.heap u d as/\shp d=true then PyData.eqv q.choose pd else false)=PyData.eqv px pd:=by
    rw[dif_pos hq];obtain⟨as2,q3,hs3⟩:=hq.choose_spec
    have:=SeqAt.Reads.unique px hq.choose u _ _ (eQ hx) q2 q3
    rw[<- this]
   refine⟨by rw[o_,ih1,e1],λw hw=>?_⟩;rcases E_.mp hw with rfl |hw
   .dsimp only;rw[e1];exact SeqAt.eqAt_reads px pd X.A.in1 s _ _ _ _ q2 q1 (eQ hx) (eQ hy) (kE hx (by have:X.A.in1.units=X.A.units+1:=rfl;rw[this];omega))
   .exact ih2 w hw
def jR(K:W.Frag):V->List V->Hp->VK->Prop:=λx vs H Q=>∃l y bs,x=.ref l/\vs=[y]/\rEqs K H l y bs/\bs.idxOf true<bs.length/\Q (.int (bs.idxOf true:Nat)) H
def EqsR.len(r:EqsR K H y pd xs bs):xs.length=bs.length:=by
 induction r with
 |nil=>rfl
 |cons _ _ _ ih=>rw[B_,B_,ih]
def Aw(hu:X.A.units+190<cLine):MtM X "list.index" (jR X.K):=by
 intro pins s σ H x vs v us Q I rx rv h;obtain⟨l,y,bs,rfl,rfl,⟨xs,pd,hq,ry,hy,re⟩,hi,q⟩:=h;cases rx;obtain⟨u,rfl,ru⟩:=rv.one;obtain⟨e,he⟩:=BC I hu ry ru hy;obtain⟨its,r,⟨o,n,eo,hc,hd,hs⟩,hz⟩:=I.list hq;obtain⟨m1,m2⟩:=he re r;have a_:=r.length;have hbl:=re.len;have hn:=fW;have hj:bs.idxOf true<its.toArray.size:=by rw[x_];omega
 have eo':s.heap.get? l=some { cls:=.type "list",dict:=o.dict,data:=.seq its.toArray n,slots:=o.slots }:=by rw[eo];obtain⟨oc,od,odt,osl⟩:=o;have h1:oc=.type "list":=hc;have h2:odt=.seq its.toArray n:=hs;subst h1 h2;rfl
 have em:∀(m:Nat) (hm:m<its.toArray.size),bs[m]?=some (e its.toArray[m]):=λm hm=>by
  rw[<- m1,L_];have:its[m]?=some its.toArray[m]:=by rw[y_ (by simpa using hm)];rfl
  rw[this];rfl
 refine call_meets PySem.F.slot_list_index ⟨_,eo',rfl⟩ PySem.F.entry_list_index (PySem.F.args_list_index_2 _ _)
  (SeqAt.list_indexAt l its.toArray n o.dict o.slots u e (bs.idxOf true) hj (by omega) ?_ ?_) ⟨eo',λw hw=>m2 w (by simpa using hw),?_⟩
 .have:=em _ hj
  rw[y_ hi,List.getElem_idxOf] at this;exact (G_ this).symm
 .intro m
   hm hlt
  have:=em m hm
  have hb:m<bs.length:=by omega
  rw[y_ hb] at this;have h3
   : bs[m]≠true:=λz=>by
   have h4:bs.idxOf true<=m:=by
    have:=List.idxOf_lt_length_iff (l:=bs) (a:=true)
    rcases Nat.lt_or_ge m (bs.idxOf true) with z' |z'
    .exact absurd z (by have h5:=List.not_of_lt_findIdx (xs:=bs) (p:=(· == true)) (i:=m) z';simpa using h5)
    .exact z'
   omega
  have h4:e its.toArray[m]=bs[m]:=(G_ this).symm;rw[h4];exact Bool.eq_false_iff.mpr h3
 .exact⟨.int _,H,I.tok _,⟨_,rfl⟩,q⟩
def AI:MtD K mg (jR K) jq:=λρ h H dx ds x vs Q E w rx rs p=>by
 unfold jq at p;split at p
 .cases
   rx with
  |
   ref ea=>
   cases rs with
   |
    cons r rs=>
    cases rs;split at p
    .rename_i bs e;split at p
     .rename_i hl;obtain⟨xs,q,e2⟩:=NV.mp e;obtain⟨vs,h1,h2⟩:=aZ w ea q;rcases zp e2 with rfl |⟨pd,h3,h4⟩
      .have e3:some ([]:List Bool)=some bs:=e2;cases e3;exact absurd hl (by simp)
      .exact⟨_,_,bs,rfl,rfl,⟨vs,pd,h1,eS w 164 r h3,h4,EW w r h3 h2 e2⟩,hl,aw w (.int _) p⟩
     .exact p.elim
    .exact p.elim
 .exact p.elim
def JG(h:X.K=K)(hu:X.A.units+190<cLine):MtM X "list.index" (jR K):=by subst h;exact Aw hu
def Room.u100(r:Room k A):A.units+190<cLine:=by have:=r.un;omega
end
noncomputable def wL(o i v:D)(h:AH):R Unit:=match o,i with
 |.ref n,.int k=>match h[n]? with
  |some (.lst xs)=>match ixN xs.length k with
   |some j=>.ok () (h.set n (.lst (xs.set j v)))
   |none=>.stuck
  |_=>.stuck
 |_,_=>.stuck
section
variable{K:W.Frag}{mg:Qa}{X:Cx}{ES:St->XK}{o i:Expr}{F G:ME}{pos:Pos}
def EF:mJ K mg vx wL:=λρ h H do_ di dv o i v Q E w ro ri rv p=>by
 unfold wL at p;split at p
 .cases
   ro with
  |
   ref ea=>
   cases ri;split at p
   .rename_i n k xs e;split at p
    .rename_i j ej;obtain⟨vs,h1,h2⟩:=w.ob _ _ _ ea e;have l:Le ρ H ρ (upd H _ (.lst (vs.set j v))):=jN h1 oF;exact⟨_,vs,_,j,rfl,rfl,h1,by rw[<- h2.len];exact ej,p ρ _ l (w.write ea h1 oF ⟨_,bo,(h2.set rv j).mono l⟩)⟩
    .exact p.elim
   .exact p.elim
 .exact p.elim
def KD(ho:DE K mg X ES o F)(hi:DE K mg X ES i G)(hs:rB X t)(hd:mJ K mg t f)
 (ha:∀v,assign (.Subscript o i pos) X.env v=(do
  let ov <- holding [v] (eval o X.env)
  let iv <- holding [v,ov] (eval i X.env)
  standAt pos
  holding [v,ov,iv] (setItem ov iv v)
  release [v,ov,iv] [])):DG K mg X ES (.Subscript o i pos) (gS F G f):=
 PG.imp (HU ho hi hs ha) λv σ H Q q_=>q_.el λρ h ae d w re rd p=>
  ⟨ρ,h,ae,w,re,p.bind.imp λdo_ h1 ρ1 H1 l1 w1 p1 o' ro=>⟨ρ1,h1,ae,w1,re.mono l1,p1.bind.imp λdi h2 ρ2 H2 l2 w2 p2 i' ri=>
   hd ρ2 h2 H2 do_ di d o' i' v _ _ w2 (ro.mono l2) ri ((rd.mono l1).mono l2) (p2.bind.imp λ_ h3 ρ3 H3 l3 w3 p3=>p3 ρ3 H3 Le.refl w3 σ (((re.mono l1).mono l2).mono l3))⟩⟩
end
noncomputable def cutD(xs:List D)(lo hi:Option Int):List D:=(xs.drop (HT.sIx xs.length 0 lo)).take (HT.sIx xs.length xs.length hi-HT.sIx xs.length 0 lo)
abbrev MO:=AE->AH->R (Option Int)
noncomputable def vT:MO:=λ_ h=>.ok none h
noncomputable def vj(F:ME):MO:=λae h=>(F ae h).bind λd h1=>match d with
 |.int i=>.ok (some i) h1
 |_=>.stuck
noncomputable def gSl(x:D)(lo hi:Option Int)(h:AH):R D:=match x with
 |.tup xs=>if HT.sIx xs.length 0 lo=0/\HT.sIx xs.length xs.length hi=xs.length then .stuck else .ok (.tup (cutD xs lo hi)) h
 |.ref n=>match aL h n with
  |some xs=>.ok (.ref h.length) (h++[.lst (cutD xs lo hi)])
  |none=>.stuck
 |.kl xs=>.ok (.ref h.length) (h++[.lst (cutD xs lo hi)])
 |_=>.stuck
noncomputable def eSl(F:ME)(L U:MO):ME:=λae h=>(F ae h).bind λx h1=>(L ae h1).bind λlo h2=>(U ae h2).bind λhi h3=>gSl x lo hi h3
section
variable{K:W.Frag}{mg:Qa}{X:Cx}{ES:St->XK}{e:Expr}{F:ME}{L U:MO}{lo hi:Option Expr}{pos p2:Pos}
def rdO(K:W.Frag)(mg:Qa)(ES:St->XK)(F:MO):TO:=λσ H Q=>∃ρ h ae,Wd K mg ρ h H/\RelE K mg ρ H ae σ/\PostG K mg ρ H (ES σ) (λo _ ρ' H'=>Q o H') (F ae h)
def DO(K:W.Frag)(mg:Qa)(X:Cx)(ES:St->XK)(e:Option Expr)(F:MO):Prop:=PO X e (rdO K mg ES F)
def D3:DO K mg X ES none vT:=PO.imp E4 λσ H Q ⟨ρ,h,ae,w,re,p⟩=>p ρ H Le.refl w
def Dw(he:DE K mg X ES e F):DO K mg X ES (some e) (vj F):=PO.imp (EU he) λσ H Q ⟨ρ,h,ae,w,re,p⟩=>⟨ρ,h,ae,w,re,p.bind.imp λd h1 ρ1 H1 l1 w1 p1 v rv=>by
 split at p1
 .cases rv;exact⟨_,rfl,p1 ρ1 H1 Le.refl w1⟩
 .exact p1.elim⟩
def mF(r:RelDs K mg ρ H xs vs)(lo hi:Option Int):RelDs K mg ρ H (cutD xs lo hi) (jv vs lo hi):=by unfold cutD jv;rw[<- r.len];exact (r.drop _).take _
def slK(h:X.K=K):SlR X (λx lo hi H Q=>rSlL K x lo hi H Q\/rSlT K x lo hi H Q):=by subst h;exact Ei.or FK
def zo(hK:X.K=K)(he:DE K mg X ES e F)(hl:DO K mg X ES lo L)(hu:DO K mg X ES hi U):DE K mg X ES (.Subscript e (.Slice lo hi none p2) pos) (eSl F L U):=
 PE.imp (
  zD (slK hK) he hl hu) λσ H Q q_=>q_.el λρ h ae w re p=>⟨ρ,h,ae,w,re,p.bind.imp λd h1 ρ1 H1 l1 w1 p1 x rx=>⟨ρ1,h1,ae,w1,re.mono l1,p1.bind.imp λlo h2 ρ2 H2 l2 w2 p2=>⟨ρ2,h2,ae,w2,(re.mono l1).mono l2,p2.bind.imp λhi h3 ρ3 H3 l3 w3 p3=>by
  have rx3:=(rx.mono l2).mono l3;unfold gSl at p3;split at p3
  .split at p3
   .exact p3.elim
   .rename_i hn;cases rx3 with
    |tup q rs=>exact .inr ⟨_,_,rfl,q,by rw[<- rs.len];exact hn,λl hl=>iu w3 (mF rs lo hi) hl p3⟩
  .split at p3
   .rename_i xs e1;cases rx3 with
    |ref ea=>obtain⟨vs,q,rs⟩:=aZ w3 ea e1;exact .inl ⟨_,_,rfl,q,λl hl=>cW w3 (mF rs lo hi) hl p3⟩
   .exact p3.elim
  .cases rx3 with
   |kl q rs=>exact .inl ⟨_,_,rfl,.inr q,λl hl=>cW w3 (mF rs lo hi) hl p3⟩
  .exact p3.elim⟩⟩⟩
end
noncomputable def qU(d:D)(h:AH):R Bool:=match d with
 |.non=>.ok false h
 |.bl b=>.ok b h
 |.int i=>.ok (i != 0) h
 |d=>match cM h d with
  |some xs=>.ok (!xs.isEmpty) h
  |none=>.stuck
noncomputable def tTr(F:ME):MT:=λae h=>(F ae h).bind qU
section
variable{K:W.Frag}{mg:Qa}{X:Cx}{ES:St->XK}{a:Expr}{F:ME}
def AQ(hK:X.K=K)(ha:DE K mg X ES a F)(he:∀ci,isTrue a X.env ci=(do let v <- ci;standAt a.pos;holding [v] (truthy v))):DT K mg X ES a (tTr F):=by
 subst hK;refine PT.imp (AY ha he) λσ H Q q_=>q_.el λρ h ae w re p=>⟨ρ,h,ae,w,re,p.bind.imp λd h1 ρ1 H1 l1 w1 p1 x rx=>?_⟩;have items:∀{xs:List D},cM h1 d=some xs->Q (!xs.isEmpty) H1->∃k,Aj X.K x H1 k/\Q k H1:=λ{xs} e q=>by
  obtain⟨pa,vs,rfl,hq,rs⟩:=dC w1 rx e;have ee:xs.isEmpty=vs.isEmpty:=by cases rs <;> rfl
  rw[ee] at q;rcases hq with hq |hq
  .exact⟨_,.inl ⟨vs,hq,rfl⟩,q⟩
  .exact⟨_,.inr (.inl ⟨vs,hq,rfl⟩),q⟩
 unfold qU at p1;split at p1
 .cases rx;exact⟨_,rfl,p1 ρ1 H1 Le.refl w1⟩
 .cases rx;exact⟨_,rfl,p1 ρ1 H1 Le.refl w1⟩
 .cases rx;exact⟨_,rfl,p1 ρ1 H1 Le.refl w1⟩
 .split at p1
  .rename_i xs e1;exact items e1 (p1 ρ1 H1 Le.refl w1)
  .exact p1.elim
end
section
variable{X:Cx}{pins pins2 pn:Qb}{σ:St}{H:Hp}{s:Shared}{xe:Qc}
end
section
variable{K:W.Frag}{mg:Qa}{X:Cx}{ES:St->XK}{x n:Str}{C:Addr}{i:Nat}{body suite:List Stmt}{b₀:Stmt}{B U:MS}{np hpos pos:Pos}{mro:List Str}
end
structure Script(h:AH)(d:D)(ns:List Int):Prop where
 form:(∃n,d=.ref n/\h[n]?=some (.fz (ns.map D.int)))\/d=.kl (ns.map D.int)
theorem iF{K:W.Frag}{mg:Qa}{ρ:List Addr}{H:Hp}:∀(ns:List Int),RelDs K mg ρ H (ns.map D.int) (ns.map V.int)
 | []=>.nil
 |_::r=>.cons (.int _) (iF r)
section
variable{K:W.Frag}{mg:Qa}{ρ ρ1 ρ2:List Addr}{H H1:Hp}{h:AH}
end
section
variable{K:W.Frag}{mg:Qa}{ρ:List Addr}{H:Hp}{h:AH}
end
noncomputable def wj:D->D->AH->R D:=gOr (gI λi j=>.int (i+j)) kQ
noncomputable def Au:D->D->AH->R D:=gI λi j=>.int (i-j)
def CMulA(i j:Int):Prop:=CQ i j\/CMul i j
def A1:D->D->AH->R D:=gIc CMulA λi j=>.int (i*j)
def An:D->D->AH->R D:=gIc CDivB λi j=>.int (i.fdiv j)
def Ab:D->D->AH->R D:=gIc (λ_ j=>j≠0) λi j=>.int (i.fmod j)
def zH:D->D->AH->R D:=gIc ft λi j=>.int (i^j.toNat)
def A0:D->D->AH->R D:=gIc ft λi j=>.int (i*2^j.toNat)
noncomputable def gLt:D->D->AH->R D:=gI λi j=>.bl (decide (i<j))
noncomputable def gGt:D->D->AH->R D:=gI λi j=>.bl (decide (j<i))
noncomputable def gGe:D->D->AH->R D:=gI λi j=>.bl (decide (j<=i))
noncomputable def vR:D->AH->R D:=λx h=>match x with
 |.int i=>.ok (.int (-i)) h
 |_=>.stuck
noncomputable def vZ(n:Nat)(S:Fn)(A:MA):ME:=eFn (λds h=>if ds.length=n then S ds h else .stuck) A
section
variable{K:W.Frag}{mg:Qa}{X:Cx}
def HJ(h:X.K=K):OpR X (binaryOp .Add) (λx y H Q=>rI0 (λi j=>.int (i+j)) x y H Q\/(my x y H Q\/(jH K x y H Q\/jJ K x y H Q))):=FI.or (catK h)
def KJ:OpD K mg (λx y H Q=>rI0 (λi j=>.int (i+j)) x y H Q\/(my x y H Q\/(jH K x y H Q\/jJ K x y H Q))) wj:=(js λ_ _ _ _=>.int _).or Fy
def Gu:OpD K mg (rI0 λi j=>.int (i-j)) Au:=js λ_ _ _ _=>.int _
def JZ:OpR X (binaryOp .Mult) (rI CMulA λi j=>.int (i*j)):=by
 intro pins s σ H x y v u Q I rx ry h;obtain⟨i,j,e1,e2,hc,q⟩:=h;rcases hc with hc |hc
 .exact D7 pins s σ H x y v u Q I rx ry ⟨i,j,e1,e2,hc,q⟩
 .exact Gk pins s σ H x y v u Q I rx ry ⟨i,j,e1,e2,hc,q⟩
def Ke:OpD K mg (rI CMulA λi j=>.int (i*j)) A1:=lO λ_ _ _ _=>.int _
def Il:OpD K mg (rI CDivB λi j=>.int (i.fdiv j)) An:=lO λ_ _ _ _=>.int _
def GD:OpD K mg (rI (λ_ j=>j≠0) λi j=>.int (i.fmod j)) Ab:=lO λ_ _ _ _=>.int _
def FR:OpD K mg (rI ft λi j=>.int (i^j.toNat)) zH:=lO λ_ _ _ _=>.int _
def JH:OpD K mg (rI ft λi j=>.int (i*2^j.toNat)) A0:=lO λ_ _ _ _=>.int _
def NL:OpD K mg (rI0 λi j=>.bl (decide (i<j))) gLt:=js λ_ _ _ _=>.bl _
def NF:OpD K mg (rI0 λi j=>.bl (decide (j<i))) gGt:=js λ_ _ _ _=>.bl _
def K2:OpD K mg (rI0 λi j=>.bl (decide (j<=i))) gGe:=js λ_ _ _ _=>.bl _
def Iu:UnD K mg (rU λi=>.int (-i)) vR:=λρ h H dx x Q E w rx p=>by
 unfold vR at p;split at p
 .cases rx;exact⟨_,rfl,aw w (.int _) p⟩
 .exact p.elim
def EJ:IpD K mg (ipI λi j=>i+j) (gI λi j=>.int (i+j)):=λρ h H dx dy x y Q E w rx ry p=>by
 unfold gI at p;split at p
 .cases rx;cases ry;exact⟨_,_,rfl,rfl,aw w (.int _) p⟩
 .exact p.elim
variable{ES:St->XK}{e:Expr}{es:List Expr}{A:MA}{pos:Pos}
def zx(C:Callee X.prog X.w X.K X.mg X.base x k ps (spD K mg n S))(hr:Room k X.A)(hg:Gl X x)(hx:jG X ES)(ha:DA K mg X ES (e::es) A)
 (hdb:(x==("__debug__" : Str))=false) (he:starEach (e::es) X.env=(false,eval e X.env)::starEach es X.env) (hpl:(backTo pos (starEach es X.env)).any (·.1)=false):
 DE K mg X ES (.Call (.Name x p) (e::es) [] pos) (vZ n S A):=ER C hr hg hx ha hdb he hpl
end
section
variable{ae:AE}{h:AH}
@[simp] theorem eO(a:α)(h:AH)(f:α->AH->R β):(R.ok a h).bind f=f a h:=rfl
end
def gk(h1:pd.canLay0=true)(h2:pd.depth<=160):shp pd=true:=by unfold shp;rw[h1,D_ h2];rfl
def Sm(n:Nat)(x:Int):Prop:=x.natAbs<2^n
def Sm.mono(h:Sm n x)(l:n<=m):Sm m x:=A_ h (Oe (by omega) l)
def Sm.mul(h:Sm n x)(k:Sm m y):Sm (n+m) (x*y):=by unfold Sm at *;rw[Oo,ON];exact Nat.mul_lt_mul'' h k
def Sm.bits(h:Sm n x):Builtin.Int.intBits x<=n:=intBits_le_iff.mpr h
def Sm.of_le(h:Sm n y)(l:x.natAbs<=y.natAbs):Sm n x:=OE l h
def CMulA.of(h:Sm n x)(k:Sm m y)(hn:n<=100000)(hm:m<=100000):CMulA x y:=.inl ⟨C_ h.bits hn,C_ k.bits hm⟩
def CMulA.left(h:-(2^64)<x)(k:x<2^64):CMulA x y:=.inr (.inl ⟨h,k⟩)
def CMulA.right(h:-(2^64)<y)(k:y<2^64):CMulA x y:=.inr (.inr ⟨h,k⟩)
def CDivB.of(h0:y≠0)(h:Sm 8000 y):CDivB x y:=⟨h0,h.bits⟩
structure Sz(n:Nat)(q:Rat):Prop where
 top:Sm n q.num
 bot:Sm n (q.den:Int)
def yF{a b:Int}(hb:b≠0):((a:Rat)/(b:Rat)).num*b=a*((a:Rat)/(b:Rat)).den:=by
 have h2:=Rat.num_divInt_den ((a:Rat)/(b:Rat));have h3:Rat.divInt ((a:Rat)/(b:Rat)).num (((a:Rat)/(b:Rat)).den:Int)=Rat.divInt a b:=by rw[h2,Rat.divInt_eq_div]
 exact (Rat.divInt_eq_divInt_iff (by have:=((a:Rat)/(b:Rat)).den_nz;omega) hb).mp h3
def uo(q:Rat):Int.gcd q.num q.den=1:=by
 have:=q.reduced
 exact this
def me(hb:b≠0):Fr.T a b=((a:Rat)/(b:Rat)).num/\Fr.B a b=(((a:Rat)/(b:Rat)).den:Int):=by
 refine Fr.uniq (Fr.B_pos hb) (by have:=((a:Rat)/(b:Rat)).den_pos;omega) (Fr.low hb) (uo _) ?_;have h1:=Fr.cross (a:=a) hb;have h2:=yF (a:=a) hb;generalize ((a:Rat)/(b:Rat)).num=n at *;generalize (((a:Rat)/(b:Rat)).den:Int)=d at *;generalize Fr.T a b=x at *;generalize Fr.B a b=y at *;have h3:(x*d)*b=(n*y)*b:=by
  calc x*d*b=(x*b)*d:=by rw[Pp]
   _=a*y*d:=by rw[h1]
   _=(a*d)*y:=by rw[Pp]
   _=n*b*y:=by rw[h2]
   _=n*y*b:=by rw[Pp]
 exact Pd hb h3
def vU{a b:Int}(hb:b≠0):((a:Rat)/(b:Rat)).num.natAbs<=a.natAbs:=by
 have h:=(me (a:=a) hb).1;rw[<- h];have h1:=Fr.T_mul (a:=a) hb;have h2:=Fr.dv_ne (a:=a) hb;have h3:(Fr.T a b).natAbs*(Fr.dv a b).natAbs=a.natAbs:=by rw[<- Oo,h1]
 have h4:1<=(Fr.dv a b).natAbs:=by omega
 calc (Fr.T a b).natAbs=(Fr.T a b).natAbs*1:=by omega
  _<=(Fr.T a b).natAbs*(Fr.dv a b).natAbs:=OB _ h4
  _=a.natAbs:=h3
def wI{a b:Int}(hb:b≠0):((((a:Rat)/(b:Rat)).den:Int)).natAbs<=b.natAbs:=by
 have h:=(me (a:=a) hb).2;rw[<- h];have h1:=Fr.B_mul (a:=a) hb;have h2:=Fr.dv_ne (a:=a) hb;have h3:(Fr.B a b).natAbs*(Fr.dv a b).natAbs=b.natAbs:=by rw[<- Oo,h1]
 have h4:1<=(Fr.dv a b).natAbs:=by omega
 calc (Fr.B a b).natAbs=(Fr.B a b).natAbs*1:=by omega
  _<=(Fr.B a b).natAbs*(Fr.dv a b).natAbs:=OB _ h4
  _=b.natAbs:=h3
def Sz.div(hb:b≠0)(ha:Sm n a)(hb':Sm m b)(k:Nat)(h1:n<=k)(h2:m<=k):Sz k ((a:Rat)/(b:Rat)):=
 ⟨(ha.of_le (vU hb)).mono h1,(hb'.of_le (wI hb)).mono h2⟩
def bT(q:Rat):(q.den:Int)≠0:=by have:=q.den_nz;omega
def dk(q:Rat):q=(q.num:Rat)/((q.den:Int):Rat):=by
 have:=Rat.num_divInt_den q
 rw[Rat.divInt_eq_div] at this;exact this.symm
def fS{b:Int}(h:b≠0):(b:Rat)≠0:=by intro z;exact h (by exact_mod_cast z)
def tQ(p q:Rat):p+q=((p.num*q.den+q.num*p.den:Int):Rat)/((p.den*q.den:Int):Rat):=by
 have h1:=fS (bT p);have h2:=fS (bT q)
 conv=>lhs;rw[dk p,dk q]
 simp only[Rat.intCast_add,N8];grind
def ui(p q:Rat):p*q=((p.num*q.num:Int):Rat)/((p.den*q.den:Int):Rat):=by
 have h1:=fS (bT p);have h2:=fS (bT q)
 conv=>lhs;rw[dk p,dk q]
 simp only[N8];grind
def Sz.mul(hp:Sz n p)(hq:Sz m q):Sz (n+m) (p*q):=by rw[ui];exact Sz.div (by have:=bT p;have:=bT q;exact O1 ‹_› ‹_›) (hp.top.mul hq.top) (hp.bot.mul hq.bot) _ (by omega) (by omega)
def hX{q:Rat}:0<q.num ↔ 0<q:=by
 have h1:=Rat.num_nonneg (q:=q);have h2:=PZ (q:=q);constructor
 .intro h;refine Rat.lt_of_le_of_ne (h1.mp (by omega)) λz=>?_
  have:=h2.mpr z.symm
  omega
 .intro h;have h3:=h1.mpr (Rat.le_of_lt h);have h4:q.num≠0:=λz=>(Rat.ne_of_lt h) (h2.mp z).symm;omega
def lK(p q:Rat):p<q ↔ p.num*q.den<q.num*p.den:=Rat.lt_iff p q
section
variable(ae:AE)(h:AH)
end
theorem jr:∀{ws:List Int},(∀w∈ws,0<=w)->0<=ws.sum
 | [],_=>Int.le_refl _
 |
  w::ws,h=>by
  have:=h w (m_ ..)
  have:=jr (ws:=ws) λv hv=>h v (l_ _ hv)
  rw[N1];omega
def F9{K:W.Frag}{h:Heap}{mg:Qa}{x:Str}{a:Addr}{dd:Option Addr}{its:Array Value}{n:Nat}{sl:Array (Option Value)}{vs:List V}{ds:List D}(X:K.In h)(G:h.Ns mainGlobals mg)(e:W.nsIn K mainGlobals x=some (some (.ref a)))
 (l:K.lookup a=some ⟨.type "tuple",dd,.seq its n,sl⟩) (hs:its.size<=sizeLine) (hv:Vals vs its.toList) (hr:∀ρ H,RelDs K mg ρ H ds vs):GC K mg x (.tup ds):=
 ⟨_,.ref a,W.mg_of X G e,rfl,λρ H=>.tup (.inr ⟨_,its,n,l,rfl,rfl,hs,hv⟩) (hr ρ H)⟩
def By{P:Program}{w:World}{H:Hp}(h:Heap)(hb:sysModules<h.objs.size):ObjOk P w H (h.push { cls:=.type "dict",data:=.dict #[] }) h.objs.size (.dK []):=
 ⟨N2 _,F_.mpr (Ne.symm (NY hb)),[],.nil,Heap.DictOf.new h⟩
def Inv.big{X:Cx}{pins:Qb}{σ:St}{H:Hp}{s:Shared}(I:Inv X pins σ H s):sysModules<s.heap.objs.size:=by have h:mainGlobals<s.heap.objs.size:=(I.mod.glob.keeps I.bk).lt;exact PY (by decide) h
def HE:TE:=λ_ H Q=>∀p,H p=none->Q (.ref p) (upd H p (.dK []))
noncomputable def eD0:ME:=λ_ h=>.ok (.ref h.length) (h++[.dct []])
section
variable{K:W.Frag}{mg:Qa}{X:Cx}{ES:St->XK}{pos:Pos}
def Bk:PE X (.Dict [] [] pos) HE:=λpins s σ H Q I h=>
 wpAny_Dict_empty ⟨.ref s.heap.objs.size,_,I.laid (a:=s.heap.objs.size) (o:=.dK []) (t':=s.toks) (λ_ _ q=>t_ _ q) (n_ _) (By s.heap I.big),rfl,h _ (I.hok.fresh (n_ _))⟩
def Mh:DE K mg X ES (.Dict [] [] pos) eD0:=PE.imp Bk λσ H Q ⟨ρ,h,ae,w,re,q⟩ p hp=>by have l:Le ρ H (ρ++[p]) (upd H p (.dK [])):=(bU hp).trans jE;refine q (ρ++[p]) _ l (w.alloc hp ⟨[],bo,rfl,.nil⟩) _ (.ref ?_);rw[<- w.len,NX (n_ _),Pa];rfl
end
variable{K:W.Frag}{mg:Qa}
end L2
namespace L2
open PySem PySem.Spec PyProof.Rows
section
variable{K:W.Frag}{mg:Qa}{X:Cx}{ES:St->XK}{e:Expr}{es:List Expr}{A:MA}{pos:Pos}
end
section
variable{K:W.Frag}{mg:Qa}{X:Cx}{ES:St->XK}{e a b c o lo hi:Expr}{F G L U:ME}{pos p2:Pos}{ρ:List Addr}{H:Hp}{h:AH}{ae:AE}
end
section
variable{κ:Type}[DecidableEq κ]
noncomputable def eV(kvs:List (κ×V))(k:κ):Option V:=(kvs.find? λkv=>decide (kv.1=k)).map (·.2)
noncomputable def dY(kvs:List (κ×V))(k:κ)(v:V):List (κ×V):=
 if (kvs.any λkv=>decide (kv.1=k))=true then kvs.map (λkv=>if kv.1=k then (kv.1,v) else kv) else kvs++[(k,v)]
def kg{p:κ×V}{r:List (κ×V)}{k:κ}(e:p.1=k):eV (p::r) k=some p.2:=by simp [eV,Od,e]
def kI{p:κ×V}{r:List (κ×V)}{k:κ}(e:¬ p.1=k):eV (p::r) k=eV r k:=by simp [eV,Od,e]
theorem p8(k:κ):∀kvs:List (κ×V),(kvs.any λkv=>decide (kv.1=k))=(eV kvs k).isSome
 | []=>rfl
 |
  p::r=>by
  rw[Ox];by_cases e:p.1=k
  .simp only[kg e,D_ e,Bool.true_or,Option.isSome_some]
  .rw[kI e,z_ e,Bool.false_or];exact p8 k r
def ka(kvs:List (κ×V))(k:κ)(v:V):(dY kvs k v).length<=kvs.length+1:=by
 unfold dY;split
 .rw[k_];omega
 .rw[u_,B_,N3];omega
def RelO.isSome_eq(r:RelO o u):o.isSome=u.isSome:=by
 cases o with
 |none=>cases u with
  |none=>rfl
  |some _=>exact (show False from r).elim
 |some _=>cases u with
  |none=>exact (show False from r).elim
  |some _=>rfl
def KV.val(r:KV kvs vs)(k:κ):RelO (eV kvs k) (valueAt vs k):=by
 unfold KV at r;induction r with
 |nil=>exact True.intro
 |
  @cons p q ps qs h t ih=>
  obtain⟨h1,h2⟩:=h;by_cases e:p.1=k
  .have e':q.1=k:=h1.symm.trans e;have b:valueAt (q::qs) k=some q.2:=by simp [valueAt,Od,e']
   rw[kg e,b];exact h2
  .have e':¬ q.1=k:=λz=>e (h1.trans z);have b:valueAt (q::qs) k=valueAt qs k:=by simp [valueAt,Od,e']
   rw[kI e,b];exact ih
def KV.any(r:KV kvs vs)(k:κ):(kvs.any λkv=>decide (kv.1=k))=vs.any λkv=>decide (kv.1=k):=by
 unfold KV at r;induction r with
 |nil=>rfl
 |cons h t ih=>rw[Ox,Ox,ih,h.1]
def KV.repl(r:KV kvs vs)(k:κ)(ry:RelV y u):
 KV (kvs.map λkv=>if kv.1=k then (kv.1,y) else kv) (vs.map λkv=>if kv.1=k then (kv.1,u) else kv):=by
 unfold KV at r ⊢;induction r with
 |nil=>exact .nil
 |
  @cons p q ps qs h t ih=>
  rw[o_,o_];refine .cons ?_ ih;obtain⟨h1,h2⟩:=h;by_cases e:p.1=k
  .rw[if_pos e,if_pos (h1.symm.trans e)];exact⟨h1,ry⟩
  .rw[if_neg e,if_neg (λz=>e (h1.trans z))];exact⟨h1,h2⟩
def KV.put(r:KV kvs vs)(k:κ)(ry:RelV y u):KV (dY kvs k y) (stored vs k u):=by
 unfold dY stored;rw[r.any k];by_cases e:(vs.any λkv=>decide (kv.1=k))=true
 .rw[if_pos e,if_pos e];exact r.repl k ry
 .rw[if_neg e,if_neg e];exact Paired.snoc r ⟨rfl,ry⟩
def KV.length(r:KV kvs vs):kvs.length=vs.length:=P7 r
end
def wx(r:RelV (kV k) u):(bB P w).is k u=true:=by
 cases k with
 |inl i=>obtain⟨t,e⟩:=(show ∃t,u=Value.int i t from r);subst e;exact sO P w i t
 |inr x=>obtain⟨t,e⟩:=(show ∃t,u=Value.str x t from r);subst e;exact sN P w x t
theorem nI:∀{ks:List Key}{us:List Value},Vals (ks.map kV) us->ItemsAre (bB P w) ks us
 | [],_,r=>by rw[K_] at r;cases r;exact .nil
 |
  k::ks,_,r=>by
  rw[o_] at r;cases r with
  |cons h t=>exact .cons (wx h) (nI t)
abbrev KT(H:Hp):List (List Key×V)->List (List Key×Addr×Value)->Prop:=Paired λp q=>p.1=q.1/\H q.2.1=some (.tup (p.1.map kV))/\RelV p.2 q.2.2
def KT.val(r:KT H kvs xs)(k:List Key):RelO (eV kvs k) ((atKey xs k).map (·.2)):=by
 induction r with
 |nil=>exact True.intro
 |
  @cons p q ps qs h t ih=>
  obtain⟨h1,_,h2⟩:=h;by_cases e:p.1=k
  .have e':q.1=k:=h1.symm.trans e;have b:atKey (q::qs) k=some q.2:=by simp [atKey,Od,e']
   rw[kg e,b];exact h2
  .have e':¬ q.1=k:=λz=>e (h1.trans z);have b:atKey (q::qs) k=atKey qs k:=by simp [atKey,Od,e']
   rw[kI e,b];exact ih
def KT.repl(r:KT H kvs xs)(k:List Key)(ry:RelV y u):
 KT H (kvs.map λkv=>if kv.1=k then (kv.1,y) else kv) (xs.map (putAt k u)):=by
 induction r with
 |nil=>exact .nil
 |
  @cons p q ps qs h t ih=>
  rw[o_,o_];refine .cons ?_ ih;obtain⟨h1,h2,h3⟩:=h;unfold putAt;by_cases e:p.1=k
  .rw[if_pos e,if_pos (h1.symm.trans e)];exact⟨h1,h2,ry⟩
  .rw[if_neg e,if_neg (λz=>e (h1.trans z))];exact⟨h1,h2,h3⟩
def KT.put(r:KT H kvs xs)(k:List Key)(hb:H b=some (.tup (k.map kV)))(ry:RelV y u):
 KT H (dY kvs k y) (storedH xs k b u):=by
 have e:(kvs.any λkv=>decide (kv.1=k))=(atKey xs k).isSome:=by rw[p8,(r.val k).isSome_eq,Option.isSome_map]
 unfold dY storedH;rw[e];by_cases q:(atKey xs k).isSome=true
 .rw[if_pos q,if_pos q];exact r.repl k ry
 .rw[if_neg q,if_neg q];exact Paired.snoc r ⟨rfl,hb,ry⟩
def KT.keeps(r:KT H kvs xs)(ht:∀b ys,H b=some (.tup ys)->H' b=some (.tup ys)):KT H' kvs xs:=
 Paired.mapP r λ_ _ z=>⟨z.1,ht _ _ z.2.1,z.2.2⟩
section
variable{P:Program}{w:World}{H:Hp}{h:Heap}{a:Addr}
def C1(ok:HOk P w H h)(e:Rd H a u):ObjOk P w H h a u:=e.ok ok
def vQ(ok:HOk P w H h)(e:Rd H a (.dK kvs)):kvs.length<=sizeLine/\(a==sysModules)=false/\∃vs,KV kvs vs/\h.DictOf (bB P w) a vs:=
 show ObjOk P w H h a (.dK kvs) from C1 ok e
def MX(ok:HOk P w H h)(e:H a=some (.dK kvs)):kvs.length<=sizeLine/\(a==sysModules)=false/\∃vs,KV kvs vs/\h.DictOf (bB P w) a vs:=vQ ok (.inl e)
def oX(ok:HOk P w H h)(e:H a=some (.tup (ks.map kV))):(tupleKind (bB P w)).is h ks a:=by obtain⟨_,its,r,o,h1,h2,n,h3⟩:=(show ObjOk P w H h a (.tup (ks.map kV)) from ok a _ e);exact⟨o,its.toArray,n,h1,h2,h3,by simpa using nI r⟩
def uR(ok:HOk P w H h)(e:Rd H a (.dT kvs)):kvs.length<=sizeLine/\(a==sysModules)=false/\
 ∃xs,KT H kvs xs/\h.DictOfH (tupleKind (bB P w)) a xs:=by
 obtain⟨z,y,xs,r,o,es,ep,h1,h2,h3,h4,h5⟩:=(show ObjOk P w H h a (.dT kvs) from C1 ok e);refine⟨z,y,xs,r,o,es,ep,h1,h2,h3,h4,λx hx=>?_,h5⟩;have all:∀{l:List (List Key×V)}{m:List (List Key×Addr×Value)},KT H l m->∀x∈m,(tupleKind (bB P w)).is h x.1 x.2.1:=by
  intro l m q;induction q with
  |nil=>intro x hx;exact nomatch hx
  |
   @cons p q ps qs hq t ih=>
   intro x hx;rcases E_.mp hx with e |hx
   .subst e;exact oX ok (by rw[<- hq.1];exact hq.2.1)
   .exact ih x hx
 exact all r x hx
def MW(ok:HOk P w H h)(e:H a=some (.dT kvs)):kvs.length<=sizeLine/\(a==sysModules)=false/\
 ∃xs,KT H kvs xs/\h.DictOfH (tupleKind (bB P w)) a xs:=uR ok (.inl e)
end
def DGet(H:Hp)(a:Addr)(y:V)(r:Option V):Prop:=
 (∃kvs k,Rd H a (.dK kvs)/\y=kV k/\r=eV kvs k)\/∃kvs k b,Rd H a (.dT kvs)/\y=.ref b/\H b=some (.tup (k.map kV))/\r=eV kvs k
def DPut(H:Hp)(a:Addr)(y v:V)(H':Hp):Prop:=
 (∃kvs k,H a=some (.dK kvs)/\y=kV k/\kvs.length<sizeLine/\H'=upd H a (.dK (dY kvs k v)))\/
 ∃kvs k b,H a=some (.dT kvs)/\y=.ref b/\H b=some (.tup (k.map kV))/\kvs.length<sizeLine/\H'=upd H a (.dT (dY kvs k v))
def DGet.k{H:Hp}{a:Addr}{kvs:List (Key×V)}{k:Key}(e:H a=some (.dK kvs)):DGet H a (kV k) (eV kvs k):=.inl ⟨kvs,k,.inl e,rfl,rfl⟩
def DPut.k{H:Hp}{a:Addr}{kvs:List (Key×V)}{k:Key}{v:V}(e:H a=some (.dK kvs))(hl:kvs.length<sizeLine):DPut H a (kV k) v (upd H a (.dK (dY kvs k v))):=.inl ⟨kvs,k,e,rfl,hl,rfl⟩
section
variable{X:Cx}{pins:Qb}{σ:St}{H:Hp}{s:Shared}{a:Addr}{y v:V}{u r:Value}{o:Option V}{A:Around}{E:Qc}
def xH(hu:A.units+1<cLine)(I:Inv X pins σ H s)(g:DGet H a y (some v))(ry:RelV y u)(h:∀w' s',Inv X pins σ H s'->RelV v w'->Q w' s'):
 wpAny (model X.prog X.w) A (getItem (.ref a) u) Q E s:=by
 rcases g with ⟨kvs,k,e,ey,l⟩ |⟨kvs,k,b,e,ey,eb,l⟩
 .subst ey;obtain⟨z,hd,vs,rel,dd⟩:=vQ I.hok e;obtain⟨w',hw,rw'⟩:=RelO.some_of (v:=v) (o:=valueAt vs k) (by rw[l];exact rel.val k);exact wpAny_getItem_of (wx ry) dd.mapOf hw (h w' _ (I.tok _) rw')
 .subst ey;cases (show u=Value.ref b from ry);obtain⟨z,hd,xs,rel,dd⟩:=uR I.hok e;obtain⟨w',hw,rw'⟩:=RelO.some_of (v:=v) (o:=(atKey xs k).map (·.2)) (by rw[l];exact rel.val k);obtain⟨p,hp,hp2⟩:=I_.mp hw;refine wpAny_getItem_heap (tupleKind_room_in1 hu) (oX I.hok eb) dd hp ?_;rw[hp2];exact h w' _ (I.tok _) rw'
def ug(I:Inv X pins σ H s)(mu:Mut (H a))(hs:Heap.SameBut a s.heap h')(he:∃q,h'.get? a=some q)(new:ObjOk X.prog X.w (upd H a ob) h' a ob):
 Inv X pins σ (upd H a ob) { s with heap:=h',toks:=t' }:=
 I.write (x:=a) (e:=a) mu (.inl rfl) (λb q hb z=>(hs.2 b hb).trans z) he new
def GU(z:kvs.length<=sizeLine)(hd:(a==sysModules)=false)(rel:KV kvs vs)(dd:h'.DictOf (bB P w) a vs):
 ObjOk P w H' h' a (.dK kvs):=⟨z,hd,vs,rel,dd⟩
def wU(hu:A.units+1<cLine)(I:Inv X pins σ H s)(g:DPut H a y v H')(ry:RelV y u)(rv:RelV v r)(h:∀s',Inv X pins σ H' s'->Q () s'):
 wpAny (model X.prog X.w) A (setItem (.ref a) u r) Q E s:=by
 rcases g with ⟨kvs,k,e,ey,l,eH⟩ |⟨kvs,k,b,e,ey,eb,l,eH⟩
 .subst ey eH;obtain⟨z,hd,vs,rel,dd⟩:=MX I.hok e;have hz:vs.length<=sizeLine:=by rw[<- rel.length];exact z
  have hl:(dY kvs k v).length<=sizeLine:=by have:=ka kvs k v;omega
  refine wpAny_setItem_pairs (hsz:=hz) (wx ry) dd λh' dd' hs=>h _ ?_;have he:∃q,h'.get? a=some q:=let ⟨q,_,_,hq,_⟩:=dd';⟨q,hq⟩;exact ug I (by rw[e];exact True.intro) hs he (GU hl hd (rel.put k rv) dd')
 .subst ey eH;cases (show u=Value.ref b from ry);obtain⟨z,hd,xs,rel,dd⟩:=MW I.hok e;have hz:xs.length<=sizeLine:=by rw[<- P7 rel];exact z
  have hl:(dY kvs k v).length<=sizeLine:=by have:=ka kvs k v;omega
  refine wpAny_setItem_heap (hsz:=hz) (tupleKind_room_in1 hu) (oX I.hok eb) dd λh' dd' hs=>h _ ?_;obtain⟨q,es,ep,hq,h2,h3,h4,_,h5⟩:=dd';refine ug I (by rw[e];exact True.intro) hs ⟨q,hq⟩ ⟨hl,hd,_,(rel.put k eb rv).keeps λc ys ec=>?_,q,es,ep,hq,h2,h3,h4,h5⟩;rw[ay (Nn ec e (λz=>nomatch z))];exact ec
end
section
variable{X:Cx}{pins:Qb}{σ:St}{H:Hp}{s:Shared}{a:Addr}{kvs:List (Key×V)}{k:Key}{u:Value}{A:Around}{E:Qc}
end
def vf(i:Expr):Prop:=∀ov iv,subscripted i false ov iv=operate [ov,iv] (getItem ov iv)
def DL{prog:Program}{w:World}{A:Around}{E:Qc}{s:Shared}{env:Env}{value im:Expr}{pos:Pos}{T id:String}{Q:Qc}
 (hl:typeLookup (.type T) "__getitem__"=pure (some (.builtin id))) (hs:vf im)
 (h:wpAny (model prog w) A (eval value env) (λo s₁=>wpAny (model prog w) A (eval im env) (λi s₂=>s₂.TypeIs o T/\wpAny (model prog w) A (getItem o i) Q E s₂) E s₁) E s):
 wpAny (model prog w) A (eval (.Subscript value im pos) env) Q E s:=by
 refine Subscript_ (N6 h (λo s₁ h₁=>N6 h₁ (λi s₂ h₂=>?_) λ_ _ x=>x) λ_ _ x=>x);obtain⟨hT,h₂⟩:=h₂;unfold subscriptTail;refine j_ ?_;rw[getitemInPython_of_ne hT.not_modules];refine j_ (wpAny_specialOf hT hl ?_);have g_:wpAny (model prog w) A (subscripted im false o i) (λr s₃=>wpAny (model prog w) A (letTemporaryGo value o r >>= λ_=>pure r) Q E s₃) E s₂:=by rw[hs o i];exact wpAny_operating (N6 h₂ (λr s₃ h₃=>j_ (wpAny_letTemporaryGo (v_ h₃))) λ_ _ x=>x)
 first
  |exact v_ (j_ g_)
  |exact j_ (v_ (j_ g_))
  |exact j_ g_
def sP(I:Inv X pins σ H s)(g:DGet H a y o):s.TypeIs (.ref a) "dict":=by
 rcases g with ⟨kvs,k,e,_,_⟩ |⟨kvs,k,b,e,_,_,_⟩
 .obtain⟨_,_,vs,_,dd⟩:=vQ I.hok e;exact dd.typeIs
 .obtain⟨_,_,xs,_,dd⟩:=uR I.hok e;exact dd.typeIs
def M8(td ty:TE):TE:=λσ H Q=>td σ H λx H1=>ty σ H1 λy H2=>∃a v,x=.ref a/\DGet H2 a y (some v)/\Q v H2
section
variable{X:Cx}{o i e value:Expr}{pos io tpos:Pos}{td ty tv:TE}
def C9(hu:X.A.units+1<cLine)(ho:PE X o td)(hi:PE X i ty)(hs:vf i):PE X (.Subscript o i pos) (M8 td ty):=by intro pins s σ H Q I h;refine DL PySem.F.slot_dict_getitem.lookup hs (thn (ho pins s σ H _ I h) λu s1 ⟨x,H1,I1,rx,q1⟩=>thn (hi pins s1 σ H1 _ I1 q1) λiv s2 ⟨y,H2,I2,ry,a,v,ex,g,q2⟩=>?_);subst ex;obtain rfl:u=Value.ref a:=rx;exact⟨sP I2 g,xH hu I2 g ry λw' s3 I3 rw'=>⟨v,H2,I3,rw',q2⟩⟩
end
section
variable{X:Cx}{pos:Pos}
end
section
variable{X:Cx}{pins:Qb}{σ:St}{H:Hp}{s:Shared}{a:Addr}{y d:V}{u r:Value}{o:Option V}{A:Around}{E:Qc}
end
section
variable{X:Cx}{o e f:Expr}{apos cpos:Pos}{td ty tx:TE}
end
section
variable{X:Cx}{pins:Qb}{σ:St}{H:Hp}{s:Shared}{a:Addr}{kvs:List (Key×V)}{A:Around}{E:Qc}
end
section
variable{X:Cx}{pins:Qb}{σ:St}{H:Hp}{s:Shared}{a:Addr}{y:V}{u:Value}{A:Around}{E:Qc}
end
section
variable{prog:Program}{w:World}{A:Around}{E:Qc}{s:Shared}
end
section
variable[DecidableEq κ]
noncomputable def lkD(kvs:List (κ×α))(k:κ):Option α:=(kvs.find? λkv=>decide (kv.1=k)).map (·.2)
noncomputable def cz(kvs:List (κ×α))(k:κ)(v:α):List (κ×α):=if (kvs.any λkv=>decide (kv.1=k))=true then kvs.map λkv=>if kv.1=k then (kv.1,v) else kv else kvs++[(k,v)]
end
section
variable{K:W.Frag}{mg:Qa}{ρ:List Addr}{H:Hp}
def Ee:∀{kvs:List (Key×D)}{ws:List (Key×V)},ws.map (·.1)=kvs.map (·.1)->RelDs K mg ρ H (kvs.map (·.2)) (ws.map (·.2))->lkD kvs k=some d->∃v,eV ws k=some v/\RelD K mg ρ H d v:=by
 intro kvs;induction kvs with
 |nil=>intro ws e r q;cases q
 |
  cons p kvs ih=>
  intro ws e r q;cases ws with
  |nil=>cases e
  |
   cons w ws=>
   obtain⟨k1,d1⟩:=p;obtain⟨k2,v2⟩:=w;rw[o_,o_] at e;injection e with e1 e2;dsimp only at e1;subst e1;cases r with
   |
    cons r rr=>
    unfold lkD at q;unfold eV;rw[Od] at q ⊢;dsimp only at q ⊢;by_cases hk:k2=k
    .rw[D_ hk] at q ⊢;cases q;exact⟨v2,rfl,r⟩
    .rw[z_ hk] at q ⊢;exact ih e2 rr q
def rC[DecidableEq κ]:∀{kvs:List (κ×α)}{ws:List (κ×β)},ws.map (·.1)=kvs.map (·.1)->(ws.any λkv=>decide (kv.1=k))=kvs.any λkv=>decide (kv.1=k):=by
 intro kvs;induction kvs with
 |
  nil=>
  intro ws e;cases ws with
  |nil=>rfl
  |cons _ _=>cases e
 |
  cons p kvs ih=>
  intro ws e;cases ws with
  |nil=>cases e
  |cons w ws=>rw[o_,o_] at e;injection e with e1 e2;rw[Ox,Ox,ih e2,e1]
def zR{k:Key}{d:D}{v:V}(rd:RelD K mg ρ H d v){kvs:List (Key×D)}{ws:List (Key×V)}(e:ws.map (·.1)=kvs.map (·.1))(r:RelDs K mg ρ H (kvs.map (·.2)) (ws.map (·.2))):(dY ws k v).map (·.1)=(cz kvs k d).map (·.1)/\RelDs K mg ρ H ((cz kvs k d).map (·.2)) ((dY ws k v).map (·.2)):=by
 unfold dY cz;rw[rC e];by_cases hc:(kvs.any λkv=>decide (kv.1=k))=true
 .rw[if_pos hc,if_pos hc];clear hc;induction kvs generalizing ws with
  |
   nil=>
   cases ws with
   |nil=>exact⟨rfl,.nil⟩
   |cons _ _=>cases e
  |
   cons p kvs ih=>
   cases ws with
   |nil=>cases e
   |
    cons w ws=>
    obtain⟨k1,d1⟩:=p;obtain⟨k2,v2⟩:=w;rw[o_,o_] at e;injection e with e1 e2;dsimp only at e1;subst e1;cases r with
    |
     cons r rr=>
     obtain⟨h1,h2⟩:=ih e2 rr;simp only[o_];by_cases hk:k2=k
     .rw[if_pos hk,if_pos hk];exact⟨by rw[h1],.cons rd h2⟩
     .rw[if_neg hk,if_neg hk];exact⟨by rw[h1],.cons r h2⟩
 .rw[if_neg hc,if_neg hc,N0,N0,N0,N0,e];exact⟨rfl,r.append (.cons rd .nil)⟩
def wq:uU:=λo i v H Q=>∃a H4,o=.ref a/\DPut H a i v H4/\Q H4
variable{X:Cx}{ES:St->XK}{a b:Expr}{F G:ME}{pos:Pos}
def A6(hu:X.A.units+1<cLine):rB X wq:=λpins s σ H o i v ov iv u Q I ro ri rv ⟨a,H4,eo,g,q⟩=>by subst eo;obtain rfl:ov=Value.ref a:=ro;exact wU hu I g ri rv λs4 I4=>⟨H4,I4,q⟩
end
section
variable{X:Cx}
end
section
variable{K:W.Frag}{mg:Qa}
end
section
variable{K:W.Frag}{mg:Qa}{X:Cx}{ES:St->XK}{o:Expr}{F:ME}{pos p2:Pos}
end
end L2
namespace L2
open PySem PySem.Spec PySem.Calls PyProof.Rows
section
variable{X:Cx}{K:W.Frag}{mg:Qa}{ES:St->XK}{es:List Expr}{gs:MGs}{pos:Pos}
end
section
variable{X:Cx}{K:W.Frag}{mg:Qa}{ES:St->XK}{a:Expr}{A:MA}{pos q2 p1 p2:Pos}
def sg(j:Int):List V:=(List.range j.toNat).map λi=>V.int ((i:Nat):Int)
def Bl(j:Int):List D:=(List.range j.toNat).map λi=>D.int ((i:Nat):Int)
theorem zb(ρ:List Addr)(H:Hp):∀is:List Nat,RelDs K mg ρ H (is.map λi=>D.int ((i:Nat):Int)) (is.map λi=>V.int ((i:Nat):Int))
 | []=>.nil
 |i::is=>.cons (.int _) (zb ρ H is)
end
section
variable{X:Cx}{K:W.Frag}{mg:Qa}{w:World}{n:Str}{kvs:List (Str×Int)}
end
end L2
namespace L2
open PySem
end L2
namespace L2
open PySem PySem.Spec PySem.Calls PyProof.Rows
section
variable{X:Cx}{K:W.Frag}{mg:Qa}
end
section
variable{P:Program}{w:World}{K:W.Frag}{mg:Qa}{base:Heap}{x:Str}{st:Stmt}{k:Nat}{ps N:List Str}{sp:Sp}
variable{F:MS}
end
section
variable{X:Cx}{K:W.Frag}{mg:Qa}{ES:St->XK}{e:Expr}{es:List Expr}{A:MA}{pos:Pos}
end
end L2
namespace L2
open PySem PySem.Spec PyProof.Rows
section
variable{X:Cx}
end
section
variable{K:W.Frag}{mg:Qa}
def wW{ρ:List Addr}{h:AH}{H:Hp}(w:Wd K mg ρ h H){n:Nat}{a:Addr}{xs:List D}(ea:ρ[n]?=some a)(e:h[n]?=some (.lst xs)):∃vs,H a=some (.lst vs)/\RelDs K mg ρ H xs vs:=by obtain⟨vs,h1,h2⟩:=w.ob _ _ _ ea e;exact⟨vs,h1,h2⟩
end
section
variable{X:Cx}{K:W.Frag}{mg:Qa}
end
section
variable{X:Cx}
def NR:List V->Hp->VK->Prop:=λxs H Q=>xs=[]/\∀l,H l=none->Q (.ref l) (upd H l (.set (λ_=>false) 0))
def rZ:R2:=λx y H Q=>∃i a S n,x=.int i/\y=.ref a/\H a=some (.set S n)/\Q (.bl (S i)) H
def Ap:OpR X (compareOp .In) rZ:=by intro pins s σ H x y v u Q I rx ry h;obtain⟨i,a,S,n,rfl,rfl,hH,q⟩:=h;obtain⟨t,rfl⟩:=rx;cases ry;have hS:s.heap.SetOf (intKind X.prog X.w) a S n:=I.hok a _ hH;exact wpAny_inSet_of (intKind_is _ _ i t) rfl hS ⟨.bl (S i),H,I.tok _,rfl,q⟩
def uE:V->List V->Hp->VK->Prop:=λx vs H Q=>∃a i S n,x=.ref a/\vs=[.int i]/\H a=some (.set S n)/\n<4000/\Q .non (upd H a (.set (λk=>S k || decide (k=i)) (if S i then n else n+1)))
def yM:MtM X "set.add" uE:=by intro pins s σ H x vs v us Q I rx rv h;obtain⟨a,i,S,n,rfl,rfl,hH,hn,q⟩:=h;cases rx;obtain⟨u,rfl,ru⟩:=rv.one;obtain⟨t,rfl⟩:=ru;have hS:s.heap.SetOf (intKind X.prog X.w) a S n:=I.hok a _ hH;refine call_set_add (intKind_is _ _ i t) rfl hS (by unfold scanBound;omega) λh' sb hS'=>?_;refine⟨.non,_,I.write (x:=a) (e:=a) (by rw[hH];exact trivial) (.inl rfl) (λb o hb e=>(sb.2 b hb).trans e) ?_ (show ObjOk X.prog X.w _ h' a (.set (λk=>S k || decide (k=i)) (if S i then n else n+1)) from hS'),rfl,q⟩;obtain⟨o,_,_,_,e,_⟩:=hS';exact⟨o,e⟩
def sJ:CallR X (.builtin "len") (λxs H Q=>∃a S n,xs=[.ref a]/\H a=some (.set S n)/\Q (.int (n:Nat)) H):=by intro pins s σ H xs us Q I r h;obtain⟨a,S,n,rfl,hH,q⟩:=h;obtain⟨u,rfl,ru⟩:=dP r;cases ru;have hS:s.heap.SetOf (intKind X.prog X.w) a S n:=I.hok a _ hH;obtain⟨o,es,ep,t,e,hex,hd,_,_,hb,hf,rfl⟩:=hS;refine call_len_set e hex hd hf (by unfold scanBound at hb;omega) ⟨.int (es.size:Nat),H,I.tok _,⟨_,rfl⟩,q⟩
def yf:CallR X (.type "set") NR:=by intro pins s σ H xs us Q I r h;obtain⟨rfl,q⟩:=h;cases r;refine call_set_0 λled=>?_;refine⟨.ref s.heap.objs.size,_,I.laid (t':=s.toks) (λb o e=>t_ _ e) (n_ _) (show ObjOk X.prog X.w _ _ _ (.set (λ_=>false) 0) from ?_),rfl,q _ (I.hok.fresh (n_ _))⟩;obtain⟨h1,es,ep,tt,h2,h3,h4,h5,h6⟩:=setObjOf_fresh (knd:=intKind X.prog X.w) led;exact⟨_,es,ep,tt,Em _ rfl,h1,h2,h3,h4,by rw[h5];decide,h6,h5⟩
end
section
variable{K:W.Frag}{mg:Qa}{X:Cx}{ES:St->XK}{o e:Expr}{es:List Expr}{F:ME}{A:MA}{pos:Pos}
noncomputable def ve:ME:=λ_ h=>.ok (.ref h.length) (h++[.set []])
noncomputable def pB:D->D->AH->R D:=λx y h=>match x,y with
 |.int i,.ref n=>match h[n]? with
  |some (.set xs)=>.ok (.bl (decide (i∈xs))) h
  |_=>.stuck
 |_,_=>.stuck
noncomputable def lE:Fn:=λds h=>match ds with
 | [.ref n]=>match h[n]? with
  |some (.set xs)=>.ok (.int (xs.length:Nat)) h
  |_=>.stuck
 |_=>.stuck
noncomputable def dW(xs:List Int)(i:Int):List Int:=if i∈xs then xs else i::xs
noncomputable def rE:D->List D->AH->R D:=λx ds h=>match x,ds with
 |.ref n,[.int i]=>match h[n]? with
  |some (.set xs)=>if xs.length<4000 then .ok .non (h.set n (.set (dW xs i))) else .stuck
  |_=>.stuck
 |_,_=>.stuck
noncomputable def wd(h:AH):D->Bool
 |.ref n=>match h[n]? with
  |some (.set _)=>true
  |_=>false
 |_=>false
noncomputable def eMS(F:ME)(A:MA):ME:=λae h=>(F ae h).bind λx h1=>if wd h1 x=true then (A ae h1).bind λds h2=>rE x ds h2 else .stuck
def Dr:OpD K mg rZ pB:=λρ h H dx dy x y Q E w rx ry p=>by
 unfold pB at p;split at p
 .cases rx;cases ry with
  |
   ref ea=>
   split at p
   .rename_i xs e;obtain⟨_,h1⟩:=w.ob _ _ _ ea e;exact⟨_,_,_,_,rfl,rfl,h1,aw w (.bl _) p⟩
   .exact p.elim
 .exact p.elim
def D8:aO K mg (λxs H Q=>∃a S n,xs=[.ref a]/\H a=some (.set S n)/\Q (.int (n:Nat)) H) lE:=λρ h H ds vs Q E w rs p=>by
 unfold lE at p;split at p
 .cases
   rs with
  |
   cons r rs=>
   cases rs;cases r with
   |
    ref ea=>
    split at p
    .rename_i xs e;obtain⟨_,h1⟩:=w.ob _ _ _ ea e;exact⟨_,_,_,rfl,h1,aw w (.int _) p⟩
    .exact p.elim
 .exact p.elim
def FO:MtD K mg uE rE:=λρ h H dx ds x vs Q E w rx rs p=>by
 unfold rE at p;split at p
 .rename_i n i;cases rx with
  |
   ref ea=>
   cases rs with
   |
    cons r rs=>
    cases rs;cases r;split at p
    .rename_i xs e;split at p
     .rename_i hl;obtain⟨nd,h1⟩:=w.ob _ _ _ ea e;refine⟨_,_,_,_,rfl,rfl,h1,hl,?_⟩;have e2:HO.set (λk=>decide (k∈xs) || decide (k=i)) (if decide (i∈xs)=true then xs.length else xs.length+1)=.set (λk=>decide (k∈dW xs i)) (dW xs i).length:=by
       unfold dW;by_cases hi:i∈xs
       .rw[if_pos (D_ hi),if_pos hi];congr 1;funext k;by_cases hk:k∈xs
        .rw[D_ hk];rfl
        .rw[z_ hk,z_ (show ¬ k=i from λz=>hk (by rw[z];exact hi))];rfl
       .rw[if_neg (by rw[z_ hi];exact s_),if_neg hi];congr 1;funext k;rw[PM,Ph,decide_eq_true_iff,decide_eq_true_iff,decide_eq_true_iff,E_];exact Or.comm
      rw[e2];have l:Le ρ H ρ (upd H _ (.set (λk=>decide (k∈dW xs i)) (dW xs i).length)):=jN h1 CI;refine p ρ _ l (w.write ea h1 CI ⟨?_,bo⟩) .non .non;unfold dW;split
      .exact nd
      .rename_i hi;exact O2.mpr ⟨hi,nd⟩
     .exact p.elim
    .exact p.elim
 .exact p.elim
def DN(hg:Gl X x)(hm:mg x=none)(hv:bootBuiltins x=some (.type "set"))(hk:X.mg=mg)(hn:x ≠ "__name__")(hdb:(x==("__debug__" : Str))=false):DE K mg X ES (.Call (.Name x p0) [] [] pos) ve:=by
 subst hk;refine PE.imp (vo yf hg hm hv hn hdb) λσ H Q q_=>q_.el λρ h ae w re p=>⟨rfl,λl hl=>?_⟩;have le:Le ρ H (ρ++[l]) (upd H l (.set (λ_=>false) 0)):=(bU hl).trans jE;refine p (ρ++[l]) _ le (w.alloc hl ⟨List.nodup_nil,?_⟩) _ (.ref ?_)
 .rw[bo];congr 1
 .rw[<- w.len,NX (n_ _),Pa];rfl
def LU(hK:X.K=K)(ho:DE K mg X ES o F)(ha:DA K mg X ES (e::es) A)
 (c_:attributeBase o "add" X.env (eval o X.env)=eval o X.env)
 (hfew:((backTo cpos (starEach (e::es) X.env)).all (λx=>!x.1)&&(backToKw cpos (keywordEach [] X.env)).all (λx=>x.1.isSome)
  && decide ((e::es).length+([]:List Keyword).length+(if ([]:List Keyword).isEmpty then 0 else 1)<30))=true)
 (db:(apos.endLine==cpos.line)=true) (hs:starEach (e::es) X.env=(false,eval e X.env)::starEach es X.env) (b_:(backTo cpos (starEach es X.env)).any (·.1)=false):
 DE K mg X ES (.Call (.Attribute o "add" apos) (e::es) [] cpos) (eMS F A):=by
 subst hK;refine PE.imp (CT PySem.F.plainAttrs_set PySem.F.slot_set_add PySem.F.type_set_add yM ho ha c_ hfew db hs b_) λσ H Q q_=>q_.el λρ h ae w re p=>⟨ρ,h,ae,w,re,p.bind.imp λdx h1 ρ1 H1 l1 w1 p1 x rx=>?_⟩;split at p1
 .rename_i hl;have ty:tyV X.K "set" x H1:=by
   cases rx with
   |
    ref ea=>
    unfold wd at hl;dsimp only at hl;split at hl
    .rename_i xs q;obtain⟨_,hh⟩:=w1.ob _ _ _ ea q;exact .inr (.inr (.inr ⟨rfl,_,_,hh⟩))
    .cases hl
   |_=>cases hl
  exact⟨ty,ρ1,h1,ae,w1,re.mono l1,p1.bind.imp λds h2 ρ2 H2 l2 w2 p2 vs rs=>FO ρ2 h2 H2 dx ds x vs Q _ w2 (rx.mono l2) rs p2⟩
 .exact p1.elim
end
section
variable{K:W.Frag}{mg:Qa}
noncomputable def pb:D->D->AH->R D:=λx y h=>match x with
 |.ref n=>(match y with
  |.int k=>(match h[n]? with
   |some (.dct kvs)=>(match lkD kvs (.inl k) with
    |some d=>.ok d h
    |none=>.stuck)
   |_=>.stuck)
  |_=>.stuck)
 |_=>.stuck
noncomputable def wDI(o i v:D)(h:AH):R Unit:=match o with
 |.ref n=>(match i with
  |.int k=>(match h[n]? with
   |some (.dct kvs)=>if kvs.length<16777216 then .ok () (h.set n (.dct (cz kvs (.inl k) v))) else .stuck
   |_=>.stuck)
  |_=>.stuck)
 |_=>.stuck
variable{X:Cx}{ES:St->XK}{a b:Expr}{F G:ME}{pos:Pos}
def A2:mJ K mg wq wDI:=λρ h H do_ di dv o i v Q E w ro ri rv p=>by
 unfold wDI at p;split at p
 .split
   at p
  .split
    at p
   .rename_i n k _ kvs e;split at p
    .rename_i hl;cases ro with
     |
      ref ea=>
      cases ri;obtain⟨ws,h1,h2,h3⟩:=w.ob _ _ _ ea e;have a_:ws.length=kvs.length:=by have:=Oa List.length h2;simpa using this
      have l:Le ρ H ρ (upd H _ (.dK (dY ws (.inl k) v))):=jN h1 dKNo;obtain⟨k1,k2⟩:=zR (k:=.inl k) rv h2 h3;exact⟨_,_,rfl,DPut.k (k:=.inl k) h1 (by rw[a_];exact hl),p ρ _ l (w.write ea h1 dKNo ⟨_,bo,k1,k2.mono l⟩)⟩
    .exact p.elim
   .exact p.elim
  .exact p.elim
 .exact p.elim
def zZ(hu:X.A.units+1<cLine)(ha:DE K mg X ES a F)(hb:DE K mg X ES b G)(hs:vf b):DE K mg X ES (.Subscript a b pos) (eOp pb F G):=PE.imp (C9 hu ha hb hs) λσ H Q q_=>q_.el λρ h ae w re p=>⟨ρ,h,ae,w,re,p.bind.imp λdx h1 ρ1 H1 l1 w1 p1 x rx=>⟨ρ1,h1,ae,w1,re.mono l1,p1.bind.imp λdy h2 ρ2 H2 l2 w2 p2 y ry=>by
 have rx2:=rx.mono l2;unfold pb at p2;split at p2
 .split
   at p2
  .split
    at p2
   .rename_i n k _ kvs e;split at p2
    .rename_i d q;cases rx2 with
     |ref ea=>cases ry;obtain⟨ws,k1,k2,k3⟩:=w2.ob _ _ _ ea e;obtain⟨v,q1,rv⟩:=Ee k2 k3 q;refine⟨_,v,rfl,?_,aw w2 rv p2⟩;rw[<- q1];exact DGet.k (k:=.inl k) k1
    .exact p2.elim
   .exact p2.elim
  .exact p2.elim
 .exact p2.elim⟩⟩
end
section
variable{X:Cx}{K:W.Frag}{mg:Qa}
def kz(K:W.Frag):V->List V->Hp->VK->Prop:=λx vs H Q=>∃l b xs zs,x=.ref l/\vs=[.ref b]/\H l=some (.lst xs)/\SqT K H b zs/\xs.length+zs.length<=sizeLine/\Q .non (upd H l (.lst (xs++zs)))
def Eh(l:Addr)(xs:Array Value)(n:Nat)(b:Addr)(ys:Array Value)(n2:Nat)(dd:Option Addr)(ss:Array (Option Value))(z0:¬(!xs.isEmpty&&Builtin.List.listTooLong (xs.size+ys.size))=true)(z1:xs.size<=sizeLine)(z2:xs.size+ys.size<=sizeLine+1):
 Meets (Builtin.«list.extend» ⟨[.ref l,.ref b],[]⟩) (λ_ R s=>s.heap.get? l=some { cls:=.type "list",dict:=none,data:=.seq xs n,slots:=#[] }/\s.heap.get? b=some { cls:=.type "tuple",dict:=dd,data:=.seq ys n2,slots:=ss }/\R (.ok (.ret Value.none)) { s with heap:=s.heap.update l (Obj.mapSeq λx=>x++ys),toks:=s.toks }):=
 .of_wp λprog w A R s h=>by
  obtain⟨hp,g,d,tk,os⟩:=s;obtain⟨el,eb,h⟩:=h;have e1:=PySem.AutoSeq1.idx_int;have e2:=PySem.F.sub_tuple_tuple;have e3:=PySem.F.sub_list_list;have e4:=PySem.F.sub_tuple_list;have e5:=PySem.F.sub_list_tuple;have zz:(xs++ys).size<=sizeLine+1:=by rw[Array.size_append];exact z2
  wp_walk using (wpAny_updateSeq el rfl (hz:=z1) (_hz':=zz)),wpAny_loadPart' el,wpAny_loadPart' eb
  exact⟨_,rfl,h⟩
def u6(hK:X.K=K):MtM X "list.extend" (kz K):=by
 subst hK;intro pins s σ H x vs v us Q I rx rv h;obtain⟨l,b,xs,zs,rfl,rfl,hH,hB,hz,q⟩:=h;cases rx;obtain⟨u,rfl,ru⟩:=rv.one;cases ru;obtain⟨z,its,n,r,hl,e⟩:=I.lstM hH;obtain⟨its2,r2,⟨⟨oc,od,oda,os⟩,e2,ec,n2,ed⟩,z2⟩:=I.tuple hB;dsimp only at ec ed;subst ec ed;have hl2:=r2.length;have hsz:its.toArray.size+its2.toArray.size<=sizeLine:=by rw[x_,x_];omega
 have hlong:¬ (!its.toArray.isEmpty&&Builtin.List.listTooLong (its.toArray.size+its2.toArray.size))=true:=by rw[Ba hsz,Bool.and_false];exact s_
 refine call_meets PySem.F.slot_list_extend ⟨_,e,rfl⟩ PySem.F.entry_list_extend (PySem.F.args_list_extend_2 _ _)
  (Eh l its.toArray n b its2.toArray n2 od os hlong (by rw[x_];omega) (by omega)) ⟨e,e2,?_⟩
 refine⟨.non,_,I.lset (its':=its++its2) hH e (by simp) (r.append r2) ?_,rfl,q⟩;rw[u_];omega
noncomputable def iz:D->List D->AH->R D:=λx ds h=>iP h x λn xs=>match ds with
 | [.tup ys]=>if xs.length+ys.length<=16777216 then .ok .non (h.set n (.lst (xs++ys))) else .stuck
 |_=>.stuck
def uN:MtD K mg (kz K) iz:=λρ h H dx ds x vs Q E w rx rs p=>by
 obtain⟨n,xs,a,us,rfl,e,ea,rfl,h1,h2,p⟩:=jf w rx p;split at p
 .cases rs with
  |
   cons r rs=>
   cases rs;split at p
   .rename_i hb;cases r with
    |tup hq rr=>exact⟨a,_,us,_,rfl,rfl,h1,hq,by rw[<- h2.len,<- rr.len];exact hb,kM w ea h1 (h2.append rr) .non p⟩
   .exact p.elim
 .exact p.elim
end
section
variable{X:Cx}{e st:Expr}{te tst:TE}{pos p2:Pos}
end
section
variable{K:W.Frag}{mg:Qa}{X:Cx}{ES:St->XK}{e st:Expr}{F G:ME}{pos p2:Pos}
end
noncomputable def mnI:List Int->Int
 | []=>0
 | [x]=>x
 |x::y::r=>if mnI (y::r)<x then mnI (y::r) else x
theorem jT:∀{l:List Int},l≠[]->mnI l∈l
 | [x],_=>by simp [mnI]
 |
  x::y::r,_=>by
  have:=jT (l:=y::r) (by simp)
  rw[mnI];split
  .exact l_ _ this
  .exact m_ ..
theorem rW:∀{l:List Int}{a:Int},a∈l->mnI l<=a
 | [x],a,h=>by rw[OD] at h;rw[h];exact Int.le_refl _
 |
  x::y::r,a,h=>by
  rw[mnI];rcases E_.mp h with rfl |h
  .split <;> omega
  .have:=rW (l:=y::r) h
   split <;> omega
section
variable{X:Cx}{K:W.Frag}{mg:Qa}
def Bf(f:List Int->Int)(K:W.Frag):List V->Hp->VK->Prop:=λxs H Q=>∃(a:Addr) (ns:List Int),xs=[.ref a]/\SqL K H a (ns.map V.int)/\ns≠[]/\Q (.int (f ns)) H
def xF(hK:X.K=K)(hc:X.calm=true):CallR X (.builtin "min") (Bf mnI K):=by
 subst hK;intro pins s σ H xs us Q I r h;obtain⟨a,ns,rfl,hq,hne,q⟩:=h;obtain⟨u,rfl,ru⟩:=dP r;cases ru;obtain⟨its,rv,p,hz⟩:=I.list hq;have hi:=gX rv;obtain⟨ys,hy⟩:=hi.allInts.items;have hn:numsOf its.toArray.toList=ns:=by rw[show its.toArray.toList=its from rfl,hi.numsOf]
 have pl:=p.isList;rw[hy] at pl hn;rw[nums_intItems] at hn;have hsz:0<ys.size:=by
  have:ns.length=ys.size:=by rw[<- hn,k_,OA]
  have:=List.length_pos_iff.mpr hne
  omega
 refine min_intList (I.ok.hd hc) pl hsz λv h' tk hv hk=>?_;obtain⟨t,rfl⟩:=intItems_at hv;obtain⟨h1,h2⟩:=argBest_lt (numAt ys) (ys.size-1);have m1:numAt ys (argBest (λi j=>decide (numAt ys i<numAt ys j)) (ys.size-1))∈ns:=by rw[<- hn,numAt_eq];exact getD_mem (by rw[k_,OA];omega)
 have m2:∀b∈ns,numAt ys (argBest (λi j=>decide (numAt ys i<numAt ys j)) (ys.size-1))<=b:=λb hb=>by rw[<- hn] at hb;obtain⟨j,hj,rfl⟩:=mem_getD hb;rw[k_,OA] at hj;rw[<- numAt_eq];exact h2 j (by omega)
 have e:numAt ys (argBest (λi j=>decide (numAt ys i<numAt ys j)) (ys.size-1))=mnI ns:=Int.le_antisymm (m2 _ (jT hne)) (rW m1);rw[e];exact⟨.int (mnI ns),H,I.kept (t':=tk) hk,⟨_,rfl⟩,q⟩
noncomputable def pA(f:List Int->Int):Fn:=λds h=>match ds with
 | [.ref n]=>match (aL h n).bind dG with
  |some ns=>if ns≠[] then .ok (.int (f ns)) h else .stuck
  |none=>.stuck
 |_=>.stuck
def IT(f:List Int->Int):aO K mg (Bf f K) (pA f):=λρ h H ds vs Q E w rs p=>by
 unfold pA at p;split at p
 .cases
   rs with
  |
   cons r rs=>
   cases r with
   |
    ref ea=>
    cases rs;split at p
    .rename_i bs e;obtain⟨xs,q,e2⟩:=NV.mp e;split at p
     .rename_i hne;obtain⟨vs,h1,h2⟩:=aZ w ea q;rw[jw e2] at h2;rw[h2.ints] at h1;exact⟨_,bs,rfl,h1,hne,aw w (.int _) p⟩
     .exact p.elim
    .exact p.elim
 .exact p.elim
end
section
variable{K:W.Frag}{mg:Qa}{X:Cx}
end
def srI(ns:List Int):List Int:=ns.mergeSort
def Ew{a b:List Int}(p:a.Perm b)(h:a.Pairwise (·<=·))(k:b.Pairwise (·<=·)):a=b:=p.eq_of_pairwise (λx y _ _ h1 h2=>by omega) h k
def bZ(ns:List Int):(srI ns).Perm ns:=List.mergeSort_perm ..
def xE(ns:List Int):(srI ns).Pairwise (·<=·):=by
 have:=List.pairwise_mergeSort (le:=λa b:Int=>decide (a<=b)) (λa b c=>by simp;omega) (λa b=>by simp;omega) ns
 simpa [srI] using this
def ye{a b:List Int}(p:a.Perm b)(s:a.Pairwise (·<=·)):a=srI b:=Ew (p.trans (bZ b).symm) s (xE b)
section
variable{X:Cx}
def mX:List V->Hp->VK->Prop:=λxs H Q=>∃a ns,xs=[.ref a]/\H a=some (.lst (ns.map V.int))/\ns.length<64/\∀l,H l=none->Q (.ref l) (upd H l (.lst ((srI ns).map V.int)))
def o7:CallR X (.builtin "sorted") mX:=by
 intro pins s σ H xs us Q I r h;obtain⟨a,ns,rfl,hA,hz,q⟩:=h;obtain⟨u,rfl,ru⟩:=dP r;cases ru;obtain⟨_,its,n,rv,hl,e⟩:=I.lstM hA;have la:s.heap.IsList a its.toArray:=⟨_,e,rfl,_,rfl⟩;have len:its.length=ns.length:=by rw[<- rv.length,k_]
 refine sorted_ints la (gX rv) (by omega) λout ns' a1 a2 a3=>?_;obtain⟨m',he⟩:=sortedAll_at s.heap its out;have en:=ye a2 a3;subst en;have rv':=fk a1;have l2:(srI ns).length=ns.length:=(bZ ns).length_eq;have fr:s.heap.objs.size<=s.heap.objs.size+1:=Nat.le_succ _;have hsz:sizeLine=16777216:=rfl;exact⟨.ref (s.heap.objs.size+1),_,I.laid (t':=s.toks) (λb o z=>sortedAll_old z) fr (show ObjOk X.prog X.w _ _ _ (.lst ((srI ns).map V.int)) from ⟨by rw[k_];omega,_,m',rv',he⟩),rfl,q _ (I.hok.fresh fr)⟩
end
section
variable{K:W.Frag}{mg:Qa}
noncomputable def jI:List D->Option (List Int)
 | []=>some []
 |.int i::ds=>(jI ds).map (i :: ·)
 |_::_=>none
theorem i7{ρ:List Addr}{H:Hp}:∀{ds:List D}{vs:List V}{ns:List Int},RelDs K mg ρ H ds vs->jI ds=some ns->vs=ns.map V.int
 | [],_,_,r,e=>by cases r;cases e;rfl
 |
  d::ds,_,ns,r,e=>by
  cases r with
  |
   cons r rr=>
   cases d with
   |int i=>obtain⟨ms,e1,rfl⟩:=I_.mp e;cases r;rw[i7 rr e1];rfl
   |_=>cases e
theorem kH{ρ:List Addr}{H:Hp}:∀ns:List Int,RelDs K mg ρ H (ns.map D.int) (ns.map V.int)
 | []=>.nil
 |i::ns=>.cons (.int i) (kH ns)
def ie:Fn:=λds h=>match ds with
 | [.ref a]=>match h[a]? with
  |some (.lst xs)=>match jI xs with
   |some ns=>if ns.length<64 then .ok (.ref h.length) (h++[.lst ((srI ns).map D.int)]) else .stuck
   |none=>.stuck
  |_=>.stuck
 |_=>.stuck
def yX:aO K mg mX ie:=λρ h H ds vs Q E w rs p=>by
 unfold ie at p;split at p
 .cases
   rs with
  |
   cons r1 rs=>
   cases rs;cases r1 with
   |
    ref ea=>
    split at p
    .rename_i xs q1;split at p
     .rename_i ns q2;split at p
      .rename_i hb;obtain⟨vs',g1,g2⟩:=wW w ea q1;rw[i7 g2 q2] at g1;exact⟨_,ns,rfl,g1,hb,λl hl=>cW w (kH _) hl p⟩
      .exact p.elim
     .exact p.elim
    .exact p.elim
 .exact p.elim
end
section
variable{K:W.Frag}{mg:Qa}{X:Cx}
end
section
variable{K:W.Frag}{mg:Qa}{X:Cx}
end
section
variable{X:Cx}{tg:Expr}{p pos:Pos}{a b c:Expr}
end
end L2
namespace L2
open PySem PySem.W PyProof.Rows
abbrev Ask:=Nat->Nat->(Bool->Shared->Prop)->Shared->Prop
variable{lt:Nat->Nat->Bool}{N:Nat}{cmp:Ask}{s:Shared}
end L2
namespace L2
open PySem PySem.Spec PyProof.Rows
def Cm(H:Hp):Prop:=∀b,H b=none\/(∃o xs,H b=some (.frz o xs))\/H b=some (.tbl #[])
structure TabsOk(K:W.Frag)(ts:List Addr)(h:Heap):Prop where
 at_:∀P∈ts,h.get? P=some (W.tabObj #[])
 no:∀P∈ts,K.lookup P=none
 cd:∀P∈ts,∃c,W.codeHdIn K c P=true
def spT(K:W.Frag)(mg:Qa)(ts:List Addr):Sp:=λvs H Q _=>∃(a:Addr) (ns:List Int),vs=[.ref a]/\Cm H/\SqL K H a (ns.map V.int)/\ns.length<=63/\(∀P∈ts,H P=some (.tbl #[]))/\BMok K mg H/\∀H',Q (.bl true) H'
def K0{Pr:Program}{w:World}{K:W.Frag}{mg mb:Qa}{k:Nat}{fa a:Addr}{fd:FuncData}{x:Str}{s1:Shared}{vs:List Value}{ns:List Int}{ts:List Addr}
 (KX:K.In s1.heap) (hns:s1.heap.Ns mainGlobals mg) (hb:s1.heap.Ns builtinsNs mb) (hbb:∀y:Str,y ≠ "__name__"->mb y=bootBuiltins y) (hlim:s1.heap.NoLimit) (hg:s1.gens=#[]) (TO:TabsOk K ts s1.heap) (hbm:∃bm ob,mg "__builtins__"=some (.ref bm)/\bm≠builtinsNs/\s1.heap.get? bm=some ob/\ob.cls=.type "module" /\ ob.dict=some builtinsNs/\ob.data=.plain)
 (ha:s1.heap.get? a=some { cls:=.type "list",data:=.seq vs.toArray }) (hi:IntsAre vs ns) (hl:ns.length<=63) (hr:Room k callerA)
 (F:∀base:Heap,K.In base->base.Ns mainGlobals mg->FnOk Pr w K mg base (CX1 Pr w) k fa fd [x] (spT K mg ts)) (hbind:∀(s:Shared) (u:Value),BindsTo s fd ⟨[u],[]⟩ [(x,u)]):
 codeAny (model Pr w) callerA (.call (.ref fa) ⟨[.ref a],[]⟩) (λr s'=>r=.ok (.ret (.bool true))/\OldK s1.heap s'.heap/\s'.os=s1.os/\AllBare s'.gens) s1:=by
 have rv:=fk hi;have hz:ns.length<=sizeLine:=C_ hl (by decide);have ant:a∉ts:=λz=>by
  have:=TO.at_ a z
  rw[ha] at this;cases this
 obtain⟨bm,ob,b1,b2,b3,b4,b5,b6⟩:=hbm;have bmG:bm≠mainGlobals:=λz=>by obtain⟨o,es,ep,e,dd,_⟩:=hns;rw[z,e] at b3;cases b3;rw[dd] at b6;cases b6
 have bmt:bm∉ts:=λz=>by
  have:=TO.at_ bm z
  rw[b3] at this;cases this;cases b6
 have bma:bm≠a:=λz=>by rw[z,ha] at b3;cases b3;cases b6
 have go
  : ∀Hs:Option HO,(Hs=none\/∃o xs,Hs=some (.frz o (.lst xs)))->(∀u,Hs=some u->ObjOk Pr w (λ_=>none) s1.heap a u)->(Hs≠none->K.lookup a=none)->(∀H:Hp,H a=Hs->SqL K H a (ns.map V.int))->
  codeAny (model Pr w) callerA (.call (.ref fa) ⟨[.ref a],[]⟩) (λr s'=>r=.ok (.ret (.bool true))/\OldK s1.heap s'.heap/\s'.os=s1.os/\AllBare s'.gens) s1:=by
  intro Hs h1 h2 h3 h4;obtain⟨H,eH⟩:∃H:Hp,H=λb=>if b=a then Hs else if b∈ts then some (.tbl #[]) else if b=bm/\K.lookup bm=none then some (.frz ob (.ext λ_=>True)) else none:=⟨_,rfl⟩
  have Ha:H a=Hs:=by rw[eH];exact if_pos rfl
  have Ht:∀P∈ts,H P=some (.tbl #[]):=λP hP=>by rw[eH];show (if P=a then _ else _)=_;rw[if_neg (λz=>ant (by rw[<- z];exact hP)),if_pos hP]
  have Hb:K.lookup bm=none->H bm=some (.frz ob (.ext λ_=>True)):=λq=>by rw[eH];show (if bm=a then _ else _)=_;rw[if_neg bma,if_neg bmt,if_pos ⟨rfl,q⟩]
  have Hn
   : ∀b,H b≠none->(b=a/\Hs≠none)\/b∈ts\/(b=bm/\K.lookup bm=none):=λb n=>by
   by_cases q:b=a
   .exact .inl ⟨q,by rw[<- Ha,<- q];exact n⟩
   .by_cases q2:b∈ts
    .exact .inr (.inl q2)
    .by_cases q3:b=bm/\K.lookup bm=none
     .exact .inr (.inr q3)
     .refine absurd ?_ n;rw[eH];show (if b=a then _ else _)=_;rw[if_neg q,if_neg q2,if_neg q3]
  have hO:Cm H:=λb=>by
   by_cases n:H b=none
   .exact .inl n
   .rcases Hn b n with ⟨e,n2⟩ |e |⟨e,y⟩
    .rw[e,Ha];rcases h1 with z |⟨o,xs,z⟩
     .exact absurd z n2
     .exact .inr (.inl ⟨_,_,z⟩)
    .exact .inr (.inr (Ht b e))
    .rw[e];exact .inr (.inl ⟨_,_,Hb y⟩)
  have hok:HOk Pr w H s1.heap:=λb u e=>by
   rcases Hn b (by rw[e];simp) with ⟨z,n2⟩ |z |⟨z,y⟩
   .subst z;rw[Ha] at e;have q:=h2 u e;rcases h1 with y |⟨o,xs,y⟩
    .exact absurd y n2
    .rw[e] at y;cases y;exact q
   .have y:=Ht b z;rw[e] at y;cases y;exact TO.at_ b z
   .subst z;rw[Hb y] at e;cases e;exact⟨b3,trivial,⟨ob,b3⟩,λ_ _ _ _=>trivial⟩
  have keep:∀{b:Addr}{o:Obj},s1.heap.get? b=some o->H b=none->(eG s1.heap H).get? b=some o:=λe n=>pq e n;have noD:∀{b:Addr}{o:Obj}{es:Array DictEntry}{ep:Nat},s1.heap.get? b=some o->o.data=.dict es ep->H b=none:=λ{b o es ep} e dd=>by
   by_cases n:H b=none
   .exact n
   .rcases Hn b n with ⟨z,_⟩ |z |⟨z,_⟩
    .subst z;rw[ha] at e;cases e;cases dd
    .rw[TO.at_ b z] at e;cases e;cases dd
    .subst z;rw[b3] at e;cases e;rw[b6] at dd;cases dd
  have nsK:∀{b:Addr}{m:Qa},s1.heap.Ns b m->(eG s1.heap H).Ns b m:=λ{b m} ⟨o,es,ep,e,dd,r⟩=>⟨o,es,ep,keep e (noD e dd),dd,r⟩;have kb:K.In (eG s1.heap H):=λb o e=>keep (KX b o e) (by
   by_cases n:H b=none
   .exact n
   .rcases Hn b n with ⟨z,y⟩ |z |⟨z,y⟩
    .subst z
     have:=h3 y
     rw[e] at this;cases this
    .have:=TO.no b z
     rw[e] at this;cases this
    .subst z;rw[e] at y;cases y)
  have hM:Mod K mg (eG s1.heap H):=⟨kb,nsK hns,⟨mb,nsK hb,hbb⟩,let ⟨mc,q1,q2⟩:=hlim;⟨mc,nsK q1,q2⟩⟩;have e0:Env0 Pr w K mg (eG s1.heap H) callerA [] s1 H:=⟨rfl,hM,λb o e=>uK e,Nat.le_of_eq (nu _ _),trivial,λb z=>absurd (show b∈([]:List Addr) from z) (by simp),hok,.of_eq hg⟩;refine codeAny_mono ((F _ kb (nsK hns)).run callerA [] s1 H ⟨[.ref a],[]⟩ [.ref a] [.ref a] (λv _=>v=.bl true) (λ_ _ _=>False) hr e0 (hbind s1 (.ref a)) (.cons rfl .nil) ⟨a,ns,rfl,hO,h4 H Ha,hl,Ht,?bm,λ_=>rfl⟩) λr s' h=>?_
  case bm=>
   refine⟨bm,ob,b1,b2,bmG,⟨b4,b5,b6⟩,?_⟩;cases q:K.lookup bm with
   |none=>exact .inr ⟨_,Hb q⟩
   |
    some o=>
    have:=KX bm o q
    rw[b3] at this;cases this;exact .inl rfl
  cases r with
  |error e=>obtain⟨_,_,_,_,_,_,_,z⟩:=h;exact z.2.2.elim
  |
   ok fl=>
   cases fl with
   |next=>exact False.elim h
   |brk=>exact False.elim h
   |cont=>exact False.elim h
   |
    ret u=>
    obtain⟨v,H',os,bare,un,hok',r',q⟩:=h;have q':v=.bl true:=q;subst q';obtain rfl:u=Value.bool true:=r';refine⟨rfl,⟨λb o e=>?_,λb o e=>?_⟩,os,bare⟩
    .by_cases n:H b=none
     .exact .inl (un.keep b o e n (λz=>absurd (show b∈([]:List Addr) from z) (by simp)) (by simp))
     .have fz:∀ob xs,H b=some (.frz ob xs)->asItWas s1.heap s'.heap b o:=λob xs y=>by have y2:=un.frzs b ob _ y;obtain⟨e1,_⟩:=hok b _ y;obtain⟨e2,_⟩:=hok' b _ y2;rw[e] at e1;cases e1;exact .inl e2
      rcases Hn b n with ⟨z,n2⟩ |z |⟨z,y⟩
      .rcases h1 with y |⟨ob,xs,y⟩
       .exact absurd y n2
       .exact fz _ _ (by rw[z,Ha];exact y)
      .obtain⟨more,y⟩:=un.tbls b #[] (Ht b z);obtain⟨c,hc⟩:=TO.cd b z;have tab:=(W.codeHd_of_K KX hc).tab (TO.at_ b z);have e2:=TO.at_ b z;rw[e] at e2;cases e2;exact .inr (.inl ⟨tab.isCodeTable,rfl,#[],more,rfl,hok' b _ y⟩)
      .exact fz _ _ (by rw[z];exact Hb y)
    .exact un.there b o e (by simp)
 cases hk:K.lookup a with
 |some o=>have e:=KX a o hk;rw[ha] at e;cases e;exact go none (.inl rfl) (λu z=>nomatch z) (λz=>absurd rfl z) λH _=>.inr ⟨_,vs.toArray,_,hk,rfl,rfl,rfl,by rw[x_,hi.length];exact hz,by simpa using rv⟩
 |none=>exact go (some (.frz { cls:=.type "list",data:=.seq vs.toArray } (.lst (ns.map V.int)))) (.inr ⟨_,_,rfl⟩) (λu z=>by cases z;exact⟨ha,by rw[k_];exact hz,vs,_,rv,ha⟩) (λ_=>hk) λH e=>.inl (.inr ⟨_,e⟩)
def yB{Pr:Program}{w:World}{K:W.Frag}{mg:Qa}{base:Heap}{x y:Str}{k:Nat}{S:Fn}{ts:List Addr}(C:Callee Pr w K mg base x k [y] (spD K mg 1 S))(hT:∀P q,wm K mg P q->P∈ts)
 (hS:∀(d:D) (h:AH) (ns:List Int),ns.length<=63->Script h d ns->∃h',S [d] h=.ok (.bl true) h'):Callee Pr w K mg base x k [y] (spT K mg ts):=by
 refine C.imp λvs H Q E ⟨a,ns,e,hO,hq,hl,ht,hB,q⟩=>?_;subst e;have tb:∀ρ:List Addr,(∀P∈ts,P∉ρ)->∀P q,wm K mg P q->TbP ρ H P q/\BMok K mg H:=λρ n P q l=>⟨⟨n P (hT P q l),#[],ht P (hT P q l),trivial,λpos cv z=>by cases z⟩,hB⟩;rcases hq with (hq |⟨o,hq⟩) |hq
 .rcases hO a with z |⟨o,xs,z⟩ |z <;> rw[hq] at z <;> cases z
 .obtain⟨h',e⟩:=hS (.ref 0) [.fz (ns.map D.int)] ns hl ⟨.inl ⟨0,rfl,rfl⟩⟩;refine⟨[a],[.fz (ns.map D.int)],[.ref 0],⟨rfl,by simp,tb _ λP hP z=>?_,λn b ob e1 e2=>?_⟩,.cons (.ref rfl) .nil,rfl,?_⟩
  .rw[OD] at z;subst z
   have:=ht P hP
   rw[hq] at this;cases this
  .cases n with
   |zero=>cases e1;cases e2;exact⟨o,_,hq,iF ns⟩
   |succ n=>simp at e1
  .rw[e];exact λρ' H' l' w' v rv=>by cases rv;exact q H'
 .obtain⟨h',e⟩:=hS (.kl (ns.map D.int)) [] ns hl ⟨.inr rfl⟩;refine⟨[],[],[.kl (ns.map D.int)],⟨rfl,by simp,tb _ λP hP z=>absurd z (by simp),λn b ob e1 e2=>by simp at e1⟩,.cons (.kl hq (iF ns)) .nil,rfl,?_⟩;rw[e];exact λρ' H' l' w' v rv=>by cases rv;exact q H'
def walk_lawT{l:W.OpenLaw}{q:Program}{loose:List Str}{XP:(Str->Option Value)->Heap->Prop}{YP:World->Heap->Prop}{d:DefRec}{K:Params->W.Frag}{x:Str}{k:Nat}{ts:List Addr}(hn:l.most=some 63)(hdf:d.params.defaults=[])(hr:Room k callerA)
 (hY:∀(w:World) (h:Heap),YP w h->(K w.params).In h/\TabsOk (K w.params) ts h)
 (F:∀(w:World) (mg:Qa) (h:Heap),(K w.params).In h->h.Ns mainGlobals mg->∀base:Heap,(K w.params).In base->base.Ns mainGlobals mg->Callee l.prog w (K w.params) mg base d.name k [x] (spT (K w.params) mg ts))
 (Dd:∀(w:World) (mg:Qa) (h:Heap),(K w.params).In h->h.Ns mainGlobals mg->∃st,Def (K w.params) mg d.name st/\∀(kV doc pm:Value) (an:Option Addr) (cdv ct:Value) (us:List Value),us.length=1->bindArgs (W.fnOf d.name d.name (bM st) (aS st) (ak st) .none kV doc pm an cdv ct) ⟨us,[]⟩=pure ([x].zip us)):
 W.WalkO q loose XP YP l.row.toRowW d [] (λf vs=>PySem.call f vs):=by
 refine Att.attach_call hn hdf λw s0 s1 mg mb fa o pm cd doc a vs ns G Y ho hd hcd hmg hobj hints a_ hg=>?_;obtain⟨KX,TO⟩:=hY w _ Y;obtain⟨st,De,hbind⟩:=Dd w mg _ KX G.T.g;obtain⟨f,fd,Ff,m⟩:=De.ex;have e:=hmg.symm.trans m;cases e;obtain⟨oc,od,kV,doc',pm',an,cdv,ct,osl,rfl,lk,hcd'⟩:=Ff.ex;refine K0 KX G.T.g G.T.b G.T.builtins G.T.nolimit hg TO G.T.bmain hobj hints a_ hr (λbase kb nb=>?_) (λs u=>.of_eq (hbind kV doc' pm' an cdv ct [u] rfl));obtain⟨f',fd',F',m',kp',b',oc',od',osl',lk'⟩:=(F w mg _ KX G.T.g base kb nb).ex;rw[m] at m';cases m';rw[lk] at lk';cases lk';exact F'
end L2
namespace L2
open PySem PySem.W PySem.Calls PyProof.Rows
noncomputable def lexP(x y:Int×Int):Bool:=decide (x.1<y.1\/(x.1=y.1/\x.2<y.2))
def EX{α:Type}(d:α)(ks:List α):((List.range ks.length).map λi=>ks.getD i d)=ks:=List.ext_getElem (by simp) λi _ h=>by simp [h]
def ltP(ks:List (Int×Int))(i j:Nat):Bool:=lexP (ks.getD i (0,0)) (ks.getD j (0,0))
section
variable{prog:Program}{w:World}{A:Around}{E:Qc}{s:Shared}
end
set_option maxHeartbeats 4000000
section
variable{prog:Program}{w:World}{A:Around}{E:Qc}{s:Shared}
def DJ{S r:Addr}{j:Int}{t u v:Tok}{n:Nat}{R:Result->Shared->Prop}(hh:A.handled=none)(hr:IsRange s.heap r 0 j 1 t u v)(i_:Builtin.Range.small 0 j 1=true)(hn:Builtin.Range.rangeSize 0 j 1=n)(a_:n<=2^24)(hS:s.heap.get? S=some (seqObj "list" #[] 0))
 (h:∀h' tk acc c,(∀b o,b≠S->s.heap.get? b=some o->h'.get? b=some o)->h'.get? S=some (seqObj "list" acc c)->ItemsOf (λi v=>∃t,v=.int (0+i*1) t) acc n->R (.ok (.ret (.ref S))) { s with heap:=h',toks:=tk }):codeAny (model prog w) A (.builtin "list.__iadd__" ⟨[.ref S,.ref r],[]⟩) R s:=by
 refine P0 entry_list_iadd' ?_;show wpAny (model prog w) A.in1 (Builtin.List.listExtendWith (.ref S) (.ref r) (.ref S)) _ _ s;exact wpAny_extend_range hh hr i_ hn a_ S _ 0 hS h
def wB{r:Addr}{j:Int}{t u v:Tok}{n:Nat}{Q:List Value->Shared->Prop}(hh:A.handled=none)(hr:IsRange s.heap r 0 j 1 t u v)(i_:Builtin.Range.small 0 j 1=true)(hn:Builtin.Range.rangeSize 0 j 1=n)(a_:n<=2^24)
 (h:∀h' tk (vs:List Value),s.heap.objs.size<=h'.objs.size->(∀b o,s.heap.get? b=some o->h'.get? b=some o)->vs.length=n->(∀(i:Nat) x,vs[i]?=some x->∃t,x=.int (i:Nat) t)->Q vs { s with heap:=h',toks:=tk }):wpAny (model prog w) A (collect (.ref r)) Q E s:=by
 unfold collect;refine j_ <| wpAny_runValue <| P0 entry_proto_collect' ?_;show wpAny _ _ (do again (.builtin "list.__iadd__" ⟨[<- newList [],.ref r],[]⟩)) _ _ s;have hS:(s.heap.push (seqObj "list" #[] 0)).get? s.heap.objs.size=some (seqObj "list" #[] 0):=Em _ rfl;refine j_ <| wpAny_newList <| v_ ⟨Code.quiet_builtin _ (by decide),DJ (s:={ s with heap:=s.heap.push (seqObj "list" #[] 0) }) hh (t_ _ hr) i_ hn a_ hS λh' tk acc c k z it=>?_⟩;show wpAny (model prog w) A (do
  let o <- load s.heap.objs.size
  match o.data with
  |.seq xs _=>pure xs.toList
  |_=>unsupported "internal:collect") Q E { s with heap:=h',toks:=tk }
 refine j_ <| wpAny_load z ?_;refine v_ (h h' tk acc.toList (O_ (w_ z)) (λb o y=>k b o (NY (w_ y)) (t_ _ y)) (by rw[OA];exact it.1) λi x y=>?_);obtain⟨t,e⟩:=it.2 i x (by simpa using y);exact⟨t,by rw[e];congr 1;omega⟩
end
section
variable{prog:Program}{w:World}{A:Around}{E:Qc}{s:Shared}
end
section
variable{prog:Program}{w:World}{A:Around}{E:Qc}{s:Shared}
end
section
variable{X:Cx}{pins:Qb}{σ:St}{H:Hp}{s:Shared}{h':Heap}
end
end L2
namespace L2
open PySem PySem.W PySem.Spec PySem.Calls PyProof.Rows
section
variable{X:Cx}{iW:Nat}{ta:TA}{c P:Addr}{a:Expr}{q1 q2 q6 q7 q8 q9 p0 p1 p2 p3 p4 p5 p6:Pos}
end
end L2
namespace L2
open PySem PySem.Spec PyProof.Rows
section
variable{K:W.Frag}{mg:Qa}{ρ:List Addr}{H H2:Hp}{h:AH}
end
section
variable{X:Cx}{K:W.Frag}{mg:Qa}{ES:St->XK}{a:Expr}{F:ME}{iW:Nat}{c P:Addr}{q1 q2 q6 q7 q8 q9 p0 p1 p2 p3 p4 p5 p6:Pos}
noncomputable def lsD(h:AH):D->Option (List D)
 |.ref n=>aL h n
 |.kl xs=>some xs
 |_=>none
def Ep{ρ:List Addr}{H:Hp}{h:AH}{d:D}{v:V}{xs:List D}(w:Wd K mg ρ h H)(r:RelD K mg ρ H d v)(e:lsD h d=some xs):∃p vs,v=.ref p/\SqL K H p vs/\RelDs K mg ρ H xs vs:=by
 cases r with
 |ref ea=>obtain⟨vs,h1,h2⟩:=aZ w ea e;exact⟨_,vs,rfl,h1,h2⟩
 |kl q rs=>have e':some _=some xs:=e;cases e';exact⟨_,_,rfl,.inr q,rs⟩
 |_=>cases e
end
end L2
namespace L2
open PySem PySem.W PySem.Calls PyProof.Rows
section
variable{prog:Program}{w:World}{A:Around}{E:Qc}{s:Shared}
end
end L2
namespace L2
open PySem PySem.Spec PyProof.Rows
section
variable{X:Cx}
end
section
variable{K:W.Frag}{mg:Qa}
end
section
variable{X:Cx}
end
section
variable{K:W.Frag}{mg:Qa}
end
end L2
namespace L2
open PySem PySem.Spec PySem.Calls PyProof.Rows
section
variable{X:Cx}{K:W.Frag}{mg:Qa}{ES:St->XK}{a:Expr}{A:MA}{ta:TA}{q1 q2 q6 q8 q9 pc:Pos}{kc:Nat}
def yA(K:W.Frag):List V->Hp->VK->Prop:=λxs H Q=>∃b ns,xs=[.ref b]/\SqL K H b (ns.map V.int)/\ns.length<64/\∀l,H l=none->Q (.ref l) (upd H l (.lst ((srI ns).reverse.map V.int)))
def EK(hl:Gl X "sorted")(hml:X.mg "sorted"=none)(ha:PA X [a] ta)(hs:starEach [a] X.env=[(false,eval a X.env)]):
 PE X (.Call (.Name "sorted" q1) [a] [⟨some "reverse",.Constant (.bool true) kc pc,q8⟩] q9) (tCB (yA X.K) ta):=by
 intro pins s σ H Q I h;refine OF (dN I hl hml (show bootBuiltins "sorted"=some (.builtin "sorted") from rfl) ?_ (by decide) (by decide));refine callWith_kw (thn (ha q9 pins s σ H _ I h) λus s1 ⟨vs,H1,I1,r1,z1⟩=>?_) (by rw[hs];rfl) (by rw[hs];rfl) rfl rfl;obtain⟨b,ns,rfl,hq,hz,q⟩:=z1;obtain⟨u,rfl,ru⟩:=dP r1;cases ru;show wpAny _ _ (do
  let v <- (do let v <- eval (.Constant (.bool true) kc pc) X.env;standAt q9;pure v)
  return v::(<- holding [v] (evalAll []))) _ _ _
 refine j_ <| j_ <| Constant_bool ?_;refine j_ (PH (v_ (j_ (O0 (v_ (v_ ?_))))));obtain⟨its,rv,pl,_⟩:=I1.list hq;have len:its.length=ns.length:=by rw[<- rv.length,k_]
 refine sorted_ints_rev pl.isList (gX rv) (by omega) λout ns' a1 a2 a3=>?_;obtain⟨m',he⟩:=sortedAll_at s1.heap its out;have en:ns'=(srI ns).reverse:=by have:ns'.reverse=srI ns:=ye ((List.reverse_perm _).trans a2) (List.pairwise_reverse.mpr a3);rw[<- this,List.reverse_reverse]
 subst en;have rv':=fk a1;have l2:(srI ns).length=ns.length:=(bZ ns).length_eq;have fr:s1.heap.objs.size<=s1.heap.objs.size+1:=Nat.le_succ _;have big:sizeLine=16777216:=rfl;exact⟨.ref (s1.heap.objs.size+1),_,I1.laid (t':=s1.toks) (λb o z=>sortedAll_old z) fr (show ObjOk X.prog X.w _ _ _ (.lst ((srI ns).reverse.map V.int)) from ⟨by rw[k_,P4];omega,_,m',rv',he⟩),rfl,q _ (I1.hok.fresh fr)⟩
def gR:Fn:=λds h=>match ds with
 | [d]=>match lsD h d with
  |some xs=>match jI xs with
   |some ns=>if ns.length<64 then .ok (.ref h.length) (h++[.lst ((srI ns).reverse.map D.int)]) else .stuck
   |none=>.stuck
  |none=>.stuck
 |_=>.stuck
def Bs:aO K mg (yA K) gR:=λρ h H ds vs Q E w rs p=>by
 unfold gR at p;split at p
 .cases
   rs with
  |
   cons r1 rs=>
   cases rs;split at p
   .rename_i xs q1;split at p
    .rename_i ns q2;split at p
     .rename_i hb;obtain⟨b,us,rfl,g1,g2⟩:=Ep w r1 q1;obtain rfl:=i7 g2 q2;exact⟨b,ns,rfl,g1,hb,λl hl=>cW w (kH _) hl p⟩
     .exact p.elim
    .exact p.elim
   .exact p.elim
 .exact p.elim
def DM(hl:Gl X "sorted")(hml:mg "sorted"=none)(ha:DA K mg X ES [a] A)(hK:X.K=K)(hk:X.mg=mg)(hs:starEach [a] X.env=[(false,eval a X.env)]):
 DE K mg X ES (.Call (.Name "sorted" q1) [a] [⟨some "reverse",.Constant (.bool true) kc pc,q8⟩] q9) (eFn gR A):=by
 subst hK hk;exact PE.imp (EK hl hml ha hs) λσ H Q q_=>q_.el λρ h ae w re p=>⟨ρ,h,ae,w,re,p.bind.imp λds h1 ρ1 H1 l1 w1 p1 vs rs=>Bs ρ1 h1 H1 ds vs Q _ w1 rs p1⟩
end
section
variable{prog:Program}{w:World}{A:Around}{E:Qc}{s:Shared}
def BS{r:Addr}{j:Int}{t u v:Tok}{n:Nat}{Q:Qc}(hh:A.handled=none)(hr:IsRange s.heap r 0 j 1 t u v)(i_:Builtin.Range.small 0 j 1=true)(hn:Builtin.Range.rangeSize 0 j 1=n)(a_:n<=2^24)
 (h:∀(h':Heap) (tk:Nat) (vs:List Value),s.heap.objs.size<=h'.objs.size->(∀b o,s.heap.get? b=some o->h'.get? b=some o)->vs.length=n->(∀(i:Nat) x,vs[i]?=some x->∃t,x=.int (i:Nat) t)->Q (.ref h'.objs.size) { s with heap:=h'.push { cls:=.type "tuple",data:=.seq vs.toArray },toks:=tk }):
 codeAny (model prog w) A (.call (.builtin "tuple.__new__") ⟨[.type "tuple",.ref r],[]⟩) (wants Q E) s:=by
 refine codeAny_of_tree ?_;show wpAny _ A.in1 (do checkBuiltinCall "tuple.__new__" ⟨[.type "tuple",.ref r],[]⟩;again (.builtin "tuple.__new__" ⟨[.type "tuple",.ref r],[]⟩)) _ _ s;refine j_ <| wpAny_of_eq (F.newCall_tuple_1 _) <| v_ ⟨plainId_quiet F.plain_tuple_new _,P0 F.entry_tuple_new ?_⟩;rw[Around.under_plainId F.plain_tuple_new _];have d_:=sub_tuple_self;have hinit:=init_tuple_lookup;have hmh:=madeHere_tuple;have hTI:s.TypeIs (.ref r) "range":=⟨_,hr,rfl⟩
 wp_walk using wpAny_typeOf hTI,wB (A:=A.in1) hh hr i_ hn a_
 intro h' tk vs sz k lv iv;show wpAny _ _ (Builtin.Tuple.tupleExact vs.toArray >>= λv=>ret v) _ _ _;unfold Builtin.Tuple.tupleExact;have big:sizeLine=16777216:=rfl;refine j_ <| Oq ?_ (by show vs.length<=_;omega);exact v_ (h h' tk vs sz k lv iv)
def B7{r:Addr}{j:Int}{t u v:Tok}{n:Nat}{Q:Qc}(hh:A.handled=none)(hr:IsRange s.heap r 0 j 1 t u v)(i_:Builtin.Range.small 0 j 1=true)(hn:Builtin.Range.rangeSize 0 j 1=n)(a_:n<=2^24)
 (h:∀(h':Heap) (tk:Nat) (vs:List Value),s.heap.objs.size<=h'.objs.size->(∀b o,s.heap.get? b=some o->h'.get? b=some o)->vs.length=n->(∀(i:Nat) x,vs[i]?=some x->∃t,x=.int (i:Nat) t)->Q (.ref h'.objs.size) { s with heap:=h'.push { cls:=.type "tuple",data:=.seq vs.toArray },toks:=tk }):
 wpAny (model prog w) A (call (.type "tuple") [.ref r]) Q E s:=by
 refine callType_codes (Q₁:=λobj s₁=>s₁.TypeIs obj "tuple" /\ Q obj s₁) F.called_tuple (F.typeCall_tuple_1 _) F.entry_object_init (BS hh hr i_ hn a_ λh' tk vs sz k lv iv=>⟨⟨_,Em _ rfl,rfl⟩,h h' tk vs sz k lv iv⟩) λobj s₁ h₁=>?_;exact⟨h₁.1,F.args_object_init_2 obj _,object_init_meets F.called_tuple.init.lookup F.called_tuple.made (by decide) prog w A.in1 _ s₁ ⟨h₁.1,rfl,h₁.2⟩⟩
end
section
variable{X:Cx}{K:W.Frag}{mg:Qa}{ES:St->XK}{a:Expr}{A:MA}{ta:TA}{pos q2 p1 p2:Pos}
def rTrg:List V->Hp->VK->Prop:=λxs H Q=>∃j:Int,xs=[.int j]/\0<=j/\j<=1000000/\∀l,H l=none->Q (.ref l) (upd H l (.tup (sg j)))
theorem ph:∀{vs:List Value} (i0:Nat),(∀(i:Nat) x,vs[i]?=some x->∃t,x=.int ((i0+i:Nat):Int) t)->Vals ((List.range' i0 vs.length).map λi:Nat=>V.int (i:Nat)) vs
 | [],_,_=>.nil
 |
  v::vs,i0,h=>by
  rw[B_,List.range'_succ,o_];refine .cons ?_ (ph (i0+1) λi x e=>?_)
  .obtain⟨t,e⟩:=h 0 v rfl;exact⟨t,by rw[e];rfl⟩
  .obtain⟨t,e'⟩:=h (i+1) x (by simpa using e);exact⟨t,by rw[e'];congr 1;omega⟩
def JV(hc:X.calm=true)(hl:Gl X "tuple")(hml:X.mg "tuple"=none)(hg:Gl X "range")(hm:X.mg "range"=none)(ha:PA X [a] ta)(hs:starEach [a] X.env=[(false,eval a X.env)])
 (hs1:starEach [.Call (.Name "range" p2) [a] [] q2] X.env=[(false,eval (.Call (.Name "range" p2) [a] [] q2) X.env)]):
 PE X (.Call (.Name "tuple" p1) [.Call (.Name "range" p2) [a] [] q2] [] pos) (tCB rTrg ta):=by
 intro pins s σ H Q I h;refine OF (dN I hl hml (show bootBuiltins "tuple"=some (.type "tuple") from rfl) ?_ (by decide) (by decide));refine Ol ?_ hs1 rfl;rw[hs1];show wpAny _ _ (spliced ((false,eval (.Call (.Name "range" p2) [a] [] q2) X.env)::[])) _ _ s;refine Calls.spliced_cons ?_;refine OF (dN I hg hm (show bootBuiltins "range"=some (.type "range") from rfl) ?_ (by decide) (by decide));refine Ol (thn (ha q2 pins s σ H _ I h) λus s1 ⟨vs,H1,I1,r1,z1⟩=>?_) hs rfl;obtain⟨j,e,h1,h2,q⟩:=z1;subst e;cases r1 with
 |
  cons r rr=>
  cases rr;obtain⟨t,rfl⟩:=r;refine call_range_1 (Calls.spliced_nil ?_);have I2:Inv X pins σ H1 { s1 with heap:=s1.heap.push { cls:=.type "range",data:=.fields #[.int 0 s1.toks,.int j t,.int 1 (s1.toks+1)] },toks:=s1.toks+1+1 }:=I1.kept λb o e=>t_ _ e;refine B7 (I.ok.hd hc) (IsRange.new ..) (small_one (by omega) (by omega) (by omega) (by omega)) (n:=j.toNat) (by rw[rangeSize_one];split <;> omega) (by omega) λh' tk vs sz k lv iv=>?_;have rv:Vals (sg j) vs:=by
   have:=ph (vs:=vs) 0 λi x e=>by obtain⟨t,e'⟩:=iv i x e;exact⟨t,by rw[e'];congr 1;omega⟩
   rw[lv,<- PX] at this;exact this
  have hz:(sg j).length<=sizeLine:=by unfold sg;rw[k_,N_];have:sizeLine=16777216:=rfl;omega
  exact⟨.ref _,_,I2.laid (t':=tk) (a:=h'.objs.size) (λb o e=>t_ _ (k b o e)) sz (show ObjOk X.prog X.w _ _ _ (.tup (sg j)) from ⟨hz,vs,rv,⟨_,Em _ rfl,rfl,_,rfl⟩⟩),rfl,q _ (I2.hok.fresh sz)⟩
def qJ:Fn:=λds h=>match ds with
 | [.int j]=>if 0<=j/\j<=1000000 then .ok (.tup (Bl j)) h else .stuck
 |_=>.stuck
def FV(hc:X.calm=true)(hl:Gl X "tuple")(hml:mg "tuple"=none)(hg:Gl X "range")(hm:mg "range"=none)(ha:DA K mg X ES [a] A)(hk:X.mg=mg)(hs:starEach [a] X.env=[(false,eval a X.env)])
 (hs1:starEach [.Call (.Name "range" p2) [a] [] q2] X.env=[(false,eval (.Call (.Name "range" p2) [a] [] q2) X.env)]):
 DE K mg X ES (.Call (.Name "tuple" p1) [.Call (.Name "range" p2) [a] [] q2] [] pos) (eFn qJ A):=by
 subst hk;refine PE.imp (JV hc hl hml hg hm ha hs hs1) λσ H Q q_=>q_.el λρ h ae w re p=>⟨ρ,h,ae,w,re,p.bind.imp λds h1 ρ1 H1 l1 w1 p1 vs rs=>?_⟩;unfold qJ at p1;split at p1
 .split at p1
  .rename_i j hb;cases rs with
   |cons r1 rs=>cases rs;cases r1;exact⟨j,rfl,hb.1,hb.2,λl hl=>iu w1 (zb _ _ _) hl p1⟩
  .exact p1.elim
 .exact p1.elim
end
end L2
namespace L3
open PySem PySem.Spec PyProof.Rows L2
set_option genInjectivity true in
inductive Val where
 |non |bl (b:Bool) |int (i:Int) |str (x:Str) |ty (n:String) |glb (x:Str) |exc (x:Str)
 |tup (xs:List Val) |lst (xs:List Val) |kl (xs:List Val) |dct (kvs:List (Key×Val)) |set (xs:List Int)
 deriving Inhabited
mutual
inductive Rd(P:Nat->Prop)(h:AH):D->Val->Prop where
 |non:Rd P h .non .non
 |bl (b:Bool):Rd P h (.bl b) (.bl b)
 |int (i:Int):Rd P h (.int i) (.int i)
 |str (x:Str):Rd P h (.str x) (.str x)
 |ty (n:String):Rd P h (.ty n) (.ty n)
 |glb (x:Str):Rd P h (.glb x) (.glb x)
 |exc (x:Str):Rd P h (.exc x) (.exc x)
 |tup {ds:List D}{vs:List Val} (r:Rds P h ds vs):Rd P h (.tup ds) (.tup vs)
 |kl {ds:List D}{vs:List Val} (r:Rds P h ds vs):Rd P h (.kl ds) (.kl vs)
 |cell {n:Nat}{o:Ob}{v:Val} (p:P n) (e:h[n]?=some o) (r:Rc P h o v):Rd P h (.ref n) v
inductive Rc(P:Nat->Prop)(h:AH):Ob->Val->Prop where
 |lst {ds:List D}{vs:List Val} (r:Rds P h ds vs):Rc P h (.lst ds) (.lst vs)
 |fz {ds:List D}{vs:List Val} (r:Rds P h ds vs):Rc P h (.fz ds) (.kl vs)
 |dct {ws:List (Key×D)}{us:List (Key×Val)} (r:Rk P h ws us):Rc P h (.dct ws) (.dct us)
 |set (xs:List Int):Rc P h (.set xs) (.set xs)
inductive Rds(P:Nat->Prop)(h:AH):List D->List Val->Prop where
 |nil:Rds P h [] []
 |cons {d:D}{v:Val}{ds:List D}{vs:List Val} (r:Rd P h d v) (rr:Rds P h ds vs):Rds P h (d::ds) (v::vs)
inductive Rk(P:Nat->Prop)(h:AH):List (Key×D)->List (Key×Val)->Prop where
 |nil:Rk P h [] []
 |cons {k:Key}{d:D}{v:Val}{ds:List (Key×D)}{vs:List (Key×Val)} (r:Rd P h d v) (rr:Rk P h ds vs):Rk P h ((k,d)::ds) ((k,v)::vs)
end
section
variable{P P':Nat->Prop}{h h':AH}
abbrev Mov(P P':Nat->Prop)(h h':AH):Prop:=∀n o,P n->h[n]?=some o->P' n/\h'[n]?=some o
def Rd.mono(m:Mov P P' h h')(r:Rd P h d v):Rd P' h' d v:=@Rd.rec P h (λd v _=>Rd P' h' d v) (λo v _=>Rc P' h' o v) (λds vs _=>Rds P' h' ds vs) (λws us _=>Rk P' h' ws us) .non (λb=>.bl b) (λi=>.int i) (λx=>.str x) (λn=>.ty n) (λx=>.glb x) (λx=>.exc x) (λ_ ih=>.tup ih) (λ_ ih=>.kl ih) (λp e _ ih=>.cell (m _ _ p e).1 (m _ _ p e).2 ih) (λ_ ih=>.lst ih) (λ_ ih=>.fz ih) (λ_ ih=>.dct ih) (λxs=>.set xs) .nil (λ_ _ a b=>.cons a b) .nil (λ_ _ a b=>.cons a b) d v r
def Rds.ind{M:List D->List Val->Prop}(h0:M [] [])(h1:∀{d v ds vs},Rd P h d v->Rds P h ds vs->M ds vs->M (d::ds) (v::vs)){ds:List D}{vs:List Val}(r:Rds P h ds vs):M ds vs:=by
 induction ds generalizing vs with
 |nil=>cases r;exact h0
 |
  cons d ds ih=>
  cases r with
  |cons r rr=>exact h1 r rr (ih rr)
def Rk.ind{M:List (Key×D)->List (Key×Val)->Prop}(h0:M [] [])(h1:∀{k d v ds vs},Rd P h d v->Rk P h ds vs->M ds vs->M ((k,d)::ds) ((k,v)::vs)){ds:List (Key×D)}{vs:List (Key×Val)}(r:Rk P h ds vs):M ds vs:=by
 induction ds generalizing vs with
 |nil=>cases r;exact h0
 |
  cons d ds ih=>
  cases r with
  |cons r rr=>exact h1 r rr (ih rr)
def Rds.mono(m:Mov P P' h h'){d:List D}{v:List Val}(r:Rds P h d v):Rds P' h' d v:=r.ind .nil λr _ ih=>.cons (r.mono m) ih
def Rk.mono(m:Mov P P' h h'){d:List (Key×D)}{v:List (Key×Val)}(r:Rk P h d v):Rk P' h' d v:=r.ind .nil λr _ ih=>.cons (r.mono m) ih
def Rc.mono(m:Mov P P' h h')(r:Rc P h d v):Rc P' h' d v:=by
 cases r with
 |lst r=>exact .lst (r.mono m)
 |fz r=>exact .fz (r.mono m)
 |dct r=>exact .dct (r.mono m)
 |set xs=>exact .set xs
def Rds.len{ds:List D}{vs:List Val}(r:Rds P h ds vs):ds.length=vs.length:=r.ind (M:=λds vs=>ds.length=vs.length) rfl λ_ _ ih=>Oa (· + 1) ih
def Rds.get{ds:List D}{vs:List Val}{i:Nat}{v:Val}(r:Rds P h ds vs)(e:vs[i]?=some v):∃d,ds[i]?=some d/\Rd P h d v:=
 r.ind (M:=λds vs=>∀i,vs[i]?=some v->∃d,ds[i]?=some d/\Rd P h d v) (λ_ e=>by rw[List.getElem?_nil] at e;cases e) (λr _ ih i e=>match i,e with
  |0,e=>by cases e;exact⟨_,rfl,r⟩
  |i+1,e=>ih i e) i e
def Rds.append{ds es:List D}{vs ws:List Val}(r:Rds P h ds vs)(q:Rds P h es ws):Rds P h (ds++es) (vs++ws):=r.ind (M:=λds vs=>Rds P h (ds++es) (vs++ws)) q λr _ ih=>.cons r ih
def Rds.take{ds:List D}{vs:List Val}(n:Nat)(r:Rds P h ds vs):Rds P h (ds.take n) (vs.take n):=
 r.ind (M:=λds vs=>∀n:Nat,Rds P h (ds.take n) (vs.take n)) (λn=>by rw[OZ,OZ];exact .nil) (λr _ ih n=>by cases n with |zero=>exact .nil |succ n=>exact .cons r (ih n)) n
def Rds.drop{ds:List D}{vs:List Val}(n:Nat)(r:Rds P h ds vs):Rds P h (ds.drop n) (vs.drop n):=
 r.ind (M:=λds vs=>∀n:Nat,Rds P h (ds.drop n) (vs.drop n)) (λn=>by rw[Pg,Pg];exact .nil) (λr rr ih n=>by cases n with |zero=>exact .cons r rr |succ n=>exact ih n) n
def Rds.set{d:D}{v:Val}(r:Rd P h d v){ds:List D}{vs:List Val}(i:Nat)(q:Rds P h ds vs):Rds P h (ds.set i d) (vs.set i v):=
 q.ind (M:=λds vs=>∀i:Nat,Rds P h (ds.set i d) (vs.set i v)) (λ_=>.nil) (λq qq ih i=>by cases i with |zero=>exact .cons r qq |succ i=>exact .cons q (ih i)) i
def ShR(P:Nat->Prop)(h:AH)(d:D)(v:Val):Prop:=Rd P h d v\/∃n o,d=.ref n/\h[n]?=some o/\Rc P h o v
inductive ShRs(P:Nat->Prop)(h:AH):List D->List Val->Prop where
 |nil:ShRs P h [] []
 |cons {d:D}{v:Val}{ds:List D}{vs:List Val} (r:ShR P h d v) (rr:ShRs P h ds vs):ShRs P h (d::ds) (v::vs)
noncomputable def Val.items:Val->Option (List Val)
 |.tup xs=>some xs
 |.lst xs=>some xs
 |.kl xs=>some xs
 |_=>none
def ShR.int(r:ShR P h d (.int i)):d=.int i:=by
 rcases r with r |⟨n,o,rfl,e,r⟩
 .cases r with
  |int=>rfl
  |cell p e r=>cases r
 .cases r
def ShR.str(r:ShR P h d (.str i)):d=.str i:=by
 rcases r with r |⟨n,o,rfl,e,r⟩
 .cases r with
  |str=>rfl
  |cell p e r=>cases r
 .cases r
def ShR.bl(r:ShR P h d (.bl i)):d=.bl i:=by
 rcases r with r |⟨n,o,rfl,e,r⟩
 .cases r with
  |bl=>rfl
  |cell p e r=>cases r
 .cases r
def ShR.non(r:ShR P h d .non):d=.non:=by
 rcases r with r |⟨n,o,rfl,e,r⟩
 .cases r with
  |non=>rfl
  |cell p e r=>cases r
 .cases r
def ShR.exc(r:ShR P h d (.exc x)):d=.exc x:=by
 rcases r with r |⟨n,o,rfl,e,r⟩
 .cases r with
  |exc=>rfl
  |cell p e r=>cases r
 .cases r
def ShR.ty(r:ShR P h d (.ty x)):d=.ty x:=by
 rcases r with r |⟨n,o,rfl,e,r⟩
 .cases r with
  |ty=>rfl
  |cell p e r=>cases r
 .cases r
def ShR.glb(r:ShR P h d (.glb x)):d=.glb x:=by
 rcases r with r |⟨n,o,rfl,e,r⟩
 .cases r with
  |glb=>rfl
  |cell p e r=>cases r
 .cases r
def ShR.tup(r:ShR P h d (.tup vs)):∃ds,d=.tup ds/\Rds P h ds vs:=by
 rcases r with r |⟨n,o,rfl,e,r⟩
 .cases r with
  |tup r=>exact⟨_,rfl,r⟩
  |cell p e r=>cases r
 .cases r
def Rc.seq(e:h[n]?=some o)(r:Rc P h o (.lst vs)):∃ds,h[n]?=some (.lst ds)/\aL h n=some ds/\Rds P h ds vs:=by
 cases r with
 |lst r=>exact⟨_,e,by unfold aL;rw[e],r⟩
def ShR.lst(r:ShR P h d (.lst vs)):∃n ds,d=.ref n/\h[n]?=some (.lst ds)/\aL h n=some ds/\Rds P h ds vs:=by
 rcases r with r |⟨n,o,rfl,e,r⟩
 .cases r with
  |cell p e r=>obtain⟨ds,q,r⟩:=Rc.seq e r;exact⟨_,ds,rfl,q,r⟩
 .obtain⟨ds,q,r⟩:=Rc.seq e r;exact⟨_,ds,rfl,q,r⟩
def ShR.kl(r:ShR P h d (.kl vs)):∃ds,Rds P h ds vs/\(d=.kl ds\/∃n,d=.ref n/\aL h n=some ds):=by
 rcases r with r |⟨n,o,rfl,e,r⟩
 .cases r with
  |kl r=>exact⟨_,r,.inl rfl⟩
  |cell p e r=>cases r with |fz r=>exact⟨_,r,.inr ⟨_,rfl,by unfold aL;rw[e]⟩⟩
 .cases r with |fz r=>exact⟨_,r,.inr ⟨_,rfl,by unfold aL;rw[e]⟩⟩
def ShR.set(r:ShR P h d (.set xs)):∃n,d=.ref n/\h[n]?=some (.set xs):=by
 rcases r with r |⟨n,o,rfl,e,r⟩
 .cases r with
  |cell p e r=>cases r;exact⟨_,rfl,e⟩
 .cases r;exact⟨_,rfl,e⟩
def ShR.dct(r:ShR P h d (.dct us)):∃n ws,d=.ref n/\h[n]?=some (.dct ws)/\Rk P h ws us:=by
 rcases r with r |⟨n,o,rfl,e,r⟩
 .cases r with
  |cell p e r=>cases r with |dct r=>exact⟨_,_,rfl,e,r⟩
 .cases r with |dct r=>exact⟨_,_,rfl,e,r⟩
def ShR.items(r:ShR P h d v)(e:v.items=some vs):∃ds,cM h d=some ds/\Rds P h ds vs:=by
 cases v with
 |tup xs=>cases e;obtain⟨ds,rfl,q⟩:=r.tup;exact⟨ds,rfl,q⟩
 |lst xs=>cases e;obtain⟨n,ds,rfl,_,e,q⟩:=r.lst;exact⟨ds,e,q⟩
 |
  kl xs=>
  cases e;obtain⟨ds,q,rfl |⟨n,rfl,e⟩⟩:=r.kl
  .exact⟨ds,rfl,q⟩
  .exact⟨ds,e,q⟩
 |_=>cases e
end
inductive Sl where
 |no |sh (v:Val) |ow (v:Val) |mu (v:Val) |lo (v:Val) |lm (v:Val)
 deriving Inhabited
abbrev E3:=List Sl
noncomputable def Sl.val:Sl->Option Val
 |.no=>none
 |.sh v=>some v
 |.ow v=>some v
 |.mu v=>some v
 |.lo v=>some v
 |.lm v=>some v
noncomputable def Sl.mt:Sl->Bool
 |.ow _=>true
 |.mu _=>true
 |_=>false
noncomputable def Sl.lk:Sl->Bool
 |.lo _=>true
 |.lm _=>true
 |_=>false
abbrev Ns:=List (Option Nat)
def Oc(X:Nat->Prop)(ns:Ns)(n:Nat):Prop:=¬ X n/\some n∉ns
def bC:Ob->Prop
 |.fz _=>False
 |.any=>False
 |_=>True
def SlR(P:Nat->Prop)(h0:Nat)(n:Option (Option Nat))(d:Option (Option D))(h:AH):Sl->Prop
 |.no=>n=some none
 |.sh v=>n=some none/\∃x,d=some (some x)/\Rd P h x v
 |.ow v=>∃m o,n=some (some m)/\d=some (some (.ref m))/\h0<=m/\h[m]?=some o/\bC o/\Rc P h o v
 |.lo v=>∃m o,n=some (some m)/\d=some (some (.ref m))/\h0<=m/\h[m]?=some o/\bC o/\Rc P h o v
 |.mu v=>∃m o,n=some (some m)/\d=some (some (.ref m))/\h[m]?=some o/\bC o/\Rc P h o v
 |.lm v=>∃m o,n=some (some m)/\d=some (some (.ref m))/\h[m]?=some o/\bC o/\Rc P h o v
structure Sat(X:Nat->Prop)(h0:Nat)(ns:Ns)(e:E3)(ae:AE)(h:AH):Prop where
 l1:ae.length=e.length
 l2:ns.length=e.length
 lh:h0<=h.length
 xl:∀(n:Nat),X n->n<h.length
 inj:∀(i j n:Nat),ns[i]?=some (some n)->ns[j]?=some (some n)->i=j
 nx:∀(i n:Nat),ns[i]?=some (some n)->¬ X n
 sl:∀(i:Nat) (s:Sl),e[i]?=some s->SlR (Oc X ns) h0 (ns[i]?) (ae[i]?) h s
def Mt(ns:Ns)(e:E3)(n:Nat):Prop:=∃(i:Nat) (s:Sl),ns[i]?=some (some n)/\e[i]?=some s/\s.mt=true
structure Stp(ns:Ns)(e:E3)(h:AH)(ns':Ns)(e':E3)(h':AH):Prop where
 len:h.length<=h'.length
 keep:∀(m:Nat) (o:Ob),h[m]?=some o->¬ Mt ns e m->h'[m]?=some o
 nw:∀(i n:Nat),ns'[i]?=some (some n)->ns[i]?=some (some n)\/h.length<=n
 lk:∀(i:Nat) (s:Sl),e[i]?=some s->s.lk=true->e'[i]?=some s/\ns'[i]?=ns[i]?
 lk':∀(i:Nat) (s:Sl),e'[i]?=some s->s.lk=true->e[i]?=some s/\ns'[i]?=ns[i]?
 mu:∀(i:Nat) (v:Val),e'[i]?=some (.mu v)->∃u,e[i]?=some (.mu u)/\ns'[i]?=ns[i]?
 mu':∀(i:Nat) (u:Val),e[i]?=some (.mu u)->∃v,e'[i]?=some (.mu v)/\ns'[i]?=ns[i]?
section
variable{X:Nat->Prop}{h0:Nat}{ns ns' ns1 f_:Ns}{e e' e1 e2:E3}{ae:AE}{h h' h1 h2:AH}
def aT:some n∈ns ↔ ∃i:Nat,ns[i]?=some (some n):=by
 constructor
 .intro m;exact List.getElem?_of_mem m
 .rintro⟨i,e⟩;exact OV e
def Sat.own(S:Sat X h0 ns e ae h){i n:Nat}(q:ns[i]?=some (some n)):∃s v o,e[i]?=some s/\(s.mt=true\/s.lk=true)/\s.val=some v/\ae[i]?=some (some (.ref n))/\h[n]?=some o/\bC o/\Rc (Oc X ns) h o v:=by
 have hi:i<e.length:=by rw[<- S.l2];exact (p_.mp q).1
 have hs:=S.sl i e[i] (y_ hi);refine⟨e[i],?_⟩;have he:=y_ hi;generalize e[i]=s at *;rw[q] at hs;cases s with
 |no=>cases hs
 |sh v=>cases hs.1
 |ow v=>obtain⟨m,o,e1,e2,_,e3,e4,e5⟩:=hs;cases e1;exact⟨v,o,he,.inl rfl,rfl,e2,e3,e4,e5⟩
 |lo v=>obtain⟨m,o,e1,e2,_,e3,e4,e5⟩:=hs;cases e1;exact⟨v,o,he,.inr rfl,rfl,e2,e3,e4,e5⟩
 |mu v=>obtain⟨m,o,e1,e2,e3,e4,e5⟩:=hs;cases e1;exact⟨v,o,he,.inl rfl,rfl,e2,e3,e4,e5⟩
 |lm v=>obtain⟨m,o,e1,e2,e3,e4,e5⟩:=hs;cases e1;exact⟨v,o,he,.inr rfl,rfl,e2,e3,e4,e5⟩
def Stp.refl:Stp ns e h ns e h:=⟨n_ _,λ_ _ q _=>q,λ_ _ q=>.inl q,λ_ _ q _=>⟨q,rfl⟩,λ_ _ q _=>⟨q,rfl⟩,λ_ _ q=>⟨_,q,rfl⟩,λ_ _ q=>⟨_,q,rfl⟩⟩
def Stp.trans(S:Sat X h0 ns e ae h)(a:Stp ns e h ns1 e1 h1)(b:Stp ns1 e1 h1 f_ e2 h2):Stp ns e h f_ e2 h2:=by
 refine⟨C_ a.len b.len,λm o q hm=>?_,λi n q=>?_,λi s q hl=>?_,λi s q hl=>?_,λi v q=>?_,λi v q=>?_⟩
 .refine b.keep m o (a.keep m o q hm) λ⟨i,s,z1,z2,z3⟩=>hm ?_;have hlt:=(p_.mp q).1;rcases a.nw i m z1 with z |z
  .obtain⟨s0,v,o',q1,q2,_⟩:=S.own z;rcases q2 with q2 |q2
   .exact⟨i,s0,z,q1,q2⟩
   .have:=(a.lk i s0 q1 q2).1
    rw[z2] at this;cases this;exfalso;cases s <;> first |cases z3;done |cases q2;done
  .omega
 .rcases b.nw i n q with z |z
  .exact a.nw i n z
  .exact .inr (C_ a.len z)
 .obtain⟨q1,q2⟩:=a.lk i s q hl;obtain⟨q3,q4⟩:=b.lk i s q1 hl;exact⟨q3,q4.trans q2⟩
 .obtain⟨q1,q2⟩:=b.lk' i s q hl;obtain⟨q3,q4⟩:=a.lk' i s q1 hl;exact⟨q3,q2.trans q4⟩
 .obtain⟨u,q1,q2⟩:=b.mu i v q;obtain⟨u',q3,q4⟩:=a.mu i u q1;exact⟨u',q3,q2.trans q4⟩
 .obtain⟨u,q1,q2⟩:=a.mu' i v q;obtain⟨u',q3,q4⟩:=b.mu' i u q1;exact⟨u',q3,q4.trans q2⟩
def Stp.mov(S:Sat X h0 ns e ae h)(a:Stp ns e h ns1 e1 h1):Mov (Oc X ns) (Oc X ns1) h h1:=λn o p q=>by
 have hlt:=(p_.mp q).1;have hm:¬ Mt ns e n:=λ⟨i,s,z,_⟩=>p.2 (aT.mpr ⟨i,z⟩);refine⟨⟨p.1,λz=>?_⟩,a.keep n o q hm⟩;obtain⟨i,z⟩:=aT.mp z;rcases a.nw i n z with z |z
 .exact p.2 (aT.mpr ⟨i,z⟩)
 .omega
def cD(q:h[n]?=some o):n<h.length:=(p_.mp q).1
def jK{n:Nat}{o:Ob}{g:AH}(q:h[n]?=some o):(h++g)[n]?=some o:=by rw[J_ (cD q)];exact q
def Fe:(h++[o])[h.length]?=some o:=by rw[NX (n_ _),Pa];rfl
def SlR.mono(m:Mov P P' h h')(k:∀j o,n=some (some j)->h[j]?=some o->h'[j]?=some o)(r:SlR P h0 n d h s):SlR P' h0 n d h' s:=by
 cases s with
 |no=>exact r
 |sh v=>obtain⟨q,x,q1,q2⟩:=r;exact⟨q,x,q1,q2.mono m⟩
 |ow v=>obtain⟨j,o,q1,q2,q3,q4,q5,q6⟩:=r;exact⟨j,o,q1,q2,q3,k j o q1 q4,q5,q6.mono m⟩
 |lo v=>obtain⟨j,o,q1,q2,q3,q4,q5,q6⟩:=r;exact⟨j,o,q1,q2,q3,k j o q1 q4,q5,q6.mono m⟩
 |mu v=>obtain⟨j,o,q1,q2,q4,q5,q6⟩:=r;exact⟨j,o,q1,q2,k j o q1 q4,q5,q6.mono m⟩
 |lm v=>obtain⟨j,o,q1,q2,q4,q5,q6⟩:=r;exact⟨j,o,q1,q2,k j o q1 q4,q5,q6.mono m⟩
def Xn(X:Nat->Prop)(n:Nat):Nat->Prop:=λm=>X m\/m=n
def Sat.grow(S:Sat X h0 ns e ae h)(o:Ob):Sat (Xn X h.length) h0 ns e ae (h++[o]):=by
 have mv:Mov (Oc X ns) (Oc (Xn X h.length) ns) h (h++[o]):=λn o' p q=>⟨⟨λz=>by
  rcases z with z |z
  .exact p.1 z
  .have:=cD q;omega,p.2⟩,jK q⟩
 refine⟨S.l1,S.l2,by rw[u_];have:=S.lh;omega,λn z=>?_,S.inj,λi n q z=>?_,λi s q=>(S.sl i s q).mono mv λj o' _ q'=>jK q'⟩
 .rw[u_];rcases z with z |z
  .have:=S.xl n z;omega
  .subst z;show h.length<h.length+1;omega
 .rcases z with z |z
  .exact S.nx i n q z
  .obtain⟨_,_,_,_,_,_,_,q',_⟩:=S.own q
   have:=cD q';omega
def Sat.weak(S:Sat Y h0 ns e ae h)(hx:∀n,X n->Y n):Sat X h0 ns e ae h:=
 ⟨S.l1,S.l2,S.lh,λn z=>S.xl n (hx n z),S.inj,λi n q z=>S.nx i n q (hx n z),λi s q=>(S.sl i s q).mono (λn o p q=>⟨⟨λz=>p.1 (hx n z),p.2⟩,q⟩) λ_ _ _ q=>q⟩
def Stp.grow(o:Ob):Stp ns e h ns e (h++[o]):=⟨by rw[u_];omega,λ_ _ q _=>jK q,λ_ _ q=>.inl q,λ_ _ q _=>⟨q,rfl⟩,λ_ _ q _=>⟨q,rfl⟩,λ_ _ q=>⟨_,q,rfl⟩,λ_ _ q=>⟨_,q,rfl⟩⟩
end
section
variable{X:Nat->Prop}{h0:Nat}{ns ns':Ns}{e e':E3}{ae:AE}{h h' hs:AH}
def ba{α:Type}{l:List α}{i j:Nat}{a b:α}(hi:i<l.length)(q:(l.set i a)[j]?=some b):(j=i/\b=a)\/(j≠i/\l[j]?=some b):=by
 rw[Px] at q;by_cases z:i=j
 .subst z;rw[if_pos rfl,if_pos hi] at q;exact .inl ⟨rfl,(G_ q).symm⟩
 .rw[if_neg z] at q;exact .inr ⟨λy=>z y.symm,q⟩
def bz{α:Type}{l:List α}{i:Nat}{a:α}(hi:i<l.length):(l.set i a)[i]?=some a:=by rw[Px,if_pos rfl,if_pos hi]
def bp{α:Type}{l:List α}{i j:Nat}{a:α}(hi:j≠i):(l.set i a)[j]?=l[j]?:=by rw[PU (λy=>hi y.symm)]
def eX(p:Oc X ns n):Oc X (ns.set i none) n:=⟨p.1,λz=>by
 rcases Pk z with z |z
 .exact p.2 z
 .cases z⟩
def Sat.putN(S:Sat X h0 ns e ae h)(hi:i<e.length)(q:SlR (Oc X (ns.set i none)) h0 (some none) (some d) h s):Sat X h0 (ns.set i none) (e.set i s) (ae.set i d) h:=by
 have hn:i<ns.length:=by rw[S.l2];exact hi
 have ha:i<ae.length:=by rw[S.l1];exact hi
 refine⟨by rw[H_,H_];exact S.l1,by rw[H_,H_];exact S.l2,S.lh,S.xl,λj k n q1 q2=>?_,λj n q1=>?_,λj s' q1=>?_⟩
 .rcases ba hn q1 with ⟨_,z⟩ |⟨_,z⟩
  .cases z
  rcases ba hn q2 with ⟨_,y⟩ |⟨_,y⟩
  .cases y
  exact S.inj j k n z y
 .rcases ba hn q1 with ⟨_,z⟩ |⟨_,z⟩
  .cases z
  exact S.nx j n z
 .rcases ba hi q1 with ⟨rfl,rfl⟩ |⟨z,q2⟩
  .rw[bz hn,bz ha];exact q
  .rw[bp z,bp z];exact (S.sl j s' q2).mono (λn o p q=>⟨eX p,q⟩) λ_ _ _ q=>q
def Sat.putN'(S:Sat X h0 ns e ae h)(hi:i<e.length)(q:SlR (Oc X (ns.set i none)) h0 (some none) (ae[i]?) h s):Sat X h0 (ns.set i none) (e.set i s) ae h:=by
 have ha:i<ae.length:=by rw[S.l1];exact hi
 have:=S.putN hi (s:=s) (d:=ae[i]) (by rw[y_ ha] at q;exact q)
 rw[List.set_getElem_self] at this;exact this
def Sat.putO(S:Sat (Xn X n) h0 ns e ae h)(hx:¬ X n)(hi:i<e.length)(hn0:h0<=n)(eo:h[n]?=some o)(hf:bC o)(r:Rc (Oc (Xn X n) ns) h o v):Sat X h0 (ns.set i (some n)) (e.set i (.ow v)) (ae.set i (some (.ref n))) h:=by
 have hn:i<ns.length:=by rw[S.l2];exact hi
 have ha:i<ae.length:=by rw[S.l1];exact hi
 have nn:∀j:Nat,ns[j]?≠some (some n):=λj q=>S.nx j n q (.inr rfl);have mv:Mov (Oc (Xn X n) ns) (Oc X (ns.set i (some n))) h h:=λm o' p q=>⟨⟨λz=>p.1 (.inl z),λz=>by
  rcases Pk z with z |z
  .exact p.2 z
  .cases z;exact p.1 (.inr rfl)⟩,q⟩
 refine⟨by rw[H_,H_];exact S.l1,by rw[H_,H_];exact S.l2,S.lh,λm z=>S.xl m (.inl z),λj k m q1 q2=>?_,λj m q1 z=>?_,λj s' q1=>?_⟩
 .rcases ba hn q1 with ⟨z1,z⟩ |⟨z1,z⟩ <;> rcases ba hn q2 with ⟨y1,y⟩ |⟨y1,y⟩
  .rw[z1,y1]
  .cases z;exact absurd y (nn k)
  .cases y;exact absurd z (nn j)
  .exact S.inj j k m z y
 .rcases ba hn q1 with ⟨_,y⟩ |⟨_,y⟩
  .cases y;exact hx z
  .exact S.nx j m y (.inl z)
 .rcases ba hi q1 with ⟨rfl,rfl⟩ |⟨z,q2⟩
  .rw[bz hn,bz ha];exact⟨n,o,rfl,rfl,hn0,eo,hf,r.mono mv⟩
  .rw[bp z,bp z];exact (S.sl j s' q2).mono mv λ_ _ _ q=>q
noncomputable def Sl.pl:Sl->Bool
 |.no=>true
 |.sh _=>true
 |.ow _=>true
 |_=>false
def Stp.put(A:Stp ns0 e0 hs ns e h)(hi:i<e.length)(hx:∀n,x=some n->hs.length<=n)(q0:e[i]?=some s0)(p0:s0.pl=true)(p:s.pl=true)(l2:ns.length=e.length):Stp ns0 e0 hs (ns.set i x) (e.set i s) h:=by
 have hn:i<ns.length:=by rw[l2];exact hi
 refine⟨A.len,A.keep,λj n q=>?_,λj s' q hl=>?_,λj s' q hl=>?_,λj v q=>?_,λj v q=>?_⟩
 .rcases ba hn q with ⟨_,z⟩ |⟨_,z⟩
  .exact .inr (hx n z.symm)
  .exact A.nw j n z
 .obtain⟨q1,q2⟩:=A.lk j s' q hl;have z:j≠i:=λz=>by subst z;rw[q0] at q1;cases q1;cases s0 <;> first |cases p0;done |cases hl;done
  rw[bp z,bp z];exact⟨q1,q2⟩
 .rcases ba hi q with ⟨_,z⟩ |⟨z,q1⟩
  .subst z;cases s' <;> first |cases p;done |cases hl;done
  .rw[bp z];exact A.lk' j s' q1 hl
 .rcases ba hi q with ⟨_,z⟩ |⟨z,q1⟩
  .subst z;cases p
  .rw[bp z];exact A.mu j v q1
 .obtain⟨u,q1,q2⟩:=A.mu' j v q;have z:j≠i:=λz=>by subst z;rw[q0] at q1;cases q1;cases p0
  exact⟨u,by rw[bp z];exact q1,by rw[bp z];exact q2⟩
end
inductive Tm where
 |val (v:Val) |new (v:Val) |bor (i:Nat)
inductive R3(α:Type) where
 |ok (a:α) (e:E3) |exc (c:Str) (e:E3) |stuck
noncomputable def R3.bind{α β:Type}(r:R3 α)(f:α->E3->R3 β):R3 β:=match r with
 |.ok a e=>f a e
 |.exc c e=>.exc c e
 |.stuck=>.stuck
abbrev ME3:=E3->R3 Tm
abbrev MT3:=E3->R3 Bool
abbrev MA3:=E3->R3 (List Tm)
def Po{δ α:Type}(X:Nat->Prop)(h0:Nat)(ns:Ns)(e:E3)(ae:AE)(h:AH)(rel:Ns->E3->AH->δ->α->Prop)(r2:R δ):R3 α->Prop
 |.stuck=>True
 |.ok t e'=>∃d h' ns',r2=.ok d h'/\Stp ns e h ns' e' h'/\Sat X h0 ns' e' ae h'/\rel ns' e' h' d t
 |.exc c e'=>∃h' ns',r2=.exc c h'/\Stp ns e h ns' e' h'/\Sat X h0 ns' e' ae h'
def relE(X:Nat->Prop)(h0 L:Nat)(ae:AE)(ns:Ns)(e:E3)(h:AH)(d:D):Tm->Prop
 |.val v=>Rd (Oc X ns) h d v
 |.new v=>∃n o,d=.ref n/\L<=n/\¬ X n/\h[n]?=some o/\bC o/\Sat (Xn X n) h0 ns e ae h/\Rc (Oc (Xn X n) ns) h o v
 |.bor i=>ae[i]?=some (some d)
def relT(_:Ns)(_:E3)(_:AH)(b c:Bool):Prop:=b=c
inductive TsR(X:Nat->Prop)(ns:Ns)(ae:AE)(h:AH):List D->List Tm->Prop where
 |nil:TsR X ns ae h [] []
 |val {d:D}{v:Val}{ds:List D}{ts:List Tm} (r:Rd (Oc X ns) h d v) (rr:TsR X ns ae h ds ts):TsR X ns ae h (d::ds) (.val v::ts)
 |bor {d:D}{i:Nat}{ds:List D}{ts:List Tm} (q:ae[i]?=some (some d)) (rr:TsR X ns ae h ds ts):TsR X ns ae h (d::ds) (.bor i::ts)
def relA(X:Nat->Prop)(ae:AE)(ns:Ns)(_:E3)(h:AH)(ds:List D)(ts:List Tm):Prop:=TsR X ns ae h ds ts
def RE(F:ME)(G:ME3):Prop:=∀X h0 L ns e ae h,Sat X h0 ns e ae h->L<=h.length->Po X h0 ns e ae h (relE X h0 L ae) (F ae h) (G e)
def RT(F:MT)(G:MT3):Prop:=∀X h0 ns e ae h,Sat X h0 ns e ae h->Po X h0 ns e ae h relT (F ae h) (G e)
def RA(F:MA)(G:MA3):Prop:=∀X h0 ns e ae h,Sat X h0 ns e ae h->Po X h0 ns e ae h (relA X ae) (F ae h) (G e)
section
variable{X:Nat->Prop}{h0 L:Nat}{ns ns':Ns}{e e':E3}{ae:AE}{h h':AH}
def Po.bind(S:Sat X h0 ns e ae h)(p:Po X h0 ns e ae h rel r2 r3)
 (k:∀d t h' ns' e',Stp ns e h ns' e' h'->Sat X h0 ns' e' ae h'->rel ns' e' h' d t->Po X h0 ns' e' ae h' rel' (f2 d h') (f3 t e')):Po X h0 ns e ae h rel' (r2.bind f2) (r3.bind f3):=by
 cases r3 with
 |stuck=>trivial
 |exc c e'=>obtain⟨h',ns',q,q1,q2⟩:=p;subst q;exact⟨h',ns',rfl,q1,q2⟩
 |
  ok t e'=>
  obtain⟨d,h',ns',q,q1,q2,q3⟩:=p;subst q
  have:=k d t h' ns' e' q1 q2 q3
  show Po X h0 ns e ae h rel' (f2 d h') (f3 t e');generalize f3 t e'=r at *;cases r with
  |stuck=>trivial
  |exc c e2=>obtain⟨h2,f_,y,y1,y2⟩:=this;exact⟨h2,f_,y,q1.trans S y1,y2⟩
  |ok t2 e2=>obtain⟨d2,h2,f_,y,y1,y2,y3⟩:=this;exact⟨d2,h2,f_,y,q1.trans S y1,y2,y3⟩
def Po.ret(S:Sat X h0 ns e ae h)(q:rel ns e h d t):Po X h0 ns e ae h rel (.ok d h) (.ok t e):=⟨d,h,ns,rfl,.refl,S,q⟩
def TsR.stp(S:Sat X h0 ns e ae h)(a:Stp ns e h ns' e' h')(r:TsR X ns ae h ds ts):TsR X ns' ae h' ds ts:=by
 induction r with
 |nil=>exact .nil
 |val r _ ih=>exact .val (r.mono (a.mov S)) ih
 |bor q _ ih=>exact .bor q ih
noncomputable def rs(e:E3):Tm->Option Val
 |.val v=>some v
 |.new v=>some v
 |.bor i=>(e[i]?).bind Sl.val
def Sat.bor(S:Sat X h0 ns e ae h){i:Nat}{d:D}{v:Val}(q:ae[i]?=some (some d))(r:(e[i]?).bind Sl.val=some v):ShR (Oc X ns) h d v:=by
 cases z:e[i]? with
 |none=>rw[z] at r;cases r
 |
  some s=>
  rw[z] at r;have y:=S.sl i s z;rw[q] at y;have r':s.val=some v:=r;cases s with
  |no=>cases r'
  |sh u=>cases r';obtain⟨_,x,e1,e2⟩:=y;cases e1;exact .inl e2
  |ow u=>cases r';obtain⟨m,o,_,e2,_,e3,_,e4⟩:=y;cases e2;exact .inr ⟨m,o,rfl,e3,e4⟩
  |lo u=>cases r';obtain⟨m,o,_,e2,_,e3,_,e4⟩:=y;cases e2;exact .inr ⟨m,o,rfl,e3,e4⟩
  |mu u=>cases r';obtain⟨m,o,_,e2,e3,_,e4⟩:=y;cases e2;exact .inr ⟨m,o,rfl,e3,e4⟩
  |lm u=>cases r';obtain⟨m,o,_,e2,e3,_,e4⟩:=y;cases e2;exact .inr ⟨m,o,rfl,e3,e4⟩
def relE.new(r:relE X h0 L ae ns e h d (.new v)):Rd (Oc X ns) h d v:=by obtain⟨n,o,rfl,_,hx,eo,_,S,rc⟩:=r;exact .cell ⟨hx,λz=>by obtain⟨i,z⟩:=aT.mp z;exact S.nx i n z (.inr rfl)⟩ eo (rc.mono λm o p q=>⟨⟨λz=>p.1 (.inl z),p.2⟩,q⟩)
def relE.sh{d:D}{t:Tm}{v:Val}(S:Sat X h0 ns e ae h)(r:relE X h0 L ae ns e h d t)(q:rs e t=some v):ShR (Oc X ns) h d v:=by
 cases t with
 |val u=>cases q;exact .inl r
 |new u=>cases q;exact .inl r.new
 |bor i=>exact S.bor r q
def relE.stp(S:Sat X h0 ns e ae h)(a:Stp ns e h ns' e' h')(r:relE X h0 L ae ns e h d t)(hn:∀v,t ≠ .new v):relE X h0 L ae ns' e' h' d t:=by
 cases t with
 |val u=>exact Rd.mono (a.mov S) r
 |new u=>exact absurd rfl (hn u)
 |bor i=>exact r
noncomputable def Tm.drop:Tm->Tm
 |.new v=>.val v
 |t=>t
def relE.drop(r:relE X h0 L ae ns e h d t):relE X h0 L ae ns e h d t.drop/\∀v,t.drop ≠ .new v:=by
 cases t with
 |val u=>exact⟨r,λ_ z=>nomatch z⟩
 |new u=>exact⟨r.new,λ_ z=>nomatch z⟩
 |bor i=>exact⟨r,λ_ z=>nomatch z⟩
noncomputable def rss(e:E3):List Tm->Option (List Val)
 | []=>some []
 |t::ts=>match rs e t,rss e ts with
  |some v,some vs=>some (v::vs)
  |_,_=>none
def TsR.sh{ds:List D}{ts:List Tm}{vs:List Val}(S:Sat X h0 ns e ae h)(r:TsR X ns ae h ds ts)(q:rss e ts=some vs):ShRs (Oc X ns) h ds vs:=by
 induction r generalizing vs with
 |nil=>cases q;exact .nil
 |
  val r _ ih=>
  unfold rss at q;split at q
  .rename_i e1 e2;cases q;cases e1;exact .cons (.inl r) (ih e2)
  .cases q
 |
  bor q' _ ih=>
  unfold rss at q;split at q
  .rename_i e1 e2;cases q;exact .cons (S.bor q' e1) (ih e2)
  .cases q
end
inductive Bv where
 |val (v:Val) |new (v:Val) |stuck
def BvR(P:Nat->Prop)(h:AH)(r:R D):Bv->Prop
 |.val v=>∃d,r=.ok d h/\Rd P h d v
 |.new v=>∃o,r=.ok (.ref h.length) (h++[o])/\bC o/\Rc P h o v
 |.stuck=>True
noncomputable def Bv.at(b:Bv)(e:E3):R3 Tm:=match b with
 |.val v=>.ok (.val v) e
 |.new v=>.ok (.new v) e
 |.stuck=>.stuck
def BvR.po(S:Sat X h0 ns e ae h)(hl:L<=h.length)(q:BvR (Oc X ns) h r b):Po X h0 ns e ae h (relE X h0 L ae) r (b.at e):=by
 cases b with
 |stuck=>trivial
 |val v=>obtain⟨d,rfl,r⟩:=q;exact Po.ret S r
 |
  new v=>
  obtain⟨o,rfl,hf,r⟩:=q;have S':=S.grow o;refine⟨_,_,ns,rfl,.grow o,S'.weak λn z=>.inl z,h.length,o,rfl,hl,λz=>?_,Fe,hf,S',r.mono λn o' p q=>⟨⟨λz=>?_,p.2⟩,jK q⟩⟩
  .have:=S.xl _ z;omega
  .rcases z with z |z
   .exact p.1 z
   .have:=cD q;omega
def RU(g2:D->AH->R D)(g3:Val->Bv):Prop:=∀P h d v,ShR P h d v->BvR P h (g2 d h) (g3 v)
def RO(g2:D->D->AH->R D)(g3:Val->Val->Bv):Prop:=∀P h d1 d2 v1 v2,ShR P h d1 v1->ShR P h d2 v2->BvR P h (g2 d1 d2 h) (g3 v1 v2)
def RFn(g2:Fn)(g3:List Val->Bv):Prop:=∀P h ds vs,ShRs P h ds vs->BvR P h (g2 ds h) (g3 vs)
noncomputable def BJ(i:Nat):ME3:=λe=>match e[i]? with
 |some (.sh v)=>.ok (.val v) e
 |some .no=>.stuck
 |some _=>.ok (.bor i) e
 |none=>.stuck
noncomputable def vC(v:Val):ME3:=λe=>.ok (.val v) e
noncomputable def vUn(g:Val->Bv)(F:ME3):ME3:=λe=>(F e).bind λt e1=>match rs e1 t with
 |some v=>(g v).at e1
 |none=>.stuck
noncomputable def vOp(g:Val->Val->Bv)(F G:ME3):ME3:=λe=>(F e).bind λt1 e1=>(G e1).bind λt2 e2=>match rs e2 t1.drop,rs e2 t2 with
 |some v1,some v2=>(g v1 v2).at e2
 |_,_=>.stuck
noncomputable def mR:MA3:=λe=>.ok [] e
noncomputable def CN(F:ME3)(A:MA3):MA3:=λe=>(F e).bind λt e1=>(A e1).bind λts e2=>.ok (t.drop::ts) e2
noncomputable def vFn(g:List Val->Bv)(A:MA3):ME3:=λe=>(A e).bind λts e1=>match rss e1 ts with
 |some vs=>(g vs).at e1
 |none=>.stuck
noncomputable def b9(e:E3):Tm->Option (E3×Val)
 |.val v=>some (e,v)
 |.new v=>some (e,v)
 |.bor i=>match e[i]? with
  |some (.sh v)=>some (e,v)
  |some (.ow v)=>some (e.set i (.sh v),v)
  |_=>none
noncomputable def dem(e:E3):List Tm->Option (E3×List Val)
 | []=>some (e,[])
 |t::ts=>match b9 e t with
  |some (e1,v)=>match dem e1 ts with
   |some (e2,vs)=>some (e2,v::vs)
   |none=>none
  |none=>none
noncomputable def vTup(A:MA3):ME3:=λe=>(A e).bind λts e1=>match dem e1 ts with
 |some (e2,vs)=>if vs.length<=16777216 then .ok (.val (.tup vs)) e2 else .stuck
 |none=>.stuck
noncomputable def vLst(A:MA3):ME3:=λe=>(A e).bind λts e1=>match dem e1 ts with
 |some (e2,vs)=>if vs.length<=16777216 then .ok (.new (.lst vs)) e2 else .stuck
 |none=>.stuck
noncomputable def bOf:Option Val->Option Bool
 |some (.bl b)=>some b
 |_=>none
noncomputable def vAnd(F G:ME3):ME3:=λe=>(F e).bind λt e1=>match bOf (rs e1 t) with
 |some true=>G e1
 |some false=>.ok (.val (.bl false)) e1
 |none=>.stuck
noncomputable def vNot(F:ME3):ME3:=λe=>(F e).bind λt e1=>match bOf (rs e1 t) with
 |some b=>.ok (.val (.bl (!b))) e1
 |none=>.stuck
noncomputable def cOf(F:ME3):MT3:=λe=>(F e).bind λt e1=>match bOf (rs e1 t) with
 |some b=>.ok b e1
 |none=>.stuck
noncomputable def cAn(c d:MT3):MT3:=λe=>(c e).bind λb e1=>if b=true then d e1 else .ok false e1
noncomputable def cO(c d:MT3):MT3:=λe=>(c e).bind λb e1=>if b=true then .ok true e1 else d e1
noncomputable def cNo(c:MT3):MT3:=λe=>(c e).bind λb e1=>.ok (!b) e1
noncomputable def cY:MT3:=λe=>.ok true e
noncomputable def kS:Val->Option Bool
 |.non=>some false
 |.bl b=>some b
 |.int i=>some (i != 0)
 |.tup xs=>some (!xs.isEmpty)
 |.lst xs=>some (!xs.isEmpty)
 |.kl xs=>some (!xs.isEmpty)
 |_=>none
noncomputable def cTr(F:ME3):MT3:=λe=>(F e).bind λt e1=>match (rs e1 t).bind kS with
 |some b=>.ok b e1
 |none=>.stuck
section
variable{F G:ME}{F3 G3:ME3}{A:MA}{A3:MA3}{c d:MT}{c3 d3:MT3}
def HM(i:Nat):RE (bJ i) (BJ i):=λX h0 L ns e ae h S hl=>by
 unfold BJ;cases q:e[i]? with
 |none=>trivial
 |
  some s=>
  have y:=S.sl i s q;cases s with
  |no=>trivial
  |sh v=>obtain⟨_,x,e1,e2⟩:=y;unfold bJ;rw[e1];exact Po.ret S e2
  |ow v=>obtain⟨m,o,_,e2,_⟩:=y;unfold bJ;rw[e2];exact Po.ret S e2
  |lo v=>obtain⟨m,o,_,e2,_⟩:=y;unfold bJ;rw[e2];exact Po.ret S e2
  |mu v=>obtain⟨m,o,_,e2,_⟩:=y;unfold bJ;rw[e2];exact Po.ret S e2
  |lm v=>obtain⟨m,o,_,e2,_⟩:=y;unfold bJ;rw[e2];exact Po.ret S e2
def m6{d:D}{v:Val}(r:∀P h,Rd P h d v):RE (eC d) (vC v):=λX h0 L ns e ae h S hl=>Po.ret S (r _ _)
def MZ(hg:RU g g3)(hF:RE F F3):RE (eUn g F) (vUn g3 F3):=λX h0 L ns e ae h S hl=>
 Po.bind S (hF X h0 L ns e ae h S hl) λd t h1 ns1 e1 a1 S1 r1=>by
  try dsimp only
  split
  .rename_i v q;exact BvR.po S1 (C_ hl a1.len) (hg _ _ _ _ (r1.sh S1 q))
  .trivial
def NO(hg:RO g g3)(hF:RE F F3)(hG:RE G G3):RE (eOp g F G) (vOp g3 F3 G3):=λX h0 L ns e ae h S hl=>
 Po.bind S (hF X h0 L ns e ae h S hl) λd1 t1 h1 ns1 e1 a1 S1 r1=>Po.bind S1 (hG X h0 L ns1 e1 ae h1 S1 (C_ hl a1.len)) λd2 t2 h2 f_ e2 a2 S2 r2=>by
  try dsimp only
  split
  .rename_i v1 v2 q1 q2;obtain⟨r1',hn⟩:=r1.drop;exact BvR.po S2 (C_ hl (C_ a1.len a2.len)) (hg _ _ _ _ _ _ ((r1'.stp S1 a2 hn).sh S2 q1) (r2.sh S2 q2))
  .trivial
def yN:RA o8 mR:=λX h0 ns e ae h S=>Po.ret S .nil
def Fb(hF:RE F F3)(hA:RA A A3):RA (va F A) (CN F3 A3):=λX h0 ns e ae h S=>
 Po.bind S (hF X h0 0 ns e ae h S (N2 _)) λd1 t1 h1 ns1 e1 a1 S1 r1=>Po.bind S1 (hA X h0 ns1 e1 ae h1 S1) λds ts h2 f_ e2 a2 S2 r2=>by
  obtain⟨r1',hn⟩:=r1.drop;have r3:=r1'.stp S1 a2 hn;refine Po.ret S2 ?_;show TsR X f_ ae h2 (d1::ds) (t1.drop::ts);generalize t1.drop=t at *;cases t with
  |val v=>exact .val r3 r2
  |new v=>exact absurd rfl (hn v)
  |bor i=>exact .bor r3 r2
def Mz(hg:RFn g g3)(hA:RA A A3):RE (eFn g A) (vFn g3 A3):=λX h0 L ns e ae h S hl=>
 Po.bind S (hA X h0 ns e ae h S) λds ts h1 ns1 e1 a1 S1 r1=>by
  try dsimp only
  split
  .rename_i vs q;exact BvR.po S1 (C_ hl a1.len) (hg _ _ _ _ (TsR.sh S1 r1 q))
  .trivial
def Kl(S:Sat X h0 ns e ae h)(q:e[i]?=some (.ow v)):∃n,ae[i]?=some (some (.ref n))/\Sat X h0 (ns.set i none) (e.set i (.sh v)) ae h/\Stp ns e h (ns.set i none) (e.set i (.sh v)) h/\Rd (Oc X (ns.set i none)) h (.ref n) v:=by
 obtain⟨n,o,q1,q2,_,q3,_,q4⟩:=S.sl i _ q;have hi:=(p_.mp q).1;have hn:i<ns.length:=by rw[S.l2];exact hi
 have r:Rd (Oc X (ns.set i none)) h (.ref n) v:=.cell ⟨S.nx i n q1,λz=>by
  obtain⟨j,z⟩:=aT.mp z;rcases ba hn z with ⟨_,y⟩ |⟨y,z⟩
  .cases y
  .exact y (S.inj j i n z q1)⟩ q3 (q4.mono λm o p q=>⟨eX p,q⟩)
 exact⟨n,q2,S.putN' hi ⟨rfl,_,q2,r⟩,Stp.refl.put (x:=none) hi (λ_ z=>by cases z) q rfl rfl S.l2,r⟩
def eY{X:Nat->Prop}{h0 L:Nat}{ns:Ns}{e e':E3}{ae:AE}{h:AH}{d:D}{t:Tm}{v:Val}(S:Sat X h0 ns e ae h)(r:relE X h0 L ae ns e h d t)(q:b9 e t=some (e',v)):∃ns',Sat X h0 ns' e' ae h/\Stp ns e h ns' e' h/\Rd (Oc X ns') h d v:=by
 cases t with
 |val u=>cases q;exact⟨ns,S,.refl,r⟩
 |new u=>cases q;exact⟨ns,S,.refl,r.new⟩
 |
  bor i=>
  unfold b9 at q;dsimp only at q;have r':ae[i]?=some (some d):=r;split at q
  .rename_i u q1;cases q;obtain⟨_,x,e1,e2⟩:=S.sl i _ q1;rw[r'] at e1;cases e1;exact⟨ns,S,.refl,e2⟩
  .rename_i u q1;cases q;obtain⟨n,e1,S',a',e2⟩:=Kl S q1;rw[r'] at e1;cases e1;exact⟨_,S',a',e2⟩
  .cases q
def gU:∀{ds:List D}{vs:List Val}{ns:Ns}{e e':E3},Sat X h0 ns e ae h->TsR X ns ae h ds ts->dem e ts=some (e',vs)->∃ns',Sat X h0 ns' e' ae h/\Stp ns e h ns' e' h/\Rds (Oc X ns') h ds vs:=by
 induction ts with
 |nil=>intro ds vs ns e e' S r q;cases r;cases q;exact⟨ns,S,.refl,.nil⟩
 |
  cons t ts ih=>
  intro ds vs ns e e' S r q;unfold dem at q;split at q
  .rename_i e1 v q1;split at q
   .rename_i e2 vs' q2;cases q;have hr:∃d ds',ds=d::ds'/\relE X h0 0 ae ns e h d t/\TsR X ns ae h ds' ts:=by
     cases r with
     |val r rr=>exact⟨_,_,rfl,r,rr⟩
     |bor r rr=>exact⟨_,_,rfl,r,rr⟩
    obtain⟨d,ds',rfl,hr⟩:=hr;obtain⟨ns1,S1,a1,r1⟩:=eY S hr.1 q1;obtain⟨f_,S2,a2,r2⟩:=ih S1 (hr.2.stp S a1) q2;exact⟨f_,S2,a1.trans S a2,.cons (r1.mono (a2.mov S1)) r2⟩
   .cases q
  .cases q
def FY(hA:RA A A3):RE (eFn lV A) (vTup A3):=λX h0 L ns e ae h S hl=>
 Po.bind S (hA X h0 ns e ae h S) λds ts h1 ns1 e1 a1 S1 r1=>by
  try dsimp only
  split
  .rename_i e2 vs q;split
   .rename_i hv;obtain⟨f_,S2,a2,r2⟩:=gU S1 r1 q;exact⟨.tup ds,h1,f_,by unfold lV;rw[if_pos (by rw[r2.len];exact hv)],a2,S2,.tup r2⟩
   .trivial
  .trivial
def Iq(hA:RA A A3):RE (eFn cU A) (vLst A3):=λX h0 L ns e ae h S hl=>
 Po.bind S (hA X h0 ns e ae h S) λds ts h1 ns1 e1 a1 S1 r1=>by
  try dsimp only
  split
  .rename_i e2 vs q;split
   .rename_i hv;obtain⟨f_,S2,a2,r2⟩:=gU S1 r1 q;have p:=BvR.po (r:=cU ds h1) (b:=.new (.lst vs)) S2 (C_ hl a1.len) ⟨.lst ds,by unfold cU;rw[if_pos (by rw[r2.len];exact hv)],trivial,.lst r2⟩;obtain⟨d,h',ns',y,y1,y2,y3⟩:=p;exact⟨d,h',ns',y,a2.trans S1 y1,y2,y3⟩
   .trivial
  .trivial
def lI(S1:Sat X h0 ns1 e1 ae h1)(r1:relE X h0 L ae ns1 e1 h1 d1 t1)(q:bOf (rs e1 t1)=some b):d1=.bl b:=by
 unfold bOf at q;split at q
 .rename_i b' q';cases q;exact (r1.sh S1 q').bl
 .cases q
def Kp(hF:RE F F3)(hG:RE G G3):RE (BR F G) (vAnd F3 G3):=λX h0 L ns e ae h S hl=>
 Po.bind S (hF X h0 L ns e ae h S hl) λd1 t1 h1 ns1 e1 a1 S1 r1=>by
  try dsimp only
  split
  .rename_i q;rw[lI S1 r1 q];exact hG X h0 L ns1 e1 ae h1 S1 (C_ hl a1.len)
  .rename_i q;rw[lI S1 r1 q];exact Po.ret S1 (.bl false)
  .trivial
def Jw(hF:RE F F3):RE (B6 F) (vNot F3):=λX h0 L ns e ae h S hl=>
 Po.bind S (hF X h0 L ns e ae h S hl) λd1 t1 h1 ns1 e1 a1 S1 r1=>by
  try dsimp only
  split
  .rename_i q;rw[lI S1 r1 q];exact Po.ret S1 (.bl _)
  .trivial
def Nj(hF:RE F F3):RT (tOf F) (cOf F3):=λX h0 ns e ae h S=>
 Po.bind S (hF X h0 0 ns e ae h S (N2 _)) λd1 t1 h1 ns1 e1 a1 S1 r1=>by
  try dsimp only
  split
  .rename_i q;rw[lI S1 r1 q];exact Po.ret S1 rfl
  .trivial
def Lh(hc:RT c c3)(hd:RT d d3):RT (tAn c d) (cAn c3 d3):=λX h0 ns e ae h S=>
 Po.bind S (hc X h0 ns e ae h S) λb b' h1 ns1 e1 a1 S1 r1=>by
  cases r1;try dsimp only
  split
  .exact hd X h0 ns1 e1 ae h1 S1
  .exact Po.ret S1 rfl
def rt_o(hc:RT c c3)(hd:RT d d3):RT (tO c d) (cO c3 d3):=λX h0 ns e ae h S=>
 Po.bind S (hc X h0 ns e ae h S) λb b' h1 ns1 e1 a1 S1 r1=>by
  cases r1;try dsimp only
  split
  .exact Po.ret S1 rfl
  .exact hd X h0 ns1 e1 ae h1 S1
def MN(hc:RT c c3):RT (tNo c) (cNo c3):=λX h0 ns e ae h S=>
 Po.bind S (hc X h0 ns e ae h S) λb b' h1 ns1 e1 a1 S1 r1=>by cases r1;exact Po.ret S1 rfl
def rt_y:RT tY cY:=λX h0 ns e ae h S=>Po.ret S rfl
def EE{P:Nat->Prop}{h:AH}{d:D}{v:Val}{b:Bool}(r:ShR P h d v)(q:kS v=some b):qU d h=.ok b h:=by
 have emp:∀{ds:List D}{vs:List Val},Rds P h ds vs->ds.isEmpty=vs.isEmpty:=λr=>by cases r <;> rfl
 cases v with
 |non=>cases q;rw[r.non];rfl
 |bl b=>cases q;rw[r.bl];rfl
 |int i=>cases q;rw[r.int];rfl
 |tup xs=>cases q;obtain⟨ds,rfl,r2⟩:=r.tup;show R.ok (!ds.isEmpty) h=_;rw[emp r2]
 |lst xs=>cases q;obtain⟨n,ds,rfl,_,e1,r1⟩:=r.lst;rw[<- emp r1];unfold qU cM;dsimp only;rw[e1]
 |
  kl xs=>
  cases q;obtain⟨ds,r2,rfl |⟨n,rfl,e1⟩⟩:=r.kl
  .show R.ok (!ds.isEmpty) h=_;rw[emp r2]
  .rw[<- emp r2];unfold qU cM;dsimp only;rw[e1]
 |_=>cases q
def M1(hF:RE F F3):RT (tTr F) (cTr F3):=λX h0 ns e ae h S=>
 Po.bind S (hF X h0 0 ns e ae h S (N2 _)) λd1 t1 h1 ns1 e1 a1 S1 r1=>by
  try dsimp only
  split
  .rename_i b q;obtain⟨v,q1,q2⟩:=NV.mp q;rw[EE (r1.sh S1 q1) q2];exact Po.ret S1 rfl
  .trivial
end
inductive Rt where
 |val (v:Val) |new (v:Val) |par (i:Nat)
inductive SR3 where
 |nx (e:E3) |rt (r:Rt) (e:E3) |bk (e:E3) |ct (e:E3) |exc (c:Str) (e:E3) |stuck
abbrev MS3:=E3->SR3
def RtR(X:Nat->Prop)(h0:Nat)(ns:Ns)(e:E3)(ae:AE)(h:AH)(d:D):Rt->Prop
 |.val v=>Sat X h0 ns e ae h/\Rd (Oc X ns) h d v
 |.new v=>∃n o,d=.ref n/\h0<=n/\¬ X n/\h[n]?=some o/\bC o/\Sat (Xn X n) h0 ns e ae h/\Rc (Oc (Xn X n) ns) h o v
 |.par i=>Sat X h0 ns e ae h/\ae[i]?=some (some d)/\∃v,e[i]?=some (.mu v)
def PoS(X:Nat->Prop)(h0:Nat)(ns:Ns)(e:E3)(h:AH)(r2:SR):SR3->Prop
 |.stuck=>True
 |.nx e'=>∃bi h' ns',r2=.nx bi h'/\Stp ns e h ns' e' h'/\Sat X h0 ns' e' bi h'
 |.bk e'=>∃bi h' ns',r2=.bk bi h'/\Stp ns e h ns' e' h'/\Sat X h0 ns' e' bi h'
 |.ct e'=>∃bi h' ns',r2=.ct bi h'/\Stp ns e h ns' e' h'/\Sat X h0 ns' e' bi h'
 |.exc c e'=>∃bi h' ns',r2=.exc c bi h'/\Stp ns e h ns' e' h'/\Sat X h0 ns' e' bi h'
 |.rt r e'=>∃d bi h' ns',r2=.rt d h'/\Stp ns e h ns' e' h'/\RtR X h0 ns' e' bi h' d r
def RS(F:MS)(G:MS3):Prop:=∀X h0 ns e ae h,Sat X h0 ns e ae h->PoS X h0 ns e h (F ae h) (G e)
noncomputable def R3.toS{α:Type}(r:R3 α)(f:α->E3->SR3):SR3:=match r with
 |.ok a e=>f a e
 |.exc c e=>.exc c e
 |.stuck=>.stuck
noncomputable def SR3.then(r:SR3)(f:E3->SR3):SR3:=match r with
 |.nx e=>f e
 |r=>r
section
variable{X:Nat->Prop}{h0 L:Nat}{ns ns1 ns':Ns}{e e1 e':E3}{ae:AE}{h h1 h':AH}
def PoS.after(S:Sat X h0 ns e ae h)(a:Stp ns e h ns1 e1 h1)(p:PoS X h0 ns1 e1 h1 r2 r3):PoS X h0 ns e h r2 r3:=by
 cases r3 with
 |stuck=>trivial
 |nx e'=>obtain⟨bi,h',ns',q,q1,q2⟩:=p;exact⟨bi,h',ns',q,a.trans S q1,q2⟩
 |bk e'=>obtain⟨bi,h',ns',q,q1,q2⟩:=p;exact⟨bi,h',ns',q,a.trans S q1,q2⟩
 |ct e'=>obtain⟨bi,h',ns',q,q1,q2⟩:=p;exact⟨bi,h',ns',q,a.trans S q1,q2⟩
 |exc c e'=>obtain⟨bi,h',ns',q,q1,q2⟩:=p;exact⟨bi,h',ns',q,a.trans S q1,q2⟩
 |rt r e'=>obtain⟨d,bi,h',ns',q,q1,q2⟩:=p;exact⟨d,bi,h',ns',q,a.trans S q1,q2⟩
def PoS.toS(p:Po X h0 ns e ae h rel r2 r3)
 (k:∀d t h' ns' e',Stp ns e h ns' e' h'->Sat X h0 ns' e' ae h'->rel ns' e' h' d t->PoS X h0 ns e h (f2 d h') (f3 t e')):PoS X h0 ns e h (r2.toS ae f2) (r3.toS f3):=by
 cases r3 with
 |stuck=>trivial
 |exc c e'=>obtain⟨h',ns',rfl,q1,q2⟩:=p;exact⟨ae,h',ns',rfl,q1,q2⟩
 |ok t e'=>obtain⟨d,h',ns',rfl,q1,q2,q3⟩:=p;exact k d t h' ns' e' q1 q2 q3
def PoS.nx(a:Stp ns e h ns' e' h')(S:Sat X h0 ns' e' bi h'):PoS X h0 ns e h (.nx bi h') (.nx e'):=⟨bi,h',ns',rfl,a,S⟩
end
noncomputable def wNx:MS3:=λe=>.nx e
noncomputable def C2:MS3:=λe=>.rt (.val .non) e
noncomputable def wSeq(F G:MS3):MS3:=λe=>(F e).then G
noncomputable def Cg(F:ME3):MS3:=λe=>(F e).toS λ_ e1=>.nx e1
noncomputable def wIf(c:MT3)(F G:MS3):MS3:=λe=>(c e).toS λb e1=>if b=true then F e1 else G e1
noncomputable def ml(t:Tm)(e:E3):SR3:=match t with
 |.val v=>.rt (.val v) e
 |.new v=>.rt (.new v) e
 |.bor i=>match e[i]? with
  |some (.sh v)=>.rt (.val v) e
  |some (.ow v)=>.rt (.new v) (e.set i .no)
  |some (.mu _)=>.rt (.par i) e
  |_=>.stuck
noncomputable def wRet(F:ME3):MS3:=λe=>(F e).toS ml
noncomputable def gF(o:Bool)(i:Nat)(t:Tm)(e:E3):SR3:=match e[i]? with
 |some s0=>if s0.pl=true then (match t with
  |.val v=>.nx (e.set i (.sh v))
  |.new v=>.nx (e.set i (if o=true then .ow v else .sh v))
  |.bor j=>match b9 e (.bor j) with
   |some (e2,v)=>.nx (e2.set i (.sh v))
   |none=>.stuck) else .stuck
 |none=>.stuck
noncomputable def wAsg(o:Bool)(i:Nat)(F:ME3):MS3:=λe=>(F e).toS (gF o i)
abbrev MG3:=Val->E3->Option E3
abbrev jt:=List Val->E3->Option E3
noncomputable def pN(i:Nat):MG3:=λv e=>match e[i]? with
 |some s=>if s.pl=true then some (e.set i (.sh v)) else none
 |none=>none
noncomputable def psN:jt:=λvs e=>match vs with
 | []=>some e
 |_=>none
noncomputable def psC(g:MG3)(u:jt):jt:=λvs e=>match vs with
 |v::r=>(g v e).bind λe1=>u r e1
 | []=>none
noncomputable def pT(n:Nat)(u:jt):MG3:=λv e=>match v with
 |.tup vs=>if vs.length=n then u vs e else none
 |_=>none
noncomputable def C3(F:ME3)(g:MG3):MS3:=λe=>(F e).toS λt e1=>match b9 e1 t with
 |some (e2,v)=>match g v e2 with
  |some e3=>.nx e3
  |none=>.stuck
 |none=>.stuck
noncomputable def wPar(i j:Nat)(A:MA3):MS3:=λe=>(A e).toS λts e1=>match dem e1 ts with
 |some (e2,[v,u])=>match (pN i v e2).bind (pN j u) with
  |some e3=>.nx e3
  |none=>.stuck
 |_=>.stuck
noncomputable def AL(i:Nat)(g:Val->Val->Bv)(F:ME3):MS3:=λe=>match e[i]? with
 |some (.sh x)=>(F e).toS λt e1=>match rs e1 t with
  |some y=>match g x y with
   |.val z=>match pN i z e1 with
    |some e2=>.nx e2
    |none=>.stuck
   |_=>.stuck
  |none=>.stuck
 |_=>.stuck
noncomputable def ym(c:Str)(A:MA3):MS3:=λe=>(A e).toS λts e1=>if ts.length<=16777216 then .exc c e1 else .stuck
def RG(g2:MG)(g3:MG3):Prop:=∀X h0 ns e ae h d v e',Sat X h0 ns e ae h->Rd (Oc X ns) h d v->g3 v e=some e'->∃bi ns',g2 d ae h=.ok bi h/\Sat X h0 ns' e' bi h/\Stp ns e h ns' e' h
def RGs(g2:MGs)(g3:jt):Prop:=∀X h0 ns e ae h ds vs e',Sat X h0 ns e ae h->Rds (Oc X ns) h ds vs->g3 vs e=some e'->∃bi ns',g2 ds ae h=.ok bi h/\Sat X h0 ns' e' bi h/\Stp ns e h ns' e' h
section
variable{F G:ME}{F3 G3:ME3}{A:MA}{A3:MA3}{c d:MT}{c3 d3:MT3}{U V:MS}{U3 V3:MS3}{g:MG}{g3:MG3}{gs:MGs}{gs3:jt}
def NP:RS sNx wNx:=λX h0 ns e ae h S=>.nx .refl S
def Eo:RS wK C2:=λX h0 ns e ae h S=>⟨.non,ae,h,ns,rfl,.refl,S,.non⟩
def F8(hU:RS U U3)(hV:RS V V3):RS (zN U V) (wSeq U3 V3):=λX h0 ns e ae h S=>by
 have p:=hU X h0 ns e ae h S;show PoS X h0 ns e h ((U ae h).then V) ((U3 e).then V3);generalize U3 e=r at *;cases r with
 |stuck=>trivial
 |nx e'=>obtain⟨bi,h',ns',q,q1,q2⟩:=p;rw[q];exact PoS.after S q1 (hV X h0 ns' e' bi h' q2)
 |bk e'=>obtain⟨bi,h',ns',q,q1,q2⟩:=p;rw[q];exact⟨bi,h',ns',rfl,q1,q2⟩
 |ct e'=>obtain⟨bi,h',ns',q,q1,q2⟩:=p;rw[q];exact⟨bi,h',ns',rfl,q1,q2⟩
 |exc c e'=>obtain⟨bi,h',ns',q,q1,q2⟩:=p;rw[q];exact⟨bi,h',ns',rfl,q1,q2⟩
 |rt r e'=>obtain⟨d,bi,h',ns',q,q1,q2⟩:=p;rw[q];exact⟨d,bi,h',ns',rfl,q1,q2⟩
def D2(hF:RE F F3):RS (vh F) (Cg F3):=λX h0 ns e ae h S=>PoS.toS (hF X h0 0 ns e ae h S (N2 _)) λd t h1 ns1 e1 a1 S1 r1=>.nx a1 S1
def L4(hc:RT c c3)(hU:RS U U3)(hV:RS V V3):RS (sIf c U V) (wIf c3 U3 V3):=λX h0 ns e ae h S=>PoS.toS (hc X h0 ns e ae h S) λb b' h1 ns1 e1 a1 S1 r1=>by
 cases r1;try dsimp only
 split
 .exact PoS.after S a1 (hU X h0 ns1 e1 ae h1 S1)
 .exact PoS.after S a1 (hV X h0 ns1 e1 ae h1 S1)
def Gy(hF:RE F F3):RS (A8 F) (wRet F3):=λX h0 ns e ae h S=>PoS.toS (hF X h0 h0 ns e ae h S S.lh) λd t h1 ns1 e1 a1 S1 r1=>by
 cases t with
 |val v=>exact⟨d,ae,h1,ns1,rfl,a1,S1,r1⟩
 |new v=>obtain⟨n,o,q⟩:=r1;exact⟨d,ae,h1,ns1,rfl,a1,n,o,q⟩
 |
  bor i=>
  unfold ml;dsimp only;have r':ae[i]?=some (some d):=r1;split
  .rename_i v q;obtain⟨_,x,e1',e2⟩:=S1.sl i _ q;rw[r'] at e1';cases e1';exact⟨d,ae,h1,ns1,rfl,a1,S1,e2⟩
  .rename_i v q;obtain⟨n,o,q1,q2,q3,q4,q5,q6⟩:=S1.sl i _ q;rw[r'] at q2;cases q2;have hi:=(p_.mp q).1;have hn:i<ns1.length:=by rw[S1.l2];exact hi
   have mv:Mov (Oc X ns1) (Oc (Xn X n) (ns1.set i none)) h1 h1:=λm o' p q'=>⟨⟨λz=>by
    rcases z with z |rfl
    .exact p.1 z
    .exact p.2 (aT.mpr ⟨i,q1⟩),(eX p).2⟩,q'⟩
   have S2:=S1.putN' hi (s:=.no) rfl;refine⟨.ref n,ae,h1,ns1.set i none,rfl,a1.put (x:=none) hi (λ_ z=>by cases z) q rfl rfl S1.l2,n,o,rfl,q3,S1.nx i n q1,q4,q5,⟨S2.l1,S2.l2,S2.lh,λm z=>?_,S2.inj,λj m qj z=>?_,λj s qj=>?_⟩,q6.mono mv⟩
   .rcases z with z |rfl
    .exact S2.xl m z
    .exact cD q4
   .rcases z with z |rfl
    .exact S2.nx j m qj z
    .rcases ba hn qj with ⟨_,y⟩ |⟨y,z⟩
     .cases y
     .exact y (S1.inj j i _ z q1)
   .rcases ba hi qj with ⟨rfl,rfl⟩ |⟨z,qj'⟩
    .rw[bz hn];rfl
    .rw[bp z];exact (S1.sl j s qj').mono mv λ_ _ _ q=>q
  .rename_i v q;exact⟨d,ae,h1,ns1,rfl,a1,S1,r',v,q⟩
  .trivial
def Ho(o:Bool)(i:Nat)(hF:RE F F3):RS (gx F (gN i)) (wAsg o i F3):=λX h0 ns e ae h S=>PoS.toS (hF X h0 h.length ns e ae h S (n_ _)) λd t h1 ns1 e1 a1 S1 r1=>by
 show PoS X h0 ns e h (.nx (ae.set i (some d)) h1) (gF o i t e1);unfold gF;split
 .rename_i s0 q0;split
  .rename_i p0;have hi:=(p_.mp q0).1;cases t with
   |val v=>exact .nx (a1.put (x:=none) (s:=.sh v) hi (λ_ z=>by cases z) q0 p0 rfl S1.l2) (S1.putN hi ⟨rfl,d,rfl,Rd.mono (λm o p q=>⟨eX p,q⟩) r1⟩)
   |
    new v=>
    try dsimp only
    split
    .obtain⟨n,ob,rfl,q1,q2,q3,q4,q5,q6⟩:=r1;exact .nx (a1.put (x:=some n) (s:=.ow v) hi (λm z=>by cases z;exact q1) q0 p0 rfl S1.l2) (Sat.putO q5 q2 hi (C_ S.lh q1) q3 q4 q6)
    .exact .nx (a1.put (x:=none) (s:=.sh v) hi (λ_ z=>by cases z) q0 p0 rfl S1.l2) (S1.putN hi ⟨rfl,d,rfl,Rd.mono (λm o p q=>⟨eX p,q⟩) r1.new⟩)
   |
    bor j=>
    try dsimp only
    split
    .rename_i e2 v q2;obtain⟨f_,S2,a2,r2⟩:=eY S1 r1 q2;have hq:∃s2,e2[i]?=some s2/\s2.pl=true:=by
      unfold b9 at q2;dsimp only at q2;split at q2
      .cases q2;exact⟨s0,q0,p0⟩
      .rename_i u q3;cases q2;by_cases z:i=j
       .subst z;exact⟨_,bz hi,rfl⟩
       .exact⟨s0,by rw[bp z];exact q0,p0⟩
      .cases q2
     obtain⟨s2,hq1,hq2⟩:=hq;have hi2:=(p_.mp hq1).1;exact .nx ((a1.trans S a2).put (x:=none) (s:=.sh v) hi2 (λ_ z=>by cases z) hq1 hq2 rfl S2.l2) (S2.putN hi2 ⟨rfl,d,rfl,Rd.mono (λm o p q=>⟨eX p,q⟩) r2⟩)
    .trivial
  .trivial
 .trivial
def v3(i:Nat):RG (gN i) (pN i):=λX h0 ns e ae h d v e' S r q=>by
 unfold pN at q;split at q
 .rename_i s q0;split at q
  .rename_i p0;cases q;have hi:=(p_.mp q0).1;exact⟨_,ns.set i none,rfl,S.putN hi ⟨rfl,d,rfl,Rd.mono (λm o p q=>⟨eX p,q⟩) r⟩,Stp.refl.put (x:=none) (s:=.sh v) hi (λ_ z=>by cases z) q0 p0 rfl S.l2⟩
  .cases q
 .cases q
def Ls:RGs gsN psN:=λX h0 ns e ae h ds vs e' S r q=>by
 cases r with
 |nil=>cases q;exact⟨ae,ns,rfl,S,.refl⟩
 |cons _ _=>cases q
def NN(hg:RG g g3)(hs:RGs gs gs3):RGs (gsC g gs) (psC g3 gs3):=λX h0 ns e ae h ds vs e' S r q=>by
 cases r with
 |nil=>cases q
 |cons r rr=>obtain⟨e1,q1,q2⟩:=NV.mp q;obtain⟨gl,ns1,p1,S1,a1⟩:=hg _ _ _ _ _ _ _ _ _ S r q1;obtain⟨ae2,f_,p2,S2,a2⟩:=hs _ _ _ _ _ _ _ _ _ S1 (rr.mono (a1.mov S)) q2;refine⟨ae2,f_,?_,S2,a1.trans S a2⟩;unfold gsC;dsimp only;rw[p1];exact p2
def rg_t(n:Nat)(hs:RGs gs gs3):RG (gT λds ae h=>if ds.length=n then gs ds ae h else .stuck) (pT n gs3):=λX h0 ns e ae h d v e' S r q=>by
 unfold pT at q;split at q
 .split at q
  .rename_i hn;obtain⟨ds,rfl,r2⟩:=ShR.tup (.inl r);obtain⟨gl,ns1,p1,S1,a1⟩:=hs _ _ _ _ _ _ _ _ _ S r2 q;refine⟨gl,ns1,?_,S1,a1⟩;unfold gT;dsimp only;rw[if_pos (by rw[r2.len];exact hn)];exact p1
  .cases q
 .cases q
def JD(hg:RG g g3):RG (λd ae h=>noX (g d ae h)) g3:=λX h0 ns e ae h d v e' S r q=>by obtain⟨gl,ns1,p1,S1,a1⟩:=hg _ _ _ _ _ _ _ _ _ S r q;exact⟨gl,ns1,by dsimp only;rw[p1];rfl,S1,a1⟩
def EH(hF:RE F F3)(hg:RG g g3):RS (gx F g) (C3 F3 g3):=λX h0 ns e ae h S=>PoS.toS (hF X h0 0 ns e ae h S (N2 _)) λd t h1 ns1 e1 a1 S1 r1=>by
 try dsimp only
 split
 .rename_i e2 v q;obtain⟨f_,S2,a2,r2⟩:=eY S1 r1 q;split
  .rename_i e3 q3;obtain⟨ae3,ns3,p3,S3,a3⟩:=hg _ _ _ _ _ _ _ _ _ S2 r2 q3;rw[p3];exact .nx ((a1.trans S a2).trans S a3) S3
  .trivial
 .trivial
def GG(i j:Nat)(hA:RA A A3):RS (zE i j A) (wPar i j A3):=λX h0 ns e ae h S=>PoS.toS (hA X h0 ns e ae h S) λds ts h1 ns1 e1 a1 S1 r1=>by
 try dsimp only
 cases q:dem e1 ts with
 |none=>trivial
 |
  some w=>
  obtain⟨e2,vs⟩:=w;obtain⟨f_,S2,a2,r2⟩:=gU S1 r1 q
  match vs,ds,r2 with
  | [],_,_=>trivial
  | [_],_,_=>trivial
  |_::_::_::_,_,_=>trivial
  |
   [v,u],[d,d'],r2=>
   dsimp only;split
   .rename_i e3 q3;obtain⟨e4,q4,q5⟩:=NV.mp q3;cases r2 with
    |
     cons r rr=>
     cases rr with
     |
      cons r' rr=>
      obtain⟨ae3,ns3,p3,S3,a3⟩:=v3 i _ _ _ _ _ _ _ _ _ S2 r q4;obtain⟨ae4,ns4,p4,S4,a4⟩:=v3 j _ _ _ _ _ _ _ _ _ S3 (r'.mono (a3.mov S2)) q5;have z3:ae3=ae.set i (some d):=by have:=p3;unfold gN at this;cases this;rfl
      have z4:ae4=ae3.set j (some d'):=by have:=p4;unfold gN at this;cases this;rfl
      subst z4 z3;exact .nx (((a1.trans S a2).trans S a3).trans S a4) S4
   .trivial
def G1(i:Nat)(hg:RO gg gg3)(hF:RE F F3):RS (sf i gg F) (AL i gg3 F3):=λX h0 ns e ae h S=>by
 unfold AL;split
 .rename_i x q0;obtain⟨_,dx,e1,r0⟩:=S.sl i _ q0;unfold sf;rw[e1];refine PoS.toS (hF X h0 0 ns e ae h S (N2 _)) λd t h1 ns1 e1 a1 S1 r1=>?_;try dsimp only
  split
  .rename_i y q1;have b:=hg _ _ _ _ _ _ (.inl (r0.mono (a1.mov S))) (r1.sh S1 q1);split
   .rename_i z q2;rw[q2] at b;obtain⟨dz,p1,r2⟩:=b;split
    .rename_i e2 q3;rw[p1];obtain⟨ae3,ns3,p3,S3,a3⟩:=v3 i _ _ _ _ _ _ _ _ _ S1 r2 q3;have z3:ae3=ae.set i (some dz):=by have:=p3;unfold gN at this;cases this;rfl
     subst z3;exact .nx (a1.trans S a3) S3
    .trivial
   .trivial
  .trivial
 .trivial
def TsR.len(r:TsR X ns ae h ds ts):ds.length=ts.length:=by
 induction r with
 |nil=>rfl
 |val _ _ ih=>rw[B_,B_,ih]
 |bor _ _ ih=>rw[B_,B_,ih]
def Cb(x:Str)(hA:RA A A3):RS (o9 x A) (ym x A3):=λX h0 ns e ae h S=>PoS.toS (hA X h0 ns e ae h S) λds ts h1 ns1 e1 a1 S1 r1=>by
 try dsimp only
 by_cases hl:ts.length<=16777216
 .rw[if_pos hl,if_pos (by rw[TsR.len r1];exact hl)];exact⟨ae,h1,ns1,rfl,a1,S1⟩
 .rw[if_neg hl];trivial
end
noncomputable def Sl.re(s:Sl)(u:Val):Sl:=match s with
 |.ow _=>.ow u
 |.mu _=>.mu u
 |s=>s
noncomputable def Sl.mv:Sl->Option Val
 |.ow v=>some v
 |.mu v=>some v
 |_=>none
section
variable{X:Nat->Prop}{h0 L:Nat}{ns ns1 ns':Ns}{e e1 e':E3}{ae:AE}{h h1 h':AH}
def Sat.write(S:Sat X h0 ns e ae h)(q:e[i]?=some s)(hm:s.mv=some u):∃n o,ae[i]?=some (some (.ref n))/\h[n]?=some o/\bC o/\Rc (Oc X ns) h o u/\
 ∀o' u',bC o'->Rc (Oc X ns) h o' u'->Mov (Oc X ns) (Oc X ns) h (h.set n o')/\Sat X h0 ns (e.set i (s.re u')) ae (h.set n o')/\Stp ns e h ns (e.set i (s.re u')) (h.set n o'):=by
 have hi:=(p_.mp q).1;have key:∃n o,ns[i]?=some (some n)/\ae[i]?=some (some (.ref n))/\h[n]?=some o/\bC o/\Rc (Oc X ns) h o u/\s.mt=true/\(∀o' u',bC o'->Rc (Oc X ns) (h.set n o') o' u'->SlR (Oc X ns) h0 (some (some n)) (some (some (.ref n))) (h.set n o') (s.re u')):=by
  have y:=S.sl i s q;cases s with
  |ow v=>cases hm;obtain⟨n,o,q1,q2,q3,q4,q5,q6⟩:=y;exact⟨n,o,q1,q2,q4,q5,q6,rfl,λo' u' hf r=>⟨n,o',rfl,rfl,q3,bz (cD q4),hf,r⟩⟩
  |mu v=>cases hm;obtain⟨n,o,q1,q2,q4,q5,q6⟩:=y;exact⟨n,o,q1,q2,q4,q5,q6,rfl,λo' u' hf r=>⟨n,o',rfl,rfl,bz (cD q4),hf,r⟩⟩
  |_=>cases hm
 obtain⟨n,o,k1,k2,k3,k4,k5,k6,k7⟩:=key;refine⟨n,o,k2,k3,k4,k5,λo' u' hf r=>?_⟩;have mv:Mov (Oc X ns) (Oc X ns) h (h.set n o'):=λm ob p q'=>⟨p,by have:m≠n:=λz=>p.2 (aT.mpr ⟨i,by rw[z];exact k1⟩);rw[bp this];exact q'⟩;refine⟨mv,⟨by rw[H_];exact S.l1,by rw[H_];exact S.l2,by rw[H_];exact S.lh,λm z=>by rw[H_];exact S.xl m z,S.inj,S.nx,λj s' qj=>?_⟩,?_⟩
 .rcases ba hi qj with ⟨rfl,rfl⟩ |⟨z,qj'⟩
  .rw[k1,k2];exact k7 o' u' hf (r.mono mv)
  .refine (S.sl j s' qj').mono mv λm ob qm qo=>?_;have:m≠n:=λy=>by subst y;exact z (S.inj j i m qm k1)
   rw[bp this];exact qo
 .refine⟨by rw[H_];exact n_ _,λm ob qm hM=>?_,λ_ _ q=>.inl q,λj s' qj hl=>?_,λj s' qj hl=>?_,λj v qj=>?_,λj v qj=>?_⟩
  .have:m≠n:=λy=>by subst y;exact hM ⟨i,s,k1,q,k6⟩
   rw[bp this];exact qm
  .have z:j≠i:=λz=>by subst z;rw[q] at qj;cases qj;cases s <;> first |cases hl;done |cases k6;done
   rw[bp z];exact⟨qj,rfl⟩
  .rcases ba hi qj with ⟨_,y⟩ |⟨z,qj'⟩
   .subst y;cases s <;> first |cases hl;done |cases k6;done
   .exact⟨qj',rfl⟩
  .rcases ba hi qj with ⟨rfl,y⟩ |⟨z,qj'⟩
   .cases s with
    |mu w=>exact⟨w,q,rfl⟩
    |ow w=>cases y
    |_=>cases k6
   .exact⟨v,qj',rfl⟩
  .by_cases z:j=i
   .subst z;rw[q] at qj;cases qj;exact⟨u',bz hi,rfl⟩
   .exact⟨v,by rw[bp z];exact qj,rfl⟩
end
def uS(w2:D->D->D->AH->R Unit)(w3:Val->Val->Val->Option Val):Prop:=∀P h n o u di vi d v u',¬ P n->h[n]?=some o->bC o->Rc P h o u->ShR P h di vi->Rd P h d v->w3 u vi v=some u'->∃o',w2 (.ref n) di d h=.ok () (h.set n o')/\bC o'/\Rc P h o' u'
noncomputable def wSet(i:Nat)(G:ME3)(F:ME3)(w:Val->Val->Val->Option Val):MS3:=λe=>(F e).toS λt e1=>match (e1[i]?).bind Sl.mv with
 |none=>.stuck
 |some _=>(G e1).toS λt2 e2=>match rs e2 t2 with
  |none=>.stuck
  |some vi=>match b9 e2 t.drop with
   |none=>.stuck
   |some (e3,v)=>match e3[i]? with
    |none=>.stuck
    |some s=>match s.mv with
     |none=>.stuck
     |some u=>match w u vi v with
      |some u'=>.nx (e3.set i (s.re u'))
      |none=>.stuck
def RM(m2:D->List D->AH->R D)(m3:Val->List Val->Option (Val×Val)):Prop:=∀P h n o u ds vs u' v,h[n]?=some o->bC o->Rc P h o u->Rds P h ds vs->m3 u vs=some (u',v)->iU h (.ref n)=true/\∃o' d,m2 (.ref n) ds h=.ok d (h.set n o')/\bC o'/\Rc P h o' u'/\Rd P h d v
noncomputable def cV:Val->Bool
 |.lst _=>true
 |_=>false
noncomputable def kx(i:Nat)(m:Val->List Val->Option (Val×Val))(A:MA3):ME3:=λe=>match e[i]? with
 |some s=>if (s.mv.map cV)=some true then (A e).bind λts e1=>match dem e1 ts with
  |some (e2,vs)=>match e2[i]? with
   |some s2=>match s2.mv with
    |some u=>match m u vs with
     |some (u',v)=>.ok (.val v) (e2.set i (s2.re u'))
     |none=>.stuck
    |none=>.stuck
   |none=>.stuck
  |none=>.stuck else .stuck
 |none=>.stuck
section
variable{F G:ME}{F3 G3:ME3}{A:MA}{A3:MA3}
def D4{X:Nat->Prop}{h0:Nat}{ns:Ns}{e:E3}{ae:AE}{h:AH}(S:Sat X h0 ns e ae h){i:Nat}{u:Val}(q:(e[i]?).bind Sl.mv=some u):∃n o,ae[i]?=some (some (.ref n))/\h[n]?=some o/\bC o/\Rc (Oc X ns) h o u:=by obtain⟨s,q1,q2⟩:=NV.mp q;obtain⟨n,o,k1,k2,k3,k4,_⟩:=S.write q1 q2;exact⟨n,o,k1,k2,k3,k4⟩
def Kn(i:Nat)(hw:uS w2 w3)(hG:RE G G3)(hF:RE F F3):RS (gx F (gS (bJ i) G w2)) (wSet i G3 F3 w3):=λX h0 ns e ae h S=>PoS.toS (hF X h0 0 ns e ae h S (N2 _)) λd t h1 ns1 e1 a1 S1 r1=>by
 try dsimp only
 cases qm:(e1[i]?).bind Sl.mv with
 |none=>trivial
 |
  some u0=>
  obtain⟨n0,o0,b1,b2,b3,b4⟩:=D4 S1 qm;have L2e:∀h',(gS (bJ i) G w2 d ae h').toS ae (λbi h2=>SR.nx bi h2)=(G ae h').toS ae λdi h2=>(w2 (.ref n0) di d h2).toS ae λ_ h3=>.nx ae h3:=λh'=>by
   unfold gS bJ;rw[b1];simp only[eO];cases G ae h' with
   |ok di h2=>simp only[eO];show _=(w2 (.ref n0) di d h2).toS ae λ_ h3=>.nx ae h3;cases w2 (.ref n0) di d h2 <;> rfl
   |exc c h2=>rfl
   |stuck=>rfl
  rw[L2e];refine PoS.after S a1 (PoS.toS (hG X h0 0 ns1 e1 ae h1 S1 (N2 _)) λdi t2 h2 f_ e2 a2 S2 r2=>?_);try dsimp only
  cases qi:rs e2 t2 with
  |none=>trivial
  |
   some vi=>
   try dsimp only
   cases qd:b9 e2 t.drop with
   |none=>trivial
   |
    some w=>
    obtain⟨e3,v⟩:=w;try dsimp only
    obtain⟨r1',hn⟩:=r1.drop;have r3:=r1'.stp S1 a2 hn;have si:=r2.sh S2 qi;obtain⟨ns3,S3,a3,r4⟩:=eY S2 r3 qd;have si3:ShR (Oc X ns3) h2 di vi:=by
     rcases si with z |⟨n,o,z1,z2,z3⟩
     .exact .inl (z.mono (a3.mov S2))
     .exact .inr ⟨n,o,z1,z2,z3.mono (a3.mov S2)⟩
    cases q3:e3[i]? with
    |none=>trivial
    |
     some s=>
     try dsimp only
     cases q4:s.mv with
     |none=>trivial
     |
      some u=>
      try dsimp only
      cases q5:w3 u vi v with
      |none=>trivial
      |
       some u'=>
       obtain⟨n,o,k1,k2,k3,k4,k5⟩:=S3.write q3 q4;rw[b1] at k1;cases k1;have nP:¬ Oc X ns3 n0:=λp=>by have z1:=((k5 (.lst []) (.lst []) trivial (.lst .nil)).1 _ _ p k2).2;have z2:=((k5 (.lst [.non]) (.lst [.non]) trivial (.lst (.cons .non .nil))).1 _ _ p k2).2;rw[bz (cD k2)] at z1 z2;rw[<- z2] at z1;cases z1
       obtain⟨o',p1,p2,p3⟩:=hw _ _ _ _ _ _ _ _ _ _ nP k2 k3 k4 si3 r4 q5;obtain⟨mv,S4,a4⟩:=k5 o' u' p2 p3;rw[p1];exact .nx ((a2.trans S1 a3).trans S1 a4) S4
def yi(i:Nat)(hm:RM m2 m3)(hA:RA A A3):RE (eM m2 (bJ i) A) (kx i m3 A3):=λX h0 L ns e ae h S hl=>by
 unfold kx;cases q0:e[i]? with
 |none=>trivial
 |
  some s0=>
  dsimp only;split
  .rename_i hz;obtain⟨u0,z1,z2⟩:=I_.mp hz;obtain⟨n0,o0,b1,b2,b3,b4,_⟩:=S.write q0 z1;have hL:iU h (.ref n0)=true:=by
    cases u0 with
    |lst xs=>obtain⟨ds,_,e1,_⟩:=Rc.seq b2 b4;show (aL h n0).isSome=true;rw[e1];rfl
    |_=>cases z2
   have L2e:eM m2 (bJ i) A ae h=(A ae h).bind λds h2=>m2 (.ref n0) ds h2:=by unfold eM bJ;rw[b1];simp only[eO,hL,OW]
   rw[L2e];refine Po.bind S (hA X h0 ns e ae h S) λds ts h1 ns1 e1 a1 S1 r1=>?_;try dsimp only
   cases q1:dem e1 ts with
   |none=>trivial
   |
    some w=>
    obtain⟨e2,vs⟩:=w;try dsimp only
    obtain⟨f_,S2,a2,r2⟩:=gU S1 r1 q1;cases q2:e2[i]? with
    |none=>trivial
    |
     some s2=>
     try dsimp only
     cases q3:s2.mv with
     |none=>trivial
     |
      some u=>
      try dsimp only
      cases q4:m3 u vs with
      |none=>trivial
      |some w=>obtain⟨u',v⟩:=w;obtain⟨n,o,k1,k2,k3,k4,k5⟩:=S2.write q2 q3;rw[b1] at k1;cases k1;obtain⟨_,o',d,p1,p2,p3,p4⟩:=hm _ _ _ _ _ _ _ _ _ k2 k3 k4 r2 q4;obtain⟨mv,S4,a4⟩:=k5 o' u' p2 p3;exact⟨d,_,f_,p1,a2.trans S1 a4,S4,p4.mono mv⟩
  .trivial
def Eb(i:Nat)(hm:RM m2 m3):RE (eM0 m2 (bJ i)) (kx i m3 mR):=by
 have:=yi i hm yN
 intro X h0 L ns e ae h S hl;have p:=this X h0 L ns e ae h S hl;have e1:eM m2 (bJ i) o8 ae h=eM0 m2 (bJ i) ae h:=by unfold eM eM0 o8;rfl
 rw[e1] at p;exact p
end
noncomputable def iN:Sl->Sl
 |.ow v=>.lo v
 |.mu v=>.lm v
 |s=>s
noncomputable def jD:Sl->Sl
 |.lo v=>.ow v
 |.lm v=>.mu v
 |s=>s
noncomputable def lock(e:E3)(k:Nat):E3:=match e[k]? with
 |some s=>e.set k (iN s)
 |none=>e
noncomputable def unlock(e:E3)(k:Nat):E3:=match e[k]? with
 |some s=>e.set k (jD s)
 |none=>e
noncomputable def lockO(e:E3):Option Nat->E3
 |some k=>lock e k
 |none=>e
noncomputable def d8(e:E3):Option Nat->E3
 |some k=>unlock e k
 |none=>e
section
variable{X:Nat->Prop}{h0 L:Nat}{ns ns1 ns':Ns}{e e1 e':E3}{ae bi:AE}{h h1 h':AH}
def SlR.lock(r:SlR P h0 n d h s):SlR P h0 n d h (iN s):=by cases s <;> exact r
def SlR.unlock(r:SlR P h0 n d h s):SlR P h0 n d h (jD s):=by cases s <;> exact r
def Sat.lock(S:Sat X h0 ns e ae h)(k:Nat):Sat X h0 ns (lock e k) ae h:=by
 unfold L3.lock;split
 .rename_i s q;have hi:=(p_.mp q).1;refine⟨by rw[H_];exact S.l1,by rw[H_];exact S.l2,S.lh,S.xl,S.inj,S.nx,λj s' qj=>?_⟩;rcases ba hi qj with ⟨rfl,rfl⟩ |⟨z,qj'⟩
  .exact (S.sl j s q).lock
  .exact S.sl j s' qj'
 .exact S
def Sat.unlock(S:Sat X h0 ns e ae h)(k:Nat):Sat X h0 ns (unlock e k) ae h:=by
 unfold L3.unlock;split
 .rename_i s q;have hi:=(p_.mp q).1;refine⟨by rw[H_];exact S.l1,by rw[H_];exact S.l2,S.lh,S.xl,S.inj,S.nx,λj s' qj=>?_⟩;rcases ba hi qj with ⟨rfl,rfl⟩ |⟨z,qj'⟩
  .exact (S.sl j s q).unlock
  .exact S.sl j s' qj'
 .exact S
def gP(z:j≠k):(lock e k)[j]?=e[j]?:=by
 unfold lock;split
 .rw[bp z]
 .rfl
def fi(z:j≠k):(unlock e k)[j]?=e[j]?:=by
 unfold unlock;split
 .rw[bp z]
 .rfl
def nc(q:e[k]?=some s):(lock e k)[k]?=some (iN s):=by unfold lock;rw[q];exact bz (p_.mp q).1
def gm(q:e[k]?=some s):(unlock e k)[k]?=some (jD s):=by unfold unlock;rw[q];exact bz (p_.mp q).1
def Stp.unlock(q:e[k]?=some s)(hs:s.mt=true)(a:Stp ns (L3.lock e k) h ns' e' h'):Stp ns e h ns' (L3.unlock e' k) h':=by
 have hl:(iN s).lk=true:=by cases s <;> first |rfl |cases hs
 have hu:jD (iN s)=s:=by cases s <;> first |rfl |cases hs
 obtain⟨qk,nk⟩:=a.lk k _ (nc q) hl;refine⟨a.len,λm o qm hM=>a.keep m o qm λ⟨j,s',z1,z2,z3⟩=>hM ?_,a.nw,λj s' qj hj=>?_,λj s' qj hj=>?_,λj v qj=>?_,λj v qj=>?_⟩
 .by_cases z:j=k
  .subst z;exact⟨j,s,z1,q,hs⟩
  .rw[gP z] at z2;exact⟨j,s',z1,z2,z3⟩
 .have z:j≠k:=λz=>by subst z;rw[q] at qj;cases qj;cases s <;> first |cases hs;done |cases hj;done
  rw[fi z];exact a.lk j s' (by rw[gP z];exact qj) hj
 .have z:j≠k:=λz=>by subst z;rw[gm qk,hu] at qj;cases qj;cases s <;> first |cases hs;done |cases hj;done
  rw[fi z] at qj;obtain⟨y1,y2⟩:=a.lk' j s' qj hj;rw[gP z] at y1;exact⟨y1,y2⟩
 .by_cases z:j=k
  .subst z;rw[gm qk,hu] at qj;cases qj;exact⟨v,q,nk⟩
  .rw[fi z] at qj;obtain⟨u,y1,y2⟩:=a.mu j v qj;rw[gP z] at y1;exact⟨u,y1,y2⟩
 .by_cases z:j=k
  .subst z;rw[q] at qj;cases qj;exact⟨v,by rw[gm qk,hu],nk⟩
  .obtain⟨u,y1,y2⟩:=a.mu' j v (by rw[gP z];exact qj);exact⟨u,by rw[fi z];exact y1,y2⟩
end
abbrev MI3:=E3->R3 (List Val×Option Nat)
def Stay(X:Nat->Prop)(ns:Ns)(k:Option Nat)(h h':AH):Prop:=∀(m:Nat) (o:Ob),h[m]?=some o->(Oc X ns m\/∃j:Nat,k=some j/\ns[j]?=some (some m))->h'[m]?=some o
def qz(X:Nat->Prop)(ns:Ns)(e:E3)(h:AH)(it:AIt)(p:List Val×Option Nat):Prop:=
 Rds (Oc X ns) h it.items p.1/\(∀h',Stay X ns p.2 h h'->it.guard h')/\∀k:Nat,p.2=some k->∃s,e[k]?=some s/\s.mt=true
def RI(I:MI)(J:MI3):Prop:=∀X h0 ns e ae h,Sat X h0 ns e ae h->Po X h0 ns e ae h (qz X) (I ae h) (J e)
noncomputable def gi:Val->Option (List Val)
 |.tup xs=>some xs
 |.lst xs=>some xs
 |_=>none
noncomputable def eP(t:Tm)(e:E3):Option (List Val×Option Nat):=match t with
 |.val v=>(gi v).map λxs=>(xs,none)
 |.new v=>(gi v).map λxs=>(xs,none)
 |.bor k=>match e[k]? with
  |some (.sh v)=>(gi v).map λxs=>(xs,none)
  |some (.ow (.lst xs))=>some (xs,some k)
  |some (.mu (.lst xs))=>some (xs,some k)
  |_=>none
noncomputable def Cq(F:ME3):MI3:=λe=>(F e).bind λt e1=>match eP t e1 with
 |some p=>.ok p e1
 |none=>.stuck
noncomputable def Cd(A:MA3):MI3:=λe=>(A e).bind λts e1=>match ts with
 | [t,u]=>(match eP t e1,eP u e1 with
  |some (xs,k),some (ys,none)=>.ok (List.zipWith (λx y=>.tup [x,y]) xs ys,k) e1
  |_,_=>.stuck)
 |_=>.stuck
noncomputable def jl(lo:Int)(k:Nat):List Val:=(List.range k).map λi=>Val.int (lo+(i:Nat))
structure RgB(j:Int):Prop where
 lo:-(2^62)<=j
 hi:j<2^62
def iA:List Val->Option (List Val)
 | [.int j]=>@ite _ (RgB j) (Classical.propDecidable _) (some (jl 0 j.toNat)) none
 |_=>none
def mw:List Val->Option (List Val)
 | [.int i,.int j]=>@ite _ (RgB i/\RgB j) (Classical.propDecidable _) (some (jl i (j-i).toNat)) none
 |_=>none
noncomputable def pY(f:List Val->Option (List Val))(A:MA3):MI3:=λe=>(A e).bind λts e1=>match (rss e1 ts).bind f with
 |some xs=>.ok (xs,none) e1
 |none=>.stuck
section
variable{F:ME}{F3:ME3}{A:MA}{A3:MA3}
def vW(S:Sat X h0 ns e ae h)(r:Rd (Oc X ns) h d v)(q:gi v=some xs):∃it,fH d h=some it/\qz X ns e h it (xs,none):=by
 cases v with
 |tup ys=>cases q;obtain⟨ds,rfl,r2⟩:=ShR.tup (.inl r);exact⟨_,rfl,r2,λ_ _=>trivial,λ_ z=>nomatch z⟩
 |
  lst ys=>
  cases q;cases r with
  |
   cell p eo rc=>
   rename_i n o;obtain⟨ds,_,e1,r1⟩:=Rc.seq eo rc;refine⟨.lst n ds,by unfold fH;dsimp only;rw[e1];rfl,r1,λh' st=>?_,λ_ z=>nomatch z⟩;show aL h' n=some ds
   have:=st n o eo (.inl p)
   unfold aL at e1 ⊢;rw[eo] at e1;rw[this];exact e1
 |_=>cases q
def qX(S:Sat X h0 ns e ae h)(r:relE X h0 L ae ns e h d t)(q:eP t e=some p):∃it,fH d h=some it/\qz X ns e h it p:=by
 cases t with
 |val v=>obtain⟨xs,q1,rfl⟩:=I_.mp q;exact vW S r q1
 |new v=>obtain⟨xs,q1,rfl⟩:=I_.mp q;exact vW S r.new q1
 |
  bor k=>
  have r':ae[k]?=some (some d):=r;have own:∀{s xs},e[k]?=some s->s.mv=some (.lst xs)->∃it,fH d h=some it/\qz X ns e h it (xs,some k):=λ{s xs} q qm=>by
   have hns:∃n,ns[k]?=some (some n)/\ae[k]?=some (some (.ref n)):=by
    have y:=S.sl k s q;cases s with
    |ow v=>obtain⟨n,o,y1,y2,_⟩:=y;exact⟨n,y1,y2⟩
    |mu v=>obtain⟨n,o,y1,y2,_⟩:=y;exact⟨n,y1,y2⟩
    |_=>cases qm
   obtain⟨n,y1,y2⟩:=hns;obtain⟨n',o,k1,k2,k3,k4,_⟩:=S.write q qm;rw[y2] at k1;cases k1;rw[r'] at y2;cases y2;obtain⟨ds,_,e2,r2⟩:=Rc.seq k2 k4;refine⟨.lst n ds,by unfold fH;dsimp only;rw[e2];rfl,r2,λh' st=>?_,λj z=>?_⟩
   .show aL h' n=some ds
    have:=st n o k2 (.inr ⟨k,rfl,y1⟩)
    unfold aL at e2 ⊢;rw[k2] at e2;rw[this];exact e2
   .cases z;exact⟨s,q,by cases s <;> first |rfl |cases qm⟩
  unfold eP at q;dsimp only at q;split at q
  .rename_i v qs;obtain⟨_,x,e2,r2⟩:=S.sl k _ qs;rw[r'] at e2;cases e2;obtain⟨xs,q1,rfl⟩:=I_.mp q;exact vW S r2 q1
  .rename_i xs qs;cases q;exact own qs rfl
  .rename_i xs qs;cases q;exact own qs rfl
  .cases q
noncomputable def Ai(d:D)(h:AH):R AIt:=match d with
 |.tup xs=>.ok (.tup xs) h
 |.ref n=>match aL h n with
  |some xs=>.ok (.lst n xs) h
  |none=>.stuck
 |_=>.stuck
def Dy(q:fH d h=some it):Ai d h=.ok it h:=by
 cases d with
 |tup xs=>cases q;rfl
 |ref n=>obtain⟨xs,y1,rfl⟩:=I_.mp (show (aL h n).map (AIt.lst n)=some it from q);unfold Ai;dsimp only;rw[y1]
 |_=>cases q
def IJ(hF:RE F F3):RI (BM F) (Cq F3):=λX h0 ns e ae h S=>
 Po.bind S (hF X h0 0 ns e ae h S (N2 _)) λd t h1 ns1 e1 a1 S1 r1=>by
  show Po X h0 ns1 e1 ae h1 (qz X) (Ai d h1) _;cases q:eP t e1 with
  |none=>trivial
  |some p=>dsimp only;obtain⟨it,q1,q2⟩:=qX S1 r1 q;exact⟨it,h1,ns1,Dy q1,.refl,S1,q2⟩
def Fz(r:Rds P h ds vs)(q:Rds P h es us):Rds P h (List.zipWith (λx y=>D.tup [x,y]) ds es) (List.zipWith (λx y=>Val.tup [x,y]) vs us):=
 r.ind (M:=λds vs=>∀{es:List D}{us:List Val},Rds P h es us->Rds P h (List.zipWith (λx y=>D.tup [x,y]) ds es) (List.zipWith (λx y=>Val.tup [x,y]) vs us)) (λ_=>.nil) (λr _ ih _ _ q=>by
  cases q with
  |nil=>exact .nil
  |cons q qq=>exact .cons (.tup (.cons r (.cons q .nil))) (ih qq)) q
def tsr1(r:TsR X ns ae h ds [t]):∃d,ds=[d]/\relE X h0 0 ae ns e h d t:=by
 cases r with
 |val r rr=>cases rr;exact⟨_,rfl,r⟩
 |bor r rr=>cases rr;exact⟨_,rfl,r⟩
def tsr2(r:TsR X ns ae h ds [t,u]):∃d d',ds=[d,d']/\relE X h0 0 ae ns e h d t/\relE X h0 0 ae ns e h d' u:=by
 cases r with
 |val r rr=>obtain⟨d',rfl,r'⟩:=tsr1 (h0:=h0) (e:=e) rr;exact⟨_,_,rfl,r,r'⟩
 |bor r rr=>obtain⟨d',rfl,r'⟩:=tsr1 (h0:=h0) (e:=e) rr;exact⟨_,_,rfl,r,r'⟩
def GV(hA:RA A A3):RI (zK A) (Cd A3):=λX h0 ns e ae h S=>
 Po.bind
  S (hA X h0 ns e ae h S) λds ts h1 ns1 e1 a1 S1 r1=>by
  match ts,r1 with
  | [],_=>trivial
  | [_],_=>trivial
  |_::_::_::_,_=>trivial
  |
   [t,u],r1=>
   obtain⟨d,d',rfl,r2,r3⟩:=tsr2 (h0:=h0) (e:=e1) r1;dsimp only;cases q:eP t e1 with
   |none=>trivial
   |
    some p=>
    obtain⟨xs,k⟩:=p;cases q':eP u e1 with
    |none=>trivial
    |
     some p'=>
     obtain⟨ys,k'⟩:=p';cases k' with
     |some _=>trivial
     |none=>obtain⟨it,q1,q2,q3,q4⟩:=qX S1 r2 q;obtain⟨it',q1',q2',q3',q4'⟩:=qX S1 r3 q';rw[q1,q1'];exact⟨.zip it it',h1,ns1,rfl,.refl,S1,Fz q2 q2',λh' st=>⟨q3 h' st,q3' h' λm o hm hc=>st m o hm (hc.elim .inl λ⟨_,z,_⟩=>nomatch z)⟩,q4⟩
def DX(lo:Int)(k:Nat):Rds P h (AIt.rng lo k).items (jl lo k):=by
 show Rds P h ((List.range k).map λi=>D.int (lo+(i:Nat))) ((List.range k).map λi=>Val.int (lo+(i:Nat)));generalize List.range k=l;induction l with
 |nil=>exact .nil
 |cons i l ih=>exact .cons (.int _) ih
def cT(r:ShRs P h ds [v]):∃d,ds=[d]/\ShR P h d v:=by cases r with |cons r rr=>cases rr;exact⟨_,rfl,r⟩
def oA(r:ShRs P h ds [v,u]):∃d d',ds=[d,d']/\ShR P h d v/\ShR P h d' u:=by cases r with |cons r rr=>cases rr with |cons r' rr=>cases rr;exact⟨_,_,rfl,r,r'⟩
def CY(hf:∀P h ds vs xs,ShRs P h ds vs->f3 vs=some xs->∃lo k,f2 ds h=.ok (.rng lo k) h/\xs=jl lo k)(hA:RA A A3):RI (λae h=>(A ae h).bind f2) (pY f3 A3):=λX h0 ns e ae h S=>
 Po.bind S (hA X h0 ns e ae h S) λds ts h1 ns1 e1 a1 S1 r1=>by
  try dsimp only
  split
  .rename_i xs q;obtain⟨vs,q1,q2⟩:=NV.mp q;obtain⟨lo,k,p1,rfl⟩:=hf _ _ _ _ _ (TsR.sh S1 r1 q1) q2;rw[p1];exact Po.ret S1 ⟨DX _ _,λ_ _=>trivial,λ_ z=>nomatch z⟩
  .trivial
def JR(hA:RA A A3):RI (Af A) (pY iA A3):=CY (f2:=λds h1=>match ds with
 | [.int j]=>if -(2^62)<=j/\j<2^62 then .ok (.rng 0 j.toNat) h1 else .stuck
 |
  _=>.stuck) (λP h ds vs xs r q=>by
  unfold iA at q;split at q
  .split at q
   .rename_i hb;cases q;obtain⟨d,rfl,r2⟩:=cT r;obtain rfl:=r2.int;exact⟨_,_,by dsimp only;rw[if_pos ⟨hb.lo,hb.hi⟩],rfl⟩
   .cases q
  .cases q) hA
def Ja(hA:RA A A3):RI (Bj A) (pY mw A3):=CY (f2:=λds h1=>match ds with
 | [.int i,.int j]=>if -(2^62)<=i/\i<2^62/\-(2^62)<=j/\j<2^62 then .ok (.rng i (j-i).toNat) h1 else .stuck
 |
  _=>.stuck) (λP h ds vs xs r q=>by
  unfold mw at q;split at q
  .split at q
   .rename_i hb;cases q;obtain⟨d,d',rfl,r2,r3⟩:=oA r;obtain rfl:=r2.int;obtain rfl:=r3.int;exact⟨_,_,by dsimp only;rw[if_pos ⟨hb.1.lo,hb.1.hi,hb.2.lo,hb.2.hi⟩],rfl⟩
   .cases q
  .cases q) hA
end
noncomputable def SR3.loop(r:SR3)(f:E3->SR3):SR3:=match r with
 |.nx e=>f e
 |.ct e=>f e
 |.bk e=>.nx e
 |.rt d e=>.rt d e
 |.exc c e=>.exc c e
 |.stuck=>.stuck
noncomputable def c9(g:MG3)(B:MS3):List Val->MS3
 | [],e=>.nx e
 |v::vs,e=>match g v e with
  |some e1=>(B e1).loop (c9 g B vs)
  |none=>.stuck
noncomputable def SR3.unl(k:Option Nat)(r:SR3):SR3:=match r with
 |.nx e=>.nx (d8 e k)
 |.ct e=>.ct (d8 e k)
 |.bk e=>.bk (d8 e k)
 |.rt d e=>.rt d (d8 e k)
 |.exc c e=>.exc c (d8 e k)
 |.stuck=>.stuck
noncomputable def wFor(I:MI3)(g:MG3)(B:MS3):MS3:=λe=>(I e).toS λp e1=>(c9 g B p.1 (lockO e1 p.2)).unl p.2
section
variable{I:MI}{I3:MI3}{g:MG}{g3:MG3}{B:MS}{B3:MS3}{c:MT}{c3:MT3}{F:ME}{F3:ME3}
def PoS.loop{X:Nat->Prop}{h0:Nat}{ns:Ns}{e:E3}{ae:AE}{h:AH}{r2:SR}{r3:SR3}{f2:AE->AH->SR}{f3:E3->SR3}(p:PoS X h0 ns e h r2 r3)
 (k:∀bi h' ns' e',Stp ns e h ns' e' h'->Sat X h0 ns' e' bi h'->PoS X h0 ns e h (f2 bi h') (f3 e')):PoS X h0 ns e h (r2.loop f2) (r3.loop f3):=by
 cases r3 with
 |stuck=>trivial
 |nx e'=>obtain⟨bi,h',ns',q,q1,q2⟩:=p;rw[q];exact k bi h' ns' e' q1 q2
 |ct e'=>obtain⟨bi,h',ns',q,q1,q2⟩:=p;rw[q];exact k bi h' ns' e' q1 q2
 |bk e'=>obtain⟨bi,h',ns',q,q1,q2⟩:=p;rw[q];exact⟨bi,h',ns',rfl,q1,q2⟩
 |exc c e'=>obtain⟨bi,h',ns',q,q1,q2⟩:=p;rw[q];exact⟨bi,h',ns',rfl,q1,q2⟩
 |rt r e'=>obtain⟨d,bi,h',ns',q,q1,q2⟩:=p;rw[q];exact⟨d,bi,h',ns',rfl,q1,q2⟩
def DV(S:Sat X h0 ns e ae h)(hk:∀j:Nat,k=some j->∃s,e[j]?=some s/\s.mt=true)(a:Stp ns (lockO e k) h ns' e' h'):Stay X ns k h h':=λm o q hm=>by
 refine a.keep m o q λ⟨i,s,z1,z2,z3⟩=>?_;rcases hm with hm |⟨j,rfl,hj⟩
 .exact hm.2 (aT.mpr ⟨i,z1⟩)
 .have:i=j:=S.inj i j m z1 hj;subst this;obtain⟨s',y1,y2⟩:=hk i rfl;have:(lockO e (some i))[i]?=some (iN s'):=nc y1;rw[this] at z2;cases z2;cases s' <;> first |cases y2;done |cases z3;done
def PoS.unl(hk:∀j:Nat,k=some j->∃s,e[j]?=some s/\s.mt=true)(p:PoS X h0 ns (lockO e k) h r2 r3):PoS X h0 ns e h r2 (r3.unl k):=by
 cases k with
 |none=>cases r3 <;> exact p
 |
  some j=>
  obtain⟨s,y1,y2⟩:=hk j rfl;cases r3 with
  |stuck=>trivial
  |nx e'=>obtain⟨bi,h',ns',q,q1,q2⟩:=p;exact⟨bi,h',ns',q,q1.unlock y1 y2,q2.unlock j⟩
  |ct e'=>obtain⟨bi,h',ns',q,q1,q2⟩:=p;exact⟨bi,h',ns',q,q1.unlock y1 y2,q2.unlock j⟩
  |bk e'=>obtain⟨bi,h',ns',q,q1,q2⟩:=p;exact⟨bi,h',ns',q,q1.unlock y1 y2,q2.unlock j⟩
  |exc c e'=>obtain⟨bi,h',ns',q,q1,q2⟩:=p;exact⟨bi,h',ns',q,q1.unlock y1 y2,q2.unlock j⟩
  |
   rt r e'=>
   obtain⟨d,bi,h',ns',q,q1,q2⟩:=p;refine⟨d,bi,h',ns',q,q1.unlock y1 y2,?_⟩;cases r with
   |val v=>exact⟨q2.1.unlock j,q2.2⟩
   |new v=>obtain⟨n,o,z1,z2,z3,z4,z5,z6,z7⟩:=q2;exact⟨n,o,z1,z2,z3,z4,z5,z6.unlock j,z7⟩
   |
    par i=>
    obtain⟨z1,z2,v,z3⟩:=q2;refine⟨z1.unlock j,z2,v,?_⟩;by_cases z:i=j
    .subst z;exact gm z3
    .exact (fi z).trans z3
def Sat.lockO(S:Sat X h0 ns e ae h)(k:Option Nat):Sat X h0 ns (lockO e k) ae h:=by
 cases k with
 |none=>exact S
 |some k=>exact S.lock k
def Ft{X:Nat->Prop}{h0:Nat}{ns:Ns}{e:E3}{ae:AE}{h:AH}{G:AH->Prop}(S:Sat X h0 ns e ae h)(hg:RG g g3)(hB:RS B B3)(hG:∀ns' e' h',Stp ns e h ns' e' h'->G h'):
 ∀{ds:List D}{vs:List Val},Rds (Oc X ns) h ds vs->∀{ns1:Ns}{e1:E3}{gl:AE}{h1:AH},Stp ns e h ns1 e1 h1->Sat X h0 ns1 e1 gl h1->PoS X h0 ns e h (ip G g B ds gl h1) (c9 g3 B3 vs e1):=by
 intro ds;induction ds with
 |nil=>intro vs r ns1 e1 gl h1 a1 S1;cases r;unfold ip;rw[if_pos (hG _ _ _ a1)];exact .nx a1 S1
 |
  cons d0 ds ih=>
  intro vs r ns1 e1 gl h1 a1 S1;cases r with
  |
   cons r rr=>
   unfold ip c9;rw[if_pos (hG _ _ _ a1)];split
   .rename_i e2 q;obtain⟨ae2,f_,p2,S2,a2⟩:=hg _ _ _ _ _ _ _ _ _ S1 (r.mono (a1.mov S)) q;rw[p2];have a12:=a1.trans S a2;show PoS X h0 ns e h ((B ae2 h1).loop _) _;refine PoS.loop (ae:=ae) (PoS.after S a12 (hB X h0 f_ e2 ae2 h1 S2)) λae3 h3 ns3 e3 a3 S3=>ih rr a3 S3
   .trivial
def Hi(hI:RI I I3)(hg:RG g g3)(hB:RS B B3):RS (Ae I g B) (wFor I3 g3 B3):=λX h0 ns e ae h S=>PoS.toS (hI X h0 ns e ae h S) λit p h1 ns1 e1 a1 S1 r1=>by obtain⟨r2,gd,hk⟩:=r1;refine PoS.after S a1 (PoS.unl hk ?_);have S2:=S1.lockO p.2;exact Ft S2 hg hB (λns' e' h' a=>gd h' (DV S1 hk a)) r2 .refl S2
noncomputable def whV(c:MT3)(B:MS3):Nat->MS3
 |0,_=>.stuck
 |k+1,e=>(c e).toS λb e1=>if b=true then (B e1).loop (whV c B k) else .nx e1
open Classical in
def wWh(c:MT3)(B:MS3):MS3:=λe=>if q:∃k,whV c B k e ≠ .stuck then whV c B q.choose e else .stuck
theorem kr{c:MT3}{B:MS3}:∀{k:Nat}{e:E3},whV c B k e ≠ .stuck->whV c B (k+1) e=whV c B k e
 |0,_,q=>absurd rfl q
 |
  k+1,e,q=>by
  have e1:whV c B (k+2) e=(c e).toS λb e1=>if b=true then (B e1).loop (whV c B (k+1)) else .nx e1:=rfl
  have e2:whV c B (k+1) e=(c e).toS λb e1=>if b=true then (B e1).loop (whV c B k) else .nx e1:=rfl
  rw[e2] at q;rw[e1,e2];cases r:c e with
  |exc _ _=>rfl
  |stuck=>rfl
  |
   ok b h1=>
   rw[r] at q;cases b with
   |false=>rfl
   |
    true=>
    have q':(B h1).loop (whV c B k) ≠ .stuck:=q;show (B h1).loop (whV c B (k+1))=(B h1).loop (whV c B k);cases s:B h1 with
    |nx a2=>rw[s] at q';exact kr q'
    |ct a2=>rw[s] at q';exact kr q'
    |_=>rfl
def xm{c:MT3}{B:MS3}{k j:Nat}{e:E3}(q:whV c B k e ≠ .stuck)(hj:k<=j):whV c B j e=whV c B k e:=by
 induction hj with
 |refl=>rfl
 |step _ ih=>rw[kr (by rw[ih];exact q),ih]
def lG{c:MT3}{B:MS3}{k:Nat}{e:E3}(q:whV c B k e ≠ .stuck):wWh c B e=whV c B k e:=by
 have hq:∃k,whV c B k e ≠ .stuck:=⟨k,q⟩;unfold wWh;rw[dif_pos hq];rcases Nat.le_total hq.choose k with z |z
 .exact (xm hq.choose_spec z).symm
 .exact xm q z
def zF(c:MT3)(B:MS3)(e:E3):wWh c B e=(c e).toS λb e1=>if b=true then (B e1).loop (wWh c B) else .nx e1:=by
 by_cases q:∃k,whV c B k e ≠ .stuck
 .obtain⟨k,q⟩:=q;rw[lG q];cases k with
  |zero=>exact absurd rfl q
  |
   succ k=>
   have e2:whV c B (k+1) e=(c e).toS λb e1=>if b=true then (B e1).loop (whV c B k) else .nx e1:=rfl
   rw[e2] at q ⊢;cases r:c e with
   |exc _ _=>rfl
   |stuck=>rfl
   |
    ok b h1=>
    rw[r] at q;cases b with
    |false=>rfl
    |
     true=>
     have q':(B h1).loop (whV c B k) ≠ .stuck:=q;show (B h1).loop (whV c B k)=(B h1).loop (wWh c B);cases s:B h1 with
     |nx a2=>rw[s] at q';exact (lG q').symm
     |ct a2=>rw[s] at q';exact (lG q').symm
     |_=>rfl
 .have e0:wWh c B e=.stuck:=by unfold wWh;rw[dif_neg q]
  rw[e0];have hs:∀k,whV c B (k+1) e=.stuck:=λk=>Pj λz=>q ⟨_,z⟩;cases r:c e with
  |stuck=>rfl
  |
   exc c' h'=>
   have:=hs 0
   unfold whV at this;rw[r] at this;cases this
  |
   ok b h1=>
   cases b with
   |
    false=>
    have:=hs 0
    unfold whV at this;rw[r] at this;cases this
   |
    true=>
    have h2:∀k,(B h1).loop (whV c B k)=.stuck:=λk=>by
     have:=hs k
     unfold whV at this;rw[r] at this;exact this
    show SR3.stuck=(B h1).loop (wWh c B);have lim:∀a2,(∀k,whV c B k a2=.stuck)->wWh c B a2=.stuck:=λa2 z=>by unfold wWh;rw[dif_neg (λ⟨k,y⟩=>y (z k))]
    cases s:B h1 with
    |nx a2=>rw[s] at h2;exact (lim a2 h2).symm
    |ct a2=>rw[s] at h2;exact (lim a2 h2).symm
    |stuck=>rfl
    |_=>have:=h2 0;rw[s] at this;cases this
def HH(p:PoS X h0 ns e h r2 r3)(q:r3 ≠ .stuck):r2 ≠ .stuck:=by
 cases r3 with
 |stuck=>exact absurd rfl q
 |nx e'=>obtain⟨bi,h',ns',z,_⟩:=p;rw[z];intro y;cases y
 |ct e'=>obtain⟨bi,h',ns',z,_⟩:=p;rw[z];intro y;cases y
 |bk e'=>obtain⟨bi,h',ns',z,_⟩:=p;rw[z];intro y;cases y
 |exc c e'=>obtain⟨bi,h',ns',z,_⟩:=p;rw[z];intro y;cases y
 |rt r e'=>obtain⟨d,bi,h',ns',z,_⟩:=p;rw[z];intro y;cases y
theorem yd(hc:RT c c3)(hB:RS B B3):∀(k:Nat) (X:Nat->Prop) (h0:Nat) (ns:Ns) (e:E3) (ae:AE) (h:AH),Sat X h0 ns e ae h->PoS X h0 ns e h (whN c B k ae h) (whV c3 B3 k e)
 |0,_,_,_,_,_,_,_=>trivial
 |
  k+1,X,h0,ns,e,ae,h,S=>by
  refine PoS.toS (hc X h0 ns e ae h S) λb b' h1 ns1 e1 a1 S1 r1=>?_;cases r1;try dsimp only
  split
  .exact PoS.after S a1 (PoS.loop (ae:=ae) (hB X h0 ns1 e1 ae h1 S1) λae2 h2 f_ e2 a2 S2=>PoS.after S1 a2 (yd hc hB k X h0 f_ e2 ae2 h2 S2))
  .exact .nx a1 S1
def M7(hc:RT c c3)(hB:RS B B3):RS (sWh c B) (wWh c3 B3):=λX h0 ns e ae h S=>by
 by_cases q:∃k,whV c3 B3 k e ≠ .stuck
 .obtain⟨k,q⟩:=q;rw[lG q];have p:=yd hc hB k X h0 ns e ae h S;rw[yo (HH p q)];exact p
 .unfold wWh;rw[dif_neg q];trivial
end
noncomputable def eR(o:Option Nat)(s:Sl)(e:E3):E3:=match o,s with
 |some i,.mu v=>(match e[i]? with
  |some t=>e.set i (t.re v)
  |none=>e)
 |_,_=>e
noncomputable def aY:List (Option Nat)->E3->E3->E3
 |o::sub,s::inner,e=>aY sub inner (eR o s e)
 |_,_,e=>e
def uL(hn:∀v,o=some i->s=.mu v->False):(eR o s e)[i]?=e[i]?:=by
 unfold eR;split
 .rename_i i' v;split
  .rename_i t q;by_cases z:i=i'
   .subst z;exact (hn v rfl rfl).elim
   .rw[bp z]
  .rfl
 .rfl
theorem mC:∀{sub:Qd}{e2 e:E3}{i:Nat},(∀(j:Nat) v,sub[j]?=some (some i)->e2[j]?=some (.mu v)->False)->(aY sub e2 e)[i]?=e[i]?
 | [],_,_,_,_=>rfl
 |_::_,[],_,_,_=>rfl
 |
  o::sub,s::e2,e,i,hn=>by
  show (aY sub e2 (eR o s e))[i]?=_;rw[mC (λj v q1 q2=>hn (j+1) v (by simpa using q1) (by simpa using q2))];exact uL λv z1 z2=>hn 0 v (by rw[z1];rfl) (by rw[z2];rfl)
theorem tM:∀{sub:Qd}{e2 e:E3}{i j:Nat}{v:Val},(∀(j k:Nat) i,sub[j]?=some (some i)->sub[k]?=some (some i)->j=k)->sub[j]?=some (some i)->e2[j]?=some (.mu v)->(aY sub e2 e)[i]?=(e[i]?).map (Sl.re · v)
 | [],_,_,_,j,_,_,q,_=>by simp at q
 |_::_,[],_,_,j,_,_,_,q=>by simp at q
 |
  o::sub,s::e2,e,i,0,v,hj,q1,q2=>by
  have z1:o=some i:=by simpa using q1
  have z2:s=.mu v:=by simpa using q2
  subst z1 z2;show (aY sub e2 (eR (some i) (.mu v) e))[i]?=_;rw[mC (λk u y1 _=>by have:=hj 0 (k+1) i rfl (by simpa using y1);omega)];unfold eR;dsimp only;split
  .rename_i t q;rw[bz (p_.mp q).1,q];rfl
  .rename_i q;rw[q];rfl
 |
  o::sub,s::e2,e,i,j+1,v,hj,q1,q2=>by
  show (aY sub e2 (eR o s e))[i]?=_;have q1':sub[j]?=some (some i):=by simpa using q1
  rw[tM (λa b c y1 y2=>by have:=hj (a+1) (b+1) c (by simpa using y1) (by simpa using y2);omega) q1' (by simpa using q2)];rw[uL λv z1 _=>by have:=hj 0 (j+1) i (by rw[z1];rfl) q1;omega]
noncomputable def bH(sub:Qd)(ns:Ns):Ns:=sub.map λo=>o.bind λi=>(ns[i]?).bind id
def bQ{sub:Qd}{ns:Ns}{j n:Nat}(q:(bH sub ns)[j]?=some (some n)):∃i,sub[j]?=some (some i)/\ns[i]?=some (some n):=by
 unfold bH at q;rw[L_] at q;cases z:sub[j]? with
 |none=>rw[z] at q;cases q
 |
  some o=>
  rw[z] at q;cases o with
  |none=>cases q
  |
   some i=>
   refine⟨i,rfl,?_⟩;have q':(ns[i]?).bind id=some n:=G_ q;cases y:ns[i]? with
   |none=>rw[y] at q';cases q'
   |some w=>rw[y] at q';have:w=some n:=q';rw[this]
def Ed{sub:Qd}{ns:Ns}{j i:Nat}{w:Option Nat}(q:sub[j]?=some (some i))(q2:ns[i]?=some w):(bH sub ns)[j]?=some w:=by unfold bH;rw[L_,q];show some ((ns[i]?).bind id)=some w;rw[q2];rfl
structure Lnk(sub:Qd)(e ei:E3):Prop where
 inj:∀(j k:Nat) (i:Nat),sub[j]?=some (some i)->sub[k]?=some (some i)->j=k
 mu:∀(j:Nat) (v:Val),ei[j]?=some (.mu v)->∃(i:Nat) (s:Sl),sub[j]?=some (some i)/\e[i]?=some s/\s.mt=true
 mt:∀(j:Nat) (s:Sl),ei[j]?=some s->s.mt=true->∃v,s=.mu v
def Sat.back(S:Sat X h0 ns e ae h)(K:Lnk sub e ei)(a:Stp (bH sub ns) ei h f_ e2 h2)
 (hY:∀n,Y n->n<h2.length/\(X n\/h.length<=n)) (hXY:∀n,X n->Y n)
 (hc:∀(j:Nat) v n,e2[j]?=some (.mu v)->f_[j]?=some (some n)->∃o,h2[n]?=some o/\bC o/\Rc (Oc Y ns) h2 o v):Sat Y h0 ns (aY sub e2 e) ae h2/\Stp ns e h ns (aY sub e2 e) h2:=by
 have hM:∀n,Mt (bH sub ns) ei n->Mt ns e n:=λn ⟨j,s,z1,z2,z3⟩=>by obtain⟨v,rfl⟩:=K.mt j s z2 z3;obtain⟨i,s',y1,y2,y3⟩:=K.mu j v z2;obtain⟨i',y4,y5⟩:=bQ z1;rw[y1] at y4;cases y4;exact⟨i,s',y5,y2,y3⟩
 have mv:Mov (Oc X ns) (Oc Y ns) h h2:=λn o p q=>⟨⟨λz=>by
  rcases (hY n z).2 with z |z
  .exact p.1 z
  .have:=cD q;omega,p.2⟩,a.keep n o q λz=>by obtain⟨j,s,z1,_⟩:=z;obtain⟨i,_,y⟩:=bQ z1;exact p.2 (aT.mpr ⟨i,y⟩)⟩
 have key:∀i:Nat,(∃(j:Nat) (v:Val) (s:Sl),sub[j]?=some (some i)/\e2[j]?=some (.mu v)/\e[i]?=some s/\s.mt=true/\(aY sub e2 e)[i]?=some (s.re v)/\f_[j]?=ns[i]?)\/((∀n,ns[i]?=some (some n)->¬ Mt (bH sub ns) ei n)/\(aY sub e2 e)[i]?=e[i]?):=λi=>by
  by_cases hx:∃(j:Nat) (v:Val),sub[j]?=some (some i)/\e2[j]?=some (.mu v)
  .obtain⟨j,v,q1,q2⟩:=hx;obtain⟨u,q3,q4⟩:=a.mu j v q2;obtain⟨i',s,y1,y2,y3⟩:=K.mu j u q3;rw[q1] at y1;cases y1;refine .inl ⟨j,v,s,q1,q2,y2,y3,by rw[tM K.inj q1 q2,y2];rfl,?_⟩;rw[q4];have hl:i<ns.length:=by rw[S.l2];exact (p_.mp y2).1
   rw[y_ hl];exact Ed q1 (y_ hl)
  .refine .inr ⟨λn q ⟨j,s,z1,z2,z3⟩=>hx ?_,mC λj v y1 y2=>hx ⟨j,v,y1,y2⟩⟩;obtain⟨v,rfl⟩:=K.mt j s z2 z3;obtain⟨i',y4,y5⟩:=bQ z1;have:i'=i:=S.inj i' i n y5 q;subst this;obtain⟨v',y6,_⟩:=a.mu' j v z2;exact⟨j,v',y4,y6⟩
 have lenB:(aY sub e2 e).length=e.length:=by
  clear key hc a K S hY hXY hM mv;induction sub generalizing e2 e with
  |nil=>rfl
  |
   cons o sub ih=>
   cases e2 with
   |nil=>rfl
   |
    cons s e2=>
    show (aY sub e2 (eR o s e)).length=_;rw[ih];unfold eR;split
    .split
     .rw[H_]
     .rfl
    .rfl
 refine⟨⟨by rw[lenB];exact S.l1,by rw[lenB];exact S.l2,C_ S.lh a.len,λn z=>(hY n z).1,S.inj,λi n q z=>?_,λi s q=>?_⟩,⟨a.len,λm o q hm=>a.keep m o q λz=>hm (hM m z),λ_ _ q=>.inl q,λi s q hl=>?_,λi s q hl=>?_,λi v q=>?_,λi v q=>?_⟩⟩
 .rcases (hY n z).2 with z |z
  .exact S.nx i n q z
  .obtain⟨_,_,_,_,_,_,_,q',_⟩:=S.own q
   have:=cD q';omega
 .rcases key i with ⟨j,v,s0,k1,k2,k3,k4,k5,k6⟩ |⟨k1,k2⟩
  .rw[k5] at q;cases q;have y:=S.sl i s0 k3;cases s0 with
   |ow u=>obtain⟨n,o,y1,y2,y3,_⟩:=y;obtain⟨o',z1,z2,z3⟩:=hc j v n k2 (by rw[k6];exact y1);exact⟨n,o',y1,y2,y3,z1,z2,z3⟩
   |mu u=>obtain⟨n,o,y1,y2,_⟩:=y;obtain⟨o',z1,z2,z3⟩:=hc j v n k2 (by rw[k6];exact y1);exact⟨n,o',y1,y2,z1,z2,z3⟩
   |_=>cases k4
  .rw[k2] at q;exact (S.sl i s q).mono mv λn o q1 q2=>a.keep n o q2 (k1 n q1)
 .rcases key i with ⟨j,v,s0,k1,k2,k3,k4,k5,k6⟩ |⟨k1,k2⟩
  .rw[k3] at q;cases q;cases s <;> first |cases hl;done |cases k4;done
  .rw[k2];exact⟨q,rfl⟩
 .rcases key i with ⟨j,v,s0,k1,k2,k3,k4,k5,k6⟩ |⟨k1,k2⟩
  .rw[k5] at q;cases q;cases s0 <;> first |cases hl;done |cases k4;done
  .rw[k2] at q;exact⟨q,rfl⟩
 .rcases key i with ⟨j,u,s0,k1,k2,k3,k4,k5,k6⟩ |⟨k1,k2⟩
  .rw[k5] at q;cases s0 with
   |mu w=>exact⟨w,k3,rfl⟩
   |ow w=>cases q
   |_=>cases k4
  .rw[k2] at q;exact⟨v,q,rfl⟩
 .rcases key i with ⟨j,u,s0,k1,k2,k3,k4,k5,k6⟩ |⟨k1,k2⟩
  .rw[k3] at q;cases q;exact⟨u,k5,rfl⟩
  .exact⟨v,by rw[k2];exact q,rfl⟩
noncomputable def inS:Sl->Sl
 |.ow v=>.mu v
 |.lo v=>.lm v
 |s=>s
noncomputable def cA(sub:Qd)(e:E3):E3:=sub.map λo=>match o with
 |none=>.no
 |some i=>match e[i]? with
  |some s=>inS s
  |none=>.no
noncomputable def lcV(g:MG3)(c:MT3)(F:ME3):List Val->List Val->E3->R3 (List Val)
 | [],acc,e=>.ok acc e
 |v::vs,acc,e=>if acc.length<16777216 then (match g v e with
  |none=>.stuck
  |some e1=>(c e1).bind λb e2=>if b=true then (F e2).bind λt e3=>(match b9 e3 t with
   |some (e4,y)=>lcV g c F vs (acc++[y]) e4
   |none=>.stuck) else lcV g c F vs acc e2) else .stuck
noncomputable def vLC(I:MI3)(sub:Qd)(g:MG3)(c:MT3)(F:ME3):ME3:=λe=>(I e).bind λp e1=>match lcV g c F p.1 [] (cA sub (lockO e1 p.2)) with
 |.ok ys e2=>if ys.length<=16777216 then .ok (.new (.lst ys)) (d8 (aY sub e2 (lockO e1 p.2)) p.2) else .stuck
 |_=>.stuck
def lC(sub:Qd):Prop:=∀(j k:Nat) (i:Nat),sub[j]?=some (some i)->sub[k]?=some (some i)->j=k
def wO(h:(sub.filterMap id).Nodup):lC sub:=by
 induction sub with
 |nil=>intro j k i q;simp at q
 |
  cons o sub ih=>
  have d_:(sub.filterMap id).Nodup:=by
   cases o with
   |none=>simpa using h
   |some i=>rw[OK] at h;simp at h;exact h.2
  have hno:∀(i k:Nat),o=some i->sub[k]?=some (some i)->False:=λi k z q=>by subst z;rw[OK] at h;simp at h;exact h.1 (OV q)
  intro j k i q1 q2;cases j with
  |
   zero=>
   cases k with
   |zero=>rfl
   |succ k=>exact (hno i k (by simpa using q1) (by simpa using q2)).elim
  |
   succ j=>
   cases k with
   |zero=>exact (hno i j (by simpa using q2) (by simpa using q1)).elim
   |succ k=>exact Oa (· + 1) (ih d_ j k i (by simpa using q1) (by simpa using q2))
def Xin(X:Nat->Prop)(ns:Ns)(sub:Qd)(n:Nat):Prop:=X n\/(some n∈ns/\some n∉bH sub ns)
def kO(q:some n∈bH sub ns):some n∈ns:=by obtain⟨j,q⟩:=aT.mp q;obtain⟨i,_,q2⟩:=bQ q;exact aT.mpr ⟨i,q2⟩
def iJ{sub:Qd}{e:E3}{j:Nat}{s:Sl}(q:(cA sub e)[j]?=some s):(sub[j]?=some none/\s=.no)\/(∃i,sub[j]?=some (some i)/\((e[i]?=none/\s=.no)\/∃t,e[i]?=some t/\s=inS t)):=by
 unfold cA at q;rw[L_] at q;cases z:sub[j]? with
 |none=>rw[z] at q;cases q
 |
  some o=>
  rw[z] at q;cases o with
  |none=>cases q;exact .inl ⟨rfl,rfl⟩
  |
   some i=>
   refine .inr ⟨i,rfl,?_⟩;have q':=G_ q;dsimp only at q';cases y:e[i]? with
   |none=>rw[y] at q';exact .inl ⟨rfl,q'.symm⟩
   |some t=>rw[y] at q';exact .inr ⟨t,rfl,q'.symm⟩
def Sat.inner(S:Sat X h0 ns e ae h)(hs:lC sub):Sat (Xin X ns sub) h0 (bH sub ns) (cA sub e) (iI sub ae) h:=by
 refine⟨by unfold iI cA;rw[k_,k_],by unfold bH cA;rw[k_,k_],S.lh,λn z=>?_,λj k n q1 q2=>?_,λj n q z=>?_,λj s q=>?_⟩
 .rcases z with z |⟨z,_⟩
  .exact S.xl n z
  .obtain⟨i,z⟩:=aT.mp z;obtain⟨_,_,_,_,_,_,_,q',_⟩:=S.own z;exact cD q'
 .obtain⟨i,y1,y2⟩:=bQ q1;obtain⟨i',y3,y4⟩:=bQ q2
  have:=S.inj i i' n y2 y4
  subst this;exact hs j k i y1 y3
 .rcases z with z |⟨_,z⟩
  .obtain⟨i,y1,y2⟩:=bQ q;exact S.nx i n y2 z
  .exact z (aT.mpr ⟨j,q⟩)
 .have mv:Mov (Oc X ns) (Oc (Xin X ns sub) (bH sub ns)) h h:=λn o p q=>⟨⟨λz=>by
   rcases z with z |⟨z,_⟩
   .exact p.1 z
   .exact p.2 z,λz=>p.2 (kO z)⟩,q⟩
  have hj:∀{o},sub[j]?=some o->(bH sub ns)[j]?=some (o.bind λi=>(ns[i]?).bind id)/\(iI sub ae)[j]?=some (o.bind λi=>(ae[i]?).bind id):=λ{o} z=>by unfold bH iI;rw[L_,L_,z];exact⟨rfl,rfl⟩
  rcases iJ q with ⟨z,rfl⟩ |⟨i,z,⟨y,rfl⟩ |⟨t,y,rfl⟩⟩
  .rw[(hj z).1];rfl
  .rw[(hj z).1];show some ((ns[i]?).bind id)=some none;have:ns[i]?=none:=by rw[OG] at y ⊢;rw[S.l2];exact y
   rw[this];rfl
  .have k:=(S.sl i t y).mono mv λ_ _ _ q=>q;rw[(hj z).1,(hj z).2];show SlR _ h0 (some ((ns[i]?).bind id)) (some ((ae[i]?).bind id)) h (inS t);have w1:∀x,ns[i]?=some x->some ((ns[i]?).bind id)=some x:=λx q=>by rw[q];rfl
   have w2:∀x,ae[i]?=some x->some ((ae[i]?).bind id)=some x:=λx q=>by rw[q];rfl
   cases t with
   |no=>rw[w1 _ k];rfl
   |sh v=>obtain⟨k1,x,k2,k3⟩:=k;rw[w1 _ k1,w2 _ k2];exact⟨rfl,x,rfl,k3⟩
   |ow v=>obtain⟨m,o,k1,k2,_,k3⟩:=k;rw[w1 _ k1,w2 _ k2];exact⟨m,o,rfl,rfl,k3⟩
   |lo v=>obtain⟨m,o,k1,k2,_,k3⟩:=k;rw[w1 _ k1,w2 _ k2];exact⟨m,o,rfl,rfl,k3⟩
   |mu v=>obtain⟨m,o,k1,k2,k3⟩:=k;rw[w1 _ k1,w2 _ k2];exact⟨m,o,rfl,rfl,k3⟩
   |lm v=>obtain⟨m,o,k1,k2,k3⟩:=k;rw[w1 _ k1,w2 _ k2];exact⟨m,o,rfl,rfl,k3⟩
def uC(hs:lC sub):Lnk sub e (cA sub e):=by
 refine⟨hs,λj v q=>?_,λj s q hm=>?_⟩
 .rcases iJ q with ⟨_,z⟩ |⟨i,z,⟨_,y⟩ |⟨t,y,y2⟩⟩
  .cases z
  .cases y
  .refine⟨i,t,z,y,?_⟩;cases t <;> first |rfl |cases y2
 .rcases iJ q with ⟨_,z⟩ |⟨i,z,⟨_,y⟩ |⟨t,y,y2⟩⟩
  .subst z;cases hm
  .subst y;cases hm
  .subst y2;cases t with
   |ow v=>exact⟨v,rfl⟩
   |mu v=>exact⟨v,rfl⟩
   |_=>cases hm
section
variable{I:MI}{I3:MI3}{g:MG}{g3:MG3}{c:MT}{c3:MT3}{F:ME}{F3:ME3}
def G9(S:Sat X h0 ns e ae h)(hg:RG g g3)(hc:RT c c3)(hF:RE F F3)(hG:∀ns' e' h',Stp ns e h ns' e' h'->G h'):
 ∀
  {ds:List D}{vs:List Val},Rds (Oc X ns) h ds vs->∀{acc:List D}{accv:List Val}{ns1:Ns}{e1:E3}{gl:AE}{h1:AH},Stp ns e h ns1 e1 h1->Sat X h0 ns1 e1 gl h1->Rds (Oc X ns1) h1 acc accv->lcV g3 c3 F3 vs accv e1=.ok ys e2->
  ∃dy h2 f_ ae2,lcL G g c F ds acc gl h1=.ok dy h2/\Stp ns e h f_ e2 h2/\Sat X h0 f_ e2 ae2 h2/\Rds (Oc X f_) h2 dy ys:=by
 intro ds;induction ds with
 |nil=>intro vs r acc accv ns1 e1 gl h1 a1 S1 ra q;cases r;unfold lcL;rw[if_pos (hG _ _ _ a1)];cases q;exact⟨acc,h1,ns1,gl,rfl,a1,S1,ra⟩
 |
  cons d0 ds ih=>
  intro vs r acc accv ns1 e1 gl h1 a1 S1 ra q;cases r with
  |
   cons r rr=>
   rename_i v vs;unfold lcV at q;unfold lcL;by_cases hl:accv.length<16777216
   .rw[if_pos hl] at q;rw[if_pos ⟨hG _ _ _ a1,by rw[ra.len];exact hl⟩];cases q1:g3 v e1 with
    |none=>rw[q1] at q;cases q
    |
     some e3=>
     rw[q1] at q;dsimp only at q;obtain⟨ae3,ns3,p3,S3,a3⟩:=hg _ _ _ _ _ _ _ _ _ S1 (r.mono (a1.mov S)) q1;rw[p3,eO];have a13:=a1.trans S a3;have pc:=hc X h0 ns3 e3 ae3 h1 S3;cases q4:c3 e3 with
     |stuck=>rw[q4] at q;cases q
     |exc _ _=>rw[q4] at q;cases q
     |
      ok b e4=>
      rw[q4] at q pc;obtain⟨b',h4,ns4,p4,a4,S4,rfl⟩:=pc;rw[p4,eO];have a14:=a13.trans S a4;have ra4:=(ra.mono (a3.mov S1)).mono (a4.mov S3);have q':(if b'=true then (F3 e4).bind λt e3=>(match b9 e3 t with
       |some (e4,y)=>lcV g3 c3 F3 _ (accv++[y]) e4
       |none=>.stuck) else lcV g3 c3 F3 _ accv e4)=.ok ys e2:=q
      by_cases hb:b'=true
      .rw[if_pos hb] at q' ⊢;have pF:=hF X h0 0 ns4 e4 ae3 h4 S4 (N2 _);cases q5:F3 e4 with
       |stuck=>rw[q5] at q';cases q'
       |exc _ _=>rw[q5] at q';cases q'
       |
        ok t e5=>
        rw[q5] at q' pF;obtain⟨d5,h5,ns5,p5,a5,S5,r5⟩:=pF;rw[p5,eO];have q'':(match b9 e5 t with
         |some (e4,y)=>lcV g3 c3 F3 _ (accv++[y]) e4
         |none=>.stuck)=.ok ys e2:=q'
        cases q6:b9 e5 t with
        |none=>rw[q6] at q'';cases q''
        |some w=>obtain⟨e6,y⟩:=w;rw[q6] at q'';obtain⟨ns6,S6,a6,r6⟩:=eY S5 r5 q6;exact ih rr ((a14.trans S a5).trans S a6) S6 (((ra4.mono (a5.mov S4)).mono (a6.mov S5)).append (.cons r6 .nil)) q''
      .rw[if_neg hb] at q' ⊢;exact ih rr a14 S4 ra4 q'
   .rw[if_neg hl] at q;cases q
def Na(hs:(sub.filterMap id).Nodup)(hI:RI I I3)(hg:RG g g3)(hc:RT c c3)(hF:RE F F3):RE (eLC I sub g c F) (vLC I3 sub g3 c3 F3):=λX h0 L ns e ae h S hl=>
 Po.bind
  S (hI X h0 ns e ae h S) λit p h1 ns1 e1 a1 S1 r1=>by
  try dsimp only
  obtain⟨r2,gd,hk⟩:=r1;have hs':=wO hs;have S2:=S1.lockO p.2;have S3:=S2.inner hs';cases q:lcV g3 c3 F3 p.1 [] (cA sub (lockO e1 p.2)) with
  |stuck=>trivial
  |exc _ _=>trivial
  |
   ok ys e2=>
   dsimp only;split
   .rename_i hy;have gd':∀ns' e' h',Stp (bH sub ns1) (cA sub (lockO e1 p.2)) h1 ns' e' h'->it.guard h':=λns' e' h' a=>gd h' λm o qm hm=>a.keep m o qm λ⟨j,s,z1,z2,z3⟩=>by
     obtain⟨i,y1,y2⟩:=bQ z1;rcases hm with hm |⟨k,hk1,hk2⟩
     .exact hm.2 (aT.mpr ⟨i,y2⟩)
     .have:i=k:=S1.inj i k m y2 hk2;subst this;obtain⟨s',w1,w2⟩:=hk i hk1;rcases iJ z2 with ⟨z,_⟩ |⟨i',z,y⟩
      .rw[y1] at z;cases z
      .rw[y1] at z;cases z;have hl:(lockO e1 p.2)[i]?=some (iN s'):=by rw[hk1];exact nc w1
       rcases y with ⟨y,_⟩ |⟨t,y,rfl⟩
       .rw[hl] at y;cases y
       .rw[hl] at y;cases y;cases s' <;> first |cases w2;done |cases z3;done
    have mvi:Mov (Oc X ns1) (Oc (Xin X ns1 sub) (bH sub ns1)) h1 h1:=λn o p q=>⟨⟨λz=>by
     rcases z with z |⟨z,_⟩
     .exact p.1 z
     .exact p.2 z,λz=>p.2 (kO z)⟩,q⟩
    obtain⟨dy,h2,f_,ae2,p2,a2,S4,r4⟩:=G9 (G:=it.guard) S3 hg hc hF gd' (r2.mono mvi) .refl S3 .nil q;have k3:∀n,Oc (Xin X ns1 sub) f_ n->Oc X ns1 n:=λn z=>⟨λy=>z.1 (.inl y),λy=>by
     by_cases w:some n∈bH sub ns1
     .obtain⟨j,w⟩:=aT.mp w;obtain⟨s,v,o,b1,b2,_⟩:=S3.own w;rcases b2 with b2 |b2
      .obtain⟨v',rfl⟩:=(uC (e:=lockO e1 p.2) hs').mt j s b1 b2;obtain⟨u,c1,c2⟩:=a2.mu' j v' b1;exact z.2 (aT.mpr ⟨j,by rw[c2];exact w⟩)
      .obtain⟨c1,c2⟩:=a2.lk j s b1 b2;exact z.2 (aT.mpr ⟨j,by rw[c2];exact w⟩)
     .exact z.1 (.inr ⟨y,w⟩)⟩
    have bk:=S2.back (Y:=X) (uC hs') a2 (λn z=>⟨A_ (S2.xl n z) a2.len,.inl z⟩) (λ_ z=>z) λj v n q1 q2=>by obtain⟨s,u,o,b1,b2,b3,b4,b5,b6,b7⟩:=S4.own q2;rw[q1] at b1;cases b1;cases b3;exact⟨o,b5,b6,b7.mono λm o' z y=>⟨k3 m z,y⟩⟩
    obtain⟨S5,a5⟩:=bk;have r5:Rds (Oc X ns1) h2 dy ys:=r4.mono λm o' z y=>⟨k3 m z,y⟩;have g_:∀(e':E3),Sat X h0 ns1 e' ae h2->Stp ns1 e1 h1 ns1 e' h2->Po X h0 ns1 e1 ae h1 (relE X h0 L ae) ((noX (lcL it.guard g c F it.items [] (iI sub ae) h1)).bind cU) (.ok (.new (.lst ys)) e'):=λe' S6 a6=>by rw[p2];have pp:=BvR.po (L:=L) (r:=cU dy h2) (b:=.new (.lst ys)) S6 (C_ hl (C_ a1.len a6.len)) ⟨.lst dy,by unfold cU;rw[if_pos (by rw[r5.len];exact hy)],trivial,.lst r5⟩;obtain⟨d,h',ns',y,y1,y2,y3⟩:=pp;exact⟨d,h',ns',y,a6.trans S1 y1,y2,y3⟩
    cases hp:p.2 with
    |none=>rw[hp] at S5 a5;exact g_ _ S5 a5
    |some k=>rw[hp] at S5 a5;obtain⟨s,w1,w2⟩:=hk k hp;exact g_ _ (S5.unlock k) (a5.unlock w1 w2)
   .trivial
end
inductive R3F where
 |ok (r:Rt) (mv:List Val) |exc (c:Str) (mv:List Val) |stuck
abbrev Fn3:=List Val->R3F
noncomputable def sl1(b:Bool)(v:Val):Sl:=if b=true then .mu v else .sh v
noncomputable def sls(ms:List Bool)(vs:List Val):E3:=List.zipWith sl1 ms vs
noncomputable def aG:List Bool->List Val->E3
 |true::ms,v::vs=>.mu v::aG ms vs
 |true::ms,[]=>.no::aG ms []
 |false::ms,vs=>.no::aG ms vs
 | [],_=>[]
noncomputable def muV:List Bool->E3->Option (List Val)
 |true::ms,.mu v::e=>(muV ms e).map (v :: ·)
 |true::_,_=>none
 |false::ms,_::e=>muV ms e
 |false::_,[]=>none
 | [],_=>some []
def RFp(X:Nat->Prop)(ps:Ns)(ms:List Bool)(vs:List Val)(ds:List D)(h:AH)(r2:R D):R3F->Prop
 |.stuck=>True
 |.ok r mv=>∃d h',r2=.ok d h'/\Stp ps (sls ms vs) h ps (aG ms mv) h'/\RtR X h.length ps (aG ms mv) (ds.map some) h' d r
 |.exc c mv=>∃h',r2=.exc c h'/\Stp ps (sls ms vs) h ps (aG ms mv) h'/\Sat X h.length ps (aG ms mv) (ds.map some) h'
def RF(ms:List Bool)(G2:Fn)(G3:Fn3):Prop:=∀X ps ds vs h,vs.length=ms.length->Sat X h.length ps (sls ms vs) (ds.map some) h->RFp X ps ms vs ds h (G2 ds h) (G3 vs)
noncomputable def fnV(ms:List Bool)(N:Nat)(F:MS3):Fn3:=λvs=>if vs.length=ms.length then (match F (sls ms vs++List.replicate (N-vs.length) .no) with
 |.nx e=>(match muV ms e with |some mv=>.ok (.val .non) mv |none=>.stuck)
 |.rt r e=>(match muV ms e with |some mv=>.ok r mv |none=>.stuck)
 |.exc c e=>(match muV ms e with |some mv=>.exc c mv |none=>.stuck)
 |_=>.stuck) else .stuck
def d9{ms:List Bool}{vs:List Val}{i:Nat}{s:Sl}(q:(sls ms vs)[i]?=some s):∃b v,ms[i]?=some b/\vs[i]?=some v/\s=sl1 b v:=by
 unfold sls at q;rw[OQ] at q;cases h1:ms[i]? with
 |none=>rw[h1] at q;cases q
 |
  some b=>
  cases h2:vs[i]? with
  |none=>rw[h1,h2] at q;cases q
  |some v=>rw[h1,h2] at q;cases q;exact⟨b,v,rfl,rfl,rfl⟩
theorem fU:∀{ms:List Bool}{e:E3}{mv:List Val}{i:Nat}{s:Sl},muV ms e=some mv->(aG ms mv)[i]?=some s->(ms[i]?=some false/\s=.no)\/(ms[i]?=some true/\∃v,e[i]?=some (.mu v)/\s=.mu v)
 | [],_,_,_,_,_,q=>by unfold aG at q;simp at q
 |
  true::ms,.mu v::e,mv,i,s,q,q2=>by
  obtain⟨mv',z1,z2⟩:=I_.mp (show (muV ms e).map (v :: ·)=some mv from q);subst z2;cases i with
  |zero=>
   right;have:Sl.mu v=s:=by simpa [aG] using q2
   subst this;exact⟨rfl,v,rfl,rfl⟩
  |
   succ i=>
   have:=fU (i:=i) (s:=s) z1 (by simpa [aG] using q2)
   simpa using this
 |true::ms,[],mv,i,s,q,q2=>by cases q
 |true::ms,.no::e,mv,i,s,q,q2=>by cases q
 |true::ms,.sh v::e,mv,i,s,q,q2=>by cases q
 |true::ms,.ow v::e,mv,i,s,q,q2=>by cases q
 |true::ms,.lo v::e,mv,i,s,q,q2=>by cases q
 |true::ms,.lm v::e,mv,i,s,q,q2=>by cases q
 |false::ms,[],mv,i,s,q,q2=>by cases q
 |
  false::ms,t::e,mv,i,s,q,q2=>by
  cases i with
  |zero=>
   left;have:Sl.no=s:=by simpa [aG] using q2
   exact⟨rfl,this.symm⟩
  |
   succ i=>
   have:=fU (i:=i) (s:=s) (show muV ms e=some mv from q) (by simpa [aG] using q2)
   simpa using this
theorem mI:∀{ms:List Bool}{e:E3}{mv:List Val}{i:Nat},muV ms e=some mv->ms[i]?=some true->∃v,e[i]?=some (.mu v)/\(aG ms mv)[i]?=some (.mu v)
 | [],_,_,i,_,q=>by simp at q
 |
  true::ms,.mu v::e,mv,i,q,q2=>by
  obtain⟨mv',z1,z2⟩:=I_.mp (show (muV ms e).map (v :: ·)=some mv from q);subst z2;cases i with
  |zero=>exact⟨v,rfl,rfl⟩
  |succ i=>obtain⟨u,y1,y2⟩:=mI (i:=i) z1 (by simpa using q2);exact⟨u,by simpa using y1,by simpa [aG] using y2⟩
 |true::ms,[],mv,i,q,q2=>by cases q
 |true::ms,.no::e,mv,i,q,q2=>by cases q
 |true::ms,.sh v::e,mv,i,q,q2=>by cases q
 |true::ms,.ow v::e,mv,i,q,q2=>by cases q
 |true::ms,.lo v::e,mv,i,q,q2=>by cases q
 |true::ms,.lm v::e,mv,i,q,q2=>by cases q
 |false::ms,[],mv,i,q,q2=>by cases q
 |
  false::ms,t::e,mv,i,q,q2=>by
  cases i with
  |zero=>simp at q2
  |succ i=>obtain⟨u,y1,y2⟩:=mI (i:=i) (show muV ms e=some mv from q) (by simpa using q2);exact⟨u,by simpa using y1,by simpa [aG] using y2⟩
theorem fY:∀{ms:List Bool}{mv:List Val},(aG ms mv).length=ms.length
 | [],_=>rfl
 |true::ms,v::mv=>by show (aG ms mv).length+1=ms.length+1;rw[fY]
 |true::ms,[]=>by show (aG ms []).length+1=ms.length+1;rw[fY]
 |false::ms,mv=>by show (aG ms mv).length+1=ms.length+1;rw[fY]
def Co(hF:RS F F3):RF ms (fnD N F) (fnV ms N F3):=λX ps ds vs h hl S=>by
 unfold fnV;rw[if_pos hl];have lS:(sls ms vs).length=vs.length:=by unfold sls;rw[OY];omega
 have lD:ds.length=vs.length:=by have:=S.l1;rw[k_,lS] at this;exact this
 have lP:ps.length=vs.length:=S.l2.trans lS;have ltS:∀{i:Nat},i<ms.length->i<(sls ms vs).length:=λh=>by omega
 have ltP:∀{i:Nat},i<(sls ms vs).length->i<ps.length:=λh=>S.l2.symm ▸ h;have S1
  : Sat X h.length (ps++List.replicate (N-vs.length) none) (sls ms vs++List.replicate (N-vs.length) .no) (ds.map some++List.replicate (N-vs.length) none) h:=by
  have mns:∀n,some n∈ps++List.replicate (N-vs.length) (none:Option Nat) ↔ some n∈ps:=λn=>by
   rw[Ot];constructor
   .rintro (z |z)
    .exact z
    .have:=List.eq_of_mem_replicate z;cases this
   .exact .inl
  have gns:∀{i n:Nat},(ps++List.replicate (N-vs.length) (none:Option Nat))[i]?=some (some n)->ps[i]?=some (some n):=λ{i n} q=>by
   rw[PR] at q;split at q
   .exact q
   .rw[Om] at q;split at q <;> cases q
  refine⟨?_,?_,S.lh,S.xl,λi j n q1 q2=>S.inj i j n (gns q1) (gns q2),λi n q=>S.nx i n (gns q),λi s q=>?_⟩
  .rw[u_,u_,Ou,Ou,S.l1]
  .rw[u_,u_,Ou,Ou,S.l2]
  .rw[PR] at q;split at q
   .rename_i hi;have k:=S.sl i s q;rw[J_ (ltP hi),J_ (by rw[S.l1];exact hi)];exact k.mono (λn o p q=>⟨⟨p.1,λz=>p.2 ((mns n).mp z)⟩,q⟩) λ_ _ _ q=>q
   .rename_i hi;rw[Om] at q;split at q
    .cases q;rw[NX (by rw[S.l2];exact Nat.le_of_not_lt hi),Om,if_pos (by rw[S.l2];assumption)];rfl
    .cases q
 have p:=hF _ _ _ _ _ _ S1;have e2:fnD N F ds h=match F (ds.map some++List.replicate (N-vs.length) none) h with
  |.nx _ h'=>.ok .non h'
  |.rt d h'=>.ok d h'
  |.exc c _ h'=>.exc c h'
  |_=>.stuck:=by rw[<- lD];rfl
 rw[e2];have g_:∀(Y:Nat->Prop) (ns':Ns) (e':E3) (bi:AE) (h':AH) (mv:List Val),(∀n,X n->Y n)->Stp (ps++List.replicate (N-vs.length) none) (sls ms vs++List.replicate (N-vs.length) .no) h ns' e' h'->Sat Y h.length ns' e' bi h'->muV ms e'=some mv->
  Stp ps (sls ms vs) h ps (aG ms mv) h'/\Sat Y h.length ps (aG ms mv) (ds.map some) h'/\∀n,Oc Y ns' n->Oc Y ps n:=by
  intro Y ns' e' bi h' mv hXY a S2 qm;have kmu:∀{i:Nat},ms[i]?=some true->∃v u n o,e'[i]?=some (.mu v)/\(aG ms mv)[i]?=some (.mu v)/\(sls ms vs)[i]?=some (.mu u)/\ns'[i]?=ps[i]?/\ps[i]?=some (some n)/\(ds.map some)[i]?=some (some (.ref n))/\h'[n]?=some o/\bC o/\Rc (Oc Y ns') h' o v:=by intro i hi;obtain⟨v,y1,y2⟩:=mI qm hi;have hil:i<ms.length:=(p_.mp hi).1;obtain⟨u,y3,y4⟩:=a.mu i v y1;rw[J_ (ltS hil)] at y3;rw[J_ (ltP (ltS hil))] at y4;obtain⟨n,o,z1,z2,_⟩:=S.sl i _ y3;obtain⟨n',o',w1,w2,w3,w4,w5⟩:=S2.sl i _ y1;rw[y4,z1] at w1;cases w1;exact⟨v,u,n,o',y1,y2,y3,y4,z1,z2,w3,w4,w5⟩
  have kown:∀{i n:Nat},ps[i]?=some (some n)->ms[i]?=some true:=λ{i n} q=>by
   obtain⟨s,v,o,z1,z2,_⟩:=S.own q;obtain⟨b,u,y1,_,y2⟩:=d9 z1;cases b with
   |true=>exact y1
   |false=>subst y2;rcases z2 with z2 |z2 <;> cases z2
  have koc:∀n,Oc Y ns' n->Oc Y ps n:=λn z=>⟨z.1,λy=>by obtain⟨i,y⟩:=aT.mp y;obtain⟨v,u,n',o,_,_,_,k1,k2,_⟩:=kmu (kown y);exact z.2 (aT.mpr ⟨i,by rw[k1];exact y⟩)⟩;refine⟨⟨a.len,λm o q hm=>a.keep m o q λ⟨i,s,z1,z2,z3⟩=>hm ?_,λ_ _ q=>.inl q,λi s q hl'=>?_,λi s q hl'=>?_,λi v q=>?_,λi v q=>?_⟩,⟨?_,?_,C_ (n_ _) a.len,S2.xl,S.inj,λi n q z=>?_,λi s q=>?_⟩,koc⟩
  .rw[PR] at z1;split at z1
   .rename_i hi;rw[J_ (by rw[<- S.l2];exact hi)] at z2;exact⟨i,s,z1,z2,z3⟩
   .rw[Om] at z1;split at z1 <;> cases z1
  .obtain⟨b,u,_,_,y⟩:=d9 q;subst y;cases b <;> cases hl'
  .rcases fU qm q with ⟨_,z⟩ |⟨_,v,_,z⟩ <;> subst z <;> cases hl'
  .rcases fU qm q with ⟨_,z⟩ |⟨z,_⟩
   .cases z
   .obtain⟨v',u,n,o,_,_,k1,_⟩:=kmu z;exact⟨u,k1,rfl⟩
  .obtain⟨b,u,y1,_,y2⟩:=d9 q;cases b with
   |false=>cases y2
   |true=>obtain⟨v',u,n,o,_,k0,k1,_⟩:=kmu y1;exact⟨v',k0,rfl⟩
  .rw[k_,fY];omega
  .rw[fY];omega
  .obtain⟨v,u,n',o,_,_,_,k1,k2,_⟩:=kmu (kown q);exact S2.nx i n (by rw[k1];exact q) z
  .rcases fU qm q with ⟨z,rfl⟩ |⟨z,v,z2,rfl⟩
   .have hil:i<ms.length:=(p_.mp z).1;have hi:i<(sls ms vs).length:=ltS hil;obtain⟨b,u,y1,_,y2⟩:=d9 (y_ hi);rw[z] at y1;cases y1;have k:=S.sl i _ (y_ hi);rw[y2] at k;exact k.1
   .obtain⟨v',u,n,o,k0,_,_,k1,k2,k3,k4,k5,k6⟩:=kmu z;rw[z2] at k0;cases k0;exact⟨n,o,k2,k3,k4,k5,k6.mono λm o' y q=>⟨koc m y,q⟩⟩
 generalize F3 (sls ms vs++List.replicate (N-vs.length) .no)=r3 at *;cases r3 with
 |stuck=>trivial
 |bk _=>trivial
 |ct _=>trivial
 |
  nx e'=>
  obtain⟨bi,h',ns',q,a,S2⟩:=p;rw[q];dsimp only;cases qm:muV ms e' with
  |none=>trivial
  |some mv=>obtain⟨a3,S3,koc⟩:=g_ X ns' e' bi h' mv (λ_ z=>z) a S2 qm;exact⟨.non,h',rfl,a3,S3,.non⟩
 |
  exc c e'=>
  obtain⟨bi,h',ns',q,a,S2⟩:=p;rw[q];dsimp only;cases qm:muV ms e' with
  |none=>trivial
  |some mv=>obtain⟨a3,S3,koc⟩:=g_ X ns' e' bi h' mv (λ_ z=>z) a S2 qm;exact⟨h',rfl,a3,S3⟩
 |
  rt r e'=>
  obtain⟨d,bi,h',ns',q,a,rr⟩:=p;rw[q];dsimp only;cases qm:muV ms e' with
  |none=>trivial
  |
   some mv=>
   cases r with
   |val v=>obtain⟨a3,S3,koc⟩:=g_ X ns' e' bi h' mv (λ_ z=>z) a rr.1 qm;exact⟨d,h',rfl,a3,S3,rr.2.mono λm o y q=>⟨koc m y,q⟩⟩
   |new v=>obtain⟨n,o,z1,z2,z3,z4,z5,z6,z7⟩:=rr;obtain⟨a3,S3,koc⟩:=g_ (Xn X n) ns' e' bi h' mv (λ_ z=>.inl z) a z6 qm;exact⟨d,h',rfl,a3,n,o,z1,z2,z3,z4,z5,S3,z7.mono λm o y q=>⟨koc m y,q⟩⟩
   |
    par i=>
    obtain⟨R1,R2,v,R3⟩:=rr;obtain⟨a3,S3,koc⟩:=g_ X ns' e' bi h' mv (λ_ z=>z) a R1 qm;obtain⟨u,k1,k2⟩:=a.mu i v R3;have hi:i<(sls ms vs).length:=by apply Decidable.byContradiction;intro hi;rw[NX (Nat.le_of_not_lt hi),Om] at k1;split at k1 <;> cases k1
    rw[J_ hi] at k1;rw[J_ (by rw[S.l2];exact hi)] at k2;obtain⟨m,o,w1,w2,_⟩:=S.sl i _ k1;obtain⟨m',o',x1,x2,_⟩:=R1.sl i _ R3;rw[k2,w1] at x1;cases x1;rw[R2] at x2;cases x2;obtain⟨v',y,_⟩:=a3.mu' i u k1;exact⟨_,h',rfl,a3,S3,w2,v',y⟩
noncomputable def gy(i:Nat):List Tm->Bool
 |.bor j::ts=>(i==j) || gy i ts
 |_::ts=>gy i ts
 | []=>false
noncomputable def jk(i:Nat):List Bool->List Tm->Bool
 |true::ms,.bor j::ts=>(i==j) || jk i ms ts
 |_::ms,_::ts=>jk i ms ts
 |_,_=>false
noncomputable def okA(e:E3):List Bool->List Tm->Bool
 |true::ms,.bor i::ts=>((e[i]?).bind Sl.mv).isSome && !(gy i ts)&&okA e ms ts
 |true::_,_::_=>false
 |false::ms,.bor i::ts=>!(jk i ms ts)&&okA e ms ts
 |false::ms,_::ts=>okA e ms ts
 | [],[]=>true
 |_,_=>false
noncomputable def mP(b:Bool)(t:Tm):Option Nat:=match b,t with
 |true,.bor i=>some i
 |_,_=>none
noncomputable def bF(ms:List Bool)(ts:List Tm):List (Option Nat):=List.zipWith mP ms ts
noncomputable def aN(e:E3):List Bool->List Tm->List Nat
 |false::ms,.bor i::ts=>(match e[i]? with
  |some (.sh _)=>aN e ms ts
  |_=>i::aN e ms ts)
 |_::ms,_::ts=>aN e ms ts
 |_,_=>[]
mutual
def flatV:Val->Bool
 |.tup xs=>bY xs
 |.lst _=>false
 |.kl _=>false
 |.dct _=>false
 |.set _=>false
 |_=>true
def bY:List Val->Bool
 | []=>true
 |v::vs=>flatV v&&bY vs
end
noncomputable def lq:List (Key×Val)->Bool
 | []=>true
 |(_,v)::vs=>flatV v&&lq vs
noncomputable def cG:Val->Bool
 |.lst xs=>bY xs
 |.dct xs=>lq xs
 |.set _=>true
 |_=>false
noncomputable def jX:Rt->Bool
 |.val v=>flatV v
 |.new v=>cG v
 |.par _=>true
noncomputable def mK(e:E3):List Nat->Option E3
 | []=>some e
 |i::is=>match b9 e (.bor i) with
  |some (e1,_)=>mK e1 is
  |none=>none
noncomputable def Rt.tm(ts:List Tm):Rt->Tm
 |.val v=>.val v
 |.new v=>.new v
 |.par i=>(ts[i]?).getD (.val .non)
noncomputable def CC(ms:List Bool)(G:Fn3)(A:MA3):ME3:=λe=>(A e).bind λts e1=>match rss e1 ts with
 |none=>.stuck
 |some vs=>if okA e1 ms ts=true then (match G vs with
  |.stuck=>.stuck
  |.ok r mv=>if (aN e1 ms ts).isEmpty || (jX r&&mv.all cG) then .ok (r.tm ts) (aY (bF ms ts) (aG ms mv) e1) else (match mK e1 (aN e1 ms ts) with
   |some e2=>.ok (r.tm ts) (aY (bF ms ts) (aG ms mv) e2)
   |none=>.stuck)
  |.exc c mv=>if (aN e1 ms ts).isEmpty || mv.all cG then .exc c (aY (bF ms ts) (aG ms mv) e1) else .stuck) else .stuck
section
variable{P P':Nat->Prop}{h h':AH}
def Rd.flat(f:flatV v=true)(r:Rd P h d v):Rd P' h' d v:=
 @Rd.rec P h (λd v _=>flatV v=true->Rd P' h' d v) (λo v _=>flatV v=true->Rd P' h' .non v) (λds vs _=>bY vs=true->Rds P' h' ds vs) (λws us _=>True) (λ_=>.non) (λb _=>.bl b) (λi _=>.int i) (λx _=>.str x) (λn _=>.ty n) (λx _=>.glb x) (λx _=>.exc x) (λ_ ih f=>.tup (ih f)) (λ_ _ f=>absurd f s_) (λ_ _ r _ f=>by cases r <;> exact absurd f s_) (λ_ _ f=>absurd f s_) (λ_ _ f=>absurd f s_) (λ_ _ f=>absurd f s_) (λ_ f=>absurd f s_) (λ_=>.nil) (λ_ _ a b f=>.cons (a (r_ .. ▸ f).1) (b (r_ .. ▸ f).2)) trivial (λ_ _ _ _=>trivial) d v r f
def Rds.flat(f:bY v=true)(r:Rds P h d v):Rds P' h' d v:=
 r.ind (M:=λds vs=>bY vs=true->Rds P' h' ds vs) (λ_=>.nil) (λr _ ih f=>by rw[bY,r_] at f;exact .cons (Rd.flat f.1 r) (ih f.2)) f
def Rk.flat(f:lq v=true)(r:Rk P h d v):Rk P' h' d v:=
 r.ind (M:=λds vs=>lq vs=true->Rk P' h' ds vs) (λ_=>.nil) (λr _ ih f=>by rw[lq,r_] at f;exact .cons (Rd.flat f.1 r) (ih f.2)) f
def Rc.flat(f:cG v=true)(r:Rc P h o v):Rc P' h' o v:=by
 cases r with
 |lst r=>exact .lst (Rds.flat (by simpa [cG] using f) r)
 |fz r=>simp [cG] at f
 |dct r=>exact .dct (Rk.flat (by simpa [cG] using f) r)
 |set xs=>exact .set xs
end
theorem mE:∀{ts:List Tm}{k:Nat},ts[k]?=some (.bor i)->gy i ts=true
 | [],_,q=>by simp at q
 |
  t::ts,0,q=>by
  have:t=.bor i:=by simpa using q
  subst this;simp [gy]
 |
  t::ts,k+1,q=>by
  have:=mE (ts:=ts) (k:=k) (by simpa using q)
  cases t <;> simp [gy,this]
theorem uh:∀{ms:List Bool}{ts:List Tm}{k:Nat},ms[k]?=some true->ts[k]?=some (.bor i)->jk i ms ts=true
 | [],_,_,q,_=>by simp at q
 |_::_,[],_,_,q=>by simp at q
 |
  b::ms,t::ts,0,q1,q=>by
  have:t=.bor i:=by simpa using q
  have:b=true:=by simpa using q1
  subst_vars;simp [jk]
 |
  b::ms,t::ts,k+1,q1,q=>by
  have:=uh (ms:=ms) (ts:=ts) (k:=k) (by simpa using q1) (by simpa using q)
  cases b <;> cases t <;> simp [jk,this]
theorem jV:∀{ms:List Bool}{ts:List Tm}{k:Nat},okA e ms ts=true->ms[k]?=some true->∃i,ts[k]?=some (.bor i)/\∃u,(e[i]?).bind Sl.mv=some u
 | [],_,_,_,q=>by simp at q
 |b::ms,[],_,o,_=>by cases b <;> simp [okA] at o
 |
  b::ms,t::ts,0,o,q=>by
  have:b=true:=by simpa using q
  subst this;cases t with
  |bor i=>simp only[okA,r_] at o;exact⟨i,rfl,Ov.mp o.1.1⟩
  |_=>simp [okA] at o
 |
  b::ms,t::ts,k+1,o,q=>by
  have o':okA e ms ts=true:=by cases b <;> cases t <;> simp only[okA,r_] at o <;> first |exact o.2 |exact o |(simp at o;done)
  obtain⟨i,y⟩:=jV (k:=k) o' (by simpa using q);exact⟨i,by simpa using y⟩
theorem ig:∀{ms:List Bool}{ts:List Tm}{k j i:Nat},okA e ms ts=true->ms[k]?=some true->ts[k]?=some (.bor i)->ts[j]?=some (.bor i)->j=k
 | [],_,_,_,_,_,q,_,_=>by simp at q
 |b::ms,[],_,_,_,o,_,_,_=>by cases b <;> simp [okA] at o
 |b::ms,t::ts,0,0,i,o,q1,q2,q3=>rfl
 |
  b::ms,t::ts,0,j+1,i,o,q1,q2,q3=>by
  have h1:b=true:=by simpa using q1
  have h2:t=.bor i:=by simpa using q2
  subst h1 h2;simp only[okA,r_] at o
  have:=mE (i:=i) (ts:=ts) (k:=j) (by simpa using q3)
  rw[this] at o;simp at o
 |
  b::ms,t::ts,k+1,0,i,o,q1,q2,q3=>by
  have h2:t=.bor i:=by simpa using q3
  subst h2;have hm:=uh (i:=i) (ms:=ms) (ts:=ts) (k:=k) (by simpa using q1) (by simpa using q2);have hb:=mE (i:=i) (ts:=ts) (k:=k) (by simpa using q2);cases b <;> simp [okA,hm,hb] at o
 |
  b::ms,t::ts,k+1,j+1,i,o,q1,q2,q3=>by
  have o':okA e ms ts=true:=by cases b <;> cases t <;> simp only[okA,r_] at o <;> first |exact o.2 |exact o |(simp at o;done)
  exact Oa (· + 1) (ig (k:=k) (j:=j) (i:=i) o' (by simpa using q1) (by simpa using q2) (by simpa using q3))
theorem ic:∀{ms:List Bool}{ts:List Tm},okA e ms ts=true->ms.length=ts.length
 | [],[],_=>rfl
 | [],_::_,o=>by simp [okA] at o
 |b::ms,[],o=>by cases b <;> simp [okA] at o
 |
  b::ms,t::ts,o=>by
  have o':okA e ms ts=true:=by cases b <;> cases t <;> simp only[okA,r_] at o <;> first |exact o.2 |exact o |(simp at o;done)
  exact Oa (· + 1) (ic o')
theorem ky:∀{ms:List Bool}{ts:List Tm}{k i:Nat},ms[k]?=some false->ts[k]?=some (.bor i)->(∀v,e[i]?≠some (.sh v))->i∈aN e ms ts
 | [],_,_,_,q,_,_=>by simp at q
 |_::_,[],_,_,_,q,_=>by simp at q
 |
  b::ms,t::ts,0,i,q1,q2,hn=>by
  have h1:b=false:=by simpa using q1
  have h2:t=.bor i:=by simpa using q2
  subst h1 h2;unfold aN;split
  .rename_i v q;exact absurd q (hn v)
  .exact m_ ..
 |
  b::ms,t::ts,k+1,i,q1,q2,hn=>by
  have ih:=ky (ms:=ms) (ts:=ts) (k:=k) (by simpa using q1) (by simpa using q2) hn;cases b <;> cases t <;> simp only[aN] <;> first |exact ih |(split;exact ih;exact l_ _ ih)
def dZ{ms:List Bool}{ts:List Tm}{k i:Nat}(q:(bF ms ts)[k]?=some (some i)):ms[k]?=some true/\ts[k]?=some (.bor i):=by
 unfold bF at q;rw[OQ] at q;cases h1:ms[k]? with
 |none=>rw[h1] at q;cases q
 |
  some b=>
  cases h2:ts[k]? with
  |none=>rw[h1,h2] at q;cases q
  |some t=>rw[h1,h2] at q;have q':mP b t=some i:=G_ q;cases b <;> cases t <;> first |(cases q';done) |(cases q';exact⟨rfl,rfl⟩)
def D1{ms:List Bool}{ts:List Tm}{k i:Nat}(q1:ms[k]?=some true)(q2:ts[k]?=some (.bor i)):(bF ms ts)[k]?=some (some i):=by unfold bF;rw[OQ,q1,q2];rfl
theorem uc:∀{ts:List Tm}{vs:List Val}{k:Nat}{v:Val},rss e ts=some vs->vs[k]?=some v->∃t,ts[k]?=some t/\rs e t=some v
 | [],_,_,_,q,q2=>by cases q;simp at q2
 |
  t::ts,vs,k,v,q,q2=>by
  unfold rss at q;split at q
  .rename_i u us e1 e2;cases q;cases k with
   |zero=>
    have:u=v:=by simpa using q2
    subst this;exact⟨t,rfl,e1⟩
   |succ k=>obtain⟨t',y1,y2⟩:=uc (k:=k) e2 (by simpa using q2);exact⟨t',by simpa using y1,y2⟩
  .cases q
theorem jF:∀{ts:List Tm}{vs:List Val},rss e ts=some vs->vs.length=ts.length
 | [],_,q=>by cases q;rfl
 |
  t::ts,vs,q=>by
  unfold rss at q;split at q
  .rename_i u us e1 e2;cases q;exact Oa (· + 1) (jF e2)
  .cases q
theorem TsR.get:∀{ds:List D}{ts:List Tm}{k:Nat}{t:Tm},TsR X ns ae h ds ts->ts[k]?=some t->∃d,ds[k]?=some d/\((∃v,t=.val v/\Rd (Oc X ns) h d v)\/∃i,t=.bor i/\ae[i]?=some (some d))
 |_,_,_,_,.nil,q=>by simp at q
 |_,_,0,_,.val r rr,q=>by have:=(by simpa using q:Tm.val _=_);subst this;exact⟨_,rfl,.inl ⟨_,rfl,r⟩⟩
 |_,_,0,_,.bor r rr,q=>by have:=(by simpa using q:Tm.bor _=_);subst this;exact⟨_,rfl,.inr ⟨_,rfl,r⟩⟩
 |_,_,k+1,t,.val r rr,q=>by obtain⟨d,y⟩:=rr.get (k:=k) (by simpa using q);exact⟨d,by simpa using y⟩
 |_,_,k+1,t,.bor r rr,q=>by obtain⟨d,y⟩:=rr.get (k:=k) (by simpa using q);exact⟨d,by simpa using y⟩
def Xc(X:Nat->Prop)(ns:Ns)(e:E3)(ms:List Bool)(ts:List Tm)(n:Nat):Prop:=(X n\/some n∈ns)/\some n∉bH (bF ms ts) ns/\∀i∈aN e ms ts,ns[i]?≠some (some n)
def pL(S:Sat X h0 ns e ae h)(rt:TsR X ns ae h ds ts)(qv:rss e ts=some vs)(ok:okA e ms ts=true):
 Sat (Xc X ns e ms ts) h.length (bH (bF ms ts) ns) (sls ms vs) (ds.map some) h:=by
 have l1:=ic ok;have l2:=jF qv;have l3:=TsR.len rt;have hs:lC (bF ms ts):=λj k i q1 q2=>ig ok (dZ q2).1 (dZ q2).2 (dZ q1).2;have mv:Mov (Oc X ns) (Oc (Xc X ns e ms ts) (bH (bF ms ts) ns)) h h:=λn o p q=>⟨⟨λz=>by
  rcases z.1 with z |z
  .exact p.1 z
  .exact p.2 z,λz=>p.2 (kO z)⟩,q⟩
 refine⟨?_,?_,n_ _,λn z=>?_,λj k n q1 q2=>?_,λj n q z=>z.2.1 (aT.mpr ⟨j,q⟩),λk s q=>?_⟩
 .unfold sls;rw[k_,OY];omega
 .unfold bH bF sls;rw[k_,OY,OY];omega
 .rcases z.1 with z |z
  .exact S.xl n z
  .obtain⟨i,z⟩:=aT.mp z;obtain⟨_,_,_,_,_,_,_,q',_⟩:=S.own z;exact cD q'
 .obtain⟨i,y1,y2⟩:=bQ q1;obtain⟨i',y3,y4⟩:=bQ q2
  have:=S.inj i i' n y2 y4
  subst this;exact hs j k i y1 y3
 .obtain⟨b,v,
   q1,q2,rfl⟩:=d9 q
  obtain⟨t,q3,q4⟩:=uc qv q2;obtain⟨d,q5,q6⟩:=rt.get q3;have qd:(ds.map some)[k]?=some (some d):=by rw[L_,q5];rfl
  rw[qd];have qn:(bH (bF ms ts) ns)[k]?=some ((mP b t).bind λi=>(ns[i]?).bind id):=by unfold bH bF;rw[L_,OQ,q1,q3];rfl
  rw[qn];cases b with
  |
   true=>
   obtain⟨i,y1,u,y2⟩:=jV ok q1;rw[q3] at y1;cases y1;have q4':(e[i]?).bind Sl.val=some v:=q4;obtain⟨s,z1,z2⟩:=NV.mp y2;rw[z1] at q4';have hv:s.val=some v:=q4';have huv:u=v:=by cases s <;> first |cases z2;done |(cases z2;cases hv;rfl)
   subst huv;have hns:∃n,ns[i]?=some (some n):=by
    have y:=S.sl i s z1;cases s with
    |ow v=>obtain⟨n,o,y1,_⟩:=y;exact⟨n,y1⟩
    |mu v=>obtain⟨n,o,y1,_⟩:=y;exact⟨n,y1⟩
    |_=>cases z2
   obtain⟨n,hn⟩:=hns;obtain⟨n',o,k1,k2,k3,k4,_⟩:=S.write z1 z2;rcases q6 with ⟨_,z,_⟩ |⟨i',z,q6⟩
   .cases z
   .cases z;rw[q6] at k1;cases k1;obtain⟨_,_,_,_,_,_,w,_⟩:=S.own hn;rw[q6] at w;cases w;exact⟨n,o,by show some ((ns[i]?).bind id)=_;rw[hn];rfl,rfl,k2,k3,k4.mono mv⟩
  |
   false=>
   refine⟨by cases t <;> rfl,d,rfl,?_⟩;rcases q6 with ⟨u,rfl,q6⟩ |⟨i,rfl,q6⟩
   .cases q4;exact q6.mono mv
   .have q4':(
     e[i]?).bind Sl.val=some v:=q4
    rcases S.bor q6 q4' with z |⟨n,o,rfl,z1,z2⟩
    .exact z.mono mv
    .refine .cell ⟨λy=>?_,λy=>?_⟩ z1 (z2.mono mv)
     .
      by_cases hsh:∃w,e[i]?=some (.sh w)
      .obtain⟨w,hsh⟩:=hsh;obtain⟨_,x,w1,w2⟩:=S.sl i _ hsh;rw[q6] at w1;cases w1;cases w2 with
       |cell p _ _=>rcases y.1 with y |y;exact p.1 y;exact p.2 y
      .have hl:=ky q1 q3 λw z=>hsh ⟨w,z⟩;cases w:ns[i]? with
       |
        none=>
        have hi:i<e.length:=by
         cases z:e[i]? with
         |none=>rw[z] at q4';cases q4'
         |some _=>exact (p_.mp z).1
        rw[OG,S.l2] at w;omega
       |
        some w'=>
        cases w' with
        |
         none=>
         cases z:e[i]? with
         |none=>rw[z] at q4';cases q4'
         |
          some s=>
          have k:=S.sl i s z;rw[w] at k;cases s with
          |no=>rw[z] at q4';cases q4'
          |sh w=>exact hsh ⟨w,z⟩
          |ow w=>obtain⟨_,_,k,_⟩:=k;cases k
          |lo w=>obtain⟨_,_,k,_⟩:=k;cases k
          |mu w=>obtain⟨_,_,k,_⟩:=k;cases k
          |lm w=>obtain⟨_,_,k,_⟩:=k;cases k
        |some n'=>obtain⟨_,_,_,_,_,_,w2,_⟩:=S.own w;rw[q6] at w2;cases w2;exact y.2.2 i hl w
     .obtain⟨j,y⟩:=aT.mp y;obtain⟨i',y1,y2⟩:=bQ y;obtain⟨y3,y4⟩:=dZ y1;obtain⟨_,_,_,_,_,_,w2,_⟩:=S.own y2;have:i'
       = i:=by
       cases w:ns[i]? with
       |
        none=>
        have hi:i<e.length:=by
         cases z:e[i]? with
         |none=>rw[z] at q4';cases q4'
         |some _=>exact (p_.mp z).1
        rw[OG,S.l2] at w;omega
       |
        some w'=>
        cases w' with
        |some n'=>obtain⟨_,_,_,_,_,_,w3,_⟩:=S.own w;rw[q6] at w3;cases w3;exact S.inj i' i n y2 w
        |
         none=>
         cases z:e[i]? with
         |none=>rw[z] at q4';cases q4'
         |
          some s=>
          have k:=S.sl i s z;rw[w,q6] at k;cases s with
          |no=>rw[z] at q4';cases q4'
          |
           sh w=>
           obtain⟨_,x,k1,k2⟩:=k;cases k1;cases k2 with
           |cell p _ _=>exact (p.2 (aT.mpr ⟨i',y2⟩)).elim
          |ow w=>obtain⟨_,_,k,_⟩:=k;cases k
          |lo w=>obtain⟨_,_,k,_⟩:=k;cases k
          |mu w=>obtain⟨_,_,k,_⟩:=k;cases k
          |lm w=>obtain⟨_,_,k,_⟩:=k;cases k
      subst this
      have:=ig ok y3 y4 q3
      subst this;rw[q1] at y3;cases y3
theorem dS:∀{ms:List Bool}{mv:List Val}{j:Nat}{v:Val},(aG ms mv)[j]?=some (.mu v)->v∈mv
 | [],_,_,_,q=>by simp [aG] at q
 |true::ms,u::mv,0,v,q=>by
  have:Sl.mu u=.mu v:=by simpa [aG] using q
  cases this;exact m_ ..
 |true::ms,u::mv,j+1,v,q=>l_ _ (dS (ms:=ms) (mv:=mv) (j:=j) (by simpa [aG] using q))
 |true::ms,[],0,v,q=>by simp [aG] at q
 |true::ms,[],j+1,v,q=>dS (ms:=ms) (mv:=[]) (j:=j) (by simpa [aG] using q)
 |false::ms,mv,0,v,q=>by simp [aG] at q
 |false::ms,mv,j+1,v,q=>dS (ms:=ms) (mv:=mv) (j:=j) (by simpa [aG] using q)
theorem kA:∀{ms:List Bool}{ts:List Tm}{i:Nat},i∈aN e ms ts->∃k:Nat,ms[k]?=some false/\ts[k]?=some (.bor i)
 | [],_,_,q=>by simp [aN] at q
 |_::_,[],_,q=>by simp [aN] at q
 |
  b::ms,t::ts,i,q=>by
  have up:i∈aN e ms ts->∃k:Nat,(b::ms)[k]?=some false/\(t::ts)[k]?=some (.bor i):=λz=>by obtain⟨k,y1,y2⟩:=kA z;exact⟨k+1,by simpa using y1,by simpa using y2⟩
  cases b <;> cases t <;> simp only[aN] at q <;> first |exact up q |skip
  split at q
  .exact up q
  .rcases E_.mp q with rfl |q
   .exact⟨0,rfl,rfl⟩
   .exact up q
def Ef(q:b9 e (.bor i)=some (e1,v)):(∀j,j≠i->e1[j]?=e[j]?)/\e1[i]?=some (.sh v)/\(e[i]?).bind Sl.val=some v:=by
 unfold b9 at q;dsimp only at q;split at q
 .rename_i u q1;cases q;exact⟨λ_ _=>rfl,q1,by rw[q1];rfl⟩
 .rename_i u q1;cases q;exact⟨λj z=>bp z,bz (p_.mp q1).1,by rw[q1];rfl⟩
 .cases q
theorem pW:∀{is:List Nat}{ns:Ns}{e e2:E3},Sat X h0 ns e ae h->(∀i∈is,∃d,ae[i]?=some (some d))->mK e is=some e2->∃f_,Sat X h0 f_ e2 ae h/\Stp ns e h f_ e2 h/\(∀i,i∉is->e2[i]?=e[i]?)/\(∀i∈is,∃v,e2[i]?=some (.sh v))/\∀i:Nat,(e2[i]?).bind Sl.val=(e[i]?).bind Sl.val
 | [],ns,e,e2,S,_,q=>by cases q;exact⟨ns,S,.refl,λ_ _=>rfl,(λ_ z=>by cases z),λ_=>rfl⟩
 |
  i::is,ns,e,e2,S,hd,q=>by
  unfold mK at q;split at q
  .rename_i e1 v q1;obtain⟨d,hd0⟩:=hd i (m_ ..);obtain⟨ns1,S1,a1,r1⟩:=eY (L:=0) (t:=.bor i) S hd0 q1;obtain⟨f_,S2,a2,k1,k2,k3⟩:=pW S1 (λj z=>hd j (l_ _ z)) q;obtain⟨y1,y2,y3⟩:=Ef q1;refine⟨f_,S2,a1.trans S a2,λj hj=>?_,λj hj=>?_,λj=>?_⟩
   .rw[E_,not_or] at hj;rw[k1 j hj.2,y1 j hj.1]
   .by_cases z:j∈is
    .exact k2 j z
    .rcases E_.mp hj with rfl |hj
     .exact⟨v,by rw[k1 j z];exact y2⟩
     .exact absurd hj z
   .rw[k3 j];by_cases z:j=i
    .subst z;rw[y2,y3];rfl
    .rw[y1 j z]
  .cases q
theorem nS:∀{ms:List Bool}{ts:List Tm},(∀(k i:Nat),ms[k]?=some true->ts[k]?=some (.bor i)->e2[i]?=e[i]?)->okA e ms ts=true->okA e2 ms ts=true
 | [],[],_,o=>rfl
 | [],_::_,_,o=>by simp [okA] at o
 |b::ms,[],_,o=>by cases b <;> simp [okA] at o
 |
  b::ms,t::ts,hk,o=>by
  have o':okA e ms ts=true:=by cases b <;> cases t <;> simp only[okA,r_] at o <;> first |exact o.2 |exact o |(simp at o;done)
  have ih:=nS (λk i q1 q2=>hk (k+1) i (by simpa using q1) (by simpa using q2)) o';cases b with
  |false=>cases t <;> simp only[okA,r_] at o ⊢ <;> first |exact⟨o.1,ih⟩ |exact ih
  |
   true=>
   cases t with
   |bor i=>simp only[okA,r_] at o ⊢;rw[hk 0 i rfl rfl];exact⟨o.1,ih⟩
   |_=>simp [okA] at o
theorem qV:∀{ms:List Bool}{ts:List Tm},(∀(k i:Nat),ms[k]?=some false->ts[k]?=some (.bor i)->∃v,e[i]?=some (.sh v))->aN e ms ts=[]
 | [],_,_=>by simp [aN]
 |_::_,[],_=>by simp [aN]
 |
  b::ms,t::ts,hk=>by
  have ih:=qV (λk i q1 q2=>hk (k+1) i (by simpa using q1) (by simpa using q2));cases b <;> cases t <;> simp only[aN] <;> first |exact ih |skip
  rename_i i;obtain⟨v,q⟩:=hk 0 i rfl rfl;rw[q];exact ih
theorem ny(hv:∀i:Nat,(e2[i]?).bind Sl.val=(e[i]?).bind Sl.val):∀(ts:List Tm),rss e2 ts=rss e ts
 | []=>rfl
 |
  t::ts=>by
  unfold rss;rw[ny hv ts];have:rs e2 t=rs e t:=by
   cases t with
   |bor i=>exact hv i
   |_=>rfl
  rw[this]
def r9(ok:okA e ms ts=true):Lnk (bF ms ts) e (sls ms vs):=by
 refine⟨λj k i q1 q2=>ig ok (dZ q2).1 (dZ q2).2 (dZ q1).2,λj v q=>?_,λj s q hm=>?_⟩
 .obtain⟨b,u,q1,_,q2⟩:=d9 q;cases b with
  |false=>cases q2
  |true=>obtain⟨i,y1,w,y2⟩:=jV ok q1;obtain⟨s,z1,z2⟩:=NV.mp y2;exact⟨i,s,D1 q1 y1,z1,by cases s <;> first |rfl |cases z2⟩
 .obtain⟨b,u,q1,_,q2⟩:=d9 q;cases b with
  |false=>subst q2;cases hm
  |true=>exact⟨u,q2⟩
section
variable{X:Nat->Prop}{h0 L:Nat}{ns:Ns}{e:E3}{ae:AE}{h:AH}{ms:List Bool}{ts:List Tm}{ds:List D}{vs:List Val}{S2:Fn}{G3:Fn3}
def g6(Y:Nat->Prop)(hY:∀n,Y n->X n\/Y n)(hl:aN e ms ts=[])(z:¬ Xc X ns e ms ts n)(z2:some n∉bH (bF ms ts) ns):Oc X ns n:=by refine⟨λy=>z ⟨.inl y,z2,λi hi=>by rw[hl] at hi;cases hi⟩,λy=>z ⟨.inr y,z2,λi hi=>by rw[hl] at hi;cases hi⟩⟩
def uu(S:Sat X h0 ns e ae h)(hL:L<=h.length)(rt:TsR X ns ae h ds ts)(qv:rss e ts=some vs)(ok:okA e ms ts=true)(hG:RF ms S2 G3)(q:G3 vs=.ok r mv)(hf:aN e ms ts=[]\/(jX r=true/\mv.all cG=true)):
 Po X h0 ns e ae h (relE X h0 L ae) (S2 ds h) (.ok (r.tm ts) (aY (bF ms ts) (aG ms mv) e)):=by
 have p:=hG _ _ ds vs h (by rw[jF qv,ic ok]) (pL S rt qv ok);rw[q] at p;obtain⟨d,h',p1,a,rr⟩:=p;have K:=r9 (vs:=vs) ok;have xcl:∀n,X n->n<h.length:=S.xl;cases r with
 |
  val v=>
  obtain⟨S3,rv⟩:=rr;obtain⟨S4,a4⟩:=S.back (Y:=X) K a (λn z=>⟨A_ (xcl n z) a.len,.inl z⟩) (λ_ z=>z) λj w n q1 q2=>by
   obtain⟨s,u,o,b1,b2,b3,b4,b5,b6,b7⟩:=S3.own q2;rw[q1] at b1;cases b1;cases b3;rcases hf with hf |hf
   .exact⟨o,b5,b6,b7.mono λm o' z y=>⟨g6 X (λ_ z=>.inl z) hf z.1 z.2,y⟩⟩
   .exact⟨o,b5,b6,b7.flat (M_.mp hf.2 w (dS q1))⟩
  refine⟨d,h',ns,p1,a4,S4,?_⟩;rcases hf with hf |hf
  .exact rv.mono λm o' z y=>⟨g6 X (λ_ z=>.inl z) hf z.1 z.2,y⟩
  .exact rv.flat hf.1
 |
  new v=>
  obtain⟨n,o,z1,z2,z3,z4,z5,S3,z7⟩:=rr;have hnx:¬ X n:=λy=>by have:=xcl n y;omega
  have kk:∀m,Oc (Xn (Xc X ns e ms ts) n) (bH (bF ms ts) ns) m->aN e ms ts=[]->Oc (Xn X n) ns m:=λm z hf=>by
   have:=g6 X (λ_ z=>.inl z) hf (λy=>z.1 (.inl y)) z.2
   exact⟨λy=>by
    rcases y with y |y
    .exact this.1 y
    .exact z.1 (.inr y),this.2⟩
  obtain⟨S4,a4⟩:=S.back (Y:=Xn X n) K a (λm z=>by
   rcases z with z |rfl
   .exact⟨A_ (xcl m z) a.len,.inl z⟩
   .exact⟨cD z4,.inr z2⟩) (λ_ z=>.inl z) λj w n' q1 q2=>by
   obtain⟨s,u,o,b1,b2,b3,b4,b5,b6,b7⟩:=S3.own q2;rw[q1] at b1;cases b1;cases b3;rcases hf with hf |hf
   .exact⟨o,b5,b6,b7.mono λm o' z y=>⟨kk m z hf,y⟩⟩
   .exact⟨o,b5,b6,b7.flat (M_.mp hf.2 w (dS q1))⟩
  refine⟨d,h',ns,p1,a4,S4.weak λ_ z=>.inl z,n,o,z1,C_ hL z2,hnx,z4,z5,S4,?_⟩;rcases hf with hf |hf
  .exact z7.mono λm o' z y=>⟨kk m z hf,y⟩
  .exact z7.flat hf.1
 |
  par i=>
  obtain⟨S3,w1,w,w2⟩:=rr;obtain⟨S4,a4⟩:=S.back (Y:=X) K a (λn z=>⟨A_ (xcl n z) a.len,.inl z⟩) (λ_ z=>z) λj w n q1 q2=>by
   obtain⟨s,u,o,b1,b2,b3,b4,b5,b6,b7⟩:=S3.own q2;rw[q1] at b1;cases b1;cases b3;rcases hf with hf |hf
   .exact⟨o,b5,b6,b7.mono λm o' z y=>⟨g6 X (λ_ z=>.inl z) hf z.1 z.2,y⟩⟩
   .exact⟨o,b5,b6,b7.flat (M_.mp hf.2 w (dS q1))⟩
  refine⟨d,h',ns,p1,a4,S4,?_⟩;obtain⟨u,x1,_⟩:=a.mu i w w2;obtain⟨b,u',x2,_,x3⟩:=d9 x1;cases b with
  |false=>cases x3
  |
   true=>
   obtain⟨k,y1,_⟩:=jV ok x2;obtain⟨d',y2,z⟩:=rt.get y1;have e1:(Rt.par i).tm ts=.bor k:=by show (ts[i]?).getD _=_;rw[y1];rfl
   rw[e1];rcases z with ⟨_,z,_⟩ |⟨j,z,z2⟩
   .cases z
   .cases z;rw[L_,y2] at w1;cases w1;exact z2
def Ax(S:Sat X h0 ns e ae h)(rt:TsR X ns ae h ds ts)(qv:rss e ts=some vs)(ok:okA e ms ts=true)(hG:RF ms S2 G3)(q:G3 vs=.exc c mv)(hf:aN e ms ts=[]\/mv.all cG=true):
 Po X h0 ns e ae h (relE X h0 L ae) (S2 ds h) (.exc c (aY (bF ms ts) (aG ms mv) e)):=by
 have p:=hG _ _ ds vs h (by rw[jF qv,ic ok]) (pL S rt qv ok);rw[q] at p;obtain⟨h',p1,a,S3⟩:=p;have K:=r9 (vs:=vs) ok;obtain⟨S4,a4⟩:=S.back (Y:=X) K a (λn z=>⟨A_ (S.xl n z) a.len,.inl z⟩) (λ_ z=>z) λj w n q1 q2=>by
  obtain⟨s,u,o,b1,b2,b3,b4,b5,b6,b7⟩:=S3.own q2;rw[q1] at b1;cases b1;cases b3;rcases hf with hf |hf
  .exact⟨o,b5,b6,b7.mono λm o' z y=>⟨g6 X (λ_ z=>.inl z) hf z.1 z.2,y⟩⟩
  .exact⟨o,b5,b6,b7.flat (M_.mp hf w (dS q1))⟩
 exact⟨h',ns,p1,a4,S4⟩
def C6(hn:n=ms.length)(hG:RF ms S2 G3)(hA:RA A A3):RE (vZ n S2 A) (CC ms G3 A3):=λX h0 L ns e ae h S hl=>
 Po.bind
  S (hA X h0 ns e ae h S) λds ts h1 ns1 e1 a1 S1 r1=>by
  try dsimp only
  cases qv:rss e1 ts with
  |none=>trivial
  |
   some vs=>
   dsimp only;by_cases ok:okA e1 ms ts=true
   .rw[if_pos ok];have a_:ds.length=n:=by rw[hn,ic ok];exact TsR.len r1
    rw[if_pos a_];have hL:L<=h1.length:=C_ hl a1.len;cases q:G3 vs with
    |stuck=>trivial
    |
     exc c mv=>
     dsimp only;by_cases hf:((aN e1 ms ts).isEmpty || mv.all cG)=true
     .rw[if_pos hf];refine Ax S1 r1 qv ok hG q ?_;rw[Ph] at hf;rcases hf with hf |hf
      .exact .inl (List.isEmpty_iff.mp hf)
      .exact .inr hf
     .rw[if_neg hf];trivial
    |
     ok r mv=>
     dsimp only;by_cases hf:((aN e1 ms ts).isEmpty || (jX r&&mv.all cG))=true
     .rw[if_pos hf];refine uu S1 hL r1 qv ok hG q ?_;rw[Ph,r_] at hf;rcases hf with hf |hf
      .exact .inl (List.isEmpty_iff.mp hf)
      .exact .inr hf
     .rw[if_neg hf];cases qd:mK e1 (aN e1 ms ts) with
      |none=>trivial
      |
       some e2=>
       dsimp only;obtain⟨f_,S2',a2,k1,k2,k3⟩:=pW S1 (λi hi=>by
        obtain⟨k,_,y⟩:=kA hi;obtain⟨d,_,z⟩:=r1.get y;rcases z with ⟨_,z,_⟩ |⟨j,z,z2⟩
        .cases z
        .cases z;exact⟨d,z2⟩) qd
       have ok2:okA e2 ms ts=true:=nS (λk i q1 q2=>k1 i λz=>by
        obtain⟨k',y1,y2⟩:=kA z
        have:=ig ok q1 q2 y2
        subst this;rw[q1] at y1;cases y1) ok
       have ln:aN e2 ms ts=[]:=qV λk i q1 q2=>by
        by_cases z:i∈aN e1 ms ts
        .exact k2 i z
        .rw[k1 i z];exact Pj λw=>z (ky q1 q2 λv y=>w ⟨v,y⟩)
       have pp:=uu (L:=L) S2' hL (r1.stp S1 a2) (by rw[ny k3];exact qv) ok2 hG q (.inl ln);obtain⟨d,h',ns',y,y1,y2,y3⟩:=pp;exact⟨d,h',ns',y,a2.trans S1 y1,y2,y3⟩
   .rw[if_neg ok];trivial
end
def RMv(m2:D->List D->AH->R D)(m3:Val->List Val->Bv):Prop:=∀P h d v ds vs,ShR P h d v->cV v=true->ShRs P h ds vs->BvR P h (m2 d ds h) (m3 v vs)
noncomputable def Cz(m:Val->List Val->Bv)(F:ME3)(A:MA3):ME3:=λe=>(F e).bind λt e1=>if (rs e1 t).map cV=some true then (A e1).bind λts e2=>(match rs e2 t.drop,rss e2 ts with
 |some v,some vs=>if cV v=true then (m v vs).at e2 else .stuck
 |_,_=>.stuck) else .stuck
def zS(r:ShR P h d v)(q:cV v=true):iU h d=true:=by
 cases v with
 |lst xs=>obtain⟨n,ds,rfl,_,e1,_⟩:=r.lst;show (aL h n).isSome=true;rw[e1];rfl
 |_=>cases q
def Dk(hm:RMv m2 m3)(hF:RE F F3)(hA:RA A A3):RE (eM m2 F A) (Cz m3 F3 A3):=λX h0 L ns e ae h S hl=>
 Po.bind
  S (hF X h0 L ns e ae h S hl) λd t h1 ns1 e1 a1 S1 r1=>by
  try dsimp only
  split
  .by_cases hq:(rs e1 t).map cV=some true
   .rw[if_pos hq];refine Po.bind S1 (hA X h0 ns1 e1 ae h1 S1) λds ts h2 f_ e2 a2 S2 r2=>?_;try dsimp only
    split
    .rename_i v vs q1 q2;obtain⟨r1',hn⟩:=r1.drop;by_cases hv:cV v=true
     .rw[if_pos hv];exact BvR.po S2 (C_ hl (C_ a1.len a2.len)) (hm _ _ _ _ _ _ ((r1'.stp S1 a2 hn).sh S2 q1) hv (TsR.sh S2 r2 q2))
     .rw[if_neg hv];trivial
    .trivial
   .rw[if_neg hq];trivial
  .rename_i hL;by_cases hq:(rs e1 t).map cV=some true
   .obtain⟨v,z1,z2⟩:=I_.mp hq;exact absurd (zS (r1.sh S1 z1) z2) hL
   .rw[if_neg hq];trivial
noncomputable def aI(f:Int->Int->Val):Val->Val->Bv:=λx y=>match x,y with
 |.int i,.int j=>.val (f i j)
 |_,_=>.stuck
open Classical in
def aIc(C:Int->Int->Prop)(f:Int->Int->Val):Val->Val->Bv:=λx y=>match x,y with
 |.int i,.int j=>if C i j then .val (f i j) else .stuck
 |_,_=>.stuck
noncomputable def u9:Val->Val->Bv:=λx y=>match x,y with
 |.lst xs,.lst ys=>if xs.length+ys.length<=16777216 then .new (.lst (xs++ys)) else .stuck
 |.tup xs,.tup ys=>if xs.length+ys.length<=16777216 then .val (.tup (xs++ys)) else .stuck
 |_,_=>.stuck
noncomputable def Al:Val->Val->Bv:=λx y=>match x,y with
 |.int i,.int j=>.val (.int (i+j))
 |x,y=>u9 x y
noncomputable def aMin:=aI λi j=>.int (i-j)
def vv:=aIc CMulA λi j=>.int (i*j)
def we:=aIc CDivB λi j=>.int (i.fdiv j)
def wC:=aIc (λ_ j=>j≠0) λi j=>.int (i.fmod j)
def wg:=aIc ft λi j=>.int (i^j.toNat)
def wc:=aIc ft λi j=>.int (i*2^j.toNat)
noncomputable def aLt:=aI λi j=>.bl (decide (i<j))
noncomputable def aGt:=aI λi j=>.bl (decide (j<i))
noncomputable def aGe:=aI λi j=>.bl (decide (j<=i))
noncomputable def Ag:Val->Bv:=λx=>match x with
 |.int i=>.val (.int (-i))
 |_=>.stuck
noncomputable def aIx:Val->Val->Bv:=λx y=>match x.items,y with
 |some xs,.int i=>(match atI xs i with
  |some v=>.val v
  |none=>.stuck)
 |_,_=>.stuck
section
def rN(hr:∀i j P h,Rd P h (f2 i j) (f3 i j)):RO (gI f2) (aI f3):=λP h d1 d2 v1 v2 r1 r2=>by
 unfold aI;split
 .obtain rfl:=r1.int;obtain rfl:=r2.int;exact⟨_,rfl,hr _ _ P h⟩
 .trivial
def lT(hr:∀i j P h,Rd P h (f2 i j) (f3 i j)):RO (gIc C f2) (aIc C f3):=λP h d1 d2 v1 v2 r1 r2=>by
 unfold aIc;split
 .obtain rfl:=r1.int;obtain rfl:=r2.int;split
  .rename_i hc;exact⟨_,by unfold gIc;dsimp only;rw[if_pos hc],hr _ _ P h⟩
  .trivial
 .trivial
def JB:RO kQ u9:=λP h d1 d2 v1 v2 r1 r2=>by
 unfold u9;split
 .obtain⟨n,ds,rfl,e1,_,q1⟩:=r1.lst;obtain⟨m,es,rfl,e2,_,q2⟩:=r2.lst;split
  .rename_i hl;exact⟨.lst (ds++es),by unfold kQ;dsimp only;rw[e1,e2];dsimp only;rw[if_pos (by rw[q1.len,q2.len];exact hl)],trivial,.lst (q1.append q2)⟩
  .trivial
 .obtain⟨ds,rfl,q1⟩:=r1.tup;obtain⟨es,rfl,q2⟩:=r2.tup;split
  .rename_i hl;exact⟨_,by unfold kQ;dsimp only;rw[if_pos (by rw[q1.len,q2.len];exact hl)],.tup (q1.append q2)⟩
  .trivial
 .trivial
def Ij:RO wj Al:=λP h d1 d2 v1 v2 r1 r2=>by
 unfold Al;split
 .obtain rfl:=r1.int;obtain rfl:=r2.int;exact⟨_,rfl,.int _⟩
 .rename_i hn;have k:=JB P h d1 d2 v1 v2 r1 r2;have e:wj d1 d2 h=kQ d1 d2 h\/u9 v1 v2=.stuck:=by
   cases v1 <;> first |(right;rfl) |(left;skip)
   .obtain⟨ds,rfl,_⟩:=r1.tup;rfl
   .obtain⟨n,ds,rfl,_⟩:=r1.lst;rfl
  rcases e with e |e
  .rw[e];exact k
  .rw[e];trivial
def Ji:RO Au aMin:=rN λ_ _ _ _=>.int _
def KH:RO A1 vv:=lT λ_ _ _ _=>.int _
def Hy:RO An we:=lT λ_ _ _ _=>.int _
def Gg:RO Ab wC:=lT λ_ _ _ _=>.int _
def KC:RO zH wg:=lT λ_ _ _ _=>.int _
def JT:RO A0 wc:=lT λ_ _ _ _=>.int _
def Nr:RO gLt aLt:=rN λ_ _ _ _=>.bl _
def Nk:RO gGt aGt:=rN λ_ _ _ _=>.bl _
def LA:RO gGe aGe:=rN λ_ _ _ _=>.bl _
def FT:RU vR Ag:=λP h d v r=>by
 unfold Ag;split
 .obtain rfl:=r.int;exact⟨_,rfl,.int _⟩
 .trivial
def LP(r:Rds P h ds vs)(e:atI vs i=some v):∃d,atI ds i=some d/\Rd P h d v:=by
 unfold atI at e ⊢;rw[r.len];cases q:ixN vs.length i with
 |none=>rw[q] at e;cases e
 |some j=>rw[q] at e;exact r.get e
def MV:RO gIx aIx:=λP h d1 d2 v1 v2 r1 r2=>by
 unfold aIx;split
 .rename_i xs i e1;obtain⟨ds,e2,q⟩:=r1.items e1;obtain rfl:=r2.int;split
  .rename_i v e3;obtain⟨d,e4,q2⟩:=LP q e3;exact⟨d,by unfold gIx;rw[e2];dsimp only;rw[e4],q2⟩
  .trivial
 .trivial
end
mutual
def cn:Nat->Val->Option PyData
 |0,_=>none
 |_+1,.non=>some .none
 |_+1,.bl b=>some (.bool b)
 |_+1,.int i=>some (.int i)
 |_+1,.str x=>some (.str x)
 |k+1,.tup xs=>(dJ k xs).map .tuple
 |k+1,.lst xs=>(dJ k xs).map .list
 |_+1,_=>none
def dJ:Nat->List Val->Option (List PyData)
 |_,[]=>some []
 |k,x::xs=>match cn k x,dJ k xs with
  |some a,some b=>some (a::b)
  |_,_=>none
end
def Bu(hk:∀d v pd,Rd P h d v->cn k v=some pd->cR k h d=some pd):∀{ds:List D}{vs:List Val}{ps:List PyData},Rds P h ds vs->dJ k vs=some ps->ds.mapM (cR k h)=some ps:=by
 intro ds;induction ds with
 |nil=>intro vs ps r q;cases r;unfold dJ at q;cases q;rfl
 |
  cons d0 ds ih=>
  intro vs ps r q;cases r with
  |
   cons r rr=>
   unfold dJ at q;split at q
   .rename_i a b e1 e2;cases q;rw[O9,hk _ _ _ r e1,ih rr e2];rfl
   .cases q
theorem m9:∀(k:Nat) (d:D) (v:Val) (pd:PyData),ShR P h d v->cn k v=some pd->cR k h d=some pd
 |0,_,_,_,_,q=>by unfold cn at q;cases q
 |
  k+1,d,v,pd,r,q=>by
  have ih:∀{ds:List D}{vs:List Val}{ps:List PyData},Rds P h ds vs->dJ k vs=some ps->ds.mapM (cR k h)=some ps:=Bu λd v pd r q=>m9 k d v pd (.inl r) q;cases v with
  |non=>obtain rfl:=r.non;simp only[cn] at q;cases q;rfl
  |bl b=>obtain rfl:=r.bl;simp only[cn] at q;cases q;rfl
  |int b=>obtain rfl:=r.int;simp only[cn] at q;cases q;rfl
  |str b=>obtain rfl:=r.str;simp only[cn] at q;cases q;rfl
  |tup xs=>obtain⟨ds,rfl,r2⟩:=r.tup;simp only[cn] at q;obtain⟨ps,q1,rfl⟩:=I_.mp q;show (ds.mapM (cR k h)).map PyData.tuple=_;rw[ih r2 q1];rfl
  |lst xs=>obtain⟨n,ds,rfl,_,e1,r2⟩:=r.lst;simp only[cn] at q;obtain⟨ps,q1,rfl⟩:=I_.mp q;unfold cR;rw[e1];show (ds.mapM (cR k h)).map PyData.list=_;rw[ih r2 q1];rfl
  |_=>simp only[cn] at q;cases q
noncomputable def bG(x y:Val):Option Bool:=match cn 164 x,cn 164 y with
 |some a,some b=>if shp a=true/\shp b=true then some (PyData.eqv a b) else none
 |_,_=>none
noncomputable def aEq(neg:Bool):Val->Val->Bv:=λx y=>match bG x y with
 |some b=>.val (.bl (if neg then !b else b))
 |none=>.stuck
def yc(r1:ShR P h d1 v1)(r2:ShR P h d2 v2)(q:bG v1 v2=some b):jx h d1 d2=some b:=by
 unfold bG at q;split at q
 .rename_i a c e1 e2;unfold jx;rw[m9 164 _ _ _ r1 e1,m9 164 _ _ _ r2 e2];exact q
 .cases q
def CK(neg:Bool):RO (gEq neg) (aEq neg):=λP h d1 d2 v1 v2 r1 r2=>by
 unfold aEq;split
 .rename_i b q;exact⟨_,by unfold gEq;rw[yc r1 r2 q],.bl _⟩
 .trivial
noncomputable def oK:Val->Bool
 |.non=>true
 |.bl _=>true
 |.int _=>true
 |.str _=>true
 |_=>false
noncomputable def vL:Val->V
 |.bl b=>.bl b
 |.int i=>.int i
 |.str x=>.str x
 |_=>.non
noncomputable def eq1(x y:Val):Bool:=eqV (vL x) (vL y)
noncomputable def aIn(neg:Bool):Val->Val->Bv:=λx y=>match y.items with
 |some xs=>if oK x=true/\xs.all oK=true then .val (.bl (if neg then !(xs.any λd=>eq1 d x) else xs.any λd=>eq1 d x)) else .stuck
 |none=>.stuck
def uA(r:ShR P h d v)(f:oK v=true):jW d=true/\toV d=vL v:=by
 cases v with
 |non=>obtain rfl:=r.non;exact⟨rfl,rfl⟩
 |bl b=>obtain rfl:=r.bl;exact⟨rfl,rfl⟩
 |int b=>obtain rfl:=r.int;exact⟨rfl,rfl⟩
 |str b=>obtain rfl:=r.str;exact⟨rfl,rfl⟩
 |_=>cases f
def AJ(x:D)(y:Val)(hx:toV x=vL y):∀{ds:List D}{vs:List Val},Rds P h ds vs->vs.all oK=true->ds.all jW=true/\(ds.any λd=>eqF d x)=vs.any λd=>eq1 d y:=by
 intro ds;induction ds with
 |nil=>intro vs r f;cases r;exact⟨rfl,rfl⟩
 |
  cons d0 ds ih=>
  intro vs r f;cases r with
  |cons r rr=>rw[Pf,r_] at f;obtain⟨h1,h2⟩:=uA (.inl r) f.1;obtain⟨h3,h4⟩:=ih rr f.2;refine⟨by rw[Pf,h1,h3];rfl,?_⟩;rw[Ox,Ox,h4];unfold eqF eq1;rw[h2,hx]
def CL(neg:Bool):RO (gIn neg) (aIn neg):=λP h d1 d2 v1 v2 r1 r2=>by
 unfold aIn;split
 .rename_i xs e;obtain⟨ds,e2,q⟩:=r2.items e;split
  .rename_i hf;obtain⟨f1,f2⟩:=uA r1 hf.1;obtain⟨f3,f4⟩:=AJ d1 v1 f2 q hf.2;exact⟨_,by unfold gIn;rw[e2];dsimp only;rw[if_pos ⟨f1,f3⟩,f4],.bl _⟩
  .trivial
 .trivial
noncomputable def vb(neg:Bool):Val->Val->Bv:=λx y=>match x,y with
 |.non,.non=>.val (.bl (!neg))
 |_,.non=>.val (.bl neg)
 |_,_=>.stuck
def xN(neg:Bool):RO (mS neg) (vb neg):=λP h d1 d2 v1 v2 r1 r2=>by
 unfold vb;split
 .obtain rfl:=r1.non;obtain rfl:=r2.non;exact⟨_,rfl,.bl _⟩
 .rename_i hn;obtain rfl:=r2.non;have:d1 ≠ .non:=by
   rintro rfl;rcases r1 with r |⟨n,o,z,_⟩
   .cases r;exact hn rfl
   .cases z
  refine⟨_,?_,.bl neg⟩;unfold mS;split
  .exact absurd rfl this
  .rfl
  .rename_i h1 h2;exact (h1 rfl).elim
 .trivial
noncomputable def Az:List Val->Bv:=λvs=>match vs with
 | [v]=>(match v.items with
  |some xs=>.val (.int xs.length)
  |none=>(match v with
   |.str z=>if z.length<=16777216 then .val (.int z.length) else .stuck
   |_=>.stuck))
 |_=>.stuck
noncomputable def zm:List Val->Bv:=λvs=>match vs with
 | [.int i]=>.val (.int (if i<0 then -i else i))
 |_=>.stuck
noncomputable def uO:List Val->Bv:=λvs=>match vs with
 | [.int i,.int j]=>.val (.int (if j>i then j else i))
 |_=>.stuck
noncomputable def wb:List Val->Bv:=λvs=>match vs with
 | [.int i,.int j]=>.val (.int (if j<i then j else i))
 |_=>.stuck
noncomputable def ji:List Val->Option (List Bool)
 | []=>some []
 |.bl b::r=>(ji r).map (b :: ·)
 |_=>none
noncomputable def eJ:List Val->Option (List Int)
 | []=>some []
 |.int b::r=>(eJ r).map (b :: ·)
 |_=>none
noncomputable def BH:List Val->Bv:=λvs=>match vs with
 | [.lst xs]=>(match ji xs with
  |some bs=>.val (.bl (bs.all id))
  |none=>.stuck)
 |_=>.stuck
noncomputable def BX:List Val->Bv:=λvs=>match vs with
 | [.lst xs]=>(match eJ xs with
  |some bs=>.val (.int bs.sum)
  |none=>.stuck)
 |_=>.stuck
noncomputable def wk:List Val->Bv:=λvs=>match vs with
 | [v]=>(match v.items with
  |some xs=>.new (.lst xs)
  |none=>.stuck)
 |_=>.stuck
noncomputable def As:List Val->Bv:=λvs=>match vs with
 | [.int i]=>.val (.int i)
 | [.bl b]=>.val (.int (if b then 1 else 0))
 |_=>.stuck
def GZ:RFn pz Az:=λP h ds vs r=>by
 unfold Az;split
 .obtain⟨d,hd,rr1⟩:=cT r;subst hd;clear r;have r:=rr1;split
  .rename_i xs e;obtain⟨es,e2,q⟩:=r.items e;exact⟨_,by unfold pz;dsimp only;rw[e2],by rw[<- q.len];exact .int _⟩
  .split
   .rename_i z _;obtain rfl:=r.str;split
    .rename_i hl;exact⟨_,by show (if z.length<=16777216 then _ else _)=_;rw[if_pos hl],.int _⟩
    .trivial
   .trivial
 .trivial
def GP:RFn uX zm:=λP h ds vs r=>by
 unfold zm;split
 .obtain⟨d,hd,rr1⟩:=cT r;subst hd;clear r;have r:=rr1;obtain rfl:=r.int;exact⟨_,rfl,.int _⟩
 .trivial
def Fq:RFn oR uO:=λP h ds vs r=>by
 unfold uO;split
 .obtain⟨d,d',hd,rr1,r'⟩:=oA r;subst hd;clear r;have r:=rr1;obtain rfl:=r.int;obtain rfl:=r'.int;exact⟨_,rfl,.int _⟩
 .trivial
def Er:RFn oM wb:=λP h ds vs r=>by
 unfold wb;split
 .obtain⟨d,d',hd,rr1,r'⟩:=oA r;subst hd;clear r;have r:=rr1;obtain rfl:=r.int;obtain rfl:=r'.int;exact⟨_,rfl,.int _⟩
 .trivial
def NQ:∀{ds:List D}{vs:List Val}{bs:List Bool},Rds P h ds vs->ji vs=some bs->gp ds=some bs:=by
 intro ds;induction ds with
 |nil=>intro vs bs r q;cases r;cases q;rfl
 |
  cons d0 ds ih=>
  intro vs bs r q;cases r with
  |
   cons r rr=>
   rename_i v vs;cases v with
   |bl b=>obtain rfl:=ShR.bl (.inl r);obtain⟨b',q1,rfl⟩:=I_.mp (show (ji vs).map (b :: ·)=some bs from q);show (gp _).map (b :: ·)=_;rw[ih rr q1];rfl
   |_=>cases q
def xJ:∀{ds:List D}{vs:List Val}{bs:List Int},Rds P h ds vs->eJ vs=some bs->dG ds=some bs:=by
 intro ds;induction ds with
 |nil=>intro vs bs r q;cases r;cases q;rfl
 |
  cons d0 ds ih=>
  intro vs bs r q;cases r with
  |
   cons r rr=>
   rename_i v vs;cases v with
   |int b=>obtain rfl:=ShR.int (.inl r);obtain⟨b',q1,rfl⟩:=I_.mp (show (eJ vs).map (b :: ·)=some bs from q);show (dG _).map (b :: ·)=_;rw[ih rr q1];rfl
   |_=>cases q
def Gq:RFn p7 BH:=λP h ds vs r=>by
 unfold BH;split
 .obtain⟨d,hd,rr1⟩:=cT r;subst hd;clear r;have r:=rr1;obtain⟨n,es,rfl,_,e1,q⟩:=r.lst;split
  .rename_i bs e2;exact⟨_,by unfold p7;dsimp only;rw[e1];show (match gp es with |some bs=>_ |none=>_)=_;rw[NQ q e2],.bl _⟩
  .trivial
 .trivial
def IU:RFn qr BX:=λP h ds vs r=>by
 unfold BX;split
 .obtain⟨d,hd,rr1⟩:=cT r;subst hd;clear r;have r:=rr1;obtain⟨n,es,rfl,_,e1,q⟩:=r.lst;split
  .rename_i bs e2;exact⟨_,by unfold qr;dsimp only;rw[e1];show (match dG es with |some bs=>_ |none=>_)=_;rw[xJ q e2],.int _⟩
  .trivial
 .trivial
def Df:RFn ma wk:=λP h ds vs r=>by
 unfold wk;split
 .obtain⟨d,hd,rr1⟩:=cT r;subst hd;clear r;have r:=rr1;split
  .rename_i xs e;obtain⟨es,e2,q⟩:=r.items e;exact⟨.lst es,by unfold ma;dsimp only;rw[e2],trivial,.lst q⟩
  .trivial
 .trivial
def GH:RFn vt As:=λP h ds vs r=>by
 unfold As;split
 .obtain⟨d,hd,rr1⟩:=cT r;subst hd;clear r;have r:=rr1;obtain rfl:=r.int;exact⟨_,rfl,.int _⟩
 .obtain⟨d,hd,rr1⟩:=cT r;subst hd;clear r;have r:=rr1;obtain rfl:=r.bl;exact⟨_,rfl,.int _⟩
 .trivial
noncomputable def tyC:Val->Option Cl
 |.non=>some (.b "NoneType")
 |.bl _=>some (.b "bool")
 |.int _=>some (.b "int")
 |.str _=>some (.b "str")
 |.tup _=>some (.b "tuple")
 |.exc x=>some (.o x)
 |.lst _=>some (.b "list")
 |.dct _=>some (.b "dict")
 |_=>none
noncomputable def clV:Val->Option Cl
 |.ty n=>some (.b n)
 |.glb x=>some (.o x)
 |_=>none
noncomputable def v7:List Val->Option (List Cl)
 | []=>some []
 |v::vs=>match clV v,v7 vs with
  |some c,some cs=>some (c::cs)
  |_,_=>none
noncomputable def Np:Val->Option (List Cl)
 |.tup cs=>v7 cs
 |v=>(clV v).map ([·])
noncomputable def AO(kt:iO):List Val->Bv:=λvs=>match vs with
 | [v,c]=>(match tyC v,Np c with
  |some t,some (c0::cr)=>(match eK kt t (c0::cr),kit kt t c0 with
   |some b,some _=>.val (.bl b)
   |_,_=>.stuck)
  |_,_=>.stuck)
 |_=>.stuck
def Ll(r:ShR P h d v)(q:tyC v=some t):tyD h d=some t:=by
 cases v with
 |non=>obtain rfl:=r.non;exact q
 |bl b=>obtain rfl:=r.bl;exact q
 |int b=>obtain rfl:=r.int;exact q
 |str b=>obtain rfl:=r.str;exact q
 |exc b=>obtain rfl:=r.exc;exact q
 |tup b=>obtain⟨ds,rfl,_⟩:=r.tup;exact q
 |lst b=>obtain⟨n,ds,rfl,e,_⟩:=r.lst;unfold tyD;dsimp only;rw[e];exact q
 |dct b=>obtain⟨n,ds,rfl,e,_⟩:=r.dct;unfold tyD;dsimp only;rw[e];exact q
 |_=>cases q
def Cj(r:ShR P h d v)(q:clV v=some c):clD d=some c:=by
 cases v with
 |ty b=>obtain rfl:=r.ty;exact q
 |glb b=>obtain rfl:=r.glb;exact q
 |_=>cases q
def Kx:∀{ds:List D}{vs:List Val}{cs:List Cl},Rds P h ds vs->v7 vs=some cs->ds.mapM clD=some cs:=by
 intro ds;induction ds with
 |nil=>intro vs cs r q;cases r;cases q;rfl
 |
  cons d0 ds ih=>
  intro vs cs r q;cases r with
  |
   cons r rr=>
   unfold v7 at q;split at q
   .rename_i c cs' e1 e2;cases q;rw[O9,Cj (.inl r) e1,ih rr e2];rfl
   .cases q
def Ju(kt:iO):RFn (rP kt) (AO kt):=λP h ds vs r=>by
 unfold AO;split
 .rename_i v c;obtain⟨d,d',rfl,r1,r2⟩:=oA r;split
  .rename_i t c0 cr e1 e2;have e3:=Ll r1 e1;split
   .rename_i b b' e4 e5;refine⟨.bl b,?_,.bl b⟩;unfold rP;dsimp only;rw[e3];dsimp only;by_cases ht:∃cs,c=.tup cs
    .obtain⟨cs,rfl⟩:=ht;obtain⟨es,rfl,q⟩:=r2.tup;dsimp only;rw[Kx q e2];dsimp only;rw[e4,e5]
    .have e2':(clV c).map ([·])=some (c0::cr):=by
      cases c with
      |tup cs=>exact absurd ⟨cs,rfl⟩ ht
      |_=>exact e2
     obtain⟨cl,y1,y2⟩:=I_.mp e2';cases y2;have y3:=Cj r2 y1;have hd:∀cs,d' ≠ .tup cs:=λcs z=>by subst z;cases y3
     split
     .rename_i cs;exact absurd rfl (hd cs)
     .rw[y3];dsimp only;have:kit kt t c0=some b:=by
       unfold eK at e4;rw[e5] at e4 ⊢;cases b' with
       |true=>exact e4
       |false=>unfold eK at e4;exact e4
      rw[this]
   .trivial
  .trivial
 .trivial
noncomputable def gG(xs:List Val)(lo hi:Option Int):List Val:=(xs.drop (HT.sIx xs.length 0 lo)).take (HT.sIx xs.length xs.length hi-HT.sIx xs.length 0 lo)
abbrev MO3:=E3->R3 (Option Int)
def zA(_:Ns)(_:E3)(_:AH)(b c:Option Int):Prop:=b=c
def ROp(F:MO)(G:MO3):Prop:=∀X h0 ns e ae h,Sat X h0 ns e ae h->Po X h0 ns e ae h zA (F ae h) (G e)
noncomputable def xA:MO3:=λe=>.ok none e
noncomputable def yb(F:ME3):MO3:=λe=>(F e).bind λt e1=>match rs e1 t with
 |some (.int i)=>.ok (some i) e1
 |_=>.stuck
noncomputable def aSl(x:Val)(lo hi:Option Int):Bv:=match x with
 |.tup xs=>if HT.sIx xs.length 0 lo=0/\HT.sIx xs.length xs.length hi=xs.length then .stuck else .val (.tup (gG xs lo hi))
 |.lst xs=>.new (.lst (gG xs lo hi))
 |.kl xs=>.new (.lst (gG xs lo hi))
 |_=>.stuck
noncomputable def vSl(F:ME3)(L U:MO3):ME3:=λe=>(F e).bind λt e1=>(L e1).bind λlo e2=>(U e2).bind λhi e3=>match rs e3 t.drop with
 |some v=>(aSl v lo hi).at e3
 |none=>.stuck
def Dm:ROp vT xA:=λX h0 ns e ae h S=>Po.ret S rfl
def EV(hF:RE F F3):ROp (vj F) (yb F3):=λX h0 ns e ae h S=>
 Po.bind S (hF X h0 0 ns e ae h S (N2 _)) λd t h1 ns1 e1 a1 S1 r1=>by
  by_cases hq:∃i,rs e1 t=some (.int i)
  .obtain⟨i,hq⟩:=hq;have hd:=(r1.sh S1 hq).int;subst hd;show Po X h0 ns1 e1 ae h1 zA (R.ok (some i) h1) (match rs e1 t with |some (.int i)=>R3.ok (some i) e1 |_=>.stuck);rw[hq];exact Po.ret S1 rfl
  .have:(match rs e1 t with |some (.int i)=>R3.ok (some i) e1 |_=>.stuck)=(.stuck:R3 (Option Int)):=by
    split
    .rename_i i q;exact absurd ⟨i,q⟩ hq
    .rfl
   show Po X h0 ns1 e1 ae h1 zA _ (match rs e1 t with |some (.int i)=>R3.ok (some i) e1 |_=>.stuck);rw[this];trivial
def MP(hF:RE F F3)(hL:ROp L L3')(hU:ROp U U3):RE (eSl F L U) (vSl F3 L3' U3):=λX h0 LL ns e ae h S hl=>
 Po.bind
  S (hF X h0 LL ns e ae h S hl) λd t h1 ns1 e1 a1 S1 r1=>Po.bind S1 (hL X h0 ns1 e1 ae h1 S1) λlo lo' h2 f_ e2 a2 S2 r2=>Po.bind S2 (hU X h0 f_ e2 ae h2 S2) λhi hi' h3 ns3 e3 a3 S3 r3=>by
  cases r2;cases r3;obtain⟨r1',hn⟩:=r1.drop;have r4:=(r1'.stp S1 a2 hn).stp S2 a3 hn;try dsimp only
  split
  .rename_i v q;have rr:=r4.sh S3 q;refine BvR.po S3 (C_ hl (C_ a1.len (C_ a2.len a3.len))) ?_;unfold aSl;split
   .rename_i xs;obtain⟨ds,rfl,q1⟩:=rr.tup;split
    .trivial
    .rename_i hne;refine⟨_,by unfold gSl;dsimp only;rw[if_neg (by rw[q1.len];exact hne)],.tup ?_⟩;unfold L2.cutD gG;rw[q1.len];exact (q1.drop _).take _
   .rename_i xs;obtain⟨n,ds,rfl,_,e1,q1⟩:=rr.lst;refine⟨.lst (L2.cutD ds lo hi),by unfold gSl;dsimp only;rw[e1],trivial,.lst ?_⟩;unfold L2.cutD gG;rw[q1.len];exact (q1.drop _).take _
   .rename_i xs;have key:∃ds,gSl d lo hi h3=.ok (.ref h3.length) (h3++[.lst (L2.cutD ds lo hi)])/\Rds (Oc X ns3) h3 ds xs:=by
     rcases rr with rr |⟨n,o,rfl,e,rr⟩
     .cases rr with
      |kl q1=>exact⟨_,rfl,q1⟩
      |cell p e rc=>cases rc with |fz q1=>exact⟨_,by unfold gSl aL;dsimp only;rw[e],q1⟩
     .cases rr with |fz q1=>exact⟨_,by unfold gSl aL;dsimp only;rw[e],q1⟩
    obtain⟨ds,e1,q1⟩:=key;refine⟨.lst (L2.cutD ds lo hi),e1,trivial,.lst ?_⟩;unfold L2.cutD gG;rw[q1.len];exact (q1.drop _).take _
   .trivial
  .trivial
noncomputable def mM:Val->List Val->Option (Val×Val):=λu vs=>match u,vs with
 |.lst xs,[v]=>if xs.length<16777216 then some (.lst (xs++[v]),.non) else none
 |_,_=>none
noncomputable def pE:Val->List Val->Option (Val×Val):=λu vs=>match u,vs with
 |.lst xs,[]=>(match xs[xs.length-1]? with
  |some v=>some (.lst xs.dropLast,v)
  |none=>none)
 |_,_=>none
section
variable{P:Nat->Prop}{h:AH}
def oC(e:h[n]?=some o)(r:Rc P h o (.lst xs)):iU h (.ref n)=true/\∃ds,h[n]?=some (.lst ds)/\Rds P h ds xs/\∀f,iP h (.ref n) f=f n ds:=by obtain⟨ds,e1,e2,q⟩:=Rc.seq e r;refine⟨by show (aL h n).isSome=true;rw[e2];rfl,ds,e1,q,λf=>?_⟩;unfold iP;dsimp only;rw[e1]
def zO(r:Rds P h ds [v]):∃d,ds=[d]/\Rd P h d v:=by cases r with |cons r rr=>cases rr;exact⟨_,rfl,r⟩
end
def xW:RM jQ mM:=λP h n o u ds vs u' v e hf r rs q=>by
 unfold mM at q;split at q
 .split at q
  .rename_i hl;cases q;obtain⟨q1,es,q2,q3,q4⟩:=oC e r;obtain⟨d,rfl,rd⟩:=zO rs;refine⟨q1,.lst (es++[d]),.non,?_,trivial,.lst (q3.append (.cons rd .nil)),.non⟩;unfold jQ;rw[q4];dsimp only;rw[if_pos (by rw[q3.len];exact hl)]
  .cases q
 .cases q
def Hl:RM wJ pE:=λP h n o u ds vs u' v e hf r rs q=>by
 unfold pE at q;split at q
 .split at q
  .rename_i w hw;cases q;obtain⟨q1,es,q2,q3,q4⟩:=oC e r;cases rs;obtain⟨d,e2,rd⟩:=q3.get hw;refine⟨q1,.lst es.dropLast,d,?_,trivial,.lst ?_,rd⟩
   .unfold wJ;rw[q4];dsimp only;rw[q3.len,e2]
   .rw[O7,O7,q3.len];exact q3.take _
  .cases q
 .cases q
noncomputable def sL:Val->Val->Val->Option Val:=λu i v=>match u,i with
 |.lst xs,.int k=>(match ixN xs.length k with
  |some j=>some (.lst (xs.set j v))
  |none=>none)
 |_,_=>none
def G0:uS wL sL:=λP h n o u di vi d v u' _ e hf r ri rd q=>by
 unfold sL at q;split at q
 .split at q
  .rename_i j hj;cases q;obtain⟨q1,es,q2,q3,q4⟩:=oC e r;obtain rfl:=ri.int;refine⟨.lst (es.set j d),?_,trivial,.lst (q3.set rd j)⟩;unfold wL;dsimp only;rw[q2];dsimp only;rw[q3.len,hj]
  .cases q
 .cases q
noncomputable def nq(d:Val):List Val->Option (List Bool)
 | []=>some []
 |x::r=>match bG x d,nq d r with
  |some b,some bs=>some (b::bs)
  |_,_=>none
noncomputable def g9:Val->List Val->Bv:=λx vs=>match x,vs with
 |.lst xs,[d]=>(match nq d xs with
  |some bs=>if bs.idxOf true<bs.length then .val (.int (bs.idxOf true:Nat)) else .stuck
  |none=>.stuck)
 |_,_=>.stuck
def MU(rd:ShR P h d v):∀{ds:List D}{vs:List Val}{bs:List Bool},Rds P h ds vs->nq v vs=some bs->fE h d ds=some bs:=by
 intro ds;induction ds with
 |nil=>intro vs bs r q;cases r;cases q;rfl
 |
  cons d0 ds ih=>
  intro vs bs r q;cases r with
  |
   cons r rr=>
   unfold nq at q;split at q
   .rename_i b bs' e1 e2;cases q;unfold fE;rw[yc (.inl r) rd e1,ih rr e2]
   .cases q
def yx:RMv jq g9:=λP h d v ds vs r hv rs=>by
 unfold g9;split
 .rename_i xs w;obtain⟨n,es,rfl,_,e1,q⟩:=r.lst;obtain⟨d',rfl,r'⟩:=cT rs;split
  .rename_i bs eb;split
   .rename_i hl;refine⟨_,?_,.int _⟩;unfold jq;dsimp only;rw[e1];show (match fE h d' es with |some bs=>_ |none=>_)=_;rw[MU r' q eb];dsimp only;rw[if_pos hl]
   .trivial
  .trivial
 .trivial
noncomputable def vD0:ME3:=λe=>.ok (.new (.dct [])) e
def MR:RE eD0 vD0:=λX h0 L ns e ae h S hl=>BvR.po (r:=eD0 ae h) (b:=.new (.dct [])) S hl ⟨.dct [],rfl,trivial,.dct .nil⟩
structure PEx where
 F:ME
 G:ME3
 ok:RE F G
structure PTs where
 F:MT
 G:MT3
 ok:RT F G
structure PAs where
 F:MA
 G:MA3
 ok:RA F G
structure PSt where
 F:MS
 G:MS3
 ok:RS F G
structure PGt where
 F:MG
 G:MG3
 ok:RG F G
structure PGs where
 F:MGs
 G:jt
 ok:RGs F G
structure PIt where
 F:MI
 G:MI3
 ok:RI F G
structure POp where
 F:MO
 G:MO3
 ok:ROp F G
structure PO2 where
 F:D->D->AH->R D
 G:Val->Val->Bv
 ok:RO F G
structure PU1 where
 F:D->AH->R D
 G:Val->Bv
 ok:RU F G
structure PBf where
 F:Fn
 G:List Val->Bv
 ok:RFn F G
structure PMm where
 F:D->List D->AH->R D
 G:Val->List Val->Option (Val×Val)
 ok:RM F G
structure PMv where
 F:D->List D->AH->R D
 G:Val->List Val->Bv
 ok:RMv F G
structure PSe where
 F:D->D->D->AH->R Unit
 G:Val->Val->Val->Option Val
 ok:uS F G
structure PFn where
 ms:List Bool
 F:Fn
 G:Fn3
 ok:RF ms F G
structure PFx(ms:List Bool) where
 F:Fn
 G:Fn3
 ok:RF ms F G
noncomputable section
noncomputable def PFx.fn{ms:List Bool}(p:PFx ms):PFn:=⟨ms,p.F,p.G,p.ok⟩
noncomputable def af(i:Nat):PEx:=⟨bJ i,BJ i,HM i⟩
noncomputable def ah(i:Int):PEx:=⟨eC (.int i),vC (.int i),m6 λ_ _=>.int i⟩
noncomputable def pBl(i:Bool):PEx:=⟨eC (.bl i),vC (.bl i),m6 λ_ _=>.bl i⟩
noncomputable def bf(i:Str):PEx:=⟨eC (.str i),vC (.str i),m6 λ_ _=>.str i⟩
def pM:PEx:=⟨eC .non,vC .non,m6 λ_ _=>.non⟩
noncomputable def pTy(i:String):PEx:=⟨eC (.ty i),vC (.ty i),m6 λ_ _=>.ty i⟩
noncomputable def kZ(d:D)(v:Val)(r:∀P h,Rd P h d v):PEx:=⟨eC d,vC v,m6 r⟩
noncomputable def pUn(o:PU1)(a:PEx):PEx:=⟨eUn o.F a.F,vUn o.G a.G,MZ o.ok a.ok⟩
noncomputable def pOp(o:PO2)(a b:PEx):PEx:=⟨eOp o.F a.F b.F,vOp o.G a.G b.G,NO o.ok a.ok b.ok⟩
noncomputable def ag:PAs:=⟨o8,mR,yN⟩
noncomputable def aa(a:PEx)(r:PAs):PAs:=⟨va a.F r.F,CN a.G r.G,Fb a.ok r.ok⟩
noncomputable def pFn(o:PBf)(a:PAs):PEx:=⟨eFn o.F a.F,vFn o.G a.G,Mz o.ok a.ok⟩
noncomputable def bI(a:PAs):PEx:=⟨eFn lV a.F,vTup a.G,FY a.ok⟩
noncomputable def cH(a:PAs):PEx:=⟨eFn cU a.F,vLst a.G,Iq a.ok⟩
noncomputable def gL(a b:PEx):PEx:=⟨BR a.F b.F,vAnd a.G b.G,Kp a.ok b.ok⟩
noncomputable def AX(a:PEx):PEx:=⟨B6 a.F,vNot a.G,Jw a.ok⟩
noncomputable def qOf(a:PEx):PTs:=⟨tOf a.F,cOf a.G,Nj a.ok⟩
noncomputable def qTr(a:PEx):PTs:=⟨tTr a.F,cTr a.G,M1 a.ok⟩
noncomputable def qAn(a b:PTs):PTs:=⟨tAn a.F b.F,cAn a.G b.G,Lh a.ok b.ok⟩
noncomputable def qO(a b:PTs):PTs:=⟨tO a.F b.F,cO a.G b.G,rt_o a.ok b.ok⟩
noncomputable def qNo(a:PTs):PTs:=⟨tNo a.F,cNo a.G,MN a.ok⟩
noncomputable def qY:PTs:=⟨tY,cY,rt_y⟩
noncomputable def xNx:PSt:=⟨sNx,wNx,NP⟩
noncomputable def wH:PSt:=⟨wK,C2,Eo⟩
noncomputable def ar(a:PEx):PSt:=⟨A8 a.F,wRet a.G,Gy a.ok⟩
noncomputable def aV(a:PEx):PSt:=⟨vh a.F,Cg a.G,D2 a.ok⟩
noncomputable def aj(a b:PSt):PSt:=⟨zN a.F b.F,wSeq a.G b.G,F8 a.ok b.ok⟩
noncomputable def xIf(c:PTs)(a b:PSt):PSt:=⟨sIf c.F a.F b.F,wIf c.G a.G b.G,L4 c.ok a.ok b.ok⟩
noncomputable def au(o:Bool)(i:Nat)(a:PEx):PSt:=⟨gx a.F (gN i),wAsg o i a.G,Ho o i a.ok⟩
noncomputable def gtN(i:Nat):PGt:=⟨gN i,pN i,v3 i⟩
noncomputable def dB:PGs:=⟨gsN,psN,Ls⟩
noncomputable def aU(a:PGt)(b:PGs):PGs:=⟨gsC a.F b.F,psC a.G b.G,NN a.ok b.ok⟩
noncomputable def gtT(n:Nat)(a:PGs):PGt:=⟨gT λds ae h=>if ds.length=n then a.F ds ae h else .stuck,pT n a.G,rg_t n a.ok⟩
noncomputable def gtX(a:PGt):PGt:=⟨λd ae h=>noX (a.F d ae h),a.G,JD a.ok⟩
noncomputable def jC(a:PEx)(g:PGt):PSt:=⟨gx a.F g.F,C3 a.G g.G,EH a.ok g.ok⟩
noncomputable def fB(i j:Nat)(a:PAs):PSt:=⟨zE i j a.F,wPar i j a.G,GG i j a.ok⟩
noncomputable def A5(i:Nat)(o:PO2)(a:PEx):PSt:=⟨sf i o.F a.F,AL i o.G a.G,G1 i o.ok a.ok⟩
noncomputable def dE(c:Str)(a:PAs):PSt:=⟨o9 c a.F,ym c a.G,Cb c a.ok⟩
noncomputable def mB(i:Nat)(w:PSe)(k a:PEx):PSt:=⟨gx a.F (gS (bJ i) k.F w.F),wSet i k.G a.G w.G,Kn i w.ok k.ok a.ok⟩
noncomputable def f6(i:Nat)(m:PMm)(a:PAs):PEx:=⟨eM m.F (bJ i) a.F,kx i m.G a.G,yi i m.ok a.ok⟩
noncomputable def oI(i:Nat)(m:PMm):PEx:=⟨eM0 m.F (bJ i),kx i m.G mR,Eb i m.ok⟩
noncomputable def vz(m:PMv)(a:PEx)(b:PAs):PEx:=⟨eM m.F a.F b.F,Cz m.G a.G b.G,Dk m.ok a.ok b.ok⟩
noncomputable def cx(a:PEx):PIt:=⟨BM a.F,Cq a.G,IJ a.ok⟩
def lX(a:PAs):PIt:=⟨Af a.F,pY iA a.G,JR a.ok⟩
def uP(a:PAs):PIt:=⟨Bj a.F,pY mw a.G,Ja a.ok⟩
noncomputable def oB(a:PAs):PIt:=⟨zK a.F,Cd a.G,GV a.ok⟩
def fA(i:PIt)(g:PGt)(b:PSt):PSt:=⟨Ae i.F g.F b.F,wFor i.G g.G b.G,Hi i.ok g.ok b.ok⟩
def xWh(c:PTs)(b:PSt):PSt:=⟨sWh c.F b.F,wWh c.G b.G,M7 c.ok b.ok⟩
def pLC(i:PIt)(sub:Qd)(hs:(sub.filterMap id).Nodup)(g:PGt)(c:PTs)(a:PEx):PEx:=⟨eLC i.F sub g.F c.F a.F,vLC i.G sub g.G c.G a.G,Na hs i.ok g.ok c.ok a.ok⟩
noncomputable def ai(f:PFn)(a:PAs):PEx:=⟨vZ f.ms.length f.F a.F,CC f.ms f.G a.G,C6 rfl f.ok a.ok⟩
noncomputable def oN:POp:=⟨vT,xA,Dm⟩
noncomputable def oS(a:PEx):POp:=⟨vj a.F,yb a.G,EV a.ok⟩
noncomputable def pSl(a:PEx)(l u:POp):PEx:=⟨eSl a.F l.F u.F,vSl a.G l.G u.G,MP a.ok l.ok u.ok⟩
noncomputable def pD0:PEx:=⟨eD0,vD0,MR⟩
noncomputable def PFx.none(ms:List Bool)(N:Nat:=0):PFx ms:=⟨λ_ _=>.stuck,λ_=>.stuck,λ_ _ _ _ _ _ _=>trivial⟩
noncomputable def PFx.of(ms:List Bool)(N:Nat)(c:PSt):PFx ms:=⟨fnD N c.F,fnV ms N c.G,Co c.ok⟩
noncomputable def fnP(ms:List Bool)(N:Nat)(c:PSt):PFn:=⟨ms,fnD N c.F,fnV ms N c.G,Co c.ok⟩
noncomputable def aR:PO2:=⟨wj,Al,Ij⟩
noncomputable def dU:PO2:=⟨Au,aMin,Ji⟩
def aK:PO2:=⟨A1,vv,KH⟩
def iQ:PO2:=⟨An,we,Hy⟩
def bE:PO2:=⟨Ab,wC,Gg⟩
def eL:PO2:=⟨zH,wg,KC⟩
def qE:PO2:=⟨A0,wc,JT⟩
noncomputable def bLt:PO2:=⟨gLt,aLt,Nr⟩
noncomputable def bGt:PO2:=⟨gGt,aGt,Nk⟩
noncomputable def bGe:PO2:=⟨gGe,aGe,LA⟩
noncomputable def bIx:PO2:=⟨gIx,aIx,MV⟩
noncomputable def bEq:PO2:=⟨gEq false,aEq false,CK false⟩
noncomputable def bNe:PO2:=⟨gEq true,aEq true,CK true⟩
noncomputable def bIn:PO2:=⟨gIn false,aIn false,CL false⟩
noncomputable def wG:PO2:=⟨gIn true,aIn true,CL true⟩
noncomputable def bIs:PO2:=⟨mS false,vb false,xN false⟩
def uQ:PO2:=⟨mS true,vb true,xN true⟩
noncomputable def Bi:PO2:=⟨gI λi j=>.int (i+j),aI λi j=>.int (i+j),rN λ_ _ _ _=>.int _⟩
noncomputable def AZ:PU1:=⟨vR,Ag,FT⟩
noncomputable def cp:PBf:=⟨pz,Az,GZ⟩
noncomputable def fc:PBf:=⟨uX,zm,GP⟩
noncomputable def o3:PBf:=⟨oR,uO,Fq⟩
noncomputable def pI:PBf:=⟨oM,wb,Er⟩
noncomputable def oE:PBf:=⟨p7,BH,Gq⟩
noncomputable def gj:PBf:=⟨qr,BX,IU⟩
noncomputable def pG:PBf:=⟨ma,wk,Df⟩
noncomputable def vA:PBf:=⟨vt,As,GH⟩
noncomputable def bc(kt:iO):PBf:=⟨rP kt,AO kt,Ju kt⟩
noncomputable def cI:PMm:=⟨jQ,mM,xW⟩
noncomputable def oz:PMm:=⟨wJ,pE,Hl⟩
noncomputable def ng:PMv:=⟨jq,g9,yx⟩
noncomputable def seL:PSe:=⟨wL,sL,G0⟩
end
theorem mD:∀(ns:List Int),Rds P h (ns.map D.int) (ns.map Val.int)
 | []=>.nil
 |_::r=>.cons (.int _) (mD r)
def law3(p:PFn)(hm:p.ms=[false])(hG:∀ns:List Int,ns.length<=63->p.G [.kl (ns.map .int)]=.ok (.val (.bl true)) [])(d:D)(h:AH)(ns:List Int)(hl:ns.length<=63)(sc:Script h d ns):∃h',p.F [d] h=.ok (.bl true) h':=by
 have hp:=p.ok;rw[hm] at hp;have rd:Rd (Oc (λ_=>False) [none]) h d (.kl (ns.map .int)):=by
  rcases sc.form with ⟨n,rfl,e⟩ |rfl
  .exact .cell ⟨λz=>z,by simp⟩ e (.fz (mD ns))
  .exact .kl (mD ns)
 have S:Sat (λ_=>False) h.length [none] (sls [false] [.kl (ns.map .int)]) ([d].map some) h:=by
  refine⟨rfl,rfl,n_ _,λ_ z=>z.elim,λi j n q=>?_,λi n q z=>z,λi s q=>?_⟩
  .cases i with
   |zero=>simp at q
   |succ i=>simp at q
  .cases i with
   |
    zero=>
    have:sl1 false (.kl (ns.map .int))=s:=by simpa [sls] using q
    subst this;exact⟨rfl,d,rfl,rd⟩
   |succ i=>simp [sls] at q
 have:=hp _ _ [d] [.kl (ns.map .int)] h rfl S
 rw[hG ns hl] at this;obtain⟨d',h',e,_,_,r⟩:=this;cases r with
 |bl=>exact⟨h',e⟩
 |cell p e r=>cases r
section
variable(e:E3)
@[simp] theorem iH(a:α)(f:α->E3->R3 β):(R3.ok a e).bind f=f a e:=rfl
@[simp] theorem ND(a:α)(f:α->E3->SR3):(R3.ok a e).toS f=f a e:=rfl
@[simp] theorem Lx(f:E3->SR3):(SR3.nx e).then f=f e:=rfl
@[simp] theorem Ld(r:Rt)(f:E3->SR3):(SR3.rt r e).then f=.rt r e:=rfl
@[simp] theorem F1(c:Str)(f:E3->SR3):(SR3.exc c e).then f=.exc c e:=rfl
@[simp] theorem gw(f:E3->SR3):(SR3.nx e).loop f=f e:=rfl
@[simp] theorem LZ(r:SR3):r.unl none=r:=by cases r <;> rfl
@[simp] theorem AR:lockO e none=e:=rfl
@[simp] theorem v9:d8 e none=e:=rfl
@[simp] theorem Ie(v:Val):(Bv.val v).at e=.ok (.val v) e:=rfl
@[simp] theorem Ky(v:Val):(Bv.new v).at e=.ok (.new v) e:=rfl
@[simp] theorem JJ(v:Val):rs e (.val v)=some v:=rfl
@[simp] theorem Ga(i:Nat):rs e (.bor i)=(e[i]?).bind Sl.val:=rfl
@[simp] theorem Iw(v:Val):(Tm.val v).drop=.val v:=rfl
@[simp] theorem GY(v:Val):(Tm.new v).drop=.val v:=rfl
@[simp] theorem Ko(i:Nat):(Tm.bor i).drop=.bor i:=rfl
@[simp] theorem FE:rss e []=some []:=rfl
@[simp] theorem BQ(t:Tm)(ts:List Tm):rss e (t::ts)=match rs e t,rss e ts with
 |some v,some vs=>some (v::vs)
 |_,_=>none:=rfl
@[simp] theorem Ir(v:Val):b9 e (.val v)=some (e,v):=rfl
@[simp] theorem y0:dem e []=some (e,[]):=rfl
@[simp] theorem Fo(t:Tm)(ts:List Tm):dem e (t::ts)=match b9 e t with
 |some (e1,v)=>match dem e1 ts with
  |some (e2,vs)=>some (e2,v::vs)
  |none=>none
 |none=>none:=rfl
@[simp] theorem HW(b:Bool):bOf (some (.bl b))=some b:=rfl
@[simp] theorem Md(i:Nat):(af i).G e=match e[i]? with
 |some (.sh v)=>.ok (.val v) e
 |some .no=>.stuck
 |some _=>.ok (.bor i) e
 |none=>.stuck:=rfl
@[simp] theorem Me(i:Int):(ah i).G e=.ok (.val (.int i)) e:=rfl
@[simp] theorem v_bl(i:Bool):(pBl i).G e=.ok (.val (.bl i)) e:=rfl
@[simp] theorem Mn(i:Str):(bf i).G e=.ok (.val (.str i)) e:=rfl
@[simp] theorem MY:pM.G e=.ok (.val .non) e:=rfl
@[simp] theorem v_ty(i:String):(pTy i).G e=.ok (.val (.ty i)) e:=rfl
@[simp] theorem v_un(o:PU1)(a:PEx):(pUn o a).G e=(a.G e).bind λt e1=>match rs e1 t with
 |some v=>(o.G v).at e1
 |none=>.stuck:=rfl
@[simp] theorem v_op(o:PO2)(a b:PEx):(pOp o a b).G e=(a.G e).bind λt1 e1=>(b.G e1).bind λt2 e2=>match rs e2 t1.drop,rs e2 t2 with
 |some v1,some v2=>(o.G v1 v2).at e2
 |_,_=>.stuck:=rfl
@[simp] theorem NK:ag.G e=.ok [] e:=rfl
@[simp] theorem Gi(a:PEx)(r:PAs):(aa a r).G e=(a.G e).bind λt e1=>(r.G e1).bind λts e2=>.ok (t.drop::ts) e2:=rfl
@[simp] theorem v_fn(o:PBf)(a:PAs):(pFn o a).G e=(a.G e).bind λts e1=>match rss e1 ts with
 |some vs=>(o.G vs).at e1
 |none=>.stuck:=rfl
@[simp] theorem Mm(a:PAs):(bI a).G e=(a.G e).bind λts e1=>match dem e1 ts with
 |some (e2,vs)=>if vs.length<=16777216 then .ok (.val (.tup vs)) e2 else .stuck
 |none=>.stuck:=rfl
@[simp] theorem Mq(a:PAs):(cH a).G e=(a.G e).bind λts e1=>match dem e1 ts with
 |some (e2,vs)=>if vs.length<=16777216 then .ok (.new (.lst vs)) e2 else .stuck
 |none=>.stuck:=rfl
@[simp] theorem LQ(a b:PEx):(gL a b).G e=(a.G e).bind λt e1=>match bOf (rs e1 t) with
 |some true=>b.G e1
 |some false=>.ok (.val (.bl false)) e1
 |none=>.stuck:=rfl
@[simp] theorem MQ(a:PEx):(AX a).G e=(a.G e).bind λt e1=>match bOf (rs e1 t) with
 |some b=>.ok (.val (.bl (!b))) e1
 |none=>.stuck:=rfl
@[simp] theorem c_of(a:PEx):(qOf a).G e=(a.G e).bind λt e1=>match bOf (rs e1 t) with
 |some b=>.ok b e1
 |none=>.stuck:=rfl
@[simp] theorem c_tr(a:PEx):(qTr a).G e=(a.G e).bind λt e1=>match (rs e1 t).bind kS with
 |some b=>.ok b e1
 |none=>.stuck:=rfl
@[simp] theorem c_an(a b:PTs):(qAn a b).G e=(a.G e).bind λk e1=>if k=true then b.G e1 else .ok false e1:=rfl
@[simp] theorem c_o(a b:PTs):(qO a b).G e=(a.G e).bind λk e1=>if k=true then .ok true e1 else b.G e1:=rfl
@[simp] theorem c_no(a:PTs):(qNo a).G e=(a.G e).bind λk e1=>.ok (!k) e1:=rfl
@[simp] theorem x_nx:xNx.G e=.nx e:=rfl
@[simp] theorem GB:wH.G e=.rt (.val .non) e:=rfl
@[simp] theorem MH(a:PEx):(ar a).G e=(a.G e).toS ml:=rfl
@[simp] theorem C8(v:Val):ml (.val v) e=.rt (.val v) e:=rfl
@[simp] theorem Di(v:Val):ml (.new v) e=.rt (.new v) e:=rfl
@[simp] theorem E5(i:Nat):ml (.bor i) e=match e[i]? with
 |some (.sh v)=>.rt (.val v) e
 |some (.ow v)=>.rt (.new v) (e.set i .no)
 |some (.mu _)=>.rt (.par i) e
 |_=>.stuck:=rfl
@[simp] theorem F4(a:PEx):(aV a).G e=(a.G e).toS λ_ e1=>.nx e1:=rfl
@[simp] theorem Ck(a b:PSt):(aj a b).G e=(a.G e).then b.G:=rfl
@[simp] theorem x_if(c:PTs)(a b:PSt):(xIf c a b).G e=(c.G e).toS λk e1=>if k=true then a.G e1 else b.G e1:=rfl
@[simp] theorem NB(o:Bool)(i:Nat)(a:PEx):(au o i a).G e=(a.G e).toS (gF o i):=rfl
@[simp] theorem Ms:Sl.no.pl=true:=rfl
@[simp] theorem Mj(v:Val):(Sl.sh v).pl=true:=rfl
@[simp] theorem Dt(o:Bool)(i:Nat)(v:Val):gF o i (.val v) e=match e[i]? with
 |some s0=>if s0.pl=true then .nx (e.set i (.sh v)) else .stuck
 |none=>.stuck:=by unfold gF;rfl
@[simp] theorem BO(i:Nat)(v:Val):gF true i (.new v) e=match e[i]? with
 |some s0=>if s0.pl=true then .nx (e.set i (.ow v)) else .stuck
 |none=>.stuck:=by unfold gF;rfl
@[simp] theorem Ar(i:Nat)(v:Val):gF false i (.new v) e=match e[i]? with
 |some s0=>if s0.pl=true then .nx (e.set i (.sh v)) else .stuck
 |none=>.stuck:=by unfold gF;rfl
@[simp] theorem g_n(i:Nat)(v:Val):(gtN i).G v e=match e[i]? with
 |some s=>if s.pl=true then some (e.set i (.sh v)) else none
 |none=>none:=rfl
@[simp] theorem g_sn:dB.G [] e=some e:=rfl
@[simp] theorem g_sc(a:PGt)(b:PGs)(v:Val)(vs:List Val):(aU a b).G (v::vs) e=(a.G v e).bind λe1=>b.G vs e1:=rfl
@[simp] theorem g_t(n:Nat)(a:PGs)(vs:List Val):(gtT n a).G (.tup vs) e=if vs.length=n then a.G vs e else none:=rfl
@[simp] theorem g_x(a:PGt)(v:Val):(gtX a).G v e=a.G v e:=rfl
@[simp] theorem Gs(a:PEx)(g:PGt):(jC a g).G e=(a.G e).toS λt e1=>match b9 e1 t with
 |some (e2,v)=>match g.G v e2 with
  |some e3=>.nx e3
  |none=>.stuck
 |none=>.stuck:=rfl
@[simp] theorem M5(i j:Nat)(a:PAs):(fB i j a).G e=(a.G e).toS λts e1=>match dem e1 ts with
 |some (e2,[v,u])=>match (pN i v e2).bind (pN j u) with
  |some e3=>.nx e3
  |none=>.stuck
 |_=>.stuck:=rfl
@[simp] theorem Lb(i:Nat)(v:Val):pN i v e=match e[i]? with
 |some s=>if s.pl=true then some (e.set i (.sh v)) else none
 |none=>none:=rfl
@[simp] theorem K5(i:Nat)(o:PO2)(a:PEx):(A5 i o a).G e=match e[i]? with
 |some (.sh x)=>(a.G e).toS λt e1=>match rs e1 t with
  |some y=>match o.G x y with
   |.val z=>match pN i z e1 with
    |some e2=>.nx e2
    |none=>.stuck
   |_=>.stuck
  |none=>.stuck
 |_=>.stuck:=rfl
@[simp] theorem Dl(c:Str)(a:PAs):(dE c a).G e=(a.G e).toS λts e1=>if ts.length<=16777216 then .exc c e1 else .stuck:=rfl
@[simp] theorem LC(i:Nat)(w:PSe)(k a:PEx):(mB i w k a).G e=(a.G e).toS λt e1=>match (e1[i]?).bind Sl.mv with
 |none=>.stuck
 |some _=>(k.G e1).toS λt2 e2=>match rs e2 t2 with
  |none=>.stuck
  |some vi=>match b9 e2 t.drop with
   |none=>.stuck
   |some (e3,v)=>match e3[i]? with
    |none=>.stuck
    |some s=>match s.mv with
     |none=>.stuck
     |some u=>match w.G u vi v with
      |some u'=>.nx (e3.set i (s.re u'))
      |none=>.stuck:=rfl
@[simp] theorem Ng(v:Val):(Sl.ow v).mv=some v:=rfl
@[simp] theorem LJ(v:Val):(Sl.mu v).mv=some v:=rfl
@[simp] theorem Nd(v u:Val):(Sl.ow v).re u=.ow u:=rfl
@[simp] theorem Mb(v u:Val):(Sl.mu v).re u=.mu u:=rfl
@[simp] theorem GX(v:Val):(Sl.ow v).val=some v:=rfl
@[simp] theorem Jh(v:Val):(Sl.mu v).val=some v:=rfl
@[simp] theorem NM(i:Nat)(m:PMm)(a:PAs):(f6 i m a).G e=match e[i]? with
 |some s=>if (s.mv.map cV)=some true then (a.G e).bind λts e1=>match dem e1 ts with
  |some (e2,vs)=>match e2[i]? with
   |some s2=>match s2.mv with
    |some u=>match m.G u vs with
     |some (u',v)=>.ok (.val v) (e2.set i (s2.re u'))
     |none=>.stuck
    |none=>.stuck
   |none=>.stuck
  |none=>.stuck else .stuck
 |none=>.stuck:=rfl
@[simp] theorem Iv(i:Nat)(m:PMm):(oI i m).G e=match e[i]? with
 |some s=>if (s.mv.map cV)=some true then (match s.mv with
  |some u=>match m.G u [] with
   |some (u',v)=>.ok (.val v) (e.set i (s.re u'))
   |none=>.stuck
  |none=>.stuck) else .stuck
 |none=>.stuck:=by
 show kx i m.G mR e=_;unfold kx;cases q:e[i]? with
 |none=>rfl
 |
  some s=>
  dsimp only;split
  .simp only[mR,iH,y0,q];try rfl
  .rfl
@[simp] theorem zJ(xs:List Val):cV (.lst xs)=true:=rfl
@[simp] theorem Hz(m:PMv)(a:PEx)(b:PAs):(vz m a b).G e=(a.G e).bind λt e1=>if (rs e1 t).map cV=some true then (b.G e1).bind λts e2=>(match rs e2 t.drop,rss e2 ts with
 |some v,some vs=>if cV v=true then (m.G v vs).at e2 else .stuck
 |_,_=>.stuck) else .stuck:=rfl
@[simp] theorem Ma(a:PEx):(cx a).G e=(a.G e).bind λt e1=>match eP t e1 with
 |some p=>.ok p e1
 |none=>.stuck:=rfl
@[simp] theorem ML(a:PAs):(oB a).G e=(a.G e).bind λts e1=>match ts with
 | [t,u]=>(match eP t e1,eP u e1 with
  |some (xs,k),some (ys,none)=>.ok (List.zipWith (λx y=>.tup [x,y]) xs ys,k) e1
  |_,_=>.stuck)
 |_=>.stuck:=rfl
@[simp] theorem Hw(v:Val):eP (.val v) e=(gi v).map λxs=>(xs,none):=rfl
@[simp] theorem Gr(v:Val):eP (.new v) e=(gi v).map λxs=>(xs,none):=rfl
@[simp] theorem Gz(xs:List Val):gi (.tup xs)=some xs:=rfl
@[simp] theorem I0(xs:List Val):gi (.lst xs)=some xs:=rfl
@[simp] theorem LG(a:PAs):(lX a).G e=(a.G e).bind λts e1=>match (rss e1 ts).bind iA with
 |some xs=>.ok (xs,none) e1
 |none=>.stuck:=rfl
@[simp] theorem K9(a:PAs):(uP a).G e=(a.G e).bind λts e1=>match (rss e1 ts).bind mw with
 |some xs=>.ok (xs,none) e1
 |none=>.stuck:=rfl
@[simp] theorem M6(i:PIt)(g:PGt)(b:PSt):(fA i g b).G e=(i.G e).toS λp e1=>(c9 g.G b.G p.1 (lockO e1 p.2)).unl p.2:=rfl
@[simp] theorem de(g:MG3)(B:MS3):c9 g B [] e=.nx e:=rfl
theorem bP(g:MG3)(B:MS3)(v:Val)(vs:List Val):c9 g B (v::vs) e=match g v e with
 |some e1=>(B e1).loop (c9 g B vs)
 |none=>.stuck:=rfl
def i8(c:PTs)(b:PSt):(xWh c b).G e=(c.G e).toS λk e1=>if k=true then (b.G e1).loop (xWh c b).G else .nx e1:=zF c.G b.G e
@[simp] theorem v_lc(i:PIt)(sub:Qd)(hs:(sub.filterMap id).Nodup)(g:PGt)(c:PTs)(a:PEx):(pLC i sub hs g c a).G e=(i.G e).bind λp e1=>match lcV g.G c.G a.G p.1 [] (cA sub (lockO e1 p.2)) with
 |.ok ys e2=>if ys.length<=16777216 then .ok (.new (.lst ys)) (d8 (aY sub e2 (lockO e1 p.2)) p.2) else .stuck
 |_=>.stuck:=rfl
@[simp] theorem Kd(f:PFn)(a:PAs):(ai f a).G e=(a.G e).bind λts e1=>match rss e1 ts with
 |none=>.stuck
 |some vs=>if okA e1 f.ms ts=true then (match f.G vs with
  |.stuck=>.stuck
  |.ok r mv=>if (aN e1 f.ms ts).isEmpty || (jX r&&mv.all cG) then .ok (r.tm ts) (aY (bF f.ms ts) (aG f.ms mv) e1) else (match mK e1 (aN e1 f.ms ts) with
   |some e2=>.ok (r.tm ts) (aY (bF f.ms ts) (aG f.ms mv) e2)
   |none=>.stuck)
  |.exc c mv=>if (aN e1 f.ms ts).isEmpty || mv.all cG then .exc c (aY (bF f.ms ts) (aG f.ms mv) e1) else .stuck) else .stuck:=rfl
@[simp] theorem Kv(ts:List Tm)(v:Val):(Rt.val v).tm ts=.val v:=rfl
@[simp] theorem H0(ts:List Tm)(v:Val):(Rt.new v).tm ts=.new v:=rfl
@[simp] theorem o_n:oN.G e=.ok none e:=rfl
@[simp] theorem o_s(a:PEx):(oS a).G e=(a.G e).bind λt e1=>match rs e1 t with
 |some (.int i)=>.ok (some i) e1
 |_=>.stuck:=rfl
@[simp] theorem v_sl(a:PEx)(l u:POp):(pSl a l u).G e=(a.G e).bind λt e1=>(l.G e1).bind λlo e2=>(u.G e2).bind λhi e3=>match rs e3 t.drop with
 |some v=>(aSl v lo hi).at e3
 |none=>.stuck:=rfl
@[simp] theorem v_d0:pD0.G e=.ok (.new (.dct [])) e:=rfl
theorem aD(ms:List Bool)(N:Nat)(c:PSt)(vs:List Val):(fnP ms N c).G vs=if vs.length=ms.length then (match c.G (sls ms vs++List.replicate (N-vs.length) .no) with
 |.nx e=>(match muV ms e with |some mv=>.ok (.val .non) mv |none=>.stuck)
 |.rt r e=>(match muV ms e with |some mv=>.ok r mv |none=>.stuck)
 |.exc c e=>(match muV ms e with |some mv=>.exc c mv |none=>.stuck)
 |_=>.stuck) else .stuck:=rfl
theorem Cw(ms:List Bool)(N:Nat)(c:PSt)(vs:List Val):(PFx.of ms N c).G vs=if vs.length=ms.length then (match c.G (sls ms vs++List.replicate (N-vs.length) .no) with
 |.nx e=>(match muV ms e with |some mv=>.ok (.val .non) mv |none=>.stuck)
 |.rt r e=>(match muV ms e with |some mv=>.ok r mv |none=>.stuck)
 |.exc c e=>(match muV ms e with |some mv=>.exc c mv |none=>.stuck)
 |_=>.stuck) else .stuck:=rfl
@[simp] theorem Mi(p:PFx ms):p.fn.ms=ms:=rfl
@[simp] theorem fx_G(p:PFx ms)(vs:List Val):p.fn.G vs=p.G vs:=rfl
end
@[simp] theorem L5(i j:Int):aR.G (.int i) (.int j)=.val (.int (i+j)):=rfl
@[simp] theorem Lz(i j:Int):dU.G (.int i) (.int j)=.val (.int (i-j)):=rfl
@[simp] theorem k_lt(i j:Int):bLt.G (.int i) (.int j)=.val (.bl (decide (i<j))):=rfl
@[simp] theorem k_gt(i j:Int):bGt.G (.int i) (.int j)=.val (.bl (decide (j<i))):=rfl
@[simp] theorem k_ge(i j:Int):bGe.G (.int i) (.int j)=.val (.bl (decide (j<=i))):=rfl
@[simp] theorem K1(i j:Int):Bi.G (.int i) (.int j)=.val (.int (i+j)):=rfl
@[simp] theorem K3(i:Int):AZ.G (.int i)=.val (.int (-i)):=rfl
def aP(c:CMulA i j):aK.G (.int i) (.int j)=.val (.int (i*j)):=by show vv (.int i) (.int j)=_;unfold vv aIc;dsimp only;rw[if_pos c]
def jA(c:CDivB i j):iQ.G (.int i) (.int j)=.val (.int (i.fdiv j)):=by show we (.int i) (.int j)=_;unfold we aIc;dsimp only;rw[if_pos c]
def dO(c:j≠0):bE.G (.int i) (.int j)=.val (.int (i.fmod j)):=by show wC (.int i) (.int j)=_;unfold wC aIc;dsimp only;rw[if_pos c]
def oD(c:ft i j):eL.G (.int i) (.int j)=.val (.int (i^j.toNat)):=by show wg (.int i) (.int j)=_;unfold wg aIc;dsimp only;rw[if_pos c]
def Lg(c:ft i j):qE.G (.int i) (.int j)=.val (.int (i*2^j.toNat)):=by show wc (.int i) (.int j)=_;unfold wc aIc;dsimp only;rw[if_pos c]
@[simp] theorem k_ix(x:Val)(i:Int):bIx.G x (.int i)=match x.items with
 |some xs=>(match atI xs i with
  |some v=>.val v
  |none=>.stuck)
 |none=>.stuck:=by show aIx x (.int i)=_;unfold aIx;cases x.items <;> rfl
@[simp] theorem HA(xs:List Val):(Val.tup xs).items=some xs:=rfl
@[simp] theorem HG(xs:List Val):(Val.lst xs).items=some xs:=rfl
@[simp] theorem KU(xs:List Val):(Val.kl xs).items=some xs:=rfl
@[simp] theorem k_eq(x y:Val):bEq.G x y=match bG x y with
 |some b=>.val (.bl b)
 |none=>.stuck:=by show aEq false x y=_;unfold aEq;cases bG x y <;> rfl
@[simp] theorem k_ne(x y:Val):bNe.G x y=match bG x y with
 |some b=>.val (.bl (!b))
 |none=>.stuck:=by show aEq true x y=_;unfold aEq;cases bG x y <;> rfl
@[simp] theorem M0(x y:Int):bG (.int x) (.int y)=some (x==y):=rfl
def eq_str(hx:PyData.strOk x=true)(hy:PyData.strOk y=true):bG (.str x) (.str y)=some (x==y):=by unfold bG;show (if shp (.str x)=true/\shp (.str y)=true then _ else _)=_;rw[if_pos ⟨gk hx (N2 _),gk hy (N2 _)⟩];rfl
@[simp] theorem k_is(x:Val):bIs.G x .non=match x with
 |.non=>.val (.bl true)
 |_=>.val (.bl false):=by cases x <;> rfl
@[simp] theorem MJ(x:Val):uQ.G x .non=match x with
 |.non=>.val (.bl false)
 |_=>.val (.bl true):=by cases x <;> rfl
@[simp] theorem NI(v:Val):cp.G [v]=match v.items with
 |some xs=>.val (.int xs.length)
 |none=>(match v with
  |.str z=>if z.length<=16777216 then .val (.int z.length) else .stuck
  |_=>.stuck):=rfl
@[simp] theorem Lr(i:Int):fc.G [.int i]=.val (.int (if i<0 then -i else i)):=rfl
@[simp] theorem La(i j:Int):o3.G [.int i,.int j]=.val (.int (if j>i then j else i)):=rfl
@[simp] theorem Mg(i j:Int):pI.G [.int i,.int j]=.val (.int (if j<i then j else i)):=rfl
@[simp] theorem K7(xs:List Val):oE.G [.lst xs]=match ji xs with
 |some bs=>.val (.bl (bs.all id))
 |none=>.stuck:=rfl
@[simp] theorem Mw(xs:List Val):gj.G [.lst xs]=match eJ xs with
 |some bs=>.val (.int bs.sum)
 |none=>.stuck:=rfl
@[simp] theorem HZ(v:Val):pG.G [v]=match v.items with
 |some xs=>.new (.lst xs)
 |none=>.stuck:=rfl
@[simp] theorem JK(b:Bool):vA.G [.bl b]=.val (.int (if b then 1 else 0)):=rfl
@[simp] theorem B1(xs:List Val)(v:Val):cI.G (.lst xs) [v]=if xs.length<16777216 then some (.lst (xs++[v]),.non) else none:=rfl
@[simp] theorem c7:∀(bs:List Int),eJ (bs.map Val.int)=some bs
 | []=>rfl
 |b::r=>by show (eJ (r.map Val.int)).map (b :: ·)=_;rw[c7 r];rfl
def xp{K:W.Frag}{mg:Qa}{X:Cx}{ES:L2.St->XK}{sts:List Stmt}:DSs K mg X ES sts (λ_ _=>.stuck):=λpins s σ H D I ⟨_,_,_,_,_,p⟩=>p.elim
section
variable(K:W.Frag)(mg:Qa)(X:Cx)(ES:L2.St->XK)
@[irreducible] def DE(e:Expr)(F:ME):Prop:=L2.DE K mg X ES e F
@[irreducible] def DT(e:Expr)(F:MT):Prop:=L2.DT K mg X ES e F
@[irreducible] def DA(es:List Expr)(F:MA):Prop:=L2.DA K mg X ES es F
@[irreducible] def DS(st:Stmt)(F:MS):Prop:=L2.DS K mg X ES st F
@[irreducible] def DSs(st:List Stmt)(F:MS):Prop:=L2.DSs K mg X ES st F
@[irreducible] def DI(tg am:Expr)(F:MI):Prop:=L2.DI K mg X ES tg am F
end
section
variable{K:W.Frag}{mg:Qa}{X:Cx}{ES:L2.St->XK}{e a b c o i tg am h_:Expr}{es:List Expr}{st:Stmt}{sts sts':List Stmt}{p q r:PEx}{A:PAs}{t u:PTs}{x y:PSt}{g:PGt}{gs:PGs}{I:PIt}{pos:Pos}
def wV(i:Nat){x:Str}(hN:X.N[i]?=some x:=by rfl)(hv:Vis X.env.scope x:=by first |exact Or.inl rfl |exact Or.inr (Or.inl rfl) |exact Or.inr (Or.inr rfl))(hd:(x==("__debug__" : Str))=false:=by decide)(hcd:(x==("__classdict__" : Str))=false:=by decide):DE K mg X ES (.Name x pos) (af i).F:=by with_unfolding_all exact HQ i hN hv hd hcd
def HX{i:Int}{j:Nat}:DE K mg X ES (.Constant (.int i) j pos) (ah i).F:=by with_unfolding_all exact Iy
def L9{i:Bool}{j:Nat}:DE K mg X ES (.Constant (.bool i) j pos) (pBl i).F:=by with_unfolding_all exact LN
def J8:DE K mg X ES (.Constant .none j pos) pM.F:=by with_unfolding_all exact GI
def IC{i:Str}{j:Nat}:DE K mg X ES (.Constant (.str i) j pos) (bf i).F:=by with_unfolding_all exact Ks
def K4{x:Str}{d:D}{v:Val}{r:∀P h,Rd P h d v}(hg:Gl X x)(ha:GC K mg x d)(hm:X.mg=mg:=by rfl)(hd:(x==("__debug__" : Str))=false:=by decide):DE K mg X ES (.Name x pos) (kZ d v r).F:=by with_unfolding_all exact MD hg ha hm hd
def NS{x:Str}{n:String}(hg:Gl X x)(hm:mg x=none)(hv:bootBuiltins x=some (.type n))(he:X.mg=mg:=by rfl)(hn:x ≠ "__name__":=by decide)(hd:(x==("__debug__" : Str))=false:=by decide):DE K mg X ES (.Name x pos) (pTy n).F:=by with_unfolding_all exact Nw hg hm hv he hn hd
def Nf(ho:OpR X (binaryOp op) r')(hd:OpD K mg r' k.F)(ha:DE K mg X ES a p.F)(hb:DE K mg X ES b q.F):DE K mg X ES (.BinOp a op b pos) (pOp k p q).F:=by with_unfolding_all exact L8 ho hd ha hb
def Nq(hr:IxR X r')(hd:OpD K mg r' k.F)(ha:DE K mg X ES a p.F)(hb:DE K mg X ES b q.F)(hs:mU b:=by exact λ_ _=>rfl):DE K mg X ES (.Subscript a b pos) (pOp k p q).F:=by with_unfolding_all exact MB hr hd ha hb hs
def Ki(ho:OpR X (compareOp op) r')(hd:OpD K mg r' k.F)(ha:DE K mg X ES a p.F)(hb:DE K mg X ES b q.F)(hm:behindInMarks op b=false:=by first |exact o6 _ |with_unfolding_all rfl):DE K mg X ES (.Compare a [op] [b] pos) (pOp k p q).F:=by with_unfolding_all exact GF ho hd ha hb hm
def xx(ho:OpR X (compareOp op) r')(hd:OpD K mg r' k.F)(ha:DE K mg X ES a p.F)(hb:DE K mg X ES b q.F)(hm:behindInMarks op b=false:=by first |exact o6 _ |with_unfolding_all rfl):DT K mg X ES (.Compare a [op] [b] pos) (qOf (pOp k p q)).F:=by with_unfolding_all exact ID ho hd ha hb hm
def pU(ha:DE K mg X ES a p.F)(he:∀ci,isTrue a X.env ci=(do let v <- ci;standAt a.pos;holding [v] (truthy v)):=by intro _;rfl):DT K mg X ES a (qOf p).F:=by with_unfolding_all exact FL ha he
def Bn(hK:X.K=K)(ha:DE K mg X ES a p.F)(he:∀ci,isTrue a X.env ci=(do let v <- ci;standAt a.pos;holding [v] (truthy v)):=by intro _;rfl):DT K mg X ES a (qTr p).F:=by with_unfolding_all exact AQ hK ha he
def rf(ha:DT K mg X ES a t.F):DT K mg X ES (.UnaryOp .Not a pos) (qNo t).F:=by with_unfolding_all exact Jm ha
def EN(ha:DT K mg X ES a t.F):DW K mg X ES (.BoolOp .And [a] pos) t.F:=by with_unfolding_all exact Dh ha
def IH(ha:DT K mg X ES a t.F):DW K mg X ES (.BoolOp .Or [a] pos) t.F:=by with_unfolding_all exact FZ ha
def HL(ha:DT K mg X ES a t.F)(hb:DW K mg X ES (.BoolOp .And (b::es) pos) u.F):DW K mg X ES (.BoolOp .And (a::b::es) pos) (qAn t u).F:=by with_unfolding_all exact IP ha hb
def Mp(ha:DT K mg X ES a t.F)(hb:DW K mg X ES (.BoolOp .Or (b::es) pos) u.F):DW K mg X ES (.BoolOp .Or (a::b::es) pos) (qO t u).F:=by with_unfolding_all exact Lv ha hb
def ZW.dt(h:DW K mg X ES a t.F):DT K mg X ES a t.F:=by with_unfolding_all exact DW.dt h
def zt_w{op}(h:DW K mg X ES (.BoolOp op es pos) t.F):DT K mg X ES (.BoolOp op es pos) t.F:=ZW.dt h
def KI{op}(h:DE K mg X ES a p.F):DE K mg X ES (.BoolOp op [a] pos) p.F:=by with_unfolding_all exact FQ h
def Gm(ha:DE K mg X ES a p.F)(hb:DE K mg X ES (.BoolOp .And (b::es) pos) q.F):DE K mg X ES (.BoolOp .And (a::b::es) pos) (gL p q).F:=by with_unfolding_all exact G5 ha hb
def HF(ha:DE K mg X ES a p.F):DE K mg X ES (.UnaryOp .Not a pos) (AX p).F:=by with_unfolding_all exact FW ha
def Nh(ho:UnR X (unaryOp op) r')(hd:UnD K mg r' k.F)(ha:DE K mg X ES a p.F):DE K mg X ES (.UnaryOp op a pos) (pUn k p).F:=by with_unfolding_all exact Lc ho hd ha
def Jg:DA K mg X ES [] ag.F:=by with_unfolding_all exact J7
def ek(ha:DE K mg X ES e p.F)(hr:DA K mg X ES es A.F)(hs:starEach (e::es) X.env=(false,eval e X.env)::starEach es X.env:=by rfl):DA K mg X ES (e::es) (aa p A).F:=by with_unfolding_all exact Fj ha hr hs
def II{x1}(h:DA K mg X ES es A.F):DE K mg X ES (.Tuple es x1 pos) (bI A).F:=by with_unfolding_all exact G4 h
def G6(h:DA K mg X ES es A.F):DE K mg X ES (.List es pos) (cH A).F:=by with_unfolding_all exact JE h
def iK{id:String}{r':List V->Hp->VK->Prop}{k:PBf}{x:Str}{p0:Pos}(hc:CallR X (.builtin id) r')(hd:aO K mg r' k.F)(hg:Gl X x)(hm:mg x=none)(hv:bootBuiltins x=some (.builtin id))(ha:DA K mg X ES (e::es) A.F)(hk:X.mg=mg:=by rfl)(hn:x ≠ "__name__":=by decide)(hdb:(x==("__debug__" : Str))=false:=by decide)(he:starEach (e::es) X.env=(false,eval e X.env)::starEach es X.env:=by rfl)(hpl:(backTo pos (starEach es X.env)).any (·.1)=false:=by rfl):DE K mg X ES (.Call (.Name x p0) (e::es) [] pos) (pFn k A).F:=by with_unfolding_all exact Ac hc hd hg hm hv ha hk hn hdb he hpl
def xY{id:String}{r':List V->Hp->VK->Prop}{k:PBf}{x:Str}{p0:Pos}(hc:CallR X (.type id) r')(hd:aO K mg r' k.F)(hg:Gl X x)(hm:mg x=none)(hv:bootBuiltins x=some (.type id))(ha:DA K mg X ES (e::es) A.F)(hk:X.mg=mg:=by rfl)(hn:x ≠ "__name__":=by decide)(hdb:(x==("__debug__" : Str))=false:=by decide)(he:starEach (e::es) X.env=(false,eval e X.env)::starEach es X.env:=by rfl)(hpl:(backTo pos (starEach es X.env)).any (·.1)=false:=by rfl):DE K mg X ES (.Call (.Name x p0) (e::es) [] pos) (pFn k A).F:=by with_unfolding_all exact yh hc hd hg hm hv ha hk hn hdb he hpl
def Ca{f:PFn}{x:Str}{p0:Pos}{k n:Nat}{ps:List Str}(C:Callee X.prog X.w X.K X.mg X.base x k ps (spD K mg n f.F))(hr:Room k X.A)(hg:Gl X x)(hx:jG X ES)(ha:DA K mg X ES (e::es) A.F)(hn:f.ms.length=n)(hdb:(x==("__debug__" : Str))=false)(he:starEach (e::es) X.env=(false,eval e X.env)::starEach es X.env)(hpl:(backTo pos (starEach es X.env)).any (·.1)=false):DE K mg X ES (.Call (.Name x p0) (e::es) [] pos) (ai f A).F:=by subst hn;with_unfolding_all exact zx C hr hg hx ha hdb he hpl
def DQ:DSs K mg X ES [] xNx.F:=by with_unfolding_all exact DC
def fK(h1:DS K mg X ES st x.F):DSs K mg X ES [st] x.F:=by with_unfolding_all exact EB h1
def az(h1:DS K mg X ES st x.F)(h2:DSs K mg X ES sts y.F):DSs K mg X ES (st::sts) (aj x y).F:=by with_unfolding_all exact AV h1 h2
def FD:DS K mg X ES (.Return none pos) wH.F:=by with_unfolding_all exact Dv
def ju(he:DE K mg X ES e p.F):DS K mg X ES (.Return (some e) pos) (ar p).F:=by with_unfolding_all exact HD he
def Dz(he:DE K mg X ES e p.F)(hs:swapsWith e none pos.line X.env=pure false:=by rfl):DS K mg X ES (.Expr e pos) (aV p).F:=by with_unfolding_all exact Dq he hs
def k8(hc:DT K mg X ES c t.F)(ha:DSs K mg X ES sts x.F)(hb:DSs K mg X ES sts' y.F):DS K mg X ES (.If c sts sts' pos) (xIf t x y).F:=by with_unfolding_all exact L7 hc ha hb
def ED{i:Nat}{x:Str}(hN:X.N.Nodup)(hi:X.N[i]?=some x)(hx:Loc X.env.scope x)(hf:X.fn x=true\/X.env.scope.names.lookup x=some .local):DG K mg X ES (.Name x pos) (gtN i).F:=Fw hN hi hx hf
def Ds:DGs K mg X ES [] dB.F:=ET
def AU(h1:DG K mg X (λ_=>E0) e g.F)(h2:DGs K mg X (λ_=>E0) es gs.F)(hs:(assignEach (e::es) X.env).map (·.2)=assign e X.env::(assignEach es X.env).map (·.2):=by rfl):DGs K mg X (λ_=>E0) (e::es) (aU g gs).F:=A4 h1 h2 hs
def HB(hK:X.K=K)(hc:X.calm=true)(h:DGs K mg X (λ_=>E0) es gs.F)(hn:(assignEach es X.env).length=n:=by rfl)(hst:(assignEach es X.env).findIdx? (·.1)=none:=by rfl):DG K mg X (λ_=>E0) (.Tuple es k pos) (gtT n gs).F:=Hu hK hc h hn hst
def ZG.weak(hg:DG K mg X (λ_=>E0) e g.F):DG K mg X ES e (gtX g).F:=DG.weak hg
def DH(he:DE K mg X ES e p.F)(hg:DG K mg X ES a g.F)(hs:swapsWithSole [a] e pos.line X.env=pure false:=by rfl)(hw:swappedStores [a] e X.env=pure none:=by rfl)(h1:(assignEach [a] X.env).map (·.2)=[assign a X.env]:=by rfl):DS K mg X ES (.Assign [a] e pos) (jC p g).F:=by with_unfolding_all exact zc he hg hs hw h1
def Ez(he:DE K mg X ES e p.F)(ho:DE K mg X ES o (af j).F)(hi:DE K mg X ES i q.F)(hs':rB X r')(hd:mJ K mg r' w.F)(hs:swapsWithSole [.Subscript o i p1] e pos.line X.env=pure false:=by rfl)(hw:swappedStores [.Subscript o i p1] e X.env=pure none:=by rfl)(h1:(assignEach [.Subscript o i p1] X.env).map (·.2)=[assign (.Subscript o i p1) X.env]:=by rfl)
 (ha:∀v,assign (.Subscript o i p1) X.env v=(do
  let ov <- holding [v] (eval o X.env)
  let iv <- holding [v,ov] (eval i X.env)
  standAt p1
  holding [v,ov,iv] (setItem ov iv v)
  release [v,ov,iv] []):=by intro _;rfl):DS K mg X ES (.Assign [.Subscript o i p1] e pos) (mB j w q p).F:=by with_unfolding_all exact zc he (KD ho hi hs' hd ha) hs hw h1
def Kc{ow:Bool}{i:Nat}{x:Str}{io:Pos}(hN:X.N.Nodup)(hi:X.N[i]?=some x)(hx:Loc X.env.scope x)(he:DE K mg X ES e p.F)(hs:swapsWith e (some (.Name x io)) pos.line X.env=pure false)(hf:X.fn x=true\/X.env.scope.names.lookup x=some .local):DS K mg X ES (.Assign [.Name x io] e pos) (au ow i p).F:=by with_unfolding_all exact Gh hN hi hx he hs hf
def F6{i j:Nat}{x y:Str}{px py pt:Pos}{kt k2 pt2}(hN:X.N.Nodup)(ha:DA K mg X ES [a,b] A.F)(hc:X.calm=true:=by rfl)(hi:X.N[i]?=some x:=by rfl)(hj:X.N[j]?=some y:=by rfl)(hij:i≠j:=by decide)(hx:X.env.scope.names.lookup x=some .local:=by rfl)(hy:X.env.scope.names.lookup y=some .local:=by rfl)(hw:swappedStores [.Tuple [.Name x px,.Name y py] kt pt] (.Tuple [a,b] k2 pt2) X.env=pure (some [x,y]):=by rfl)(hs:swapsWithSole [.Tuple [.Name x px,.Name y py] kt pt] (.Tuple [a,b] k2 pt2) pos.line X.env=pure false:=by rfl):DS K mg X ES (.Assign [.Tuple [.Name x px,.Name y py] kt pt] (.Tuple [a,b] k2 pt2) pos) (fB i j A).F:=by with_unfolding_all exact JP hc hN hi hj hij hx hy ha hw hs
def Jo{i:Nat}{x:Str}{op:Operator}{ti:TIp}{io:Pos}{k:PO2}(hN:X.N.Nodup)(he:DE K mg X ES e p.F)(ho:PIp X op ti)(hd:IpD K mg ti k.F)(hi:X.N[i]?=some x:=by rfl)(hx:Loc X.env.scope x:=by first |exact Or.inl rfl |exact Or.inr rfl)(hf:X.fn x=true\/X.env.scope.names.lookup x=some .local:=by first |exact .inl rfl |exact .inr rfl |assumption):DS K mg X ES (.AugAssign (.Name x io) op e pos) (A5 i k p).F:=by with_unfolding_all exact Ii hN hi hx he ho hd hf
def AB{x:Str}{C:Addr}{E:XK}{np cpos:Pos}(hc:X.calm=true)(hR:Rz X E)(hg:Gl X x)(hm:mg x=some (.ref C))(hq:W.excIn X.K C kq "ValueError.__new__"=true)(ha:DA K mg X (λ_=>E) (e::es) A.F)(hk:X.mg=mg:=by rfl)(he:starEach (e::es) X.env=(false,eval e X.env)::starEach es X.env:=by rfl)(b_:(backTo cpos (starEach es X.env)).any (·.1)=false:=by rfl)(hd:(x==("__debug__" : Str))=false:=by decide):DS K mg X (λ_=>E) (.Raise (some (.Call (.Name x np) (e::es) [] cpos)) none pos) (dE x A).F:=by with_unfolding_all exact BP hc hR hg hm hq ha hk he b_ hd
def KO(hK:X.K=K)(he:DE K mg X ES e p.F):DI K mg X ES tg e (cx p).F:=by with_unfolding_all exact J4 hK he
def xw(hg:Gl X "range")(hm:mg "range"=none)(ha:DA K mg X ES [a] A.F)(hk:X.mg=mg:=by rfl)(hs:starEach [a] X.env=[(false,eval a X.env)]:=by rfl):DI K mg X ES tg (.Call (.Name "range" p0) [a] [] pos) (lX A).F:=by with_unfolding_all exact xv hg hm ha hk hs
def xj(hg:Gl X "range")(hm:mg "range"=none)(ha:DA K mg X ES [a,b] A.F)(hk:X.mg=mg:=by rfl)(hs:starEach [a,b] X.env=[(false,eval a X.env),(false,eval b X.env)]:=by rfl)(hs2:starEach [b] X.env=[(false,eval b X.env)]:=by rfl):DI K mg X ES tg (.Call (.Name "range" p0) [a,b] [] pos) (uP A).F:=by with_unfolding_all exact w9 hg hm ha hk hs hs2
def JX(hK:X.K=K)(hg:Gl X "zip")(hm:mg "zip"=none)(ha:DA K mg X ES [a,b] A.F)(hk:X.mg=mg:=by rfl)(hs:starEach [a,b] X.env=[(false,eval a X.env),(false,eval b X.env)]:=by rfl)(hs2:starEach [b] X.env=[(false,eval b X.env)]:=by rfl):DI K mg X ES (.Tuple elts x1 tp) (.Call (.Name "zip" p0) [a,b] [] pos) (oB A).F:=by with_unfolding_all exact JM hK hg hm ha hk hs hs2
def xq(hp:PassesOwn (model X.prog X.w) X.A X.env X.xe)(hc:X.calm=true)(hi:DI K mg X ES tg am I.F)(hg:DG K mg X ES tg g.F)(hb:DSs K mg X ES sts x.F)(hs:∀x,foldedSetIterable am X.env x=pure x:=by intro _;rfl):DS K mg X ES (.For tg am sts [] pos) (fA I g x).F:=by with_unfolding_all exact JI hp hc hi hg hb hs
def Br(hp:PassesOwn (model X.prog X.w) X.A X.env X.xe)(hc:DT K mg X ES c t.F)(hb:DSs K mg X ES sts x.F):DS K mg X ES (.While c sts [] pos) (xWh t x).F:=by with_unfolding_all exact AS hp hc hb
def M9{scope:Scope}(M:List Str)(kn:List (Str×NameKind))(N:List Str)(sub:Qd){hsb:(sub.filterMap id).Nodup}(hc:X.calm=true)(hi:DI K mg X ES tg am I.F)(hg:∀cl C s₂ H fp,DG K mg (aJ X N scope cl C s₂ H fp) (λ_=>E0) tg g.F)(he:∀cl C s₂ H fp,DE K mg (aJ X N scope cl C s₂ H fp) (λ_=>E0) h_ p.F)(hM:X.N=M)(hkn:X.env.scope.names=kn)(d_:ff M scope.names sub N=true)(hk:scope.kind=.function)(hnc:∀x∈scope.names,x.2 ≠ .cell)(bn:∀x∈scope.names,x.2=.local->scope.names.lookup x.1=some .local)(hfr:gO kn scope.names=true)(hsl:sub.length=N.length)(hs:∀x,foldedSetIterable am X.env x=pure x):DE K mg X ES (.ListComp h_ [⟨tg,am,[],0⟩] scope pos) (pLC I sub hsb g qY p).F:=by with_unfolding_all exact Lu M kn N sub hc hi hg he hM hkn d_ hk hnc bn hfr hsl hs
def NT{ow:Bool}{px spos:Pos}{iT:Nat}{xT:Str}{scope:Scope}(M:List Str)(kn:List (Str×NameKind))(N:List Str)(sub:Qd){hsb:(sub.filterMap id).Nodup}(hc:X.calm=true)(hN:X.N.Nodup)(hix:X.N[iT]?=some xT)(hxl:Loc X.env.scope xT)(hi:DI K mg X ES tg am I.F)(hg:∀cl C s₂ H fp,DG K mg (aJ X N scope cl C s₂ H fp) (λ_=>E0) tg g.F)(he:∀cl C s₂ H fp,DE K mg (aJ X N scope cl C s₂ H fp) (λ_=>E0) h_ p.F)(hsw:swapsWith (.ListComp h_ [⟨tg,am,[],0⟩] scope pos) (some (.Name xT px)) spos.line X.env=pure true)(hM:X.N=M)(hkn:X.env.scope.names=kn)(d_:ff M scope.names sub N=true)(hk:scope.kind=.function)(hnc:∀x∈scope.names,x.2 ≠ .cell)(bn:∀x∈scope.names,x.2=.local->scope.names.lookup x.1=some .local)(hfr:gO kn scope.names=true)(hsl:sub.length=N.length)(hs:∀x,foldedSetIterable am X.env x=pure x)(hf:X.fn xT=true\/X.env.scope.names.lookup xT=some .local):DS K mg X ES (.Assign [.Name xT px] (.ListComp h_ [⟨tg,am,[],0⟩] scope pos) spos) (au ow iT (pLC I sub hsb g qY p)).F:=by with_unfolding_all exact K8 M kn N sub hc hN hix hxl hi hg he hsw hM hkn d_ hk hnc bn hfr hsl hs hf
def Gx{j:Nat}{name:Str}{id:String}{apos cpos:Pos}{r':V->List V->Hp->VK->Prop}{k:PMm}(hK:X.K=K)(slot:Slot "list" name id)(hty:typeOf (.builtin id)=pure (.type "method_descriptor"))(hm:MtM X id r')(hd:MtD K mg r' k.F)(ho:DE K mg X ES o (af j).F)(ha:DA K mg X ES (e::es) A.F)(c_:attributeBase o name X.env (eval o X.env)=eval o X.env:=by rfl)(hfew:((backTo cpos (starEach (e::es) X.env)).all (λx=>!x.1)&&(backToKw cpos (keywordEach [] X.env)).all (λx=>x.1.isSome)&&decide ((e::es).length+([]:List Keyword).length+(if ([]:List Keyword).isEmpty then 0 else 1)<30))=true:=by rfl)(db:(apos.endLine==cpos.line)=true:=by rfl)(hs:starEach (e::es) X.env=(false,eval e X.env)::starEach es X.env:=by rfl)(b_:(backTo cpos (starEach es X.env)).any (·.1)=false:=by rfl):DE K mg X ES (.Call (.Attribute o name apos) (e::es) [] cpos) (f6 j k A).F:=by with_unfolding_all exact de_m hK slot hty hm hd ho ha c_ hfew db hs b_
def Ec{name:Str}{id:String}{apos cpos:Pos}{r':V->List V->Hp->VK->Prop}{k:PMv}(hK:X.K=K)(slot:Slot "list" name id)(hty:typeOf (.builtin id)=pure (.type "method_descriptor"))(hm:MtM X id r')(hd:MtD K mg r' k.F)(ho:DE K mg X ES o p.F)(ha:DA K mg X ES (e::es) A.F)(c_:attributeBase o name X.env (eval o X.env)=eval o X.env:=by rfl)(hfew:((backTo cpos (starEach (e::es) X.env)).all (λx=>!x.1)&&(backToKw cpos (keywordEach [] X.env)).all (λx=>x.1.isSome)&&decide ((e::es).length+([]:List Keyword).length+(if ([]:List Keyword).isEmpty then 0 else 1)<30))=true:=by rfl)(db:(apos.endLine==cpos.line)=true:=by rfl)(hs:starEach (e::es) X.env=(false,eval e X.env)::starEach es X.env:=by rfl)(b_:(backTo cpos (starEach es X.env)).any (·.1)=false:=by rfl):DE K mg X ES (.Call (.Attribute o name apos) (e::es) [] cpos) (vz k p A).F:=by with_unfolding_all exact de_m hK slot hty hm hd ho ha c_ hfew db hs b_
def Fu{j:Nat}{name:Str}{id:String}{apos cpos:Pos}{r':V->List V->Hp->VK->Prop}{k:PMm}(hK:X.K=K)(slot:Slot "list" name id)(hty:typeOf (.builtin id)=pure (.type "method_descriptor"))(hm:MtM X id r')(hd:MtD K mg r' k.F)(ho:DE K mg X ES o (af j).F)(c_:attributeBase o name X.env (eval o X.env)=eval o X.env:=by rfl)(db:(apos.endLine==cpos.line)=true:=by rfl):DE K mg X ES (.Call (.Attribute o name apos) [] [] cpos) (oI j k).F:=by with_unfolding_all exact NJ hK slot hty hm hd ho c_ db
def Dp:DO K mg X ES none oN.F:=D3
def DP(he:DE K mg X ES e p.F):DO K mg X ES (some e) (oS p).F:=by with_unfolding_all exact Dw he
def Bz{l u:POp}{lo hi:Option Expr}{p2:Pos}(hK:X.K=K)(he:DE K mg X ES e p.F)(hl:DO K mg X ES lo l.F)(hu:DO K mg X ES hi u.F):DE K mg X ES (.Subscript e (.Slice lo hi none p2) pos) (pSl p l u).F:=by with_unfolding_all exact zo hK he hl hu
def L6:DE K mg X ES (.Dict [] [] pos) pD0.F:=by with_unfolding_all exact Mh
def Jv:OpD K mg (λx y H Q=>rI0 (λi j=>.int (i+j)) x y H Q\/(my x y H Q\/(jH K x y H Q\/jJ K x y H Q))) aR.F:=KJ
def Jr:OpD K mg (rI0 λi j=>.int (i-j)) dU.F:=Gu
def IA:OpD K mg (rI CMulA λi j=>.int (i*j)) aK.F:=Ke
def HY:OpD K mg (rI CDivB λi j=>.int (i.fdiv j)) iQ.F:=Il
def JY:OpD K mg (rI (λ_ j=>j≠0) λi j=>.int (i.fmod j)) bE.F:=GD
def GN:OpD K mg (rI ft λi j=>.int (i^j.toNat)) eL.F:=FR
def J9:OpD K mg (rI ft λi j=>.int (i*2^j.toNat)) qE.F:=JH
def CV:OpD K mg (rI0 λi j=>.bl (decide (i<j))) bLt.F:=NL
def CG:OpD K mg (rI0 λi j=>.bl (decide (j<i))) bGt.F:=NF
def Cp:OpD K mg (rI0 λi j=>.bl (decide (j<=i))) bGe.F:=K2
def M4:OpD K mg (λx y H Q=>vw K x y H Q\/v8 K x y H Q) bIx.F:=IV
def CS:OpD K mg (vF K) bEq.F:=JF
def CF:OpD K mg (wA K) bNe.F:=Ic
def CP:OpD K mg (rIn K false) bIn.F:=(yL false)
def JL:OpD K mg (rIn K true) wG.F:=(yL true)
def F5:OpD K mg (λx y H Q=>y=.non/\Q (.bl (!decide (x=.non))) H) uQ.F:=Ao
def GK:aO K mg (λxs H Q=>(∃p ys,xs=[.ref p]/\(SqL K H p ys\/SqT K H p ys)/\Q (.int ys.length) H)\/(∃z,xs=[.str z]/\z.length<=sizeLine/\Q (.int z.length) H)) cp.F:=KG
def J6:aO K mg (λxs H Q=>∃i,xs=[.int i]/\Q (.int (if i<0 then -i else i)) H) fc.F:=IS
def Fh:aO K mg (λxs H Q=>∃i j,xs=[.int i,.int j]/\Q (.int (if j>i then j else i)) H) o3.F:=EL
def D6:aO K mg (λxs H Q=>∃i j,xs=[.int i,.int j]/\Q (.int (if j<i then j else i)) H) pI.F:=En
def xV:aO K mg (λxs H Q=>∃(a:Addr) (bs:List Bool),xs=[.ref a]/\SqL K H a (bs.map V.bl)/\Q (.bl (bs.all id)) H) oE.F:=IF
def x9:aO K mg (λxs H Q=>∃(a:Addr) (ns:List Int),xs=[.ref a]/\SqL K H a (ns.map V.int)/\Q (.int ns.sum) H) gj.F:=JA
def EA:aO K mg (λxs H Q=>∃p ys,xs=[.ref p]/\(SqL K H p ys\/SqT K H p ys)/\∀l,H l=none->Q (.ref l) (upd H l (.lst ys))) pG.F:=E8
def Ig:aO K mg (λxs H Q=>(∃i,xs=[.int i]/\Q (.int i) H)\/∃k,xs=[.bl k]/\Q (.int (if k then 1 else 0)) H) vA.F:=IG
def FU(ok:KitsOk K mg kt):aO K mg (λxs H Q=>(∃x c t v b,xs=[x,c]/\TyX K H x t/\eI c=some v/\W.kitOne K t v=some b/\Q (.bl b) H)\/
 (∃x tp cs t vs b,xs=[x,.ref tp]/\SqT K H tp cs/\TyX K H x t/\cs.mapM eI=some vs/\W.kitAny K t vs=some b/\Q (.bl b) H)) (bc kt).F:=IL ok
def yE:MtD K mg mQ cI.F:=yV
def IE:MtD K mg BZ oz.F:=Hr
def zQ:MtD K mg (jR K) ng.F:=AI
def Fv:mJ K mg vx seL.F:=EF
def Jk:IpD K mg (ipI λi j=>i+j) Bi.F:=EJ
def JU:UnD K mg (rU λi=>.int (-i)) AZ.F:=Iu
variable{P:Program}{w:World}{base:Heap}{fx:Str}{ii:Stmt}{k n m:Nat}{ps N:List Str}{ms:List Bool}
def okP(D:Def K mg fx ii)(S:FnScope N ps (ak ii))
 (hb:∀(kV doc pm:Value) (an:Option Addr) (cdv ct:Value) (us:List Value),us.length=ps.length->bindArgs (W.fnOf fx fx (bM ii) (aS ii) (ak ii) .none kV doc pm an cdv ct) ⟨us,[]⟩=pure (ps.zip us))
 (e_:∀(f:Addr) (cdv:Value) (A:Around) (outer:List Env) (s:Shared) (H:Hp) (E:XK),Room k (A.deeper (envOfC fx (ak ii) s.heap.objs.size f cdv))->
  DSs K mg (cQ (CX1 P w) P w K mg base N fx (ak ii) f cdv A outer s H E) (λ_=>E) (aS ii) x.F) (hn:ps.length=n) (hm:N.length=m):Callee P w K mg base fx (k+1) ps (spD K mg n (fnP ms m x).F):=by
 subst hn hm;with_unfolding_all exact D.okD S hb e_
def okX(D:Def K mg fx ii)(S:FnScope N ps (ak ii))
 (hb:∀(kV doc pm:Value) (an:Option Addr) (cdv ct:Value) (us:List Value),us.length=ps.length->bindArgs (W.fnOf fx fx (bM ii) (aS ii) (ak ii) .none kV doc pm an cdv ct) ⟨us,[]⟩=pure (ps.zip us))
 (e_:∀(f:Addr) (cdv:Value) (A:Around) (outer:List Env) (s:Shared) (H:Hp) (E:XK),Room k (A.deeper (envOfC fx (ak ii) s.heap.objs.size f cdv))->
  DSs K mg (cQ (CX1 P w) P w K mg base N fx (ak ii) f cdv A outer s H E) (λ_=>E) (aS ii) x.F) (hn:ps.length=n) (hm:N.length=m):Callee P w K mg base fx (k+1) ps (spD K mg n (PFx.of ms m x).F):=by
 subst hn hm;with_unfolding_all exact D.okD S hb e_
def ok0(D:Def K mg fx ii)(S:FnScope N ps (ak ii))
 (hb:∀(kV doc pm:Value) (an:Option Addr) (cdv ct:Value) (us:List Value),us.length=ps.length->bindArgs (W.fnOf fx fx (bM ii) (aS ii) (ak ii) .none kV doc pm an cdv ct) ⟨us,[]⟩=pure (ps.zip us)) (hn:ps.length=n:=by rfl):Callee P w K mg base fx (k+1) ps (spD K mg n (PFx.none ms).F):=by
 subst hn;exact D.okD (F:=λ_ _=>.stuck) S hb λ_ _ _ _ _ _ _ _=>xp
end
def Gf(b:Bool)(ms:List Bool)(v:Val)(vs:List Val):sls (b::ms) (v::vs)=sl1 b v::sls ms vs:=rfl
def DY:sls [] []=[]:=rfl
def LO(v:Val):sl1 true v=.mu v:=rfl
def M3(v:Val):sl1 false v=.sh v:=rfl
section
variable(e:E3)
def E2:okA e [] []=true:=rfl
def Js(i:Nat)(ms:List Bool)(ts:List Tm):okA e (true::ms) (.bor i::ts)=(((e[i]?).bind Sl.mv).isSome && !(gy i ts)&&okA e ms ts):=rfl
def GR(i:Nat)(ms:List Bool)(ts:List Tm):okA e (false::ms) (.bor i::ts)=(!(jk i ms ts)&&okA e ms ts):=rfl
def J3(v:Val)(ms:List Bool)(ts:List Tm):okA e (false::ms) (.val v::ts)=okA e ms ts:=rfl
def Bm(i:Nat):gy i []=false:=rfl
def Gj(i:Nat)(v:Val)(ts:List Tm):gy i (.val v::ts)=gy i ts:=rfl
def zL(i:Nat):jk i [] []=false:=rfl
def yO:aN e [] []=[]:=rfl
theorem Du(i:Nat)(ms:List Bool)(ts:List Tm):aN e (false::ms) (.bor i::ts)=match e[i]? with
 |some (.sh _)=>aN e ms ts
 |_=>i::aN e ms ts:=rfl
def Et(v:Val)(ms:List Bool)(ts:List Tm):aN e (false::ms) (.val v::ts)=aN e ms ts:=rfl
def KP(t:Tm)(ms:List Bool)(ts:List Tm):aN e (true::ms) (t::ts)=aN e ms ts:=by cases t <;> rfl
end
def wR:bF [] []=[]:=rfl
def EO(b:Bool)(t:Tm)(ms:List Bool)(ts:List Tm):bF (b::ms) (t::ts)=mP b t::bF ms ts:=rfl
def FC(i:Nat):mP true (.bor i)=some i:=rfl
def Kf(t:Tm):mP false t=none:=by cases t <;> rfl
def Ah(e:E3):aY [] [] e=e:=rfl
def GO(o:Option Nat)(sub:Qd)(s:Sl)(i e:E3):aY (o::sub) (s::i) e=aY sub i (eR o s e):=rfl
theorem D9(i:Nat)(v:Val)(e:E3):eR (some i) (.mu v) e=match e[i]? with
 |some t=>e.set i (t.re v)
 |none=>e:=rfl
def Hq(s:Sl)(e:E3):eR none s e=e:=rfl
def zU(vs:List Val):aG [] vs=[]:=rfl
def JO(ms:List Bool)(v:Val)(vs:List Val):aG (true::ms) (v::vs)=.mu v::aG ms vs:=rfl
def Kr(ms:List Bool)(vs:List Val):aG (false::ms) vs=.no::aG ms vs:=by cases vs <;> rfl
def E9(e:E3):muV [] e=some []:=by cases e <;> rfl
def Ln(ms:List Bool)(v:Val)(e:E3):muV (true::ms) (.mu v::e)=(muV ms e).map (v :: ·):=rfl
def Lj(ms:List Bool)(s:Sl)(e:E3):muV (false::ms) (s::e)=muV ms e:=by cases s <;> rfl
def xU(v:Val):jX (.val v)=flatV v:=rfl
def yC(v:Val):jX (.new v)=cG v:=rfl
def xS(xs:List Val):cG (.lst xs)=bY xs:=rfl
def uT:bY []=true:=by simp [bY]
def sC(v:Val)(vs:List Val):bY (v::vs)=(flatV v&&bY vs):=by simp [bY]
def xK(i:Int):flatV (.int i)=true:=by simp [flatV]
def BF(i:Bool):flatV (.bl i)=true:=by simp [flatV]
def yU(i:Str):flatV (.str i)=true:=by simp [flatV]
def yp:flatV .non=true:=by simp [flatV]
def zi(xs:List Val):flatV (.tup xs)=bY xs:=by simp [flatV]
def dn(h0:0<=i)(h:l[i.toNat]?=some x):atI l i=some x:=by have hl:=(p_.mp h).1;unfold atI ixN;rw[if_pos h0,if_pos (by omega)];exact h
def xn(h0:0<=i)(h:i.toNat<n):ixN n i=some i.toNat:=by unfold ixN;rw[if_pos h0,if_pos (by omega)]
section
variable(a b c d e f g h:α)(l:List α)
def ati0:atI (a::l) 0=some a:=dn (by decide) rfl
def ati1:atI (a::b::l) 1=some b:=dn (by decide) rfl
def ati2:atI (a::b::c::l) 2=some c:=dn (by decide) rfl
def ati3:atI (a::b::c::d::l) 3=some d:=dn (by decide) rfl
end
def ixn0(n:Nat):ixN (n+1) 0=some 0:=xn (i:=0) (by decide) (by show 0<n+_;omega)
def ixn1(n:Nat):ixN (n+2) 1=some 1:=xn (i:=1) (by decide) (by show 1<n+_;omega)
theorem CZ(xs:List Val)(k:Int)(v:Val):seL.G (.lst xs) (.int k) v=match ixN xs.length k with
 |some j=>some (.lst (xs.set j v))
 |none=>none:=rfl
mutual
def vq:Val->Val->Bool
 |.non,.non=>true
 |.bl a,.bl b=>a==b
 |.bl a,.int j=>(if a then 1 else 0)==j
 |.int i,.bl b=>i==(if b then 1 else 0)
 |.int i,.int j=>i==j
 |.str x,.str y=>x==y
 |.tup xs,.tup ys=>vqs xs ys
 |.lst xs,.lst ys=>vqs xs ys
 |_,_=>false
def vqs:List Val->List Val->Bool
 | [],[]=>true
 |x::xs,y::ys=>vq x y&&vqs xs ys
 |_,_=>false
end
mutual
def wfV:Nat->Val->Bool
 |_,.non=>true
 |_,.bl _=>true
 |_,.int _=>true
 |_,.str x=>PyData.strOk x
 |k+1,.tup xs=>d4 k xs
 |k+1,.lst xs=>d4 k xs
 |_,_=>false
def d4:Nat->List Val->Bool
 |_,[]=>true
 |k,x::xs=>wfV k x&&d4 k xs
end
mutual
def fq:Val->PyData
 |.bl b=>.bool b
 |.int i=>.int i
 |.str x=>.str x
 |.tup xs=>.tuple (df xs)
 |.lst xs=>.list (df xs)
 |_=>.none
def df:List Val->List PyData
 | []=>[]
 |x::xs=>fq x::df xs
end
mutual
theorem m7:∀(k:Nat) (v:Val),wfV k v=true->(∀j,k<j->cn j v=some (fq v))/\(fq v).canLay0=true/\(fq v).depth<=k
 |k,.non,_=>⟨λj hj=>by cases j with |zero=>exact absurd hj (O3 _) |succ j=>rfl,rfl,N2 _⟩
 |k,.bl b,_=>⟨λj hj=>by cases j with |zero=>exact absurd hj (O3 _) |succ j=>rfl,rfl,N2 _⟩
 |k,.int b,_=>⟨λj hj=>by cases j with |zero=>exact absurd hj (O3 _) |succ j=>rfl,rfl,N2 _⟩
 |k,.str b,w=>⟨λj hj=>by cases j with |zero=>exact absurd hj (O3 _) |succ j=>rfl,by cases k <;> exact w,N2 _⟩
 |0,.tup xs,w=>absurd w s_
 |0,.lst xs,w=>absurd w s_
 |
  k+1,.tup xs,w=>by
  obtain⟨h1,h2,h3⟩:=kK k xs w;exact⟨λj hj=>by cases j with |zero=>exact absurd hj (O3 _) |succ j=>simp only[cn,fq,h1 j (Nat.lt_of_succ_lt_succ hj),Option.map_some],h2,by simpa [fq,PyData.depth] using h3⟩
 |
  k+1,.lst xs,w=>by
  obtain⟨h1,h2,h3⟩:=kK k xs w;exact⟨λj hj=>by cases j with |zero=>exact absurd hj (O3 _) |succ j=>simp only[cn,fq,h1 j (Nat.lt_of_succ_lt_succ hj),Option.map_some],h2,by simpa [fq,PyData.depth] using h3⟩
 |k,.ty _,w=>by cases k <;> exact absurd w s_
 |k,.glb _,w=>by cases k <;> exact absurd w s_
 |k,.exc _,w=>by cases k <;> exact absurd w s_
 |k,.kl _,w=>by cases k <;> exact absurd w s_
 |k,.dct _,w=>by cases k <;> exact absurd w s_
 |k,.set _,w=>by cases k <;> exact absurd w s_
theorem kK:∀(k:Nat) (vs:List Val),d4 k vs=true->(∀j,k<j->dJ j vs=some (df vs))/\PyData.canLayAll0 (df vs)=true/\PyData.depthAll (df vs)<=k
 |k,[],_=>⟨λj hj=>by simp [dJ,df],rfl,N2 _⟩
 |
  k,v::vs,w=>by
  have w':(wfV k v&&d4 k vs)=true:=w;rw[r_] at w';obtain⟨h1,h2,h3⟩:=m7 k v w'.1;obtain⟨i1,i2,i3⟩:=kK k vs w'.2;exact⟨λj hj=>by simp [dJ,df,h1 j hj,i1 j hj],by simp [df,PyData.canLayAll0,h2,i2],Nat.max_le.mpr ⟨h3,i3⟩⟩
end
mutual
theorem yW:∀(k:Nat) (v u:Val),wfV k v=true->wfV k u=true->PyData.eqv (fq v) (fq u)=vq v u
 |
  k,v,u,hv,hu=>by
  cases v <;> first |(cases k <;> exact absurd hv s_) |skip
  all_goals (cases u <;> first |(cases k <;> exact absurd hu s_) |rfl |(cases k with |zero=>exact absurd hv s_ |succ k=>exact uF k _ _ hv hu))
theorem uF:∀(k:Nat) (v u:List Val),d4 k v=true->d4 k u=true->PyData.eqvAll (df v) (df u)=vqs v u
 |_,[],[],_,_=>rfl
 |_,[],_::_,_,_=>rfl
 |_,_::_,[],_,_=>rfl
 |
  k,x::xs,y::ys,hv,hu=>by
  have h1:(wfV k x&&d4 k xs)=true:=hv;have h2:(wfV k y&&d4 k ys)=true:=hu;rw[r_] at h1 h2;show (PyData.eqv (fq x) (fq y)&&PyData.eqvAll (df xs) (df ys))=(vq x y&&vqs xs ys);rw[yW k x y h1.1 h2.1,uF k xs ys h1.2 h2.2]
end
def G8(hk:k<=160)(hx:wfV k x=true)(hy:wfV k y=true):bG x y=some (vq x y):=by obtain⟨h1,h2,h3⟩:=m7 k x hx;obtain⟨i1,i2,i3⟩:=m7 k y hy;unfold bG;rw[h1 164 (by omega),i1 164 (by omega)];dsimp only;rw[if_pos ⟨gk h2 (by omega),gk i2 (by omega)⟩,yW k x y hx hy]
def CB(hx:wfV 60 x=true)(hy:wfV 60 y=true):bG x y=some (vq x y):=G8 (by decide) hx hy
mutual
def kj:Val->Bool
 |.bl _=>false
 |.tup xs=>gr xs
 |.lst xs=>gr xs
 |.non=>true
 |.int _=>true
 |.str _=>true
 |_=>false
def gr:List Val->Bool
 | []=>true
 |x::xs=>kj x&&gr xs
end
mutual
theorem yZ:∀(v u:Val),kj v=true->kj u=true->(vq v u=true ↔ v=u)
 |
  v,u,hv,hu=>by
  cases v <;> first |exact absurd hv s_ |skip
  all_goals (cases u <;> first |exact absurd hu s_ |exact⟨λz=>absurd z s_,λz=>nomatch z⟩ |(simp [vq];done) |skip)
  all_goals
   refine Iff.trans (tW _ _ hv hu) ?_;constructor
   .rintro rfl;rfl
   .intro z;cases z;rfl
theorem tW:∀(v u:List Val),gr v=true->gr u=true->(vqs v u=true ↔ v=u)
 | [],[],_,_=>⟨λ_=>rfl,λ_=>rfl⟩
 | [],_::_,_,_=>⟨λz=>absurd z s_,λz=>nomatch z⟩
 |_::_,[],_,_=>⟨λz=>absurd z s_,λz=>nomatch z⟩
 |
  x::xs,y::ys,hv,hu=>by
  have h1:(kj x&&gr xs)=true:=hv;have h2:(kj y&&gr ys)=true:=hu;rw[r_] at h1 h2;show (vq x y&&vqs xs ys)=true ↔ _;rw[r_,yZ x y h1.1 h2.1,tW xs ys h1.2 h2.2,List.cons.injEq]
end
mutual
theorem tT:∀(k:Nat) (v:Val),wfV k v=true->vq v v=true
 |
  k,v,hv=>by
  cases v <;> first |(cases k <;> exact absurd hv s_) |rfl |exact beq_self_eq_true _ |(cases k with |zero=>exact absurd hv s_ |succ k=>exact pZ k _ hv)
theorem pZ:∀(k:Nat) (v:List Val),d4 k v=true->vqs v v=true
 |_,[],_=>rfl
 |
  k,x::xs,hv=>by
  have h1:(wfV k x&&d4 k xs)=true:=hv;rw[r_] at h1;show (vq x x&&vqs xs xs)=true;rw[tT k x h1.1,pZ k xs h1.2];rfl
end
noncomputable def fV(q:Rat):Val:=.tup [.int q.num,.int q.den]
structure Bx where
 l:Rat
 t:Rat
 w:Rat
 h:Rat
structure Bx.Ok(b:Bx):Prop where
 w:0<b.w
 h:0<b.h
structure Bx.Sz(n:Nat)(b:Bx):Prop where
 l:L2.Sz n b.l
 t:L2.Sz n b.t
 w:L2.Sz n b.w
 h:L2.Sz n b.h
noncomputable def bV(b:Bx):Val:=.tup [fV b.l,fV b.t,fV b.w,fV b.h]
def Kz(e:fV p=fV q):p=q:=by unfold fV at e;simp only[Val.tup.injEq,List.cons.injEq,Val.int.injEq,and_true] at e;rw[dk p,dk q,e.1,e.2]
def Ct(q:Rat)(k:Nat):wfV (k+1) (fV q)=true:=by simp [fV,wfV,d4]
def CD(q:Rat):kj (fV q)=true:=by simp [fV,kj,gr]
def C4(p q:Rat):bG (fV p) (fV q)=some (decide (p=q)):=by rw[CB (Ct p 59) (Ct q 59)];congr 1;rw[PM,yZ _ _ (CD p) (CD q),OT];exact⟨Kz,λz=>by rw[z]⟩
noncomputable def knV:Val->Bool
 |.exc _=>false
 |v=>(tyC v).isSome
noncomputable def gJ:Nat->Val->Bool
 |k+1,.tup xs=>xs.all (gJ k)
 |_,v=>knV v
noncomputable def iC:Val->Bool
 |.int _=>true
 |_=>false
noncomputable def aM:Val->Bool
 |.tup [.int a,.int b]=>decide (1<=b)&&decide (Int.gcd a b=1)
 |_=>false
noncomputable def iM:Val->Bool
 |.tup (.int a::_)=>decide (0<a)
 |_=>false
noncomputable def fg:Val->Bool
 |.tup [a,b,c,d]=>aM a&&(aM b&&(aM c&&(aM d&&(iM c&&iM d))))
 |_=>false
noncomputable def gv:Val->Bool
 |.int i=>decide (1<=i)
 |_=>false
noncomputable def eB:Val->Bool
 |.tup _=>true
 |_=>false
def K6(h1:1<=b)(h2:Int.gcd a b=1):Val.tup [.int a,.int b]=fV ((a:Rat)/(b:Rat)):=by
 have hb:b≠0:=by omega
 have h:=me (a:=a) hb;have s:=Fr.self (by omega) h2;unfold fV;rw[<- h.1,<- h.2,s.1,s.2]
def iE(q:Rat):aM (fV q)=true:=by
 show (decide (1<=(q.den:Int))&&decide (Int.gcd q.num q.den=1))=true
 have:=q.den_pos
 rw[D_ (by omega),D_ (uo q)];rfl
def x8(h:aM d=true):∃q,d=fV q:=by
 unfold aM at h;split at h
 .simp only[r_,OT] at h;exact⟨_,K6 h.1 h.2⟩
 .cases h
def tH(q:Rat):iM (fV q)=decide (0<q):=by show decide (0<q.num)=decide (0<q);rw[decide_eq_decide];exact hX
def Bq(h:b.Ok):fg (bV b)=true:=by show (aM (fV b.l)&&(aM (fV b.t)&&(aM (fV b.w)&&(aM (fV b.h)&&(iM (fV b.w)&&iM (fV b.h))))))=true;rw[iE,iE,iE,iE,tH,tH,D_ h.w,D_ h.h];rfl
def Hg(b:Bx):gJ 2 (bV b)=true:=by simp [bV,fV,gJ,knV,tyC]
theorem mG(P:E3->Prop):∀(vs acc:List Val) (e:E3),P e->(∀v∈vs,∀e,P e->∃e1 t e2,g v e=some e1/\F e1=.ok t e2/\b9 e2 t=some (e2,f v)/\P e2)->acc.length+vs.length<=16777216->∃e',P e'/\lcV g cY F vs acc e=.ok (acc++vs.map f) e'
 | [],acc,e,hp,_,_=>⟨e,hp,by simp [lcV]⟩
 |
  v::vs,acc,e,hp,hf,hl=>by
  obtain⟨e1,t,e2,q1,q2,q3,q4⟩:=hf v (m_ ..) e hp;obtain⟨e',p',q5⟩:=mG P vs (acc++[f v]) e2 q4 (λu hu=>hf u (l_ _ hu)) (by simp at hl ⊢;omega);refine⟨e',p',?_⟩;unfold lcV;rw[if_pos (by simp at hl;omega),q1];simp only[cY,iH,OW,q2,q3,q5];simp
def Es(lo:Int)(k:Nat):jl lo k=(List.range k).map λi=>Val.int (lo+(i:Nat)):=rfl
noncomputable def rgV(k:Nat):List Val:=(List.range k).map λj=>Val.int (j:Nat)
def uB(h:k<1000000):iA [.int (k:Nat)]=some (rgV k):=by simp only[iA];rw[if_pos (⟨by omega,by omega⟩:RgB _),Of];unfold jl rgV;simp only[Int.zero_add]
def uG(h0:0<=i)(h:i<1000000):iA [.int i]=some (rgV i.toNat):=by
 have:=uB (k:=i.toNat) (by omega)
 rwa [show ((i.toNat:Nat):Int)=i from by omega] at this
theorem dX(fv fw:α->Val)(P:E3->Prop):∀(l:List α) (acc:List Val) (e:E3),P e->(∀a∈l,∀e,P e->∃e1 t e2,g (fv a) e=some e1/\F e1=.ok t e2/\b9 e2 t=some (e2,fw a)/\P e2)->acc.length+l.length<=16777216->∃e',P e'/\lcV g qY.G F (l.map fv) acc e=.ok (acc++l.map fw) e'
 | [],acc,e,hp,_,_=>⟨e,hp,by simp [lcV]⟩
 |
  v::vs,acc,e,hp,hf,hl=>by
  obtain⟨e1,t,e2,q1,q2,q3,q4⟩:=hf v (m_ ..) e hp;obtain⟨e',p',q5⟩:=dX fv fw P vs (acc++[fw v]) e2 q4 (λu hu=>hf u (l_ _ hu)) (by simp at hl ⊢;omega);refine⟨e',p',?_⟩;rw[o_];unfold lcV;have cy:qY.G=cY:=rfl;rw[cy] at q5 ⊢;rw[if_pos (by simp at hl;omega),q1];simp only[cY,iH,OW,q2,q3,q5];simp
def JS(v:Val):inS (.sh v)=.sh v:=rfl
def DR(i:Nat)(v:Val)(e:E3):eR (some i) (.sh v) e=e:=rfl
noncomputable def mj(ms:List Bool)(r:SR3):R3F:=match r with
 |.nx e=>(match muV ms e with |some mv=>.ok (.val .non) mv |none=>.stuck)
 |.rt r e=>(match muV ms e with |some mv=>.ok r mv |none=>.stuck)
 |.exc c e=>(match muV ms e with |some mv=>.exc c mv |none=>.stuck)
 |_=>.stuck
def oT(h:vs.length=ms.length):(fnP ms N c).G vs=mj ms (c.G (sls ms vs++List.replicate (N-vs.length) .no)):=by rw[aD,if_pos h];rfl
def vg(ms:List Bool)(r:Rt)(e:E3):mj ms (.rt r e)=match muV ms e with |some mv=>.ok r mv |none=>.stuck:=rfl
def aB{Q:SR3->Prop}(I:E3->Prop){a b:PSt}{e:E3}(h1:∃e1,a.G e=.nx e1/\I e1)(h2:∀e1,I e1->Q (b.G e1)):Q ((aj a b).G e):=by obtain⟨e1,q,i⟩:=h1;rw[Ck,q];exact h2 e1 i
def iV(i:Int):Val.tup [.int i,.int 1]=fV (i:Rat):=rfl
def sm8(h:m.natAbs<1099511627776):Sm 8000 m:=A_ (show m.natAbs<2^40 from h) (Oe (by decide) (by decide))
def lJ(h:m.natAbs<=2000000000000000000000000000000):Sm 101 m:=by unfold Sm;exact OE h (by decide)
def fo{m:Int}(h:m.natAbs<=2000000000000000000000000000000):Sz 101 (m:Rat):=⟨lJ h,lJ (by show (1:Int).natAbs<=_;decide)⟩
def fJ{a b:Int}(hb:b≠0)(h1:a.natAbs<=2000000000000000000000000000000)(h2:b.natAbs<=2000000000000000000000000000000):Sz 101 ((a:Rat)/(b:Rat)):=Sz.div hb (lJ h1) (lJ h2) 101 (n_ _) (n_ _)
def eW{m:Int}(h:0<m):(0:Rat)<(m:Rat):=Rat.intCast_pos.mpr h
def f9{a b:Int}(h1:0<a)(h2:0<b):(0:Rat)<(a:Rat)/(b:Rat):=by rw[O4];exact Rat.mul_pos (eW h1) (Rat.inv_pos.mpr (eW h2))
structure Good(b:Bx):Prop where
 ok:b.Ok
 sz:b.Sz 101
def jS(h:m.natAbs<=2000000000000000000000000000000):Sm 8000 m:=(lJ h).mono (by decide)
section
variable{K:W.Frag}{mg:Qa}{X:Cx}{ES:L2.St->XK}{e:Expr}{es:List Expr}{A:PAs}{pos:Pos}
end
section
variable{K:W.Frag}{mg:Qa}{X:Cx}{ES:L2.St->XK}{e a b c o lo hi:Expr}{p q r:PEx}{pos p1 p2:Pos}
end
theorem ar1{α:Type}{P:List α->Prop}(h:∀a,P [a]):∀us:List α,us.length=1->P us
 | [a],_=>h a
theorem ar2{α:Type}{P:List α->Prop}(h:∀a b,P [a,b]):∀us:List α,us.length=2->P us
 | [a,b],_=>h a b
theorem ar3{α:Type}{P:List α->Prop}(h:∀a b c,P [a,b,c]):∀us:List α,us.length=3->P us
 | [a,b,c],_=>h a b c
theorem ar4{α:Type}{P:List α->Prop}(h:∀a b c d,P [a,b,c,d]):∀us:List α,us.length=4->P us
 | [a,b,c,d],_=>h a b c d
section
variable{P:Nat->Prop}{h:AH}
def Nl(r:Rk P h ws us):lkD us k=some v->∃d,lkD ws k=some d/\Rd P h d v:=
 r.ind (M:=λws us=>lkD us k=some v->∃d,lkD ws k=some d/\Rd P h d v) (λq=>by cases q) (λ{k2 d v2 ds vs} r _ ih q=>by
  unfold lkD at q ih ⊢;rw[Od] at q ⊢;dsimp only at q ⊢;by_cases hk:k2=k
  .rw[D_ hk] at q ⊢;cases q;exact⟨d,rfl,r⟩
  .rw[z_ hk] at q ⊢;exact ih q)
def Fl(r:Rk P h ws us):us.map (·.1)=ws.map (·.1):=
 r.ind (M:=λws us=>us.map (·.1)=ws.map (·.1)) rfl λ_ _ ih=>by rw[o_,o_,ih]
def FH(r:Rk P h ws us):ws.length=us.length:=
 r.ind (M:=λws us=>ws.length=us.length) rfl λ_ _ ih=>Oa (· + 1) ih
def Jn(r:Rk P h ws us)(q:Rk P h ws' us'):Rk P h (ws++ws') (us++us'):=
 r.ind (M:=λws us=>Rk P h (ws++ws') (us++us')) q λr _ ih=>.cons r ih
def Hc(rd:Rd P h d v)(r:Rk P h ws us):Rk P h (cz ws k d) (cz us k v):=by
 unfold cz;rw[rC (Fl r)];by_cases hc:(ws.any λkv=>decide (kv.1=k))=true
 .rw[if_pos hc,if_pos hc];exact r.ind (M:=λws us=>Rk P h (ws.map λkv=>if kv.1=k then (kv.1,d) else kv) (us.map λkv=>if kv.1=k then (kv.1,v) else kv)) .nil (λ{k2 d2 v2 ds vs} r _ ih=>by
   rw[o_,o_];dsimp only;by_cases hk:k2=k
   .rw[if_pos hk,if_pos hk];exact .cons rd ih
   .rw[if_neg hk,if_neg hk];exact .cons r ih)
 .rw[if_neg hc,if_neg hc];exact Jn r (.cons rd .nil)
end
noncomputable def sD:Val->Val->Val->Option Val:=λo i v=>match o with
 |.dct kvs=>(match i with
  |.str k=>if kvs.length<16777216 then some (.dct (cz kvs (.inr k) v)) else none
  |_=>none)
 |_=>none
section
variable{K:W.Frag}{mg:Qa}{X:Cx}{ES:L2.St->XK}{a b:Expr}{p q:PEx}{pos:Pos}
end
end L3
namespace L3
open PySem L2
def rH(xs:List Val)(n:Nat):gG xs (some (n:Int)) none=xs.drop n:=by
 unfold gG;rw[HT.sIx_none,HT.sIx_nat];by_cases h:n<=xs.length
 .rw[Nat.min_eq_left h,List.take_of_length_le (by rw[Pb];exact n_ _)]
 .rw[Nat.min_eq_right (by omega),List.drop_of_length_le (n_ _),List.drop_of_length_le (by omega),OZ]
def yQ(xs:List Val)(lo hi:Option Int):aSl (.lst xs) lo hi=.new (.lst (gG xs lo hi)):=rfl
end L3
namespace L3
open PySem PySem.Spec PyProof.Rows L2
section
variable{gs:MGs}{gs3:jt}
end
section
variable{e:E3}
end
section
variable{K:W.Frag}{mg:Qa}{X:Cx}{es:List Expr}{gs:PGs}{pos:Pos}
end
section
variable{K:W.Frag}{mg:Qa}{X:Cx}{ES:L2.St->XK}{a:Expr}{A:PAs}{pos q2 p1 p2:Pos}
end
section
variable{K:W.Frag}{mg:Qa}{n:Str}{kvs:List (Str×Int)}
end
end L3
namespace L3
open PySem L2
end L3
namespace L3
open PySem PySem.Spec PyProof.Rows L2
section
variable{K:W.Frag}{mg:Qa}
end
section
variable{X:Cx}{K:W.Frag}{mg:Qa}{ES:L2.St->XK}{e:Expr}{es:List Expr}{A:PAs}{pos:Pos}{x:PSt}
variable{P:Program}{w:World}{base:Heap}{fx:Str}{ii:Stmt}{k n m:Nat}{ps N:List Str}{ms:List Bool}
end
end L3
namespace L3
open PySem L2
end L3
namespace L3
open PySem PySem.Spec PyProof.Rows L2
section
variable{X:Nat->Prop}{h0:Nat}{ns ns1:Ns}{e e1:E3}{ae:AE}{h h1:AH}
end
section
variable{K:W.Frag}{mg:Qa}{X:Cx}{ES:L2.St->XK}{re qe am:Expr}{st1:Stmt}{sts:List Stmt}{q:PEx}{y:PSt}{g:PGt}{I1 I2:PIt}{pos p2 p3 p4 p5:Pos}{x:Str}{j t:Nat}{hjt:j≠t}{ow:Bool}{tg oe:Expr}{hsb:(([none]:Qd).filterMap id).Nodup}
end
section
variable{K:W.Frag}{mg:Qa}
end
noncomputable def CA:ME3:=λe=>.ok (.new (.set [])) e
def EY:RE ve CA:=λX h0 L ns e ae h S hl=>BvR.po (r:=.ok (.ref h.length) (h++[Ob.set []])) (b:=.new (.set [])) S hl ⟨.set [],rfl,trivial,.set []⟩
noncomputable def vy:PEx:=⟨ve,CA,EY⟩
def IM(e:E3):vy.G e=.ok (.new (.set [])) e:=rfl
noncomputable def zM:Val->Val->Bv:=λx y=>match x,y with
 |.int i,.set xs=>.val (.bl (decide (i∈xs)))
 |_,_=>.stuck
def Hv:RO pB zM:=λP h d1 d2 v1 v2 r1 r2=>by
 unfold zM;split
 .rename_i i xs;rw[r1.int];obtain⟨n,rfl,e⟩:=r2.set;exact⟨_,by unfold pB;dsimp only;rw[e],.bl _⟩
 .trivial
noncomputable def AA:PO2:=⟨pB,zM,Hv⟩
def MK(i:Int)(xs:List Int):AA.G (.int i) (.set xs)=.val (.bl (decide (i∈xs))):=rfl
noncomputable def vO:List Val->Bv:=λvs=>match vs with
 | [.set xs]=>.val (.int (xs.length:Nat))
 |_=>.stuck
def E1:RFn lE vO:=λP h ds vs r=>by
 unfold vO;split
 .obtain⟨d,hd,r1⟩:=cT r;subst hd;obtain⟨n,rfl,e⟩:=r1.set;exact⟨_,by unfold lE;dsimp only;rw[e],.int _⟩
 .trivial
noncomputable def pO:PBf:=⟨lE,vO,E1⟩
def Jz(xs:List Int):pO.G [.set xs]=.val (.int (xs.length:Nat)):=rfl
noncomputable def zT:Val->Option (List Int)
 |.set xs=>some xs
 |_=>none
noncomputable def qF(i:Nat)(A:MA3):ME3:=λe=>match e[i]? with
 |some s=>match s.mv.bind zT with
  |some _=>(A e).bind λts e1=>match dem e1 ts with
   |some (e2,[.int k])=>match e2[i]? with
    |some s2=>match s2.mv.bind zT with
     |some xs=>if xs.length<4000 then .ok (.val .non) (e2.set i (s2.re (.set (dW xs k)))) else .stuck
     |none=>.stuck
    |none=>.stuck
   |_=>.stuck
  |none=>.stuck
 |none=>.stuck
def IX(i:Nat)(hA:RA A A3):RE (eMS (bJ i) A) (qF i A3):=λX h0 L ns e ae h S hl=>by
 unfold qF;cases q0:e[i]? with
 |none=>trivial
 |
  some s0=>
  dsimp only;split
  .rename_i xs0 hz;obtain⟨u0,z1,z2⟩:=NV.mp hz;obtain⟨n0,o0,b1,b2,b3,b4,_⟩:=S.write q0 z1;have hL:wd h (.ref n0)=true:=by
    cases u0 with
    |set ys=>cases b4;show (match h[n0]? with |some (.set _)=>true |_=>false)=true;rw[b2]
    |_=>cases z2
   have L2e:eMS (bJ i) A ae h=(A ae h).bind λds h2=>rE (.ref n0) ds h2:=by unfold eMS bJ;rw[b1];simp only[eO,hL,OW]
   rw[L2e];refine Po.bind S (hA X h0 ns e ae h S) λds ts h1 ns1 e1 a1 S1 r1=>?_;split
   .rename_i e2 k q1;obtain⟨f_,S2,a2,r2⟩:=gU S1 r1 q1;cases q2:e2[i]? with
    |none=>trivial
    |
     some s2=>
     dsimp only;split
     .rename_i xs q3;split
      .rename_i a_;obtain⟨u,y1,y2⟩:=NV.mp q3;obtain⟨n,o,k1,k2,k3,k4,k5⟩:=S2.write q2 y1;rw[b1] at k1;cases k1;cases u with
       |set ys=>cases y2;cases k4;obtain⟨d,rfl,rd⟩:=zO r2;obtain rfl:=ShR.int (.inl rd);obtain⟨mv,S4,a4⟩:=k5 (.set (dW xs k)) (.set (dW xs k)) trivial (.set _);refine⟨.non,_,f_,?_,a2.trans S1 a4,S4,.non⟩;unfold rE;dsimp only;rw[k2];dsimp only;rw[if_pos a_]
       |_=>cases y2
      .trivial
     .trivial
   .trivial
  .trivial
noncomputable def AW(i:Nat)(a:PAs):PEx:=⟨eMS (bJ i) a.F,qF i a.G,IX i a.ok⟩
def Kj(e:E3)(i:Nat)(a:PAs):(AW i a).G e=qF i a.G e:=rfl
noncomputable def rK:Val->Val->Bv:=λx y=>match x with
 |.dct kvs=>(match y with
  |.int k=>(match lkD kvs (.inl k) with
   |some v=>.val v
   |none=>.stuck)
  |_=>.stuck)
 |_=>.stuck
def Kw:RO pb rK:=λP h d1 d2 v1 v2 r1 r2=>by
 unfold rK;split
 .split
  .split
   .rename_i kvs k _ v q;obtain⟨n,ws,rfl,e,rk⟩:=r1.dct;obtain rfl:=r2.int;obtain⟨d,q1,rd⟩:=Nl rk q;refine⟨d,?_,rd⟩;unfold pb;dsimp only;rw[e];dsimp only;rw[q1]
   .trivial
  .trivial
 .trivial
noncomputable def vp:PO2:=⟨pb,rK,Kw⟩
def KW(h:lkD kvs (.inl k)=some v):vp.G (.dct kvs) (.int k)=.val v:=by show rK (.dct kvs) (.int k)=_;unfold rK;dsimp only;rw[h]
noncomputable def sDI:Val->Val->Val->Option Val:=λo i v=>match o with
 |.dct kvs=>(match i with
  |.int k=>if kvs.length<16777216 then some (.dct (cz kvs (.inl k) v)) else none
  |_=>none)
 |_=>none
def D5:uS wDI sDI:=λP h n o u di vi d v u' np e hf r ri rd q=>by
 unfold sDI at q;split at q
 .rename_i kvs;split at q
  .rename_i k;split at q
   .rename_i hl;cases q;obtain rfl:=ri.int;cases r with
    |dct rk=>rename_i ws;refine⟨.dct (cz ws (.inl k) d),?_,trivial,.dct (Hc rd rk)⟩;unfold wDI;dsimp only;rw[e];dsimp only;rw[if_pos (by rw[FH rk];exact hl)]
   .cases q
  .cases q
 .cases q
noncomputable def seI:PSe:=⟨wDI,sDI,D5⟩
def FP(kvs:List (Key×Val))(k:Int)(v:Val):seI.G (.dct kvs) (.int k) v=if kvs.length<16777216 then some (.dct (cz kvs (.inl k) v)) else none:=rfl
noncomputable def kF:Val->List Val->Option (Val×Val):=λu vs=>match u,vs with
 |.lst xs,[.tup ys]=>if xs.length+ys.length<=16777216 then some (.lst (xs++ys),.non) else none
 |_,_=>none
def uY:RM iz kF:=λP h n o u ds vs u' v e hf r rs q=>by
 unfold kF at q;split at q
 .split at q
  .rename_i hl;cases q;obtain⟨q1,es,q2,q3,q4⟩:=oC e r;obtain⟨d,rfl,rd⟩:=zO rs;obtain⟨ys',rfl,rr⟩:=ShR.tup (.inl rd);refine⟨q1,.lst (es++ys'),.non,?_,trivial,.lst (q3.append rr),.non⟩;unfold iz;rw[q4];dsimp only;rw[if_pos (by rw[q3.len,rr.len];exact hl)]
  .cases q
 .cases q
noncomputable def gf:PMm:=⟨iz,kF,uY⟩
def nT(xs ys:List Val):gf.G (.lst xs) [.tup ys]=if xs.length+ys.length<=16777216 then some (.lst (xs++ys),.non) else none:=rfl
section
variable{K:W.Frag}{mg:Qa}{X:Cx}{ES:L2.St->XK}{e o a b:Expr}{es:List Expr}{p q:PEx}{A:PAs}{pos:Pos}
def vc:MtD K mg (kz K) gf.F:=uN
def IK:OpD K mg rZ AA.F:=Dr
def Fm:aO K mg (λxs H Q=>∃a S n,xs=[.ref a]/\H a=some (.set S n)/\Q (.int (n:Nat)) H) pO.F:=D8
def Aa:mJ K mg wq seI.F:=A2
def Dx(hg:Gl X x)(hm:mg x=none)(hv:bootBuiltins x=some (.type "set"))(hk:X.mg=mg:=by rfl)(hn:x ≠ "__name__":=by decide)(hdb:(x==("__debug__" : Str))=false:=by decide):DE K mg X ES (.Call (.Name x p0) [] [] pos) vy.F:=by with_unfolding_all exact DN hg hm hv hk hn hdb
def HR(hK:X.K=K)(ho:DE K mg X ES o (af j).F)(ha:DA K mg X ES (e::es) A.F)
 (c_:attributeBase o "add" X.env (eval o X.env)=eval o X.env:=by rfl)
 (hfew:((backTo cpos (starEach (e::es) X.env)).all (λx=>!x.1)&&(backToKw cpos (keywordEach [] X.env)).all (λx=>x.1.isSome)
  && decide ((e::es).length+([]:List Keyword).length+(if ([]:List Keyword).isEmpty then 0 else 1)<30))=true:=by rfl)
 (db:(apos.endLine==cpos.line)=true:=by rfl) (hs:starEach (e::es) X.env=(false,eval e X.env)::starEach es X.env:=by rfl) (b_:(backTo cpos (starEach es X.env)).any (·.1)=false:=by rfl):
 DE K mg X ES (.Call (.Attribute o "add" apos) (e::es) [] cpos) (AW j A).F:=by with_unfolding_all exact LU hK ho ha c_ hfew db hs b_
def zy(hu:X.A.units+1<cLine)(ha:DE K mg X ES a p.F)(hb:DE K mg X ES b q.F)(hs:vf b):DE K mg X ES (.Subscript a b pos) (pOp vp p q).F:=by with_unfolding_all exact zZ hu ha hb hs
end
noncomputable def pS(f:List Int->Int):List Val->Bv:=λvs=>match vs with
 | [.lst xs]=>(match eJ xs with
  |some bs=>if bs≠[] then .val (.int (f bs)) else .stuck
  |none=>.stuck)
 |_=>.stuck
def Jx(f:List Int->Int):RFn (pA f) (pS f):=λP h ds vs r=>by
 unfold pS;split
 .obtain⟨d,hd,rr1⟩:=cT r;subst hd;clear r;have r:=rr1;obtain⟨n,es,rfl,_,e1,q⟩:=r.lst;split
  .rename_i bs e2;split
   .rename_i hne;exact⟨_,by unfold pA;dsimp only;rw[e1];show (match dG es with |some bs=>_ |none=>_)=_;rw[xJ q e2];dsimp only;rw[if_pos hne],.int _⟩
   .trivial
  .trivial
 .trivial
def qI:PBf:=⟨pA mnI,pS mnI,Jx mnI⟩
def Jl{ns:List Int}(h:ns≠[]):qI.G [.lst (ns.map .int)]=.val (.int (mnI ns)):=by show pS mnI [.lst (ns.map .int)]=_;unfold pS;dsimp only;rw[c7];exact if_pos h
section
variable{K:W.Frag}{mg:Qa}
def EG:aO K mg (Bf mnI K) qI.F:=IT mnI
end
end L3
namespace L3
open PySem L2
end L3
namespace L3
open PySem PySem.Spec PyProof.Rows L2
section
variable{K:W.Frag}{mg:Qa}
end
section
variable{K:W.Frag}{mg:Qa}{X:Cx}{ES:L2.St->XK}{e:Expr}{es:List Expr}{p:PEx}{A:PAs}{pos:Pos}
def zcF{f:PFn}{x:Str}{p0:Pos}{k j n:Nat}{ps:List Str}(C:Callee X.prog X.w X.K X.mg X.base x j ps (spD K mg n f.F))(hr:Room k X.A)(ha:DA K mg X ES (e::es) A.F)(hk:j<=k:=by omega)(hg:Gl X x:=by exact rfl)(hx:jG X ES:=by first |exact sF Ml |exact BB |assumption)(hn:f.ms.length=n:=by rfl)(hdb:(x==("__debug__" : Str))=false:=by decide)(he:starEach (e::es) X.env=(false,eval e X.env)::starEach es X.env:=by rfl)(hpl:(backTo pos (starEach es X.env)).any (·.1)=false:=by rfl):DE K mg X ES (.Call (.Name x p0) (e::es) [] pos) (ai f A).F:=Ca C (hr.mono hk) hg hx ha hn hdb he hpl
def zsS{ow:Bool}(i:Nat){x:Str}{io:Pos}(hN:X.N.Nodup)(he:DE K mg X ES e p.F)(hi:X.N[i]?=some x:=by exact rfl)(hx:Loc X.env.scope x:=by first |exact Or.inl rfl |exact Or.inr rfl)(hs:swapsWith e (some (.Name x io)) pos.line X.env=pure false:=by rfl)(hf:X.fn x=true\/X.env.scope.names.lookup x=some .local:=by first |exact .inl rfl |exact .inr rfl |assumption):DS K mg X ES (.Assign [.Name x io] e pos) (au ow i p).F:=Kc hN hi hx he hs hf
def zgN(i:Nat){x:Str}(hN:X.N.Nodup)(hi:X.N[i]?=some x:=by exact rfl)(hx:Loc X.env.scope x:=by first |exact Or.inl rfl |exact Or.inr rfl)(hf:X.fn x=true\/X.env.scope.names.lookup x=some .local:=by first |exact .inl rfl |exact .inr rfl |assumption):DG K mg X ES (.Name x pos) (gtN i).F:=ED hN hi hx hf
end
def nD{P:Nat->Prop}{h:AH}:∀{ds:List D}{vs:List Val}{ns:List Int},Rds P h ds vs->eJ vs=some ns->jI ds=some ns:=by
 intro ds;induction ds with
 |nil=>intro vs ns r e;cases r;cases e;rfl
 |
  cons d ds ih=>
  intro vs ns r e;cases r with
  |
   cons r rr=>
   rename_i v vs;cases v with
   |int i=>obtain⟨ms,e1,rfl⟩:=I_.mp e;obtain rfl:=ShR.int (.inl r);show (jI ds).map _=_;rw[ih rr e1];rfl
   |_=>cases e
theorem ku{P:Nat->Prop}{h:AH}:∀ns:List Int,Rds P h (ns.map D.int) (ns.map Val.int)
 | []=>.nil
 |i::ns=>.cons (.int i) (ku ns)
def ij:List Val->Bv:=λvs=>match vs with
 | [.lst us]=>match eJ us with
  |some ns=>if ns.length<64 then .new (.lst ((srI ns).map .int)) else .stuck
  |none=>.stuck
 |_=>.stuck
def wX:RFn ie ij:=λP h ds vs r=>by
 unfold ij;split
 .obtain⟨d,hd,r1⟩:=cT r;subst hd;split
  .rename_i ns q;split
   .rename_i hb;obtain⟨n,es,rfl,g1,_,g2⟩:=ShR.lst r1;refine⟨.lst ((srI ns).map D.int),?_,trivial,.lst (ku _)⟩;unfold ie;dsimp only;rw[g1];dsimp only;rw[nD g2 q];dsimp only;rw[if_pos hb]
   .trivial
  .trivial
 .trivial
def ko:PBf:=⟨ie,ij,wX⟩
def zG(ns:List Int)(h:ns.length<64):ko.G [.lst (ns.map .int)]=.new (.lst ((srI ns).map .int)):=by show ij [.lst (ns.map .int)]=_;unfold ij;dsimp only;rw[c7];dsimp only;rw[if_pos h]
def yw{K:W.Frag}{mg:Qa}:aO K mg mX ko.F:=yX
end L3
namespace L3
open PySem PySem.Spec PyProof.Rows L2 PySem.W
noncomputable def adr(K:Frag)(x:Str):Addr:=match nsIn K mainGlobals x with
 |some (some (.ref a))=>a
 |_=>0
noncomputable def gE(K:Frag)(x:Str):Bool:=match nsIn K mainGlobals x with
 |some (some (.ref _))=>true
 |_=>false
noncomputable def oW(K:Frag)(x:Str):Bool:=match nsIn K mainGlobals x with
 |some none=>true
 |_=>false
noncomputable def xcB(K:Frag)(C:Addr):Bool:=(clsIn K C).isSome&&(findIn K (.ref C) "__getattribute__" == some (some (.builtin "BaseException.__getattribute__"))&&(findIn K (.ref C) "__getattr__" == some none&&(findIn K (.ref C) "__class__" == some (some (.builtin "object.__class__"))&&(specialIn K (.builtin "object.__class__") "__get__" == some (some (.builtin "getset_descriptor.__get__"))&&(takesIn K (.builtin "object.__class__")==some true&&(mroIn K C (.type "object")==some true&&mroIn K C (.type "BaseException")==some true))))))
noncomputable def hdB(K:Frag)(C:Addr):Bool:=typeIn K (.ref C)==some (.type "type")&&((clsIn K C).isSome&&mroIn K C (.type "BaseException")==some true)
noncomputable def clA(K:Frag):Cl->Value
 |.b n=>.type n
 |.o x=>.ref (adr K x)
noncomputable def BW(K:Frag):Cl->Bool
 |.b _=>true
 |.o x=>gE K x
noncomputable def zY(K:Frag)(p:Cl×Cl×Bool):Bool:=kitOne K (clA K p.1) (clA K p.2.1)==some p.2.2&&(BW K p.1&&BW K p.2.1)
noncomputable def xkB(K:Frag):Cl->Bool
 |.b _=>true
 |.o x=>xcB K (adr K x)
noncomputable def vY:D->Value->Bool
 |.int i,.int j _=>i==j
 |.str x,.str y _=>x==y
 |.non,.none=>true
 |.bl b,.bool c=>b==c
 |_,_=>false
noncomputable def dV:D->V
 |.int i=>.int i
 |.str x=>.str x
 |.bl b=>.bl b
 |_=>.non
noncomputable def oG:List D->List Value->Bool
 | [],[]=>true
 |d::ds,v::vs=>vY d v&&oG ds vs
 |_,_=>false
noncomputable def gcB(K:Frag)(x:Str):D->Bool
 |.tup ds=>(match nsIn K mainGlobals x with
  |some (some (.ref a))=>(match K.lookup a with
   |some ⟨.type "tuple",_,.seq its _,_⟩=>decide (its.size<=1000)&&oG ds its.toList
   |_=>false)
  |_=>false)
 |d=>match nsIn K mainGlobals x with
  |some (some v)=>vY d v
  |_=>false
noncomputable def bFn:List String:=["abs", "all", "any", "isinstance", "len", "max", "min", "sorted", "sum"]
noncomputable def bTy:List String:=["bool", "dict", "int", "list", "set", "str", "tuple"]
noncomputable def bIt:List String:=["range", "zip", "enumerate"]
def Io:(bFn.all λn=>bootBuiltins (Str.ofString n)==some (.builtin n))=true:=by decide
def IW:(bTy.all λn=>bootBuiltins (Str.ofString n)==some (.type n))=true:=by decide
def boF{n:String}(h:bFn.contains n=true):bootBuiltins (Str.ofString n)=some (.builtin n):=N5.mp (M_.mp Io n (N9.mp h))
def boT{n:String}(h:bTy.contains n=true):bootBuiltins (Str.ofString n)=some (.type n):=N5.mp (M_.mp IW n (N9.mp h))
structure Tb where
 us:List Str
 rs:List Str
 hs:List (Str×List Str)
 kt:iO
 gs:List (Str×D)
noncomputable def Tb.ok(b:Tb)(K:Frag):Bool:=(bFn++(bTy++bIt)).all (λn=>oW K (Str.ofString n))&&(b.us.all (gE K)&&(b.rs.all (λx=>excIn K (adr K x) kq "ValueError.__new__" && gE K x)&&(b.hs.all (λp=>hdB K (adr K p.1)&&p.2.all λc=>mroIn K (adr K c) (.ref (adr K p.1))==some true&&gE K c)&&(b.kt.all (λp=>zY K p&&xkB K p.1)&&b.gs.all λp=>gcB K p.1 p.2))))
structure Tx(b:Tb)(K:Frag)(mg:Qa):Prop where
 n:∀{n:String},(bFn++(bTy++bIt)).contains n=true->mg (Str.ofString n)=none
 m:∀{x:Str},b.us.contains x=true->mg x=some (.ref (adr K x))
 x:∀{x:Str},b.rs.contains x=true->excIn K (adr K x) kq "ValueError.__new__"=true
 h:∀{x:Str}{l:List Str},(x,l)∈b.hs->XHand K (adr K x)/\∀c∈l,∀Ce,mg c=some (.ref Ce)->mroIn K Ce (.ref (adr K x))=some true
 k:KitsOk K mg b.kt
 g:∀{x:Str}{d:D},b.gs.lookup x=some d->GC K mg x d
section
variable{K:Frag}{h:Heap}{mg:Qa}{x:Str}(X:K.In h)(G:h.Ns mainGlobals mg)
include X G
def jU(e:gE K x=true):mg x=some (.ref (adr K x)):=by
 unfold gE at e;split at e
 .rename_i a q;unfold adr;rw[q];exact mg_of X G q
 .cases e
def vJ(e:oW K x=true):mg x=none:=by
 unfold oW at e;split at e
 .rename_i q;exact mg_none_of X G q
 .cases e
omit X G in
def My{C:Addr}(e:xcB K C=true):XCls K C:=by simp only[xcB,r_,N5] at e;obtain⟨e1,e2,e3,e4,e5,e6,e7,e8⟩:=e;exact⟨e1,e2,e3,e4,e5,e6,e7,e8⟩
def Cf{c:Cl}{v:Value}(e:BW K c=true)(q:ClV mg c v):v=clA K c:=by
 cases c with
 |b n=>exact q
 |o y=>obtain⟨a,rfl,m⟩:=q;rw[jU X G (show gE K y=true from e)] at m;cases m;rfl
omit X G in
def xo{d:D}{v:Value}(e:vY d v=true):RelV (dV d) v/\∀ρ H,RelD K mg ρ H d (dV d):=by
 unfold vY at e;split at e
 .cases N5.mp e;exact⟨⟨_,rfl⟩,λ_ _=>.int _⟩
 .cases N5.mp e;exact⟨⟨_,rfl⟩,λ_ _=>.str _⟩
 .exact⟨rfl,λ_ _=>.non⟩
 .cases N5.mp e;exact⟨rfl,λ_ _=>.bl _⟩
 .cases e
omit X G in
theorem ud:∀{ds:List D}{vs:List Value},oG ds vs=true->Vals (ds.map dV) vs/\∀ρ H,RelDs K mg ρ H ds (ds.map dV)
 | [],[],_=>⟨.nil,λ_ _=>.nil⟩
 |
  d::ds,v::vs,e=>by
  rw[oG,r_] at e;obtain⟨a1,a2⟩:=xo (K:=K) (mg:=mg) e.1;obtain⟨b1,b2⟩:=ud e.2;exact⟨.cons a1 b1,λρ H=>.cons (a2 ρ H) (b2 ρ H)⟩
 | [],_::_,e=>nomatch e
 |_::_,[],e=>nomatch e
def LW{d:D}(e:gcB K x d=true):GC K mg x d:=by
 unfold gcB at e;split at e
 .rename_i ds;split at e
  .rename_i a q;split at e
   .rename_i dd its n sl l;rw[r_] at e;obtain⟨v1,v2⟩:=ud (K:=K) (mg:=mg) e.2;exact F9 X G q l (C_ (O6 e.1) (by decide)) v1 v2
   .cases e
  .cases e
 .split at e
  .rename_i v q;obtain⟨v1,v2⟩:=xo (K:=K) (mg:=mg) e;exact⟨_,_,mg_of X G q,v1,v2⟩
  .cases e
omit X G in
theorem yY{d:D}:∀{l:List (Str×D)},l.lookup x=some d->(x,d)∈l
 | [],h=>nomatch h
 |
  (y,e)::l,h=>by
  rw[OL] at h;split at h
  .rename_i q;cases h;rw[N5.mp q];exact m_
  .exact l_ _ (yY h)
def Mc{b:Tb}(e:b.ok K=true):Tx b K mg:=by
 unfold Tb.ok at e;simp only[r_] at e;obtain⟨e1,e2,e3,e4,e5,e6⟩:=e;simp only[M_,r_] at e1 e2 e3 e4 e5 e6;refine⟨λh=>vJ X G (e1 _ (N9.mp h)),λh=>jU X G (e2 _ (N9.mp h)),λh=>(e3 _ (N9.mp h)).1,λh=>?_,⟨λp hp t v h1 h2=>?_,λp hp x C e' m=>?_⟩,λh=>LW X G (e6 _ (yY h))⟩
 .obtain⟨a1,a2⟩:=e4 _ h;refine⟨?_,λc hc Ce m=>?_⟩
  .simp only[hdB,r_,N5] at a1;exact⟨a1.1,a1.2.1,a1.2.2⟩
  .obtain⟨b1,b2⟩:=a2 c hc;rw[jU X G b2] at m;cases m;exact N5.mp b1
 .obtain⟨a1,_⟩:=e5 p hp;simp only[zY,r_,N5] at a1;rw[Cf X G a1.2.1 h1,Cf X G a1.2.2 h2];exact a1.1
 .obtain⟨a1,a2⟩:=e5 p hp;simp only[zY,r_,N5] at a1;have a3:=a1.2.1;rw[e'] at a2 a3;rw[jU X G (show gE K x=true from a3)] at m;cases m;exact My a2
end
def dNm(s:Stmt):Str:=match s with
 |.FunctionDef n ..=>n
 |_=>""
def AllD(K:Frag)(mg:Qa)(top:Nat->Stmt):List Nat->Prop
 | []=>True
 |i::l=>Def K mg (dNm (top i)) (top i)/\AllD K mg top l
theorem AllD.get{K:Frag}{mg:Qa}{top:Nat->Stmt}:∀{l:List Nat},AllD K mg top l->∀i,l.contains i=true->Def K mg (dNm (top i)) (top i)
 | [],_,i,h=>nomatch h
 |
  j::l,⟨a,b⟩,i,h=>by
  rcases E_.mp (N9.mp h) with rfl |h
  .exact a
  .exact b.get i (N9.mpr h)
structure Ty(b:Tb)(top:Nat->Stmt)(ds:List Nat)(K:Frag)(mg:Qa):Prop extends Tx b K mg where
 d:AllD K mg top ds
noncomputable def scB(N P:List Str)(sc:Scope):Bool:=decide (sc.kind=.function)&&(!sc.isCoroutine&&(!sc.isGenerator&&(decide N.Nodup&&(decide (N.take P.length=P)&&(P.all (λx=>decide (sc.names.lookup x=some .local\/sc.names.lookup x=some .cell))&&sc.names.all λy=>decide (y.2 ≠ .free))))))
def ax{N P:List Str}{sc:Scope}(e:scB N P sc=true):FnScope N P sc:=by simp only[scB,r_,OT,M_,Bool.not_eq_true'] at e;obtain⟨e1,e2,e3,e4,e5,e6,e7⟩:=e;exact⟨e1,e2,e3,e4,e5,e6,e7⟩
section
variable{K:W.Frag}{mg:Qa}{X:Cx}{ES:L2.St->XK}{e a b c o i tg am h_:Expr}{p q r:PEx}{t u:PTs}{x y:PSt}{g:PGt}{I:PIt}{pos:Pos}
def jd{scope:Scope}(M:List Str)(kn:List (Str×NameKind))(N:List Str)(sub:Qd){hsb:(sub.filterMap id).Nodup}(hi:DI K mg X ES tg am I.F)(hg:N.Nodup->∀cl C s₂ H fp,DG K mg (aJ X N scope cl C s₂ H fp) (λ_=>E0) tg g.F)(he:N.Nodup->∀cl C s₂ H fp,DE K mg (aJ X N scope cl C s₂ H fp) (λ_=>E0) h_ p.F)(hnd:N.Nodup:=by decide)(hc:X.calm=true:=by rfl)(hM:X.N=M:=by rfl)(hkn:X.env.scope.names=kn:=by rfl)(d_:ff M scope.names sub N=true:=by decide)(hk:scope.kind=.function:=by rfl)(hnc:∀x∈scope.names,x.2 ≠ .cell:=by decide)(bn:∀x∈scope.names,x.2=.local->scope.names.lookup x.1=some .local:=by decide)(hfr:gO kn scope.names=true:=by decide)(hsl:sub.length=N.length:=by rfl)(hs:∀x,foldedSetIterable am X.env x=pure x:=by intro _;rfl):DE K mg X ES (.ListComp h_ [⟨tg,am,[],0⟩] scope pos) (pLC I sub hsb g qY p).F:=M9 M kn N sub hc hi (hg hnd) (he hnd) hM hkn d_ hk hnc bn hfr hsl hs
def zSlc{ow:Bool}{px spos:Pos}{iT:Nat}{xT:Str}{scope:Scope}(hN:X.N.Nodup)(M:List Str)(kn:List (Str×NameKind))(N:List Str)(sub:Qd){hsb:(sub.filterMap id).Nodup}(hi:DI K mg X ES tg am I.F)(hg:N.Nodup->∀cl C s₂ H fp,DG K mg (aJ X N scope cl C s₂ H fp) (λ_=>E0) tg g.F)(he:N.Nodup->∀cl C s₂ H fp,DE K mg (aJ X N scope cl C s₂ H fp) (λ_=>E0) h_ p.F)(hsw:swapsWith (.ListComp h_ [⟨tg,am,[],0⟩] scope pos) (some (.Name xT px)) spos.line X.env=pure true:=by rfl)(hnd:N.Nodup:=by decide)(hc:X.calm=true:=by rfl)(hix:X.N[iT]?=some xT:=by rfl)(hxl:Loc X.env.scope xT:=by first |exact Or.inl rfl |exact Or.inr rfl)(hM:X.N=M:=by rfl)(hkn:X.env.scope.names=kn:=by rfl)(d_:ff M scope.names sub N=true:=by decide)(hk:scope.kind=.function:=by rfl)(hnc:∀x∈scope.names,x.2 ≠ .cell:=by decide)(bn:∀x∈scope.names,x.2=.local->scope.names.lookup x.1=some .local:=by decide)(hfr:gO kn scope.names=true:=by decide)(hsl:sub.length=N.length:=by rfl)(hs:∀x,foldedSetIterable am X.env x=pure x:=by intro _;rfl)(hf:X.fn xT=true\/X.env.scope.names.lookup xT=some .local:=by first |exact .inl rfl |exact .inr rfl |assumption):DS K mg X ES (.Assign [.Name xT px] (.ListComp h_ [⟨tg,am,[],0⟩] scope pos) spos) (au ow iT (pLC I sub hsb g qY p)).F:=NT M kn N sub hc hN hix hxl hi (hg hnd) (he hnd) hsw hM hkn d_ hk hnc bn hfr hsl hs hf
end
section
variable{K:W.Frag}{mg:Qa}{P:Program}{w:World}{base:Heap}{fx:Str}{ii:Stmt}{k n m:Nat}{ps N:List Str}{ms:List Bool}{x:PSt}
def aE(D:Def K mg fx ii)(S:FnScope N ps (ak ii))
 (hb:∀(kV doc pm:Value) (an:Option Addr) (cdv ct:Value) (us:List Value),us.length=ps.length->bindArgs (W.fnOf fx fx (bM ii) (aS ii) (ak ii) .none kV doc pm an cdv ct) ⟨us,[]⟩=pure (ps.zip us))
 (e_:N.Nodup->∀(f:Addr) (cdv:Value) (A:Around) (outer:List Env) (s:Shared) (H:Hp) (E:XK),Room k (A.deeper (envOfC fx (ak ii) s.heap.objs.size f cdv))->
  DSs K mg (cQ (CX1 P w) P w K mg base N fx (ak ii) f cdv A outer s H E) (λ_=>E) (aS ii) x.F) (hn:ps.length=n:=by rfl) (hm:N.length=m:=by rfl):Callee P w K mg base fx (k+1) ps (spD K mg n (fnP ms m x).F):=okP D S hb (e_ S.nd) hn hm
def okX'(D:Def K mg fx ii)(S:FnScope N ps (ak ii))
 (hb:∀(kV doc pm:Value) (an:Option Addr) (cdv ct:Value) (us:List Value),us.length=ps.length->bindArgs (W.fnOf fx fx (bM ii) (aS ii) (ak ii) .none kV doc pm an cdv ct) ⟨us,[]⟩=pure (ps.zip us))
 (e_:N.Nodup->∀(f:Addr) (cdv:Value) (A:Around) (outer:List Env) (s:Shared) (H:Hp) (E:XK),Room k (A.deeper (envOfC fx (ak ii) s.heap.objs.size f cdv))->
  DSs K mg (cQ (CX1 P w) P w K mg base N fx (ak ii) f cdv A outer s H E) (λ_=>E) (aS ii) x.F) (hn:ps.length=n:=by rfl) (hm:N.length=m:=by rfl):Callee P w K mg base fx (k+1) ps (spD K mg n (PFx.of ms m x).F):=okX D S hb (e_ S.nd) hn hm
end
end L3
namespace L3
open PySem PySem.Spec PyProof.Rows L2
section
variable{K:W.Frag}{mg:Qa}{X:Cx}{ES:L2.St->XK}{a b c:Expr}{F G M:ME}{pos p2:Pos}{ρ:List Addr}{H:Hp}{h:AH}{ae:AE}{σ:L2.St}
end
section
variable{K:W.Frag}{mg:Qa}{X:Cx}{ES:L2.St->XK}{e o i t1 t2:Expr}{pos p2:Pos}{j a b:Nat}
end
section
variable{P P':Nat->Prop}{h h':AH}{k:List Val->Bool}
end
section
variable{X:Nat->Prop}{h0 L:Nat}{ns:Ns}{e:E3}{ae:AE}{h:AH}{ms:List Bool}{ts:List Tm}{ds:List D}{vs:List Val}{S2:Fn}{G3:Fn3}{r:Rt}{mv:List Val}
end
section
variable{K:W.Frag}{mg:Qa}{X:Cx}{ES:L2.St->XK}{e:Expr}{es:List Expr}{pos:Pos}{A:PAs}
end
section
variable{K:W.Frag}{mg:Qa}{X:Cx}{ES:L2.St->XK}{tg a b c:Expr}{p pos:Pos}{A:PAs}
end
end L3
namespace L3
open PySem PySem.W PySem.Spec PyProof.Rows L2
section
variable{K:W.Frag}{mg:Qa}{X:Cx}{ES:L2.St->XK}{a:Expr}{p:PEx}{iW:Nat}{c P:Addr}{q1 q2 q6 q7 q8 q9 p0 p1 p2 p3 p4 p5 p6:Pos}
end
def LamF(K:Frag)(mg:Qa)(x:Str):Prop:=x∈kB/\(∀y∈kB,y≠x->mg y=none)/\∀f oc od fd sl,mg x=some (.ref f)->K.lookup f=some ⟨oc,od,.func fd,sl⟩->∃c P,fd.code=.ref c/\codeHdIn K c P=true
noncomputable def wa(K:Frag)(a:Addr):Option (Addr×Addr):=match K.lookup a with
 |some ⟨_,_,.func fd,_⟩=>(match fd.code with
  |.ref c=>(match K.lookup c with
   |some ⟨_,_,.fields vs,_⟩=>(match (vs[11]?:Option Value) with
    |some (.ref P)=>if codeHdIn K c P=true then some (c,P) else none
    |_=>none)
   |_=>none)
  |_=>none)
 |_=>none
noncomputable def lamB(K:Frag)(x:Str):Bool:=kB.contains x&&(kB.all (λy=>y==x || oW K y)&&(gE K x&&(wa K (adr K x)).isSome))
noncomputable def Li(K:Frag)(ts:List Addr):Bool:=kB.all λx=>oW K x || (gE K x&&(match wa K (adr K x) with
 |some (_,P)=>ts.contains P
 |none=>false))
noncomputable def Ci(K:Frag)(ts:List Addr):Bool:=ts.all λP=>(K.lookup P).isNone&&K.any λp=>codeHdIn K p.1 P
def uk{K:Frag}{a c P:Addr}(e:wa K a=some (c,P)):∃oc od fd sl,K.lookup a=some ⟨oc,od,.func fd,sl⟩/\fd.code=.ref c/\codeHdIn K c P=true:=by
 unfold wa at e;split at e
 .rename_i oc od fd sl h1;split at e
  .rename_i c' h2;split at e
   .split at e
    .split at e
     .rename_i h3;cases e;exact⟨_,_,fd,_,h1,h2,h3⟩
     .cases e
    .cases e
   .cases e
  .cases e
 .cases e
def Kt{K:Frag}{c P P':Addr}(h:codeHdIn K c P=true)(h':codeHdIn K c P'=true):P=P':=by
 unfold codeHdIn at h h';split at h
 .rename_i vs hk;rw[hk] at h';simp only[r_] at h h';have a:=h.1.1.1.1.1;have b:=h'.1.1.1.1.1;split at a
  .rename_i x hx;rw[hx] at b;rw[N5] at a b;exact a.symm.trans b
  .cases a
 .cases h
section
variable{K:Frag}{h:Heap}{mg:Qa}(X:K.In h)(G:h.Ns mainGlobals mg)
include X G
def F2{x:Str}(e:lamB K x=true):LamF K mg x:=by
 simp only[lamB,r_,M_,Ph] at e;obtain⟨e1,e2,e3,e4⟩:=e;refine⟨N9.mp e1,λy hy hne=>?_,λf oc od fd sl m lk=>?_⟩
 .rcases e2 y hy with z |z
  .exact absurd (N5.mp z) hne
  .exact vJ X G z
 .obtain⟨⟨c,P⟩,ec⟩:=Ov.mp e4;obtain⟨oc',od',fd',sl',l1,l2,l3⟩:=uk ec;have m':=jU X G e3;rw[m] at m';cases m';rw[lk] at l1;cases l1;exact⟨c,P,l2,l3⟩
def HI{ts:List Addr}(e:Li K ts=true)(P:Addr)(q:Str)(l:wm K mg P q):P∈ts:=by
 obtain⟨x,f,oc,od,fd,sl,c,a1,a2,a3,a4,a5,a6,_⟩:=l;have z:=M_.mp e x a1;rw[Ph] at z;rcases z with z |z
 .have:=vJ X G z
  rw[a3] at this;cases this
 .rw[r_] at z;obtain⟨z1,z2⟩:=z;have m':=jU X G z1;rw[a3] at m';cases m';split at z2
  .rename_i c' P' ec;obtain⟨oc',od',fd',sl',l1,l2,l3⟩:=uk ec;rw[a4] at l1;cases l1;rw[a5] at l2;cases l2;rw[Kt a6 l3];exact N9.mp z2
  .cases z2
end
def Fc{K:Frag}{ts:List Addr}{h:Heap}(e:Ci K ts=true)(a:∀P∈ts,h.get? P=some (tabObj #[])):TabsOk K ts h:=by
 simp only[Ci,M_,r_,List.any_eq_true] at e;refine⟨a,λP hP=>?_,λP hP=>?_⟩
 .have:=(e P hP).1
  rw[Option.isNone_iff_eq_none] at this;exact this
 .obtain⟨p,_,q⟩:=(e P hP).2;exact⟨p.1,q⟩
structure TyL(b:Tb)(top:Nat->Stmt)(ds:List Nat)(K:Frag)(mg:Qa):Prop extends Ty b top ds K mg where
 l:LamF K mg "by_falling_weights"
section
variable{K:W.Frag}{mg:Qa}{P:Program}{w:World}{base:Heap}{fx:Str}{ii:Stmt}{k n m:Nat}{ps N:List Str}{ms:List Bool}{x:PSt}
end
end L3
namespace L3
open PySem PySem.Spec PyProof.Rows L2
def jh:List Val->Bv:=λvs=>match vs with
 | [.lst us]=>match eJ us with
  |some ns=>if ns.length<64 then .new (.lst ((srI ns).reverse.map .int)) else .stuck
  |none=>.stuck
 |_=>.stuck
def AK:RFn gR jh:=λP h ds vs r=>by
 unfold jh;split
 .obtain⟨d,hd,r1⟩:=cT r;subst hd;split
  .rename_i ns q;split
   .rename_i hb;obtain⟨n,es,rfl,g1,_,g2⟩:=ShR.lst r1;refine⟨.lst ((srI ns).reverse.map D.int),?_,trivial,.lst (ku _)⟩;unfold gR lsD aL;dsimp only;rw[g1];dsimp only;rw[nD g2 q];dsimp only;rw[if_pos hb]
   .trivial
  .trivial
 .trivial
noncomputable def mL:PBf:=⟨gR,jh,AK⟩
def Eg(ns:List Int)(h:ns.length<64):mL.G [.lst (ns.map .int)]=.new (.lst ((srI ns).reverse.map .int)):=by show jh [.lst (ns.map .int)]=_;unfold jh;dsimp only;rw[c7];dsimp only;rw[if_pos h]
def Bb:List Val->Bv:=λvs=>match vs with
 | [.int j]=>if 0<=j/\j<=1000000 then .val (.tup (rgV j.toNat)) else .stuck
 |_=>.stuck
def Gw:RFn qJ Bb:=λP h ds vs r=>by
 unfold Bb;split
 .obtain⟨d,hd,rr1⟩:=cT r;subst hd;split
  .rename_i j hb;have e:=rr1.int;subst e;refine⟨.tup (Bl j),by unfold qJ;dsimp only;rw[if_pos hb],.tup ?_⟩;unfold Bl rgV;generalize List.range j.toNat=l;induction l with
   |nil=>exact .nil
   |cons i l ih=>exact .cons (.int _) ih
  .trivial
 .trivial
noncomputable def oJ:PBf:=⟨qJ,Bb,Gw⟩
def NH{j:Int}(h:0<=j/\j<=1000000):oJ.G [.int j]=.val (.tup (rgV j.toNat)):=if_pos h
section
variable{K:W.Frag}{mg:Qa}{X:Cx}{ES:L2.St->XK}{a:Expr}{A:PAs}{pos q1 q2 q8 q9 p1 p2 pc:Pos}{kc:Nat}
def Km(hc:X.calm=true)(hl:Gl X "tuple")(hml:mg "tuple"=none)(hg:Gl X "range")(hm:mg "range"=none)(ha:DA K mg X ES [a] A.F)(hk:X.mg=mg:=by rfl)(hs:starEach [a] X.env=[(false,eval a X.env)]:=by rfl)
 (hs1:starEach [.Call (.Name "range" p2) [a] [] q2] X.env=[(false,eval (.Call (.Name "range" p2) [a] [] q2) X.env)]:=by rfl):
 DE K mg X ES (.Call (.Name "tuple" p1) [.Call (.Name "range" p2) [a] [] q2] [] pos) (pFn oJ A).F:=by with_unfolding_all exact FV hc hl hml hg hm ha hk hs hs1
def Fg(hl:Gl X "sorted")(hml:mg "sorted"=none)(ha:DA K mg X ES [a] A.F)(hK:X.K=K:=by rfl)(hk:X.mg=mg:=by rfl)(hs:starEach [a] X.env=[(false,eval a X.env)]:=by rfl):
 DE K mg X ES (.Call (.Name "sorted" q1) [a] [⟨some "reverse",.Constant (.bool true) kc pc,q8⟩] q9) (pFn mL A).F:=by with_unfolding_all exact DM hl hml ha hK hk hs
end
end L3
namespace Wb
open L2
noncomputable def lc(qs:List Rat)(c:Nat):Nat:=qs.foldl (λc q=>Nat.lcm c q.den) c
noncomputable def gc(ws:List Int)(g:Nat):Nat:=ws.foldl (λg w=>Int.gcd (g:Int) w) g
noncomputable def wh(L:Nat)(qs:List Rat):List Int:=qs.map λq=>q.num*((L/q.den:Nat):Int)
noncomputable def ws(qs:List Rat):List Int:=wh (lc qs 1) qs
def dv(qs:List Rat):Nat:=gc (ws qs) 0
end Wb
namespace L3
open PySem L2
def aC(b:Bx):Rat:=if b.w<b.h then b.h/b.w else b.w/b.h
noncomputable def shL(s l:Rat)(W:Int):Int->List Int->List (Rat×Rat)
 |_,[]=>[]
 |a,w::ws=>(s+l*((a:Rat)/(W:Rat)),l*((w:Rat)/(W:Rat)))::shL s l W (a+w) ws
theorem gW(s l:Rat)(W:Int):∀(ws:List Int) (a:Int),(shL s l W a ws).length=ws.length
 | [],_=>rfl
 |w::ws,a=>by unfold shL;rw[B_,B_,gW s l W ws (a+w)]
noncomputable def aq(b:Bx)(way:Str)(ws:List Int):List Bx:=if way="across" then (shL b.l b.w ws.sum 0 ws).map λp=>⟨p.1,b.t,p.2,b.h⟩ else (shL b.t b.h ws.sum 0 ws).map λp=>⟨b.l,p.1,b.w,p.2⟩
theorem jr:∀{l:List Int},(∀w∈l,1<=w)->(l.length:Int)<=l.sum
 | [],_=>by simp
 |
  x::l,h=>by
  rw[N1,B_]
  have:=h x (m_ ..)
  have:=jr (l:=l) λw hw=>h w (l_ _ hw)
  omega
theorem ua:∀(ws:List Int) (a:Int),0<=a->(∀w∈ws,1<=w)->a+ws.sum<=W->p∈shL s l W a ws->∃a' w:Int,0<=a'/\a'<=W/\1<=w/\w<=W/\p=(s+l*((a':Rat)/(W:Rat)),l*((w:Rat)/(W:Rat)))
 | [],_,_,_,_,h=>nomatch h
 |
  w::ws,a,ha,hw,hs,h=>by
  have h1:=hw w (m_ ..);have h2:=jr (l:=ws) λx hx=>hw x (l_ _ hx);rw[N1] at hs;unfold shL at h;rcases E_.mp h with rfl |h
  .exact⟨a,w,ha,by omega,h1,by omega,rfl⟩
  .exact ua ws (a+w) (by omega) (λx hx=>hw x (l_ _ hx)) (by omega) h
noncomputable def liV(l:List Int):Val:=.lst (l.map .int)
noncomputable def wsAt(ws:List Int)(i:Int):Int:=ws.getD i.toNat 0
def wt(ws l:List Int):Int:=(l.map (wsAt ws)).sum
def mx(x y:Rat):Rat:=if x<y then y else x
end L3
namespace L3
open PySem PySem.Spec PyProof.Rows L2
inductive AT where
 |lf (k:Nat)
 |nd (w:Bool) (ts:List AT)
noncomputable def wy(w:Bool):Str:=if w=true then "across" else "down"
def AT.ind{P:AT->Prop}(h1:∀k,P (.lf k))(h2:∀w ts,(∀t∈ts,P t)->P (.nd w ts))(t:AT):P t:=
 @AT.rec P (λts=>∀t∈ts,P t) h1 (λw ts ih=>h2 w ts ih) (λt h=>nomatch h) (λt ts i1 i2 u hu=>by
  rcases E_.mp hu with rfl |hu
  .exact i1
  .exact i2 u hu) t
mutual
def AT.val(f:Nat->Val):AT->Val
 |.lf k=>f k
 |.nd w ts=>.tup [.str (wy w),.tup (AT.vals f ts)]
def AT.vals(f:Nat->Val):List AT->List Val
 | []=>[]
 |t::ts=>AT.val f t::AT.vals f ts
end
mutual
def AT.lvs:AT->List Nat
 |.lf k=>[k]
 |.nd _ ts=>AT.lvsL ts
def AT.lvsL:List AT->List Nat
 | []=>[]
 |t::ts=>AT.lvs t++AT.lvsL ts
end
mutual
def AT.dep:AT->Nat
 |.lf _=>1
 |.nd _ ts=>AT.depL ts+1
def AT.depL:List AT->Nat
 | []=>0
 |t::ts=>max (AT.dep t) (AT.depL ts)
end
mutual
def AT.ok:AT->Bool
 |.lf _=>true
 |.nd _ ts=>decide (2<=ts.length)&&AT.okL ts
def AT.okL:List AT->Bool
 | []=>true
 |t::ts=>AT.ok t&&AT.okL ts
end
theorem AT.vals_map(f:Nat->Val):∀ts,AT.vals f ts=ts.map (AT.val f)
 | []=>rfl
 |t::ts=>by rw[AT.vals,AT.vals_map f ts];rfl
theorem AT.lvsL_mem:∀{ts:List AT},x∈AT.lvsL ts ↔ ∃t∈ts,x∈t.lvs
 | []=>by simp [AT.lvsL]
 |t::ts=>by rw[AT.lvsL,Ot,AT.lvsL_mem (ts:=ts)];simp
theorem AT.lvsL_flat:∀ts:List AT,AT.lvsL ts=(ts.map AT.lvs).flatten
 | []=>rfl
 |t::ts=>by rw[AT.lvsL,AT.lvsL_flat ts];rfl
theorem AT.depL_le:∀{ts:List AT},AT.depL ts<=m ↔ ∀t∈ts,t.dep<=m
 | []=>by simp [AT.depL]
 |t::ts=>by rw[AT.depL,Nat.max_le,AT.depL_le (ts:=ts)];simp
theorem AT.okL_mem:∀{ts:List AT},AT.okL ts=true ↔ ∀t∈ts,t.ok=true
 | []=>by simp [AT.okL]
 |t::ts=>by rw[AT.okL,r_,AT.okL_mem (ts:=ts)];simp
def tI{t:AT}(h:t.ok=true):1<=t.lvs.length:=by
 induction t using AT.ind with
 |h1 k=>simp [AT.lvs]
 |
  h2 w ts ih=>
  rw[AT.ok,r_] at h;cases ts with
  |nil=>exact absurd h.1 (by decide)
  |
   cons t ts=>
   have:=ih t (m_ ..) (AT.okL_mem.mp h.2 t (m_ ..))
   rw[AT.lvs,AT.lvsL,u_];omega
theorem qS{α β:Type}{f:α->List β}:∀{l:List α},(∀a∈l,1<=(f a).length)->l.length<=((l.map f).flatten).length
 | [],_=>n_ _
 |
  a::l,h=>by
  have h1:=h a (m_ ..);have h2:=qS (l:=l) λb hb=>h b (l_ _ hb);rw[o_,List.flatten_cons,u_,B_];omega
noncomputable def lfV:Val->Bool
 |.int _=>true
 |.str _=>true
 |_=>false
theorem tJ:∀{vs:List Val},(∀v∈vs,wfV k v=true)->d4 k vs=true
 | [],_=>rfl
 |
  v::vs,h=>by
  show (wfV k v&&d4 k vs)=true;rw[h v (m_ ..),tJ λu hu=>h u (l_ _ hu)];rfl
def vD(v:Val)(l:List Val):atI (v::l) 0=some v:=dn (by decide) rfl
noncomputable def inB(x:Nat)(t:AT):Bool:=decide (x∈t.lvs)
structure TOk(t:AT)(l:List Nat):Prop where
 ok:t.ok=true
 mem:∀k,k∈t.lvs ↔ k∈l
 dep:t.dep<=l.length
 len:t.lvs.length=l.length
noncomputable def atV(t:AT):Val:=t.val λk=>.int (k:Nat)
mutual
def AT.cnt:AT->Nat
 |.lf _=>1
 |.nd _ ts=>AT.cntL ts+1
def AT.cntL:List AT->Nat
 | []=>0
 |t::ts=>AT.cnt t+AT.cntL ts
end
theorem AT.cntL_app:∀(a b:List AT),AT.cntL (a++b)=AT.cntL a+AT.cntL b
 | [],b=>by simp [AT.cntL]
 |t::a,b=>by rw[List.cons_append,AT.cntL,AT.cntL,AT.cntL_app a b];omega
theorem AT.lvsL_app:∀(a b:List AT),AT.lvsL (a++b)=AT.lvsL a++AT.lvsL b
 | [],b=>by simp [AT.lvsL]
 |t::a,b=>by rw[List.cons_append,AT.lvsL,AT.lvsL,AT.lvsL_app a b,OI]
def lN(xs:List Val)(x:Val):oz.G (.lst (xs++[x])) []=some (.lst xs,x):=by show pE (.lst (xs++[x])) []=_;unfold pE;dsimp only;rw[u_,O8,Nat.add_sub_cancel,NX (n_ _),Pa,List.dropLast_concat];rfl
theorem AT.cnt_le:∀{ts:List AT}{t:AT},t∈ts->t.cnt<=AT.cntL ts
 | [],t,h=>nomatch h
 |
  u::ts,t,h=>by
  rw[AT.cntL];rcases E_.mp h with rfl |h
  .omega
  .have:=AT.cnt_le h;omega
def AT.lvs_le(h:t∈ts):t.lvs.length<=(AT.lvsL ts).length:=by rw[AT.lvsL_flat];exact List.Sublist.length_le (List.sublist_flatten_of_mem (List.mem_map_of_mem (f:=AT.lvs) h))
noncomputable def wtA(ws:List Int)(l:List Nat):Int:=(l.map λk=>ws.getD k 0).sum
noncomputable def wtT(ws:List Int)(t:AT):Int:=wtA ws t.lvs
mutual
def AT.bx(ws:List Int):AT->Bx->List (Nat×Bx)
 |.lf k,b=>[(k,b)]
 |.nd w ts,b=>AT.bxL ws ts (aq b (wy w) (ts.map (wtT ws)))
def AT.bxL(ws:List Int):List AT->List Bx->List (Nat×Bx)
 |t::ts,b::bs=>AT.bx ws t b++AT.bxL ws ts bs
 |_,_=>[]
end
mutual
def AT.lay(ws:List Int)(n m:Nat):AT->Bx->Prop
 |.lf _,_=>True
 |.nd w ts,b=>b.Ok/\b.Sz n/\ts≠[]/\ts.length<=40/\(∀t∈ts,1<=wtT ws t)/\Sm m (ts.map (wtT ws)).sum/\AT.layL ws n m ts (aq b (wy w) (ts.map (wtT ws)))
def AT.layL(ws:List Int)(n m:Nat):List AT->List Bx->Prop
 |t::ts,b::bs=>AT.lay ws n m t b/\AT.layL ws n m ts bs
 |_,_=>True
end
noncomputable def cm(kvs:List (Key×Val))(l:List (Nat×Bx)):List (Key×Val):=l.foldl (λkvs p=>cz kvs (.inl (p.1:Nat)) (bV p.2)) kvs
def AN(kvs:List (Key×Val))(a b:List (Nat×Bx)):cm kvs (a++b)=cm (cm kvs a) b:=by unfold cm;rw[List.foldl_append]
def BG(h:a.Perm b):wtA ws a=wtA ws b:=by
 unfold wtA;induction h with
 |nil=>rfl
 |cons x _ ih=>rw[o_,o_,N1,N1,ih]
 |swap x y l=>simp only[o_,N1];omega
 |trans _ _ h1 h2=>rw[h1,h2]
theorem rR(ws:List Int):∀ts:List AT,wtA ws (AT.lvsL ts)=(ts.map (wtT ws)).sum
 | []=>rfl
 |
  t::ts=>by
  rw[AT.lvsL,o_,N1,<- rR ws ts];unfold wtT wtA;rw[N0,List.sum_append]
def B2(kvs:List (Key×Val))(k:Key)(v:Val):(cz kvs k v).length<=kvs.length+1:=by
 unfold cz;split
 .rw[k_];omega
 .rw[u_];exact n_ _
theorem rb:∀(l:List (Nat×Bx)) (kvs:List (Key×Val)),(cm kvs l).length<=kvs.length+l.length
 | [],kvs=>n_ _
 |
  p::l,kvs=>by
  have h1:=B2 kvs (.inl (p.1:Nat)) (bV p.2);have h2:=rb l (cz kvs (.inl (p.1:Nat)) (bV p.2));unfold cm at h2 ⊢;rw[List.foldl_cons,B_];omega
def AT.bx_fst(ws:List Int)(t:AT):∀b,(AT.bx ws t b).length<=t.lvs.length/\∀p∈AT.bx ws t b,p.1∈t.lvs:=by
 induction t using AT.ind with
 |h1 k=>intro b;simp [AT.bx,AT.lvs]
 |
  h2 w ts ih=>
  intro b;rw[AT.bx,AT.lvs];generalize aq b (wy w) (ts.map (wtT ws))=bs;induction ts generalizing bs with
  |nil=>simp [AT.bxL]
  |
   cons t ts ih2=>
   cases bs with
   |nil=>simp [AT.bxL]
   |
    cons b bs=>
    obtain⟨h1,h2⟩:=ih t (m_ ..) b;obtain⟨h3,h4⟩:=ih2 (λu hu=>ih u (l_ _ hu)) bs;rw[AT.bxL,AT.lvsL,u_,u_];refine⟨by omega,λp hp=>?_⟩;rcases Ot.mp hp with hp |hp
    .exact PV _ (h2 p hp)
    .exact NZ _ (h4 p hp)
def xi(kvs:List (Key×Val))(k k':Key)(v:Val):lkD (cz kvs k v) k'=if k=k' then some v else lkD kvs k':=by
 unfold cz;induction kvs with
 |
  nil=>
  rw[if_neg (by simp)];unfold lkD;by_cases h:k=k'
  .simp [h]
  .simp [h]
 |
  cons p kvs ih=>
  obtain⟨pk,pv⟩:=p;by_cases hp:pk=k
  .subst
    hp
   rw[if_pos (by simp)];by_cases h:pk=k'
   .subst h;simp [lkD]
   .rw[if_neg h];rw[if_neg h] at ih;simp only[o_,OW];unfold lkD;simp only[Od,z_ h];by_cases ha:(kvs.any λkv=>decide (kv.1=pk))=true
    .rw[if_pos ha] at ih;unfold lkD at ih;exact ih
    .have:(kvs.map λkv=>if kv.1=pk then (kv.1,v) else kv)=kvs:=by
      conv=>rhs;rw[<- List.map_id kvs]
      refine List.map_congr_left λq hq=>?_;rw[if_neg]
      .rfl
      .intro z;exact ha (List.any_eq_true.mpr ⟨q,hq,D_ z⟩)
     rw[this]
  .by_cases ha:(kvs.any λkv=>decide (kv.1=k))=true
   .rw[if_pos ha] at ih;rw[if_pos (by rw[Ox,ha,Bool.or_true])];simp only[o_,if_neg hp];by_cases h:pk=k'
    .subst h;rw[if_neg (λz=>hp z.symm)];simp [lkD]
    .unfold lkD at ih ⊢;simp only[Od,z_ h];exact ih
   .rw[if_neg ha] at ih;rw[if_neg (by rw[Ox,z_ hp,Bool.false_or];exact ha)];rw[List.cons_append];by_cases h:pk=k'
    .subst h;rw[if_neg (λz=>hp z.symm)];simp [lkD]
    .unfold lkD at ih ⊢;simp only[Od,z_ h];exact ih
noncomputable def bxO(l:List (Nat×Bx))(k:Nat):Bx:=((l.find? λp=>p.1==k).map (·.2)).getD ⟨0,0,0,0⟩
theorem tK:∀(l:List (Nat×Bx)) (kvs:List (Key×Val)),(l.map (·.1)).Nodup->(k∈l.map (·.1)->lkD (cm kvs l) (.inl (k:Nat))=some (bV (bxO l k)))/\(k∉l.map (·.1)->lkD (cm kvs l) (.inl (k:Nat))=lkD kvs (.inl (k:Nat)))
 | [],kvs,_=>⟨(λh=>nomatch h),λ_=>rfl⟩
 |
  p::l,kvs,nd=>by
  rw[o_,O2] at nd;obtain⟨h1,h2⟩:=tK (k:=k) l (cz kvs (.inl (p.1:Nat)) (bV p.2)) nd.2;have e:cm kvs (p::l)=cm (cz kvs (.inl (p.1:Nat)) (bV p.2)) l:=rfl;rw[e];by_cases hp:p.1=k
  .have hk:k∉l.map (·.1):=hp ▸ nd.1;rw[h2 hk,xi,if_pos (by rw[hp])];refine⟨λ_=>?_,λz=>absurd (by rw[o_,hp];exact m_ ..) z⟩;unfold bxO;rw[Od];simp [hp]
  .have hk:k∈(p::l).map (·.1) ↔ k∈l.map (·.1):=by rw[o_,E_];exact⟨λz=>z.resolve_left (λy=>hp y.symm),.inr⟩
   have hb:bxO (p::l) k=bxO l k:=by unfold bxO;rw[List.find?_cons_of_neg (by simpa using hp)]
   rw[hk,hb];refine⟨h1,λz=>?_⟩;rw[h2 z,xi,if_neg];intro y;injection y with y;exact hp (Int.ofNat.inj y)
def jo(b:Bx)(way:Str)(ws:List Int):(aq b way ws).length=ws.length:=by unfold aq;split <;> rw[k_,gW]
def AT.bx_keys(ws:List Int)(t:AT):∀b,(AT.bx ws t b).map (·.1)=t.lvs:=by
 induction t using AT.ind with
 |h1 k=>intro b;rw[AT.bx,AT.lvs];rfl
 |
  h2 w ts ih=>
  intro b;rw[AT.bx,AT.lvs];have hl:(aq b (wy w) (ts.map (wtT ws))).length=ts.length:=by rw[jo,k_]
  generalize aq b (wy w) (ts.map (wtT ws))=bs at *;induction ts generalizing bs with
  |nil=>cases bs <;> rfl
  |
   cons t ts ih2=>
   cases bs with
   |nil=>exact nomatch hl
   |cons b bs=>rw[AT.bxL,AT.lvsL,N0,ih t (m_ ..) b,ih2 (λu hu=>ih u (l_ _ hu)) bs (by simpa using hl)]
def AT.cnt_lvs(t:AT)(h:t.ok=true):t.cnt+1<=2*t.lvs.length:=by
 induction t using AT.ind with
 |h1 k=>simp [AT.cnt,AT.lvs]
 |
  h2 w ts ih=>
  rw[AT.ok,r_] at h;have hk:=AT.okL_mem.mp h.2;have h2:2<=ts.length:=O6 h.1;rw[AT.cnt,AT.lvs];have:∀ts:List AT,(∀t∈ts,t.cnt+1<=2*t.lvs.length)->AT.cntL ts+ts.length<=2*(AT.lvsL ts).length:=by
   intro ts;induction ts with
   |nil=>intro _;simp [AT.cntL,AT.lvsL]
   |cons t ts ih=>intro h;have h1:=h t (m_ ..);have h2:=ih λu hu=>h u (l_ _ hu);rw[AT.cntL,AT.lvsL,u_,B_];omega
  have:=this ts λt ht=>ih t ht (hk t ht)
  omega
structure Rp(D A B:Nat)(b:Bx):Prop where
 pos:0<D
 l:∃z:Int,b.l=(z:Rat)/((D:Int):Rat)/\z.natAbs<=A*D
 t:∃z:Int,b.t=(z:Rat)/((D:Int):Rat)/\z.natAbs<=A*D
 w:∃z:Int,b.w=(z:Rat)/((D:Int):Rat)/\0<z/\z<=B*D
 h:∃z:Int,b.h=(z:Rat)/((D:Int):Rat)/\0<z/\z<=B*D
def Mk(x y a D W:Rat)(h1:D≠0)(h2:W≠0):x/D+(y/D)*(a/W)=(x*W+y*a)/(D*W):=by grind
def Ni(y a D W:Rat)(h1:D≠0)(h2:W≠0):(y/D)*(a/W)=(y*a)/(D*W):=by grind
def LY(y D W:Rat)(h1:D≠0)(h2:W≠0):y/D=(y*W)/(D*W):=by grind
def jM{z:Int}(h:z≠0):(z:Rat)≠0:=λe=>h (Rat.intCast_inj.mp e)
def Cs{x y a W:Int}{D A B:Nat}(hD:0<D)(hx:x.natAbs<=A*D)(hy:0<y/\y<=B*D)(ha:0<=a/\a<=W)(hW:0<W):∃z:Int,(x:Rat)/((D:Int):Rat)+((y:Rat)/((D:Int):Rat))*((a:Rat)/(W:Rat))=(z:Rat)/(((D*W.toNat:Nat):Int):Rat)/\z.natAbs<=(A+B)*(D*W.toNat):=by
 obtain⟨V,rfl⟩:∃V:Nat,W=V:=⟨W.toNat,by omega⟩;refine⟨x*V+y*a,?_,?_⟩
 .rw[Mk _ _ _ _ _ (jM (by omega)) (jM (by omega))];congr 1
  .rw[Rat.intCast_add,N8,N8]
  .rw[Of,OP,N8]
 .rw[Of];have h1:(x*(V:Int)).natAbs<=A*D*V:=by rw[Oo];exact N4 hx (n_ _)
  have h2:(y*a).natAbs<=B*D*V:=by
   rw[Oo];refine N4 ?_ (by omega)
   have:=hy.2
   omega
  have h3:=Int.natAbs_add_le (x*V) (y*a);rw[Nat.add_mul,<- PF,<- PF];omega
def Cu{y a W:Int}{D B:Nat}(hD:0<D)(hy:0<y/\y<=B*D)(ha:1<=a/\a<=W):∃z:Int,((y:Rat)/((D:Int):Rat))*((a:Rat)/(W:Rat))=(z:Rat)/(((D*W.toNat:Nat):Int):Rat)/\0<z/\z<=((B:Nat):Int)*((D*W.toNat:Nat):Int):=by
 obtain⟨V,rfl⟩:∃V:Nat,W=V:=⟨W.toNat,by omega⟩;refine⟨y*a,?_,Pz hy.1 (by omega),?_⟩
 .rw[Ni _ _ _ _ (jM (by omega)) (jM (by omega))];congr 1
  .rw[N8]
  .rw[Of,OP,N8]
 .rw[Of,OP,<- Ow];exact Int.mul_le_mul hy.2 ha.2 (by omega) (Int.le_trans (Int.le_of_lt hy.1) hy.2)
def l6{y W:Int}{D:Nat}(hD:0<D)(hW:0<W):(y:Rat)/((D:Int):Rat)=((y*W:Int):Rat)/(((D*W.toNat:Nat):Int):Rat):=by obtain⟨V,rfl⟩:∃V:Nat,W=V:=⟨W.toNat,by omega⟩;rw[LY _ _ _ (jM (show ((D:Nat):Int)≠0 by omega)) (jM (show ((V:Nat):Int)≠0 by omega)),N8,Of,OP,N8]
def xD{z W:Int}{D A B:Nat}(hz:z.natAbs<=A*D)(hW:0<W):(z*W).natAbs<=(A+B)*(D*W.toNat):=by rw[Oo,<- PF];refine N4 ?_ (by omega);rw[Nat.add_mul];omega
def x6{z W:Int}{D B:Nat}(hz:0<z/\z<=B*D)(hW:0<W):0<z*W/\z*W<=((B:Nat):Int)*((D*W.toNat:Nat):Int):=by refine⟨Pz hz.1 hW,?_⟩;rw[OP,<- Ow,Int.toNat_of_nonneg (by omega)];exact Int.mul_le_mul_of_nonneg_right hz.2 (by omega)
def Rp.parts{D A B:Nat}{b b':Bx}{way:Str}{ws:List Int}(r:Rp D A B b)(hw:∀w∈ws,1<=w)(h:b'∈aq b way ws):Rp (D*ws.sum.toNat) (A+B) B b':=by
 obtain⟨pos,⟨zl,el,bl⟩,⟨zt,et,bt⟩,⟨zw,ew,bw⟩,⟨zh,eh,bh⟩⟩:=r;have key:∀p:Rat×Rat,∀s l:Rat,p∈shL s l ws.sum 0 ws->0<ws.sum/\∃a' w:Int,0<=a'/\a'<=ws.sum/\1<=w/\w<=ws.sum/\p=(s+l*((a':Rat)/(ws.sum:Rat)),l*((w:Rat)/(ws.sum:Rat))):=λp s l hp=>by obtain⟨a',w,h1,h2,h3,h4,h5⟩:=ua ws 0 (by omega) hw (by omega) hp;exact⟨by omega,a',w,h1,h2,h3,h4,h5⟩
 unfold aq at h;split at h
 .obtain⟨p,hp,rfl⟩:=Og.mp h;obtain⟨hS,a',w,h1,h2,h3,h4,rfl⟩:=key p _ _ hp;have hV:0<D*ws.sum.toNat:=OH pos (by omega);refine⟨hV,?_,⟨zt*ws.sum,by show b.t=_;rw[et];exact l6 pos hS,xD bt hS⟩,?_,⟨zh*ws.sum,by show b.h=_;rw[eh];exact l6 pos hS,x6 bh hS⟩⟩
  .show ∃z:Int,b.l+b.w*_=_/\_;rw[el,ew];exact Cs pos bl bw ⟨h1,h2⟩ hS
  .show ∃z:Int,b.w*_=_/\_;rw[ew];exact Cu pos bw ⟨h3,h4⟩
 .obtain⟨p,hp,rfl⟩:=Og.mp h;obtain⟨hS,a',w,h1,h2,h3,h4,rfl⟩:=key p _ _ hp;have hV:0<D*ws.sum.toNat:=OH pos (by omega);refine⟨hV,⟨zl*ws.sum,by show b.l=_;rw[el];exact l6 pos hS,xD bl hS⟩,?_,⟨zw*ws.sum,by show b.w=_;rw[ew];exact l6 pos hS,x6 bw hS⟩,?_⟩
  .show ∃z:Int,b.t+b.h*_=_/\_;rw[et,eh];exact Cs pos bt bh ⟨h1,h2⟩ hS
  .show ∃z:Int,b.h*_=_/\_;rw[eh];exact Cu pos bh ⟨h3,h4⟩
def Rp.ok{D A B:Nat}{b:Bx}(r:Rp D A B b):b.Ok:=by obtain⟨pos,_,_,⟨zw,ew,bw⟩,⟨zh,eh,bh⟩⟩:=r;exact⟨by rw[ew];exact f9 bw.1 (by omega),by rw[eh];exact f9 bh.1 (by omega)⟩
def Rp.sz{D A B n:Nat}{b:Bx}(r:Rp D A B b)(hA:A*D<2^n)(hB:B*D<2^n)(hD:D<2^n):b.Sz n:=by
 obtain⟨pos,⟨zl,el,bl⟩,⟨zt,et,bt⟩,⟨zw,ew,bw⟩,⟨zh,eh,bh⟩⟩:=r;have sD:Sm n ((D:Nat):Int):=by show ((D:Nat):Int).natAbs<2^n;omega
 have k:∀z:Int,z.natAbs<2^n->Sz n ((z:Rat)/((D:Int):Rat)):=λz hz=>Sz.div (by omega) hz sD n (n_ _) (n_ _);have hb:∀z:Int,0<z/\z<=B*D->z.natAbs<2^n:=λz hz=>by
  have h1:z<=((B*D:Nat):Int):=by rw[OP];exact hz.2
  omega
 exact⟨by rw[el];exact k zl (by omega),by rw[et];exact k zt (by omega),by rw[ew];exact k zw (hb zw bw),by rw[eh];exact k zh (hb zh bh)⟩
theorem mO{ws:List Int}:∀{l:List Nat},(∀k∈l,1<=ws.getD k 0)->(l.length:Int)<=wtA ws l
 | [],_=>by simp [wtA]
 |
  k::l,h=>by
  have h1:=h k (m_ ..);have h2:=mO (l:=l) λj hj=>h j (l_ _ hj);unfold wtA at h2 ⊢;rw[o_,N1,B_];omega
theorem uq{ws:List Int}{n m:Nat}:∀{ts:List AT}{bs:List Bx},(∀t∈ts,∀b∈bs,AT.lay ws n m t b)->AT.layL ws n m ts bs
 | [],_,_=>by rw[AT.layL];trivial;intro t ts b bs z;cases z
 |t::ts,[],_=>by rw[AT.layL];trivial;intro t ts b bs _ z;cases z
 |
  t::ts,b::bs,h=>by
  rw[AT.layL];exact⟨h t (m_ ..) b (m_ ..),uq λu hu c hc=>h u (l_ _ hu) c (l_ _ hc)⟩
def IZ{ws:List Int}{n m B:Nat}(t:AT):∀(b:Bx) (D A:Nat),Rp D A B b->B<=A->1<=A->(A+t.dep*B)*(D*2^(m*t.dep))<2^n->t.ok=true->(∀k∈t.lvs,1<=ws.getD k 0)->wtT ws t<2^m->t.lvs.length<=40->AT.lay ws n m t b:=by
 induction t using AT.ind with
 |h1 k=>intros;rw[AT.lay];trivial
 |
  h2 w ts ih=>
  intro b D A r hBA hA hn ho hw hm hl;have ho':=ho;rw[AT.ok,r_] at ho';have h2:2<=ts.length:=O6 ho'.1;have hk:=AT.okL_mem.mp ho'.2;rw[AT.lvs] at hw hl;have hws:∀t∈ts,∀k∈t.lvs,1<=ws.getD k 0:=λt ht k hk'=>hw k (AT.lvsL_mem.mpr ⟨t,ht,hk'⟩);have hone:∀t∈ts,1<=wtT ws t:=λt ht=>by have h1:=tI (hk t ht);have h2:=mO (hws t ht);unfold wtT;omega
  have hsum:wtT ws (.nd w ts)=(ts.map (wtT ws)).sum:=by unfold wtT;rw[AT.lvs];exact rR ws ts
  rw[hsum] at hm;have hpos:0<=(ts.map (wtT ws)).sum:=by
   rw[<- rR]
   have:=mO hw
   omega
  rw[AT.dep] at hn;generalize hq:AT.depL ts=q at *;have hD1:1<=2^(m*(q+1)):=Nat.one_le_two_pow;have hAle:A*D<=(A+(q+1)*B)*(D*2^(m*(q+1))):=N4 (by omega) (Nat.le_mul_of_pos_right _ hD1);have hDle:D<=A*D:=PC _ hA;have hBle:B*D<=A*D:=Oz _ hBA;have tl:ts.length<=40:=by rw[AT.lvsL_flat] at hl;have:ts.length<=((ts.map AT.lvs).flatten).length:=qS λt ht=>tI (hk t ht);omega
  rw[AT.lay];refine⟨r.ok,r.sz (by omega) (by omega) (by omega),λz=>by rw[z] at h2;simp at h2,tl,hone,by
   show (ts.map (wtT ws)).sum.natAbs<2^m;have:(((ts.map (wtT ws)).sum.natAbs:Nat):Int)<((2^m:Nat):Int):=by
    rw[Int.natAbs_of_nonneg hpos]
    push_cast
    exact hm
   omega,uq λt ht c hc=>?_⟩
  have rp:=r.parts (λx hx=>by obtain⟨u,hu,rfl⟩:=Og.mp hx;exact hone u hu) hc;have hdt:t.dep<=q:=by rw[<- hq];exact AT.depL_le.mp (n_ _) t ht
  have hS:(ts.map (wtT ws)).sum.toNat<=2^m:=by
   have:(((ts.map (wtT ws)).sum.toNat:Nat):Int)<((2^m:Nat):Int):=by
    rw[Int.toNat_of_nonneg hpos]
    push_cast
    exact hm
   omega
  refine ih t ht c _ (A+B) rp (by omega) (by omega) ?_ (hk t ht) (hws t ht) ?_ (by have:=AT.lvs_le ht;omega)
  .refine OE (N4 ?_ ?_) hn
   .have:t.dep*B<=q*B:=Oz _ hdt;rw[Nat.add_mul,Nat.one_mul];omega
   .rw[PF];refine OB _ ?_;have e:2^(m*(q+1))=2^m*2^(m*q):=by rw[<- ON];congr 1;rw[Nat.mul_add,Nat.mul_one,Nat.add_comm]
    rw[e];exact N4 hS (Oe (by decide) (OB _ hdt))
  .refine Int.lt_of_le_of_lt ?_ hm;have aux:∀us:List AT,(∀u∈us,0<=wtT ws u)->t∈us->wtT ws t<=(us.map (wtT ws)).sum:=by
    intro us;induction us with
    |nil=>intro _ h;exact nomatch h
    |
     cons u us ih=>
     intro h0 hm;have nn:∀us:List AT,(∀u∈us,0<=wtT ws u)->0<=(us.map (wtT ws)).sum:=by
      intro us;induction us with
      |nil=>intro _;simp
      |cons v us ih=>intro h;rw[o_,N1];have:=h v (m_ ..);have:=ih λu hu=>h u (l_ _ hu);omega
     rw[o_,N1];rcases E_.mp hm with rfl |hm
     .have:=nn us λu hu=>h0 u (l_ _ hu)
      omega
     .have h1:=ih (λu hu=>h0 u (l_ _ hu)) hm;have h2:=h0 u (m_ ..);omega
   exact aux ts (λu hu=>by have:=hone u hu;omega) ht
noncomputable def Be(b:Bx)(w:Bool)(W a x:Int):Bx:=if w=true then ⟨b.l+b.w*((a:Rat)/(W:Rat)),b.t,b.w*((x:Rat)/(W:Rat)),b.h⟩ else ⟨b.l,b.t+b.h*((a:Rat)/(W:Rat)),b.w,b.h*((x:Rat)/(W:Rat))⟩
noncomputable def frm(b:Bx)(w:Bool)(W:Int):Int->List Int->List Bx
 |_,[]=>[]
 |a,x::xs=>Be b w W a x::frm b w W (a+x) xs
def xy(b:Bx)(w:Bool)(xs:List Int):aq b (wy w) xs=frm b w xs.sum 0 xs:=by
 have key:∀(W:Int) (xs:List Int) (a:Int),(if wy w="across" then (shL b.l b.w W a xs).map λp=>(⟨p.1,b.t,p.2,b.h⟩:Bx) else (shL b.t b.h W a xs).map λp=>⟨b.l,p.1,b.w,p.2⟩)=frm b w W a xs:=by
  intro W xs;induction xs with
  |nil=>intro a;unfold shL frm;split <;> rfl
  |
   cons x xs ih=>
   intro a;rw[frm,<- ih,shL,shL];unfold Be;cases w with
   |true=>rw[if_pos (show wy true="across" from rfl),if_pos (show wy true="across" from rfl),if_pos rfl];rfl
   |
    false=>
    have hn:¬ (wy false="across"):=by decide
    rw[if_neg hn,if_neg hn,if_neg (by decide)];rfl
 exact key xs.sum xs 0
noncomputable def thN(xs:List Int):Nat->Nat->Nat
 |0,k=>k
 |f+1,k=>if 3*(xs.take k).sum<xs.sum then thN xs f (k+1) else k
def third(xs:List Int):Nat:=thN xs (xs.length-1) 1
end L3
namespace KK
open PySem PySem.Spec PyProof.Rows L2 L3
def top(i:Nat):Stmt:=PySem.Challenge.pw_weightrooms_k28_bounds_told.main.body.getD i (.Pass ⟨0,0,0,0⟩)
noncomputable def bN:iO:=[((.b "NoneType"),(.b "bool"),false),((.b "bool"),(.b "bool"),true),((.b "int"),(.b "bool"),false),((.b "str"),(.b "bool"),false),((.b "tuple"),(.b "bool"),false),((.b "list"),(.b "bool"),false),((.b "dict"),(.b "bool"),false),((.b "NoneType"),(.b "int"),false),((.b "bool"),(.b "int"),true),((.b "int"),(.b "int"),true),((.b "str"),(.b "int"),false),((.b "tuple"),(.b "int"),false),((.b "list"),(.b "int"),false),((.b "dict"),(.b "int"),false),((.b "NoneType"),(.b "list"),false),((.b "bool"),(.b "list"),false),((.b "int"),(.b "list"),false),((.b "str"),(.b "list"),false),((.b "tuple"),(.b "list"),false),((.b "list"),(.b "list"),true),((.b "dict"),(.b "list"),false),((.b "NoneType"),(.b "str"),false),((.b "bool"),(.b "str"),false),((.b "int"),(.b "str"),false),((.b "str"),(.b "str"),true),((.b "tuple"),(.b "str"),false),((.b "list"),(.b "str"),false),((.b "dict"),(.b "str"),false),((.b "NoneType"),(.b "tuple"),false),((.b "bool"),(.b "tuple"),false),((.b "int"),(.b "tuple"),false),((.b "str"),(.b "tuple"),false),((.b "tuple"),(.b "tuple"),true),((.b "list"),(.b "tuple"),false),((.b "dict"),(.b "tuple"),false)]
noncomputable def gY:D:=(.int 40)
noncomputable def uD:D:=(.tup [(.str "across"),(.str "down"),(.str "halves"),(.str "rows"),(.str "greatest"),(.str "thirds")])
noncomputable def ze:D:=(.tup [(.str "across"),(.str "down")])
abbrev tb:Tb:=⟨["NoFraction", "NoBox", "NoWay", "NoWeights", "TooMany", "NoTree", "NoRule"],["NoFraction", "NoBox", "NoWay", "NoWeights", "TooMany", "NoTree", "NoRule"],[],bN,[("MOST_WEIGHTS",gY),("RULES",uD),("WAYS",ze)]⟩
abbrev TT(K:W.Frag)(mg:Qa):Prop:=TyL tb top [10,11,12,13,14,15,16,17,18,22,23,24,25,27,28,29,30,31,32,35,36,43,44,45,46,47,48,49,52,53,54,55,56,57,62,63,64,66,67,68,69,70,71,72,73,75,76,77,78] K mg
section
variable{P:Program}{w:World}{K:W.Frag}{mg:Qa}{base:Heap}
noncomputable def gh:PEx:=kZ gY (.int 40) (λ_ _=>.int _)
def lb(e:E3):gh.G e=.ok (.val (.int 40)) e:=rfl
noncomputable def sk:PEx:=kZ uD (.tup [(.str "across"),(.str "down"),(.str "halves"),(.str "rows"),(.str "greatest"),(.str "thirds")]) (λ_ _=>.tup (.cons (.str _) (.cons (.str _) (.cons (.str _) (.cons (.str _) (.cons (.str _) (.cons (.str _) .nil)))))))
def B5(e:E3):sk.G e=.ok (.val (.tup [(.str "across"),(.str "down"),(.str "halves"),(.str "rows"),(.str "greatest"),(.str "thirds")])) e:=rfl
noncomputable def mT:PEx:=kZ ze (.tup [(.str "across"),(.str "down")]) (λ_ _=>.tup (.cons (.str _) (.cons (.str _) .nil)))
def DU(e:E3):mT.G e=.ok (.val (.tup [(.str "across"),(.str "down")])) e:=rfl
def dI(s:String):Lean.TSyntax `term:=⟨Lean.mkIdent (s.replace "%" "").toName⟩
def dA(f:String)(a:Lean.TSyntax `term):Lean.TSyntax `term:=Lean.Syntax.mkApp (dI f) #[a]
def dF:List (Lean.TSyntax `tactic)->Lean.MacroM (Lean.TSyntax `tactic)
 | []=>`(tactic|fail)
 |a::l=>do `(tactic|first | $a:tactic | $(<- dF l):tactic)
def dL(f:String->Lean.MacroM (Lean.TSyntax `tactic)):List String->Lean.MacroM (List (Lean.TSyntax `tactic))
 | []=>pure []
 |s::l=>do return (<- f s)::(<- dL f l)
set_option hygiene false in
def dQ(ap:String->Lean.TSyntax `term)(s:String):Lean.MacroM (Lean.TSyntax `tactic):=match (s.splitOn ";").map ap with
 | [d,c,a,b]=>`(tactic|((case d=>with_reducible exact $d);(case c=>exact $c);(case a=>exact $a);(case b=>exact $b)))
 |d::c::_=>`(tactic|((case d=>with_reducible exact $d);(case c=>exact $c)))
 |_=>`(tactic|fail)
set_option hygiene false in
def dR(ap:String->Lean.TSyntax `term)(g:String):Lean.MacroM (Lean.TSyntax `tactic):=match g.splitOn ":" with
 | [r]=>`(tactic|refine $(ap r))
 |r::l=>do `(tactic|(refine' $(ap r);$(<- dF (<- dL (dQ ap) l)):tactic))
 | []=>`(tactic|fail)
set_option hygiene false in
local macro_rules | `('d')=>do
 let h <- `(?_)
 let u <- `(_)
 let R:=dI "rfl"
 let qA <- `(?a)
 let qB <- `(?b)
 let qC <- `(?c)
 let qD <- `(?d)
 let qp <- `((λ_ _=>rfl))
 let ap:=λ(s:String)=>let w:=s.splitOn " ";Lean.Syntax.mkApp (dI (w.getD 0 "")) (((w.getD 1 "").toList.map λc=>([('1',dI "hr.u100"),('8',dI "hr.u180"),('A',qA),('B',qB),('C',qC),('D',qD),('K',dI "T.k"),('_',u),('b',dA "%boT" R),('f',dA "%boF" R),('g',dA "T.g" R),('k',dA "T.n" R),('m',dA "T.m" R),('n',dI "nd"),('o',dI "%own1"),('p',qp),('r',R),('t',dI "T"),('u',dA "%NG" (dI "hr")),('v',dA "%wV" u),('x',dA "T.x" R),('z',dI "%rz1")].lookup c).getD h).toArray)
 let rd:=λ(s:String)=>dL (dR ap) (s.splitOn "|")
 let e0 <- `(tactic|refine zcF (by $(<- dF (<- rd "%ih|rG t|pj t|sI t|oq t|pH t|lZ t|nZ t|nh t|rA t|ja t|kY t|vG t|ou t|nU t|jY t|tf t|pD t|qG t|zB t|yj t|lj t|i6 t|yH t|vk t|om t|sU t|mZ t|oi t|xr t|yq t|vn t|mi t|n8 t|rL t|lQ t_|oU t|lU t|nY t|jZ t|lH t|kC t|og t|sE t|qR t|jn t|sM t|oh t|nW t")):tactic) hr ?_)
 `(by repeat' $(<- dF ((<- rd "%wV _|HX|Jg|ek ??|az ??|fK ?|zsS _n?|k8 ???|ju ?|II ?|pU ?|IC|L9|DQ|G6 ?")++[e0]++(<- rd "%Nq CD??:M4;ixK r|xx CD??:CS;eqDK r8:Cp;Cc:CG;CJ:CV;CW:JL;FN r:CF;neDK r8:IK;Ap:CP;inK r:F5;Ea|iK CDrkf?:GK;Lk r:J6;Bh:D6;xP r:Fh;yG r:Fm;sJ:x9;nG rr:EG;xF rr:yw;o7:FU K;Lw r|Nf CD??:JY;Fx:Jv;HJ r:GN;IQ:HY;BY:IA;JZ:Jr;F7:J9;FX|xY CDrkb?:EA;KA r:Ig;wZ|Ki CD??:Cp;Cc:CS;eqDK r8:CG;CJ:CV;CW:CP;inK r|Ec rABCD??:zQ;JG r1;PySem.F.slot_list_index;PySem.F.type_list_index|Gx rABCDv?:yE;xf;PySem.F.slot_list_append;PySem.F.type_list_append:vc;u6 r;PySem.F.slot_list_extend;PySem.F.type_list_extend|Fu rABCDv:IE;Hd;PySem.F.slot_list_pop;PySem.F.type_list_pop|Nh CD?:JU;H9|Jo n?CD:Jk;GJ|Ez ?v?CD:Fv;BD:Aa;A6 u|ZG.weak ?|zt_w ?|HR rv?|Gm ??|L6|zy u??p|K4 rg|J8|HF ?|KI ?|Dx rkb|Bz r???|Fg rk?|Km rrkrk?|NS rkb|zgN _n|HB rr?|AU ??|Ds|xw rk?|xj rk?|KO r?|JX rrk?|Dp|DP ?|DH ??|Dz ?|xq or???|F6 n?|AB rzrmx?|FD|Br o??|rf ?|Bn r?|HL ??|EN ?|Mp ??|IH ?"))):tactic)
def lY:PSt:=
 (aj (xIf (qOf (pOp bEq (pFn cp (aa (af 0) ag)) (ah 0))) (ar (cH (aa (ah 0) (aa (ah 0) (aa (af 1) ag))))) xNx)
  (ar (cH (aa (pOp bIx (af 0) (pOp bE (af 1) (pFn cp (aa (af 0) ag)))) (aa (ah 0) (aa (af 1) ag))))))
def cF:PFn:=fnP [false,false] 2 lY
def tj:cF.ms=[false,false]:=rfl
def rG(T:TT K mg):Callee P w K mg base "_law_feed" 1 ["_law_script", "_law_k"] (spD K mg 2 cF.F):=aE (T.d.get 66 rfl) (ax (N:=["_law_script", "_law_k"]) (by decide)) (λ_ _ _ _ _ _=>ar2 λ_ _=>rfl) λnd _ _ _ _ _ _ _ hr=>'d'
def mf:PSt:=
 (aj (mB 0 seL (ah 1) (pOp aR (pOp bIx (af 0) (ah 1)) (ah 1)))
  (aj (xIf (qOf (pOp bGe (pOp bIx (af 0) (ah 0)) (pOp eL (ah 10) (ah 18)))) (aj (au false 2 (pOp bE (pOp bIx (af 0) (ah 0)) (af 1)))
  (aj (mB 0 seL (ah 0) (pOp iQ (pOp bIx (af 0) (ah 0)) (af 1)))
  (ar (af 2)))) xNx)
  (aj (au false 3 (pOp aR (pOp aR (pOp bE (pOp bIx (af 0) (ah 0)) (ah 1000003)) (pOp aK (ah 7919) (pOp bIx (af 0) (ah 2)))) (pOp aK (ah 104729) (pOp bIx (af 0) (ah 1)))))
  (aj (au false 3 (pOp bE (pOp aK (af 3) (ah 48271)) (ah 2147483647)))
  (ar (pOp bE (pOp bE (pOp aK (af 3) (pOp aR (pOp bE (af 3) (ah 65521)) (pOp bIx (af 0) (ah 1)))) (ah 2147483629)) (af 1)))))))
def ao:PFn:=fnP [true,false] 4 mf
def sG:ao.ms=[true,false]:=rfl
def pj(T:TT K mg):Callee P w K mg base "_law_next" 1 ["_law_feed_here", "_law_many"] (spD K mg 2 ao.F):=aE (T.d.get 67 rfl) (ax (N:=["_law_feed_here", "_law_many", "_law_digit", "_law_mixed"]) (by decide)) (λ_ _ _ _ _ _=>ar2 λ_ _=>rfl) λnd _ _ _ _ _ _ _ hr=>'d'
def fG:PSt:=
 (fB 2 3 (aa (af 3) (aa (pOp bE (af 2) (af 3)) ag)))
def nR:PSt:=
 (aj (fB 2 3 (aa (pFn fc (aa (af 0) ag)) (aa (pFn fc (aa (af 1) ag)) ag)))
  (aj (xWh (qOf (pOp bGt (af 3) (ah 0))) (fG))
  (aj (xIf (qOf (pOp bLt (af 1) (ah 0))) (au false 2 (pOp dU (ah 0) (af 2))) xNx)
  (ar (bI (aa (pOp iQ (af 0) (af 2)) (aa (pOp iQ (af 1) (af 2)) ag)))))))
def aF:PFn:=fnP [false,false] 4 nR
def vP:aF.ms=[false,false]:=rfl
def sI(T:TT K mg):Callee P w K mg base "_law_low" 1 ["_law_top", "_law_bottom"] (spD K mg 2 aF.F):=aE (T.d.get 69 rfl) (ax (N:=["_law_top", "_law_bottom", "_law_one", "_law_two"]) (by decide)) (λ_ _ _ _ _ _=>ar2 λ_ _=>rfl) λnd _ _ _ _ _ _ _ hr=>'d'
def jc:PSt:=
 (au false 2 (pOp aR (pOp aK (af 2) (pOp eL (ah 10) (ah 6))) (ai ao (aa (af 0) (aa (pOp eL (ah 10) (ah 6)) ag)))))
def j4:PSt:=
 (aj (au false 2 (ah 0))
  (aj (fA (lX (aa (ah 6) ag)) (gtN 3) (jc))
  (ar (pOp dU (pOp bE (af 2) (pOp aR (pOp aK (ah 2) (af 1)) (ah 1))) (af 1)))))
def a8:PFn:=fnP [true,false] 4 j4
def pR:a8.ms=[true,false]:=rfl
def oq(T:TT K mg):Callee P w K mg base "_law_great" 2 ["_law_feed_here", "_law_far"] (spD K mg 2 a8.F):=aE (T.d.get 68 rfl) (ax (N:=["_law_feed_here", "_law_far", "_law_number", "_law_k"]) (by decide)) (λ_ _ _ _ _ _=>ar2 λ_ _=>rfl) λnd _ _ _ _ _ _ _ hr=>'d'
def iL:PSt:=
 (aj (au false 1 (ai ao (aa (af 0) (aa (ah 6) ag))))
  (aj (fB 2 3 (aa (bI (aa (pOp dU (ai ao (aa (af 0) (aa (ah 19) ag))) (ah 9)) (aa (ah 1) ag))) (aa (bI (aa (pOp dU (ai ao (aa (af 0) (aa (ah 19) ag))) (ah 9)) (aa (ah 1) ag))) ag)))
  (aj (fB 4 5 (aa (bI (aa (pOp aR (ah 1) (ai ao (aa (af 0) (aa (ah 12) ag)))) (aa (ah 1) ag))) (aa (bI (aa (pOp aR (ah 1) (ai ao (aa (af 0) (aa (ah 12) ag)))) (aa (ah 1) ag))) ag)))
  (aj (xIf (qOf (pOp bEq (af 1) (ah 1))) (au false 5 (af 4)) xNx)
  (aj (xIf (qOf (pOp bEq (af 1) (ah 2))) (au false 4 (bI (aa (pOp aR (ah 1) (ai ao (aa (af 0) (aa (ah 99) ag)))) (aa (ah 1) ag)))) xNx)
  (aj (xIf (qOf (pOp bEq (af 1) (ah 3))) (au false 5 (bI (aa (pOp aR (ah 1) (ai ao (aa (af 0) (aa (ah 99) ag)))) (aa (ah 1) ag)))) xNx)
  (aj (xIf (qOf (pOp bEq (af 1) (ah 4))) (aj (fB 2 3 (aa (ai aF (aa (pOp dU (ai ao (aa (af 0) (aa (ah 199) ag))) (ah 99)) (aa (pOp aR (ah 1) (ai ao (aa (af 0) (aa (ah 30) ag)))) ag))) (aa (ai aF (aa (ai ao (aa (af 0) (aa (ah 9) ag))) (aa (ah 7) ag))) ag)))
  (fB 4 5 (aa (ai aF (aa (pOp aR (ah 1) (ai ao (aa (af 0) (aa (ah 99) ag)))) (aa (pOp aR (ah 1) (ai ao (aa (af 0) (aa (ah 30) ag)))) ag))) (aa (ai aF (aa (pOp aR (ah 1) (ai ao (aa (af 0) (aa (ah 99) ag)))) (aa (ah 11) ag))) ag)))) xNx)
  (aj (xIf (qOf (pOp bEq (af 1) (ah 5))) (aj (au false 6 (pOp dU (pOp eL (ah 10) (ah 30)) (ah 1)))
  (aj (fB 2 3 (aa (ai aF (aa (ai a8 (aa (af 0) (aa (af 6) ag))) (aa (pOp aR (ah 1) (pFn fc (aa (ai a8 (aa (af 0) (aa (pOp dU (af 6) (ah 1)) ag))) ag))) ag))) (aa (bI (aa (ai a8 (aa (af 0) (aa (af 6) ag))) (aa (ah 1) ag))) ag)))
  (fB 4 5 (aa (bI (aa (pOp aR (ah 1) (pFn fc (aa (ai a8 (aa (af 0) (aa (pOp dU (af 6) (ah 1)) ag))) ag))) (aa (ah 1) ag))) (aa (ai aF (aa (pOp aR (ah 1) (pFn fc (aa (ai a8 (aa (af 0) (aa (pOp dU (af 6) (ah 1)) ag))) ag))) (aa (af 6) ag))) ag))))) xNx)
  (ar (bI (aa (af 2) (aa (af 3) (aa (af 4) (aa (af 5) ag))))))))))))))
def eF:PFn:=fnP [true] 7 iL
def sQ:eF.ms=[true]:=rfl
def pH(T:TT K mg):Callee P w K mg base "_law_room" 3 ["_law_feed_here"] (spD K mg 1 eF.F):=aE (T.d.get 70 rfl) (ax (N:=["_law_feed_here", "_law_way", "_law_left", "_law_top", "_law_wide", "_law_high", "_law_far"]) (by decide)) (λ_ _ _ _ _ _=>ar1 λ_=>rfl) λnd _ _ _ _ _ _ _ hr=>'d'
def du:PSt:=
 (aj (au true 3 (ai cF (aa (af 0) (aa (pOp aR (pOp aR (af 1) (ah 1)) (af 8)) ag))))
  (aj (au false 9 (pOp bIx (cH (aa (ah 1) (aa (pOp aR (ah 1) (ai ao (aa (af 3) (aa (ah 9) ag)))) (aa (pOp qE (ah 1) (pOp bE (af 8) (ah 24))) (aa (pOp aR (ah 1) (ai ao (aa (af 3) (aa (ah 9) ag)))) (aa (ah 1) (aa (pOp aR (ah 1) (ai ao (aa (af 3) (aa (ah 3) ag)))) ag))))))) (af 6)))
  (aj (xIf (qAn (qOf (pOp bEq (af 6) (ah 3))) (qOf (pOp bEq (ai ao (aa (af 3) (aa (ah 4) ag))) (ah 0)))) (au false 9 (pOp aR (pOp eL (ah 10) (ah 29)) (ai ao (aa (af 3) (aa (ah 100) ag))))) xNx)
  (aj (xIf (qOf (pOp bEq (af 6) (ah 4))) (au false 9 (pOp aR (ah 1) (pFn fc (aa (ai a8 (aa (af 3) (aa (pOp dU (pOp eL (ah 10) (ah 30)) (ah 2)) ag))) ag)))) xNx)
  (aV (f6 7 cI (aa (af 9) ag)))))))
def fu:PSt:=
 (aj (au true 3 (ai cF (aa (af 0) (aa (af 1) ag))))
  (aj (au false 4 (pOp aR (ah 1) (ai ao (aa (af 3) (aa (pFn pI (aa (af 2) (aa (ah 7) ag))) ag)))))
  (aj (au false 5 (ai ao (aa (af 3) (aa (ah 6) ag))))
  (aj (xIf (qOf (pOp bLt (af 5) (ah 2))) (au false 4 (pOp bIx (cH (aa (af 2) (aa (pFn o3 (aa (ah 1) (aa (pOp iQ (pOp aK (af 4) (af 2)) (ah 8)) ag))) ag))) (af 5))) xNx)
  (aj (au false 6 (ai ao (aa (af 3) (aa (ah 6) ag))))
  (aj (xIf (qOf (pOp bGt (af 4) (ah 9))) (au false 6 (pOp bE (af 6) (ah 3))) xNx)
  (aj (au true 7 (cH ag))
  (aj (fA (lX (aa (af 4) ag)) (gtN 8) (du))
  (ar (af 7))))))))))
def cJ:PFn:=fnP [false,false,false] 10 fu
def ni:cJ.ms=[false,false,false]:=rfl
def lZ(T:TT K mg):Callee P w K mg base "_law_weights" 3 ["_law_script", "_law_at", "_law_most_here"] (spD K mg 3 cJ.F):=aE (T.d.get 71 rfl) (ax (N:=["_law_script", "_law_at", "_law_most_here", "_law_feed_here", "_law_many", "_law_more", "_law_style", "_law_some", "_law_k", "_law_weight"]) (by decide)) (λ_ _ _ _ _ _=>ar3 λ_ _ _=>rfl) λnd _ _ _ _ _ _ _ hr=>'d'
def kf:PSt:=
 (aj (au false 1 (ai aF (aa (pOp aK (pOp bIx (pOp bIx (af 0) (ah 2)) (ah 0)) (pOp bIx (pOp bIx (af 0) (ah 3)) (ah 1))) (aa (pOp aK (pOp bIx (pOp bIx (af 0) (ah 2)) (ah 1)) (pOp bIx (pOp bIx (af 0) (ah 3)) (ah 0))) ag))))
  (aj (xIf (qOf (pOp bLt (pOp bIx (af 1) (ah 0)) (pOp bIx (af 1) (ah 1)))) (au false 1 (bI (aa (pOp bIx (af 1) (ah 1)) (aa (pOp bIx (af 1) (ah 0)) ag)))) xNx)
  (ar (af 1))))
def bL:PFn:=fnP [false] 2 kf
def qM:bL.ms=[false]:=rfl
def nZ(T:TT K mg):Callee P w K mg base "_law_shape" 2 ["_law_box"] (spD K mg 1 bL.F):=aE (T.d.get 75 rfl) (ax (N:=["_law_box", "_law_found"]) (by decide)) (λ_ _ _ _ _ _=>ar1 λ_=>rfl) λnd _ _ _ _ _ _ _ hr=>'d'
def jy:PSt:=
 (xIf (qOf (pOp wG (af 0) sk)) (dE "NoRule" (aa (bf "this is no rule") ag)) xNx)
def bO:PFn:=fnP [false] 1 jy
def n6:bO.ms=[false]:=rfl
def nh(T:TT K mg):Callee P w K mg base "check_rule" 1 ["rule"] (spD K mg 1 bO.F):=aE (T.d.get 52 rfl) (ax (N:=["rule"]) (by decide)) (λ_ _ _ _ _ _=>ar1 λ_=>rfl) λnd _ _ _ _ _ _ _ hr=>'d'
noncomputable def iR:PSt:=
 (ar (gL (pFn (bc bN) (aa (af 0) (aa (pTy "int") ag))) (AX (pFn (bc bN) (aa (af 0) (aa (pTy "bool") ag))))))
noncomputable def br:PFn:=fnP [false] 1 iR
def sH:br.ms=[false]:=rfl
def rA(T:TT K mg):Callee P w K mg base "is_whole" 1 ["thing"] (spD K mg 1 br.F):=aE (T.d.get 10 rfl) (ax (N:=["thing"]) (by decide)) (λ_ _ _ _ _ _=>ar1 λ_=>rfl) λnd _ _ _ _ _ _ _ hr=>'d'
def cu:PSt:=
 (fB 0 1 (aa (af 1) (aa (pOp bE (af 0) (af 1)) ag)))
def fQ:PSt:=
 (aj (fB 0 1 (aa (pFn fc (aa (af 0) ag)) (aa (pFn fc (aa (af 1) ag)) ag)))
  (aj (xWh (qOf (pOp bNe (af 1) (ah 0))) (cu))
  (ar (af 0))))
def bg:PFn:=fnP [false,false] 2 fQ
def j0:bg.ms=[false,false]:=rfl
def ja(T:TT K mg):Callee P w K mg base "common_divisor" 1 ["one", "other"] (spD K mg 2 bg.F):=aE (T.d.get 11 rfl) (ax (N:=["one", "other"]) (by decide)) (λ_ _ _ _ _ _=>ar2 λ_ _=>rfl) λnd _ _ _ _ _ _ _ hr=>'d'
def i5:PSt:=
 (aj (xIf (qO (qNo (qOf (pFn (bc bN) (aa (af 0) (aa (pTy "tuple") ag))))) (qOf (pOp bNe (pFn cp (aa (af 0) ag)) (ah 2)))) (ar (pBl false)) xNx)
  (aj (jC (af 0) (gtX (gtT 2 (aU (gtN 1) (aU (gtN 2) dB)))))
  (aj (xIf (qO (qNo (qOf (ai br (aa (af 1) ag)))) (qNo (qOf (ai br (aa (af 2) ag))))) (ar (pBl false)) xNx)
  (ar (gL (pOp bGe (af 2) (ah 1)) (pOp bEq (ai bg (aa (af 1) (aa (af 2) ag))) (ah 1)))))))
def bS:PFn:=fnP [false] 3 i5
def mY:bS.ms=[false]:=rfl
def kY(T:TT K mg):Callee P w K mg base "is_fraction" 2 ["thing"] (spD K mg 1 bS.F):=aE (T.d.get 12 rfl) (ax (N:=["thing", "top", "bottom"]) (by decide)) (λ_ _ _ _ _ _=>ar1 λ_=>rfl) λnd _ _ _ _ _ _ _ hr=>'d'
def sy:PSt:=
 (aj (xIf (qO (qNo (qOf (pFn (bc bN) (aa (af 0) (aa (pTy "tuple") ag))))) (qOf (pOp bNe (pFn cp (aa (af 0) ag)) (ah 4)))) (ar (pBl false)) xNx)
  (aj (xIf (qNo (qOf (pFn oE (aa (pLC (cx (af 0)) [none] (by decide) (gtN 0) qY (ai bS (aa (af 0) ag))) ag)))) (ar (pBl false)) xNx)
  (ar (gL (pOp bGt (pOp bIx (pOp bIx (af 0) (ah 2)) (ah 0)) (ah 0)) (pOp bGt (pOp bIx (pOp bIx (af 0) (ah 3)) (ah 0)) (ah 0))))))
def fN:PFn:=fnP [false] 1 sy
def xM:fN.ms=[false]:=rfl
def vG(T:TT K mg):Callee P w K mg base "is_box" 3 ["thing"] (spD K mg 1 fN.F):=aE (T.d.get 22 rfl) (ax (N:=["thing"]) (by decide)) (λ_ _ _ _ _ _=>ar1 λ_=>rfl) λnd _ _ _ _ _ _ _ hr=>(az 'd' (az (k8 (rf (pU (iK (allK (K:=K) rfl rfl) xV rfl (T.n rfl) (by first |exact boF rfl |exact boT rfl) (ek (jd ["thing"] (ak (top 22)).names ["part"] [none] 'd' (λnd _ _ _ _ _=>'d') (λnd _ _ _ _ _=>'d')) 'd')))) 'd' 'd') 'd'))
def j7:PSt:=
 (xIf (qNo (qOf (ai fN (aa (af 0) ag)))) (dE "NoBox" (aa (bf "this is no box") ag)) xNx)
def aW:PFn:=fnP [false] 1 j7
def qc:aW.ms=[false]:=rfl
def ou(T:TT K mg):Callee P w K mg base "check_box" 4 ["thing"] (spD K mg 1 aW.F):=aE (T.d.get 23 rfl) (ax (N:=["thing"]) (by decide)) (λ_ _ _ _ _ _=>ar1 λ_=>rfl) λnd _ _ _ _ _ _ _ hr=>'d'
noncomputable def j9:PSt:=
 (ar (gL (ai br (aa (af 0) ag)) (pOp bGe (af 0) (ah 1))))
noncomputable def cP:PFn:=fnP [false] 1 j9
def rD:cP.ms=[false]:=rfl
def nU(T:TT K mg):Callee P w K mg base "is_weight" 2 ["thing"] (spD K mg 1 cP.F):=aE (T.d.get 27 rfl) (ax (N:=["thing"]) (by decide)) (λ_ _ _ _ _ _=>ar1 λ_=>rfl) λnd _ _ _ _ _ _ _ hr=>'d'
def gu:PSt:=
 (aj (xIf (qO (qNo (qOf (pFn (bc bN) (aa (af 0) (aa (pTy "list") ag))))) (qOf (pOp bEq (pFn cp (aa (af 0) ag)) (ah 0)))) (dE "NoWeights" (aa (bf "this is no list of weights") ag)) xNx)
  (aj (xIf (qNo (qOf (pFn oE (aa (pLC (cx (af 0)) [none] (by decide) (gtN 0) qY (ai cP (aa (af 0) ag))) ag)))) (dE "NoWeights" (aa (bf "a weight is a whole number from 1 on") ag)) xNx)
  (xIf (qOf (pOp bGt (pFn cp (aa (af 0) ag)) gh)) (dE "TooMany" (aa (bf "these are more weights than forty") ag)) xNx)))
def aQ:PFn:=fnP [false] 1 gu
def kL:aQ.ms=[false]:=rfl
def jY(T:TT K mg):Callee P w K mg base "check_weights" 3 ["thing"] (spD K mg 1 aQ.F):=aE (T.d.get 28 rfl) (ax (N:=["thing"]) (by decide)) (λ_ _ _ _ _ _=>ar1 λ_=>rfl) λnd _ _ _ _ _ _ _ hr=>(az 'd' (az (k8 (rf (pU (iK (allK (K:=K) rfl rfl) xV rfl (T.n rfl) (by first |exact boF rfl |exact boT rfl) (ek (jd ["thing"] (ak (top 28)).names ["weight"] [none] 'd' (λnd _ _ _ _ _=>'d') (λnd _ _ _ _ _=>'d')) 'd')))) 'd' 'd') 'd'))
def nt:PSt:=
 (ar (pOp bLt (pOp aK (pOp bIx (af 0) (ah 0)) (pOp bIx (af 1) (ah 1))) (pOp aK (pOp bIx (af 1) (ah 0)) (pOp bIx (af 0) (ah 1)))))
def eg:PFn:=fnP [false,false] 2 nt
def vM:eg.ms=[false,false]:=rfl
def tf(T:TT K mg):Callee P w K mg base "is_less" 1 ["one", "other"] (spD K mg 2 eg.F):=aE (T.d.get 17 rfl) (ax (N:=["one", "other"]) (by decide)) (λ_ _ _ _ _ _=>ar2 λ_ _=>rfl) λnd _ _ _ _ _ _ _ hr=>'d'
def lL:PSt:=
 (aj (aV (ai aW (aa (af 0) ag)))
  (aj (xIf (qOf (ai eg (aa (pOp bIx (af 0) (ah 2)) (aa (pOp bIx (af 0) (ah 3)) ag)))) (ar (bf "down")) xNx)
  (ar (bf "across"))))
noncomputable def eu:PFn:=fnP [false] 1 lL
def sV:eu.ms=[false]:=rfl
def pD(T:TT K mg):Callee P w K mg base "long_way" 5 ["box"] (spD K mg 1 eu.F):=aE (T.d.get 29 rfl) (ax (N:=["box"]) (by decide)) (λ_ _ _ _ _ _=>ar1 λ_=>rfl) λnd _ _ _ _ _ _ _ hr=>'d'
def lz:PSt:=
 (aj (xIf (qOf (pOp bEq (af 1) (ah 0))) (dE "NoFraction" (aa (bf "a fraction has no bottom of 0") ag)) xNx)
  (aj (au false 2 (ai bg (aa (af 0) (aa (af 1) ag))))
  (aj (xIf (qOf (pOp bLt (af 1) (ah 0))) (au false 2 (pUn AZ (af 2))) xNx)
  (ar (bI (aa (pOp iQ (af 0) (af 2)) (aa (pOp iQ (af 1) (af 2)) ag)))))))
def a9:PFn:=fnP [false,false] 3 lz
def sR:a9.ms=[false,false]:=rfl
def qG(T:TT K mg):Callee P w K mg base "fraction" 2 ["top", "bottom"] (spD K mg 2 a9.F):=aE (T.d.get 13 rfl) (ax (N:=["top", "bottom", "divisor"]) (by decide)) (λ_ _ _ _ _ _=>ar2 λ_ _=>rfl) λnd _ _ _ _ _ _ _ hr=>'d'
def zg:PSt:=
 (ar (ai a9 (aa (pOp aK (pOp bIx (af 0) (ah 0)) (pOp bIx (af 1) (ah 1))) (aa (pOp aK (pOp bIx (af 0) (ah 1)) (pOp bIx (af 1) (ah 0))) ag))))
def hZ:PFn:=fnP [false,false] 2 zg
def Ek:hZ.ms=[false,false]:=rfl
def zB(T:TT K mg):Callee P w K mg base "over" 3 ["one", "other"] (spD K mg 2 hZ.F):=aE (T.d.get 16 rfl) (ax (N:=["one", "other"]) (by decide)) (λ_ _ _ _ _ _=>ar2 λ_ _=>rfl) λnd _ _ _ _ _ _ _ hr=>'d'
def uj:PSt:=
 (aj (xIf (qOf (pOp bEq (ai eu (aa (af 0) ag)) (bf "across"))) (ar (ai hZ (aa (pOp bIx (af 0) (ah 2)) (aa (pOp bIx (af 0) (ah 3)) ag)))) xNx)
  (ar (ai hZ (aa (pOp bIx (af 0) (ah 3)) (aa (pOp bIx (af 0) (ah 2)) ag)))))
def d7:PFn:=fnP [false] 1 uj
def zr:d7.ms=[false]:=rfl
def yj(T:TT K mg):Callee P w K mg base "shape" 6 ["box"] (spD K mg 1 d7.F):=aE (T.d.get 30 rfl) (ax (N:=["box"]) (by decide)) (λ_ _ _ _ _ _=>ar1 λ_=>rfl) λnd _ _ _ _ _ _ _ hr=>'d'
def dg:PSt:=
 (xIf (qOf (ai eg (aa (af 1) (aa (af 2) ag)))) (au false 1 (af 2)) xNx)
def iY:PSt:=
 (aj (au false 1 (pOp bIx (af 0) (ah 0)))
  (aj (fA (cx (af 0)) (gtN 2) (dg))
  (ar (af 1))))
def bD:PFn:=fnP [false] 3 iY
def mH:bD.ms=[false]:=rfl
def lj(T:TT K mg):Callee P w K mg base "greatest_of" 2 ["fractions"] (spD K mg 1 bD.F):=aE (T.d.get 18 rfl) (ax (N:=["fractions", "found", "one"]) (by decide)) (λ_ _ _ _ _ _=>ar1 λ_=>rfl) λnd _ _ _ _ _ _ _ hr=>'d'
def bW:PSt:=
 (aV (f6 3 cI (aa (ai a9 (aa (pOp aR (af 4) (af 5)) (aa (af 5) ag))) ag)))
def fC:PSt:=
 (aj (au false 2 (pFn mL (aa (af 1) ag)))
  (aj (au true 3 (cH (aa (ai d7 (aa (af 0) ag)) (aa (bI (aa (ah 3) (aa (ah 1) ag))) ag))))
  (aj (fA (oB (aa (af 2) (aa (pSl (af 2) (oS (ah 1)) oN) ag))) (gtX (gtT 2 (aU (gtN 4) (aU (gtN 5) dB)))) (bW))
  (ar (ai bD (aa (af 3) ag))))))
def bK:PFn:=fnP [false,false] 6 fC
def jg:bK.ms=[false,false]:=rfl
def i6(T:TT K mg):Callee P w K mg base "bound_of_thirds" 7 ["room", "weights"] (spD K mg 2 bK.F):=aE (T.d.get 64 rfl) (ax (N:=["room", "weights", "falling", "found", "greater", "lesser"]) (by decide)) (λ_ _ _ _ _ _=>ar2 λ_ _=>rfl) λnd _ _ _ _ _ _ _ hr=>'d'
def tX:PSt:=
 (aj (au false 1 (pLC (cx (af 0)) [none] (by decide) (gtN 0) qY (ai d7 (aa (af 0) ag))))
  (aj (au false 2 (ai bD (aa (af 1) ag)))
  (ar (bI (aa (af 2) (aa (vz ng (af 1) (aa (af 2) ag)) ag))))))
def gZ:PFn:=fnP [false] 3 tX
def zP:gZ.ms=[false]:=rfl
def yH(T:TT K mg):Callee P w K mg base "worst" 7 ["boxes"] (spD K mg 1 gZ.F):=aE (T.d.get 62 rfl) (ax (N:=["boxes", "shapes", "greatest"]) (by decide)) (λ_ _ _ _ _ _=>ar1 λ_=>rfl) λnd _ _ _ _ _ _ _ hr=>(az (zSlc nd ["boxes", "shapes", "greatest"] (ak (top 62)).names ["box"] [none] 'd' (λnd _ _ _ _ _=>'d') (λnd _ _ _ _ _=>'d')) 'd')
noncomputable def ki:PSt:=
 (ar (gL (pFn (bc bN) (aa (af 0) (aa (pTy "str") ag))) (pOp bIn (af 0) mT)))
noncomputable def da:PFn:=fnP [false] 1 ki
def xZ:da.ms=[false]:=rfl
def vk(T:TT K mg):Callee P w K mg base "is_way" 1 ["thing"] (spD K mg 1 da.F):=aE (T.d.get 24 rfl) (ax (N:=["thing"]) (by decide)) (λ_ _ _ _ _ _=>ar1 λ_=>rfl) λnd _ _ _ _ _ _ _ hr=>'d'
def gz:PSt:=
 (aj (xIf (qO (qNo (qOf (pFn (bc bN) (aa (af 0) (aa (pTy "tuple") ag))))) (qOf (pOp bNe (pFn cp (aa (af 0) ag)) (ah 2)))) (ar (pBl false)) xNx)
  (ar (gL (ai da (aa (pOp bIx (af 0) (ah 0)) ag)) (gL (pFn (bc bN) (aa (pOp bIx (af 0) (ah 1)) (aa (pTy "tuple") ag))) (pOp bGe (pFn cp (aa (pOp bIx (af 0) (ah 1)) ag)) (ah 2))))))
def b8:PFn:=fnP [false] 1 gz
def qT:b8.ms=[false]:=rfl
def om(T:TT K mg):Callee P w K mg base "is_branch" 2 ["thing"] (spD K mg 1 b8.F):=aE (T.d.get 43 rfl) (ax (N:=["thing"]) (by decide)) (λ_ _ _ _ _ _=>ar1 λ_=>rfl) λnd _ _ _ _ _ _ _ hr=>'d'
def cE:PSt:=
 (aj (au false 4 (oI 3 oz))
  (xIf (qOf (ai b8 (aa (af 4) ag))) (aV (f6 3 gf (aa (pOp bIx (af 4) (ah 1)) ag))) (xIf (qO (qNo (qOf (ai br (aa (af 4) ag)))) (qO (qOf (pOp bLt (af 4) (ah 0))) (qO (qOf (pOp bGe (af 4) (af 1))) (qOf (pOp AA (af 4) (af 2)))))) (ar (pBl false)) (aV (AW 2 (aa (af 4) ag))))))
def nJ:PSt:=
 (aj (au true 2 vy)
  (aj (au true 3 (cH (aa (af 0) ag)))
  (aj (xWh (qTr (af 3)) (cE))
  (ar (pOp bEq (pFn pO (aa (af 2) ag)) (af 1))))))
def fh:PFn:=fnP [false,false] 5 nJ
def u5:fh.ms=[false,false]:=rfl
def sU(T:TT K mg):Callee P w K mg base "is_tree" 3 ["thing", "many"] (spD K mg 2 fh.F):=aE (T.d.get 44 rfl) (ax (N:=["thing", "many", "seen", "waiting", "part"]) (by decide)) (λ_ _ _ _ _ _=>ar2 λ_ _=>rfl) λnd _ _ _ _ _ _ _ hr=>'d'
def jj:PSt:=
 (xIf (qNo (qOf (ai fh (aa (af 0) (aa (af 1) ag))))) (dE "NoTree" (aa (bf "this is no tree for the things") ag)) xNx)
def cZ:PFn:=fnP [false,false] 2 jj
def oa:cZ.ms=[false,false]:=rfl
def mZ(T:TT K mg):Callee P w K mg base "check_tree" 4 ["thing", "many"] (spD K mg 2 cZ.F):=aE (T.d.get 45 rfl) (ax (N:=["thing", "many"]) (by decide)) (λ_ _ _ _ _ _=>ar2 λ_ _=>rfl) λnd _ _ _ _ _ _ _ hr=>'d'
noncomputable def j6:PSt:=
 (xIf (qNo (qOf (ai da (aa (af 0) ag)))) (dE "NoWay" (aa (bf "this is no way") ag)) xNx)
noncomputable def dD:PFn:=fnP [false] 1 j6
def rS:dD.ms=[false]:=rfl
def oi(T:TT K mg):Callee P w K mg base "check_way" 2 ["way"] (spD K mg 1 dD.F):=aE (T.d.get 25 rfl) (ax (N:=["way"]) (by decide)) (λ_ _ _ _ _ _=>ar1 λ_=>rfl) λnd _ _ _ _ _ _ _ hr=>'d'
def uM:PSt:=
 (ar (ai a9 (aa (pOp aR (pOp aK (pOp bIx (af 0) (ah 0)) (pOp bIx (af 1) (ah 1))) (pOp aK (pOp bIx (af 1) (ah 0)) (pOp bIx (af 0) (ah 1)))) (aa (pOp aK (pOp bIx (af 0) (ah 1)) (pOp bIx (af 1) (ah 1))) ag))))
def g0:PFn:=fnP [false,false] 2 uM
def z9:g0.ms=[false,false]:=rfl
def xr(T:TT K mg):Callee P w K mg base "added" 3 ["one", "other"] (spD K mg 2 g0.F):=aE (T.d.get 14 rfl) (ax (N:=["one", "other"]) (by decide)) (λ_ _ _ _ _ _=>ar2 λ_ _=>rfl) λnd _ _ _ _ _ _ _ hr=>'d'
def tu:PSt:=
 (ar (ai a9 (aa (pOp aK (pOp bIx (af 0) (ah 0)) (pOp bIx (af 1) (ah 0))) (aa (pOp aK (pOp bIx (af 0) (ah 1)) (pOp bIx (af 1) (ah 1))) ag))))
def fM:PFn:=fnP [false,false] 2 tu
def B8:fM.ms=[false,false]:=rfl
def yq(T:TT K mg):Callee P w K mg base "times" 3 ["one", "other"] (spD K mg 2 fM.F):=aE (T.d.get 15 rfl) (ax (N:=["one", "other"]) (by decide)) (λ_ _ _ _ _ _=>ar2 λ_ _=>rfl) λnd _ _ _ _ _ _ _ hr=>'d'
def gq:PSt:=
 (aj (au false 7 (ai g0 (aa (af 0) (aa (ai fM (aa (af 1) (aa (ai a9 (aa (af 4) (aa (af 3) ag))) ag))) ag))))
  (aj (aV (f6 5 cI (aa (bI (aa (af 7) (aa (ai fM (aa (af 1) (aa (ai a9 (aa (af 6) (aa (af 3) ag))) ag))) ag))) ag)))
  (A5 4 Bi (af 6))))
def qZ:PSt:=
 (aj (au false 3 (pFn gj (aa (af 2) ag)))
  (aj (au false 4 (ah 0))
  (aj (au true 5 (cH ag))
  (aj (fA (cx (af 2)) (gtN 6) (gq))
  (ar (af 5))))))
def eT:PFn:=fnP [false,false,false] 8 qZ
def wM:eT.ms=[false,false,false]:=rfl
def vn(T:TT K mg):Callee P w K mg base "shares" 4 ["start", "length", "weights"] (spD K mg 3 eT.F):=aE (T.d.get 31 rfl) (ax (N:=["start", "length", "weights", "whole", "ahead", "found", "weight", "begin"]) (by decide)) (λ_ _ _ _ _ _=>ar3 λ_ _ _=>rfl) λnd _ _ _ _ _ _ _ hr=>'d'
def sj:PSt:=
 (aj (aV (ai aW (aa (af 0) ag)))
  (aj (aV (ai dD (aa (af 1) ag)))
  (aj (aV (ai aQ (aa (af 2) ag)))
  (aj (jC (af 0) (gtX (gtT 4 (aU (gtN 3) (aU (gtN 4) (aU (gtN 5) (aU (gtN 6) dB)))))))
  (aj (xIf (qOf (pOp bEq (af 1) (bf "across"))) (ar (pLC (cx (ai eT (aa (af 3) (aa (af 5) (aa (af 2) ag))))) [none,none,some 4,some 6] (by decide) (gtT 2 (aU (gtN 0) (aU (gtN 1) dB))) qY (bI (aa (af 0) (aa (af 2) (aa (af 1) (aa (af 3) ag))))))) xNx)
  (ar (pLC (cx (ai eT (aa (af 4) (aa (af 6) (aa (af 2) ag))))) [none,none,some 3,some 5] (by decide) (gtT 2 (aU (gtN 0) (aU (gtN 1) dB))) qY (bI (aa (af 2) (aa (af 0) (aa (af 3) (aa (af 1) ag))))))))))))
def eU:PFn:=fnP [false,false,false] 7 sj
def yg:eU.ms=[false,false,false]:=rfl
def mi(T:TT K mg):Callee P w K mg base "parted" 5 ["box", "way", "weights"] (spD K mg 3 eU.F):=aE (T.d.get 32 rfl) (ax (N:=["box", "way", "weights", "left", "top", "wide", "high"]) (by decide)) (λ_ _ _ _ _ _=>ar3 λ_ _ _=>rfl) λnd _ _ _ _ _ _ _ hr=>(az 'd' (az 'd' (az 'd' (az 'd' (az (k8 'd' (fK (ju (jd ["box", "way", "weights", "left", "top", "wide", "high"] (ak (top 32)).names ["begin", "length", "top", "high"] [none,none,some 4,some 6] 'd' (λnd _ _ _ _ _=>'d') (λnd _ _ _ _ _=>'d')))) 'd') (fK (ju (jd ["box", "way", "weights", "left", "top", "wide", "high"] (ak (top 32)).names ["begin", "length", "left", "wide"] [none,none,some 3,some 5] 'd' (λnd _ _ _ _ _=>'d') (λnd _ _ _ _ _=>'d')))))))))
noncomputable def bR:PSt:=
 (aj (au false 3 (oI 2 oz))
  (xIf (qOf (pFn (bc bN) (aa (af 3) (aa (pTy "tuple") ag)))) (aV (f6 2 gf (aa (pOp bIx (af 3) (ah 1)) ag))) (aV (f6 1 cI (aa (af 3) ag)))))
def kd:PSt:=
 (aj (au true 1 (cH ag))
  (aj (au true 2 (cH (aa (af 0) ag)))
  (aj (xWh (qTr (af 2)) (bR))
  (ar (af 1)))))
def cL:PFn:=fnP [false] 4 kd
def rn:cL.ms=[false]:=rfl
def n8(T:TT K mg):Callee P w K mg base "things_in" 1 ["tree"] (spD K mg 1 cL.F):=aE (T.d.get 46 rfl) (ax (N:=["tree", "found", "waiting", "part"]) (by decide)) (λ_ _ _ _ _ _=>ar1 λ_=>rfl) λnd _ _ _ _ _ _ _ hr=>'d'
def lR:PSt:=
 (aj (jC (af 2) (gtX (gtT 2 (aU (gtN 3) (aU (gtN 4) dB)))))
  (ar (ai eU (aa (af 0) (aa (af 3) (aa (pLC (cx (af 4)) [none,some 1] (by decide) (gtN 0) qY (pFn gj (aa (pLC (cx (ai cL (aa (af 0) ag))) [none,some 1] (by decide) (gtN 0) qY (pOp bIx (af 1) (af 0))) ag))) ag))))))
def er:PFn:=fnP [false,false,false] 5 lR
def sY:er.ms=[false,false,false]:=rfl
def rL(T:TT K mg):Callee P w K mg base "parts_of" 6 ["room", "weights", "tree"] (spD K mg 3 er.F):=aE (T.d.get 49 rfl) (ax (N:=["room", "weights", "tree", "way", "trees"]) (by decide)) (λ_ _ _ _ _ _=>ar3 λ_ _ _=>rfl) λnd _ _ _ _ _ _ _ hr=>(az 'd' (fK (ju (zcF (mi T) hr (ek 'd' (ek 'd' (ek (jd ["room", "weights", "tree", "way", "trees"] (ak (top 49)).names ["part", "weights"] [none,some 1] 'd' (λnd _ _ _ _ _=>'d') (λnd _ _ _ _ _=>(iK (nG (K:=K) rfl rfl) x9 rfl (T.n rfl) (by first |exact boF rfl |exact boT rfl) (ek (jd ["part", "weights"] [(PySem.Str.ofString ".0",PySem.NameKind.local),(PySem.Str.ofString "part",PySem.NameKind.local),(PySem.Str.ofString "sum",PySem.NameKind.globalImplicit),(PySem.Str.ofString "things_in",PySem.NameKind.globalImplicit),(PySem.Str.ofString "weights",PySem.NameKind.cell)] ["thing", "weights"] [none,some 1] 'd' (λnd _ _ _ _ _=>'d') (λnd _ _ _ _ _=>'d')) 'd')))) 'd')))))))
noncomputable def iq(s:PFx [false,false,false,true]):PSt:=
 (aV (ai s.fn (aa (af 5) (aa (af 1) (aa (af 4) (aa (af 3) ag))))))
def fL(s:PFx [false,false,false,true]):PSt:=
 (aj (xIf (qNo (qOf (pFn (bc bN) (aa (af 2) (aa (pTy "tuple") ag))))) (aj (mB 3 seI (af 2) (af 0))
  wH) xNx)
  (fA (oB (aa (pOp bIx (af 2) (ah 1)) (aa (ai er (aa (af 0) (aa (af 1) (aa (af 2) ag)))) ag))) (gtX (gtT 2 (aU (gtN 4) (aU (gtN 5) dB)))) (iq s)))
def cK:Nat->PFx [false,false,false,true]
 |0=>PFx.none [false,false,false,true]
 |n+1=>PFx.of [false,false,false,true] 6 (fL (cK n))
theorem lQ(T:TT K mg):∀n,Callee P w K mg base "place" (8+n) ["room", "weights", "tree", "placed"] (spD K mg 4 (cK n).F)
 |0=>ok0 (T.d.get 48 rfl) (ax (N:=["room", "weights", "tree", "placed", "part", "box"]) (by decide)) (λ_ _ _ _ _ _=>ar4 λ_ _ _ _=>rfl)
 |
  n+1=>by
  have ih:=lQ T n;show Callee _ _ _ _ _ _ _ _ (spD _ _ _ (PFx.of [false,false,false,true] 6 (fL (cK n))).F);exact okX' (k:=8+n) (T.d.get 48 rfl) (ax (N:=["room", "weights", "tree", "placed", "part", "box"]) (by decide)) (λ_ _ _ _ _ _=>ar4 λ_ _ _ _=>rfl) λnd _ _ _ _ _ _ _ hr=>'d'
def l9:PSt:=
 (aj (aV (ai aW (aa (af 0) ag)))
  (aj (aV (ai aQ (aa (af 1) ag)))
  (aj (aV (ai cZ (aa (af 2) (aa (pFn cp (aa (af 1) ag)) ag))))
  (aj (au true 3 pD0)
  (aj (aV (ai (cK 42).fn (aa (af 0) (aa (af 1) (aa (af 2) (aa (af 3) ag))))))
  (ar (pLC (lX (aa (pFn cp (aa (af 1) ag)) ag)) [none,some 3] (by decide) (gtN 0) qY (pOp vp (af 1) (af 0)))))))))
def dm:PFn:=fnP [false,false,false] 4 l9
def sT:dm.ms=[false,false,false]:=rfl
def oU(T:TT K mg):Callee P w K mg base "boxes_by" 51 ["room", "weights", "tree"] (spD K mg 3 dm.F):=aE (T.d.get 47 rfl) (ax (N:=["room", "weights", "tree", "placed"]) (by decide)) (λ_ _ _ _ _ _=>ar3 λ_ _ _=>rfl) λnd _ _ _ _ _ _ _ hr=>(az 'd' (az 'd' (az 'd' (az 'd' (az 'd' (fK (ju (jd ["room", "weights", "tree", "placed"] (ak (top 47)).names ["number", "placed"] [none,some 3] 'd' (λnd _ _ _ _ _=>'d') (λnd _ _ _ _ _=>'d')))))))))
def iZ:Nat->PFx [false,false]:=λ_=>PFx.none [false,false]
def lU(T:TT K mg):Callee P w K mg base "halves_tree" 2 ["room", "weights"] (spD K mg 2 (iZ 0).F):=by show Callee _ _ _ _ _ _ _ _ (spD _ _ _ (PFx.none [false,false]).F);exact ok0 (T.d.get 56 rfl) (ax (N:=["room", "weights"]) (by decide)) (λ_ _ _ _ _ _=>ar2 λ_ _=>rfl)
def ke:Nat->PFx [false,false]:=λ_=>PFx.none [false,false]
def nY(T:TT K mg):Callee P w K mg base "rows_tree" 2 ["room", "weights"] (spD K mg 2 (ke 0).F):=by show Callee _ _ _ _ _ _ _ _ (spD _ _ _ (PFx.none [false,false]).F);exact ok0 (T.d.get 35 rfl) (ax (N:=["room", "weights"]) (by decide)) (λ_ _ _ _ _ _=>ar2 λ_ _=>rfl)
def gn:Nat->PFx [false,false]:=λ_=>PFx.none [false,false]
def jZ(T:TT K mg):Callee P w K mg base "greatest_tree" 2 ["room", "weights"] (spD K mg 2 (gn 0).F):=by show Callee _ _ _ _ _ _ _ _ (spD _ _ _ (PFx.none [false,false]).F);exact ok0 (T.d.get 36 rfl) (ax (N:=["room", "weights", "numbers"]) (by decide)) (λ_ _ _ _ _ _=>ar2 λ_ _=>rfl)
def i4:Nat->PFx [false,false]:=λ_=>PFx.none [false,false]
def lH(T:TT K mg):Callee P w K mg base "thirds_tree" 2 ["room", "weights"] (spD K mg 2 (i4 0).F):=by show Callee _ _ _ _ _ _ _ _ (spD _ _ _ (PFx.none [false,false]).F);exact ok0 (T.d.get 57 rfl) (ax (N:=["room", "weights", "numbers"]) (by decide)) (λ_ _ _ _ _ _=>ar2 λ_ _=>rfl)
def hE:PSt:=
 (aj (aV (ai aW (aa (af 1) ag)))
  (aj (aV (ai aQ (aa (af 2) ag)))
  (aj (xIf (qOf (pOp bEq (pFn cp (aa (af 2) ag)) (ah 1))) (ar (ah 0)) xNx)
  (ar (bI (aa (af 0) (aa (pFn oJ (aa (pFn cp (aa (af 2) ag)) ag)) ag)))))))
def cC:PFn:=fnP [false,false,false] 3 hE
def l8:cC.ms=[false,false,false]:=rfl
def kC(T:TT K mg):Callee P w K mg base "side_by_side" 5 ["way", "room", "weights"] (spD K mg 3 cC.F):=aE (T.d.get 55 rfl) (ax (N:=["way", "room", "weights"]) (by decide)) (λ_ _ _ _ _ _=>ar3 λ_ _ _=>rfl) λnd _ _ _ _ _ _ _ hr=>'d'
def j5:PSt:=
 (aj (aV (ai bO (aa (af 0) ag)))
  (aj (xIf (qOf (pOp bEq (af 0) (bf "halves"))) (ar (ai (iZ 0).fn (aa (af 1) (aa (af 2) ag)))) xNx)
  (aj (xIf (qOf (pOp bEq (af 0) (bf "rows"))) (ar (ai (ke 0).fn (aa (af 1) (aa (af 2) ag)))) xNx)
  (aj (xIf (qOf (pOp bEq (af 0) (bf "greatest"))) (ar (ai (gn 0).fn (aa (af 1) (aa (af 2) ag)))) xNx)
  (aj (xIf (qOf (pOp bEq (af 0) (bf "thirds"))) (ar (ai (i4 0).fn (aa (af 1) (aa (af 2) ag)))) xNx)
  (ar (ai cC (aa (af 0) (aa (af 1) (aa (af 2) ag))))))))))
def dM:PFn:=fnP [false,false,false] 3 j5
def pJ:dM.ms=[false,false,false]:=rfl
def og(T:TT K mg):Callee P w K mg base "rule_tree" 6 ["rule", "room", "weights"] (spD K mg 3 dM.F):=aE (T.d.get 53 rfl) (ax (N:=["rule", "room", "weights"]) (by decide)) (λ_ _ _ _ _ _=>ar3 λ_ _ _=>rfl) λnd _ _ _ _ _ _ _ hr=>'d'
def nr:PSt:=
 (ar (ai dm (aa (af 1) (aa (af 2) (aa (ai dM (aa (af 0) (aa (af 1) (aa (af 2) ag)))) ag)))))
def fj:PFn:=fnP [false,false,false] 3 nr
def vV:fj.ms=[false,false,false]:=rfl
def sE(T:TT K mg):Callee P w K mg base "by_rule" 52 ["rule", "room", "weights"] (spD K mg 3 fj.F):=aE (T.d.get 54 rfl) (ax (N:=["rule", "room", "weights"]) (by decide)) (λ_ _ _ _ _ _=>ar3 λ_ _ _=>rfl) λnd _ _ _ _ _ _ _ hr=>'d'
def eA:PSt:=
 (aj (aV (ai bO (aa (af 0) ag)))
  (aj (aV (ai aW (aa (af 1) ag)))
  (aj (aV (ai aQ (aa (af 2) ag)))
  (aj (xIf (qOf (pOp bEq (af 0) (bf "thirds"))) (ar (ai bK (aa (af 1) (aa (af 2) ag)))) xNx)
  (aj (xIf (qOf (pOp bEq (af 0) (bf "halves"))) (ar (ai bD (aa (cH (aa (ai d7 (aa (af 1) ag)) (aa (ai a9 (aa (pFn gj (aa (af 2) ag)) (aa (pFn qI (aa (af 2) ag)) ag))) ag))) ag))) xNx)
  (aj (xIf (qOf (pOp bIn (af 0) mT)) (ar (pOp bIx (ai gZ (aa (ai fj (aa (af 0) (aa (af 1) (aa (af 2) ag)))) ag)) (ah 0))) xNx)
  (ar pM)))))))
def aH:PFn:=fnP [false,false,false] 3 eA
def sS:aH.ms=[false,false,false]:=rfl
def qR(T:TT K mg):Callee P w K mg base "bound_of" 53 ["rule", "room", "weights"] (spD K mg 3 aH.F):=aE (T.d.get 63 rfl) (ax (N:=["rule", "room", "weights"]) (by decide)) (λ_ _ _ _ _ _=>ar3 λ_ _ _=>rfl) λnd _ _ _ _ _ _ _ hr=>'d'
def eZ:PSt:=
 (xIf (qOf (pOp bGt (pOp aK (pOp bIx (af 2) (ah 0)) (pOp bIx (af 1) (ah 1))) (pOp aK (pOp bIx (af 1) (ah 0)) (pOp bIx (af 2) (ah 1))))) (au false 1 (af 2)) xNx)
def lW:PSt:=
 (aj (au false 1 (pOp bIx (af 0) (ah 0)))
  (aj (fA (cx (pSl (af 0) (oS (ah 1)) oN)) (gtN 2) (eZ))
  (ar (af 1))))
def bX:PFn:=fnP [false] 3 lW
def sX:bX.ms=[false]:=rfl
def jn(T:TT K mg):Callee P w K mg base "_law_most" 1 ["_law_some"] (spD K mg 1 bX.F):=aE (T.d.get 76 rfl) (ax (N:=["_law_some", "_law_found", "_law_one"]) (by decide)) (λ_ _ _ _ _ _=>ar1 λ_=>rfl) λnd _ _ _ _ _ _ _ hr=>'d'
def nA:PSt:=
 (ar (ai aF (aa (pOp aR (pOp aK (pOp bIx (af 0) (ah 0)) (pOp bIx (af 1) (ah 1))) (pOp aK (pOp bIx (af 1) (ah 0)) (pOp bIx (af 0) (ah 1)))) (aa (pOp aK (pOp bIx (af 0) (ah 1)) (pOp bIx (af 1) (ah 1))) ag))))
def d6:PFn:=fnP [false,false] 2 nA
def vX:d6.ms=[false,false]:=rfl
def sM(T:TT K mg):Callee P w K mg base "_law_add" 2 ["_law_one", "_law_two"] (spD K mg 2 d6.F):=aE (T.d.get 72 rfl) (ax (N:=["_law_one", "_law_two"]) (by decide)) (λ_ _ _ _ _ _=>ar2 λ_ _=>rfl) λnd _ _ _ _ _ _ _ hr=>'d'
def cB:PSt:=
 (aj (xIf (qOf (pOp bEq (af 1) (bf "across"))) (aj (au false 11 (ai d6 (aa (af 3) (aa (ai aF (aa (pOp aK (pOp bIx (af 5) (ah 0)) (af 9)) (aa (pOp aK (pOp bIx (af 5) (ah 1)) (af 7)) ag))) ag))))
  (aV (f6 8 cI (aa (bI (aa (af 11) (aa (af 4) (aa (ai aF (aa (pOp aK (pOp bIx (af 5) (ah 0)) (af 10)) (aa (pOp aK (pOp bIx (af 5) (ah 1)) (af 7)) ag))) (aa (af 6) ag))))) ag)))) (aj (au false 11 (ai d6 (aa (af 4) (aa (ai aF (aa (pOp aK (pOp bIx (af 6) (ah 0)) (af 9)) (aa (pOp aK (pOp bIx (af 6) (ah 1)) (af 7)) ag))) ag))))
  (aV (f6 8 cI (aa (bI (aa (af 3) (aa (af 11) (aa (af 5) (aa (ai aF (aa (pOp aK (pOp bIx (af 6) (ah 0)) (af 10)) (aa (pOp aK (pOp bIx (af 6) (ah 1)) (af 7)) ag))) ag))))) ag)))))
  (au false 9 (pOp aR (af 9) (af 10))))
def j3:PSt:=
 (aj (jC (af 0) (gtX (gtT 4 (aU (gtN 3) (aU (gtN 4) (aU (gtN 5) (aU (gtN 6) dB)))))))
  (aj (au false 7 (pFn gj (aa (af 2) ag)))
  (aj (au true 8 (cH ag))
  (aj (au false 9 (ah 0))
  (aj (fA (cx (af 2)) (gtN 10) (cB))
  (ar (af 8)))))))
def dH:PFn:=fnP [false,false,false] 12 j3
def oV:dH.ms=[false,false,false]:=rfl
def oh(T:TT K mg):Callee P w K mg base "_law_parts" 3 ["_law_box", "_law_way", "_law_weights_here"] (spD K mg 3 dH.F):=aE (T.d.get 73 rfl) (ax (N:=["_law_box", "_law_way", "_law_weights_here", "_law_left", "_law_top", "_law_wide", "_law_high", "_law_whole", "_law_parts_here", "_law_ahead", "_law_weight", "_law_at"]) (by decide)) (λ_ _ _ _ _ _=>ar3 λ_ _ _=>rfl) λnd _ _ _ _ _ _ _ hr=>'d'
def eE:PSt:=
 (aV (f6 4 cI (aa (ai aF (aa (pOp aR (pOp bIx (af 2) (pOp dU (af 5) (ah 1))) (pOp bIx (af 2) (af 5))) (aa (pOp bIx (af 2) (pOp dU (af 5) (ah 1))) ag))) ag)))
def fR:PSt:=
 (aj (au false 7 (ai dH (aa (af 0) (aa (af 6) (aa (af 1) ag)))))
  (xIf (qOf (pOp bNe (ai aH (aa (af 6) (aa (af 0) (aa (af 1) ag)))) (ai bX (aa (pLC (cx (af 7)) [none] (by decide) (gtN 0) qY (ai bL (aa (af 0) ag))) ag)))) (ar (pBl false)) xNx))
def gK:PSt:=
 (aj (au false 2 (pFn ko (aa (af 1) ag)))
  (aj (au false 3 (pFn pG (aa (af 1) ag)))
  (aj (au true 4 (cH (aa (ai bL (aa (af 0) ag)) (aa (bI (aa (ah 3) (aa (ah 1) ag))) ag))))
  (aj (fA (uP (aa (ah 1) (aa (pFn cp (aa (af 2) ag)) ag))) (gtN 5) (eE))
  (aj (xIf (qO (qOf (pOp bNe (ai aH (aa (bf "thirds") (aa (af 0) (aa (af 1) ag)))) (ai bX (aa (af 4) ag)))) (qOf (pOp bNe (af 1) (af 3)))) (ar (pBl false)) xNx)
  (aj (xIf (qOf (pOp bNe (ai aH (aa (bf "halves") (aa (af 0) (aa (af 1) ag)))) (ai bX (aa (cH (aa (ai bL (aa (af 0) ag)) (aa (ai aF (aa (pFn gj (aa (af 1) ag)) (aa (pOp bIx (af 2) (ah 0)) ag))) ag))) ag)))) (ar (pBl false)) xNx)
  (aj (fA (cx (cH (aa (bf "across") (aa (bf "down") ag)))) (gtN 6) (fR))
  (aj (xIf (qO (qOf (pOp uQ (ai aH (aa (bf "rows") (aa (af 0) (aa (af 1) ag)))) pM)) (qOf (pOp uQ (ai aH (aa (bf "greatest") (aa (af 0) (aa (af 1) ag)))) pM))) (ar (pBl false)) xNx)
  (ar (gL (pOp bEq (af 1) (af 3)) (pOp bEq (ai aH (aa (bf "thirds") (aa (af 0) (aa (af 1) ag)))) (ai bX (aa (af 4) ag)))))))))))))
def cN:PFn:=fnP [false,false] 8 gK
def pK:cN.ms=[false,false]:=rfl
def nW(T:TT K mg):Callee P w K mg base "_law_right" 54 ["_law_room_here", "_law_weights_here"] (spD K mg 2 cN.F):=aE (T.d.get 77 rfl) (ax (N:=["_law_room_here", "_law_weights_here", "_law_some", "_law_kept", "_law_due", "_law_k", "_law_way", "_law_boxes"]) (by decide)) (λ_ _ _ _ _ _=>ar2 λ_ _=>rfl) λnd _ _ _ _ _ _ _ hr=>(az 'd' (az 'd' (az 'd' (az 'd' (az 'd' (az 'd' (az (xq own1 rfl 'd' 'd' (az 'd' (fK (k8 (xx (neDK (K:=K) rfl hr.u180) CF 'd' (zcF (jn T) hr (ek (jd ["_law_room_here", "_law_weights_here", "_law_some", "_law_kept", "_law_due", "_law_k", "_law_way", "_law_boxes"] (ak (top 77)).names ["_law_box"] [none] 'd' (λnd _ _ _ _ _=>'d') (λnd _ _ _ _ _=>'d')) 'd')) (o6 _)) 'd' 'd')))) 'd')))))))
def vm:PSt:=
 (aj (au true 1 (ai cF (aa (af 0) (aa (ah 55) ag))))
  (aj (au false 2 (ai eF (aa (af 1) ag)))
  (aj (au true 3 (ai cJ (aa (af 0) (aa (ah 0) (aa (pOp bIx (cH (aa (ah 9) (aa (ah 40) ag))) (pFn vA (aa (pOp bEq (ai ao (aa (af 1) (aa (ah 6) ag))) (ah 0)) ag))) ag)))))
  (aj (xIf (qNo (qOf (ai cN (aa (af 2) (aa (af 3) ag))))) (ar (pBl false)) xNx)
  (aj (mB 3 seL (pOp dU (pFn cp (aa (af 3) ag)) (ah 1)) (pOp aR (ah 1) (pOp bE (pOp bIx (af 3) (ah 0)) (pOp eL (ah 10) (ah 6)))))
  (ar (ai cN (aa (af 2) (aa (af 3) ag)))))))))
def oH:PFn:=fnP [false] 4 vm
def Dj(T:TT K mg):Callee P w K mg base "law" 55 ["_law_script"] (spD K mg 1 oH.F):=aE (T.d.get 78 rfl) (ax (N:=["_law_script", "_law_feed_here", "_law_room_here", "_law_weights_here"]) (by decide)) (λ_ _ _ _ _ _=>ar1 λ_=>rfl) λnd _ _ _ _ _ _ _ hr=>'d'
end
noncomputable def fdV(a b k:Int):Val:=.lst [.int a,.int b,.int k]
def Cr:eL.G (.int 10) (.int 18)=.val (.int (10^18)):=oD ⟨by decide,by decide,by decide⟩
def c8{a m:Int}(h:0<m):0<=a.fmod m/\a.fmod m<m:=⟨Int.fmod_nonneg_of_pos a h,Int.fmod_lt_of_pos a h⟩
set_option hygiene false in
local macro_rules | `(tactic|simp![$args,*])=>do
 let l <- ("% iH ND Lx Ld F1 gw LZ AR v9 Ie Ky JJ Ga Iw GY Ko FE BQ Ir y0 Fo HW Md Me v_bl Mn MY v_ty v_un v_op NK Gi v_fn Mm Mq LQ MQ c_of c_tr c_an c_o c_no x_nx GB MH C8 Di E5 F4 Ck x_if NB Ms Mj Dt BO Ar g_n g_sn g_sc g_t g_x Gs M5 Lb K5 Dl LC Ng LJ Nd Mb GX Jh NM Iv zJ Hz Ma ML Hw Gr Gz I0 LG K9 M6 de v_lc Kd Kv H0 o_n o_s v_sl v_d0 Mi fx_G L5 Lz k_lt k_gt k_ge K1 K3 k_ix HA HG KU k_eq k_ne M0 MJ NI Lr La Mg K7 Mw HZ JK B1 c7 List.getElem?_cons_zero List.getElem?_cons_succ List.set_cons_zero List.set_cons_succ List.length_cons List.length_nil Option.bind_some Option.map_some Option.isSome_some if_true if_false Bool.not_true Bool.not_false Bool.and_true Bool.true_and Bool.and_false Bool.false_and Bool.or_true Bool.true_or Bool.or_false Nat.reduceLeDiff Nat.reduceLT Nat.reduceAdd Nat.reduceSub Nat.zero_add Nat.add_zero Nat.sub_self List.cons_append List.nil_append List.append_nil List.replicate reduceCtorEq decide_true decide_false Bool.false_eq_true List.all_cons List.all_nil List.isEmpty_nil List.isEmpty_cons List.map_cons List.map_nil Int.reduceBEq Int.reduceLT Int.reduceAdd Int.reduceSub Int.reduceMul Int.cast_ofNat_Int Gf DY Js J3 GR E2 Bm Gj zL yO Du Et KP EO wR FC Kf Ah GO D9 Hq zU JO Kr E9 Ln Lj LO M3 xU yC xS uT sC xK BF yU yp zi ati0 ati1 ati2 ati3 ixn0 ixn1 CZ cA JS DR tj sG vP pR sQ ni qM n6 sH j0 mY xM qc rD kL vM sV sR Ek zr mH jg zP xZ qT u5 oa rS z9 B8 wM yg rn sY sT l8 pJ vV sS sX vX oV pK lb B5 DU".splitOn " ").tail.mapM λs=>`(Lean.Parser.Tactic.simpLemma| $(Lean.mkIdent s.toName):term)
 `(tactic|simp only[$(l.toArray),*,$args,*])
def aA{a b k m:Int}(h0:0<m)(hm:Sm 8000 m):∃r a' b',ao.G [fdV a b k,.int m]=.ok (.val (.int r)) [fdV a' b' k]/\0<=r/\r<m:=by
 unfold ao;rw[aD];unfold mf fdV;have m0:m≠0:=by omega
 have d1:=λi=>dO (i:=i) m0;have d2:=λi=>jA (i:=i) (CDivB.of m0 hm);have ca:∀x:Int,CMulA 7919 x:=λx=>CMulA.left (by decide) (by decide);have cb:∀x:Int,CMulA 104729 x:=λx=>CMulA.left (by decide) (by decide);have cc:∀x:Int,CMulA x 48271:=λx=>CMulA.right (by decide) (by decide);have e1:bE.G (.int a) (.int 1000003)=.val (.int (a.fmod 1000003)):=dO (by decide);have e2:aK.G (.int 7919) (.int k)=.val (.int (7919*k)):=aP (ca k);have e3:=λx=>aP (cb x);have e4:=λx=>aP (cc x);have e5:∀x:Int,bE.G (.int x) (.int 2147483647)=.val (.int (x.fmod 2147483647)):=λx=>dO (by decide);have e6:∀x:Int,bE.G (.int x) (.int 65521)=.val (.int (x.fmod 65521)):=λx=>dO (by decide);have e7:∀x y:Int,aK.G (.int (x.fmod 2147483647)) (.int y)=.val (.int (x.fmod 2147483647*y)):=λx y=>aP (CMulA.left (by have:=(c8 (a:=x) (m:=2147483647) (by decide)).1;omega) (by have:=(c8 (a:=x) (m:=2147483647) (by decide)).2;omega));have e8:∀x:Int,bE.G (.int x) (.int 2147483629)=.val (.int (x.fmod 2147483629)):=λx=>dO (by decide);by_cases hc:(10^18:Int)<=a
 .have hc':decide ((10^18:Int)<=a)=true:=D_ hc;refine⟨a.fmod m,a.fdiv m,b+1,?_,c8 h0⟩;simp![Cr,hc',d1,d2]
  done
 .have hc':decide ((10^18:Int)<=a)=false:=z_ hc;refine⟨Int.fmod (Int.fmod (Int.fmod ((Int.fmod a 1000003+7919*k+104729*(b+1))*48271) 2147483647*(Int.fmod (Int.fmod ((Int.fmod a 1000003+7919*k+104729*(b+1))*48271) 2147483647) 65521+(b+1))) 2147483629) m,a,b+1,?_,c8 h0⟩;simp![Cr,hc',d1,e1,e2,e3,e4,e5,e6,e7,e8]
def xu(w:Bool):da.G [.str (wy w)]=.ok (.val (.bl true)) []:=by
 have i1:∀x:Str,(bc bN).G [.str x,.ty "str"]=.val (.bl true):=λ_=>rfl;have i2:bIn.G (.str (wy w)) (.tup [.str "across",.str "down"])=.val (.bl true):=by cases w <;> rfl
 unfold da;rw[aD];unfold ki;simp![i1,i2]
def yD{w:Bool}{ts:List Val}(h:2<=ts.length):b8.G [.tup [.str (wy w),.tup ts]]=.ok (.val (.bl true)) []:=by have e:=xu w;have i1:∀xs:List Val,(bc bN).G [.tup xs,.ty "tuple"]=.val (.bl true):=λ_=>rfl;have g:decide ((2:Int)<=(ts.length:Nat))=true:=D_ (by omega);unfold b8;rw[aD];unfold gz;simp![i1,e,vD,g]
def yP{a:Val}(h:lfV a=true):b8.G [a]=.ok (.val (.bl false)) []:=by
 have i1:(bc bN).G [a,.ty "tuple"]=.val (.bl false):=by cases a <;> first |rfl |(cases h;done)
 unfold b8;rw[aD];unfold gz;simp![i1]
def yr(k:Nat):br.G [.int (k:Nat)]=.ok (.val (.bl true)) []:=by have i1:(bc bN).G [.int (k:Nat),.ty "int"]=.val (.bl true):=rfl;have i2:(bc bN).G [.int (k:Nat),.ty "bool"]=.val (.bl false):=rfl;unfold br;rw[aD];unfold iR;simp![i1,i2]
theorem i9{n:Nat}(v:Val):∀(N:Nat) (st:List AT) (xs:List Int) (s4:Sl),AT.cntL st<=N->s4.pl=true->(∀t∈st,t.ok=true)->(∀k∈AT.lvsL st,k<n)->(AT.lvsL st).Nodup->(∀k∈AT.lvsL st,((k:Nat):Int)∉xs)->xs.length+(AT.lvsL st).length<=3000->AT.cntL st<=100000->
 ∃(ys:List Int) (s4':Sl),ys.length=xs.length+(AT.lvsL st).length/\(xWh (qTr (af 3)) cE).G [.sh v,.sh (.int (n:Nat)),.ow (.set xs),.ow (.lst (st.map atV)),s4]=.nx [.sh v,.sh (.int (n:Nat)),.ow (.set ys),.ow (.lst []),s4']
 |
  N,[],xs,s4,_,_,_,_,_,_,_,_=>⟨xs,s4,by simp [AT.lvsL],by
  rw[i8];simp![K_,kS,List.isEmpty_nil]⟩
 |
  0,t::ts,xs,s4,h,_,_,_,_,_,_,_=>by
  rw[AT.cntL] at h;cases t <;> (rw[AT.cnt] at h;omega)
 |
  N+1,t0::ts0,xs,s4,hN,h4,ho,hn,nd,hx,hl,hc=>by
  obtain⟨st,t,hst⟩:∃st t,t0::ts0=st++[t]:=⟨(t0::ts0).dropLast,(t0::ts0).getLast (by simp),(List.dropLast_concat_getLast (by simp)).symm⟩;rw[hst] at hN ho hn nd hx hl hc ⊢;rw[AT.lvsL_app] at hn nd hx hl;rw[AT.lvsL_app];rw[AT.cntL_app] at hN hc;have hn0:((st++[t]).map atV).isEmpty=false:=by cases st <;> rfl
  have c1:(qTr (af 3)).G [.sh v,.sh (.int (n:Nat)),.ow (.set xs),.ow (.lst ((st++[t]).map atV)),s4]=.ok true [.sh v,.sh (.int (n:Nat)),.ow (.set xs),.ow (.lst ((st++[t]).map atV)),s4]:=by simp![kS,hn0,Bool.not_false]
  have hto:=ho t (by simp);rw[i8,c1];show ∃ys s4',_/\((cE.G _).loop _)=_;rw[N0,o_,K_];cases t with
  |
   lf k=>
   simp only[AT.lvsL,AT.lvs,N7,u_,B_,N3,AT.cntL,AT.cnt] at hn nd hx hl hN hc ⊢;have hk:=hn k (by simp);have hkx:=hx k (by simp);have nda:=List.nodup_append.mp nd;obtain⟨ys,s4',q1,q2⟩:=i9 (n:=n) v N st (dW xs (k:Nat)) (.sh (.int (k:Nat))) (by omega) rfl (λt ht=>ho t (by simp [ht])) (λj hj=>hn j (by simp [hj])) nda.1 (λj hj z=>by
    unfold dW at z;rw[if_neg hkx] at z;rcases E_.mp z with z |z
    .exact nda.2.2 j hj k (by simp) (Int.ofNat.inj z)
    .exact hx j (by simp [hj]) z) (by unfold dW;rw[if_neg hkx,B_];omega) (by omega)
   refine⟨ys,s4',by rw[q1];unfold dW;rw[if_neg hkx,B_];omega,?_⟩;have b1:=yP (a:=.int (k:Nat)) rfl;have w1:=yr k;have l0:decide (((k:Nat):Int)<0)=false:=z_ (by omega);have l1:decide (((n:Nat):Int)<=(k:Nat))=false:=z_ (by omega);have in1:decide (((k:Nat):Int)∈xs)=false:=z_ hkx;have av:atV (.lf k)=.int (k:Nat):=rfl;have xl:xs.length<4000:=by omega
   have bb:cE.G [.sh v,.sh (.int (n:Nat)),.ow (.set xs),.ow (.lst (st.map atV++[atV (.lf k)])),s4]=.nx [.sh v,.sh (.int (n:Nat)),.ow (.set (dW xs (k:Nat))),.ow (.lst (st.map atV)),.sh (.int (k:Nat))]:=by unfold cE;rw[av];simp![lN,h4,b1,w1,l0,l1,MK,in1,Kj,qF,zT,xl]
   rw[bb];exact q2
  |
   nd w ts=>
   have ho':=hto;rw[AT.ok,r_] at hto;have h2:2<=ts.length:=O6 hto.1;have hk:=AT.okL_mem.mp hto.2;simp only[AT.lvsL,AT.lvs,N7,AT.cntL,AT.cnt] at hn nd hx hl hN hc ⊢;obtain⟨ys,s4',q1,q2⟩:=i9 (n:=n) v N (st++ts) xs (.sh (atV (.nd w ts))) (by rw[AT.cntL_app];omega) rfl (λt ht=>by
    rcases Ot.mp ht with ht |ht
    .exact ho t (by simp [ht])
    .exact hk t ht) (by rw[AT.lvsL_app];exact hn) (by rw[AT.lvsL_app];exact nd) (by rw[AT.lvsL_app];exact hx) (by rw[AT.lvsL_app];exact hl) (by rw[AT.cntL_app];omega)
   rw[AT.lvsL_app] at q1;refine⟨ys,s4',q1,?_⟩;have av:atV (.nd w ts)=.tup [.str (wy w),.tup (ts.map atV)]:=by unfold atV;rw[AT.val,AT.vals_map]
   have b1:=yD (w:=w) (ts:=ts.map atV) (by rw[k_];exact h2);have le:∀l:List AT,l.length<=AT.cntL l:=by
    intro l;induction l with
    |nil=>exact n_ _
    |cons t l ih=>rw[AT.cntL,B_];cases t <;> (rw[AT.cnt];omega)
   have ll:(st.map atV).length+(ts.map atV).length<=16777216:=by
    have:=le st
    have:=le ts
    rw[k_,k_];omega
   rw[av] at q2 ⊢;rw[N0] at q2;have bb:cE.G [.sh v,.sh (.int (n:Nat)),.ow (.set xs),.ow (.lst (st.map atV++[.tup [.str (wy w),.tup (ts.map atV)]])),s4]=.nx [.sh v,.sh (.int (n:Nat)),.ow (.set xs),.ow (.lst (st.map atV++ts.map atV)),.sh (.tup [.str (wy w),.tup (ts.map atV)])]:=by unfold cE;simp![lN,h4,b1,nT,ll]
   rw[bb];exact q2
def vd{t:AT}{n:Nat}(ho:t.ok=true)(hn:∀k∈t.lvs,k<n)(nd:t.lvs.Nodup)(hl:t.lvs.length=n)(h3:n<=3000)(hc:t.cnt<=100000):fh.G [atV t,.int (n:Nat)]=.ok (.val (.bl true)) []:=by
 have e1:AT.lvsL [t]=t.lvs:=by simp [AT.lvsL]
 have e2:AT.cntL [t]=t.cnt:=by simp [AT.cntL]
 obtain⟨ys,s4',q1,q2⟩:=i9 (n:=n) (atV t) (AT.cntL [t]) [t] [] .no (n_ _) rfl (λu hu=>by rw[OD] at hu;rw[hu];exact ho) (by rw[e1];exact hn) (by rw[e1];exact nd) (λk hk z=>nomatch z) (by rw[e1,hl];simp;exact h3) (by rw[e2];exact hc);rw[e1,hl,N3,Nat.zero_add] at q1;rw[o_,K_] at q2;unfold fh;rw[aD];unfold nJ;generalize atV t=tv at *;simp![IM,q2,Jz,q1,beq_self_eq_true]
def nX{t:AT}{n:Nat}(ho:t.ok=true)(hn:∀k∈t.lvs,k<n)(nd:t.lvs.Nodup)(hl:t.lvs.length=n)(h3:n<=3000)(hc:t.cnt<=100000):cZ.G [atV t,.int (n:Nat)]=.ok (.val .non) []:=by have e:=vd ho hn nd hl h3 hc;unfold cZ;rw[aD];unfold jj;generalize atV t=tv at *;simp![e]
def fI(a:Int):(if a<0 then -a else a)=((a.natAbs:Nat):Int):=by split <;> omega
theorem qg:∀(n one bd:Nat),bd<=n->(xWh (qOf (pOp bNe (af 1) (ah 0))) cu).G [.sh (.int (one:Nat)),.sh (.int (bd:Nat))]=.nx [.sh (.int (Nat.gcd one bd:Nat)),.sh (.int 0)]
 |
  n,one,0,_=>by
  rw[i8];simp![iH];rw[Nat.gcd_zero_right];try rfl
 |0,one,bd+1,hl=>absurd hl (by omega)
 |
  n+1,one,bd+1,hl=>by
  rw[i8];have e:((((bd+1:Nat):Int)==0))=false:=by rw[F_];omega
  have e1:bE.G (.int (one:Nat)) (.int ((bd+1:Nat):Int))=.val (.int (((one:Nat):Int).fmod ((bd+1:Nat):Int))):=dO (by omega);have e2:((one:Nat):Int).fmod ((bd+1:Nat):Int)=((one % (bd+1):Nat):Int):=by rw[Pe _ (by omega)];rfl
  have ih:=qg n (bd+1) (one % (bd+1)) (by have:=Nat.mod_lt one (show bd+1>0 by omega);omega);rw[Fr.euc] at ih;rw[e2] at e1;have bb:cu.G [.sh (.int (one:Nat)),.sh (.int ((bd+1:Nat):Int))]=.nx [.sh (.int ((bd+1:Nat):Int)),.sh (.int ((one % (bd+1):Nat):Int))]:=by unfold cu;simp![e1]
  simp![e,bb,ih]
def cq(a b:Int):bg.G [.int a,.int b]=.ok (.val (.int (Int.gcd a b:Nat))) []:=by
 unfold bg;rw[aD];unfold fQ
 have:=qg b.natAbs a.natAbs b.natAbs (n_ _)
 simp![fI,this];rfl
def b0{a b:Int}(hb:b≠0)(hs:Sm 8000 b):a9.G [.int a,.int b]=.ok (.val (fV ((a:Rat)/(b:Rat)))) []:=by
 unfold a9;rw[aD];unfold lz;have e:(b==0)=false:=by rw[F_];exact hb
 have c:∀x,CDivB x (Fr.dv a b):=λx=>CDivB.of (Fr.dv_ne hb) (hs.of_le (by rw[Fr.dv_abs];exact Nat.le_of_dvd (by omega) (Nat.gcd_dvd_right a.natAbs b.natAbs)));have k1:=jA (c a);have k2:=jA (c b);have hh:=me (a:=a) hb;have g_:Val.tup [.int (a.fdiv (Fr.dv a b)),.int (b.fdiv (Fr.dv a b))]=fV ((a:Rat)/(b:Rat)):=by unfold fV;rw[<- hh.1,<- hh.2];rfl
 by_cases hn:b<0
 .have hd:Fr.dv a b=-((Int.gcd a b:Nat):Int):=by unfold Fr.dv;rw[if_pos hn]
  rw[hd] at k1 k2 g_;simp![e,cq,D_ hn,k1,k2,g_]
 .have hd:Fr.dv a b=((Int.gcd a b:Nat):Int):=by unfold Fr.dv;rw[if_neg hn]
  rw[hd] at k1 k2 g_;simp![e,cq,z_ hn,k1,k2,g_]
def B0{p q:Rat}{n m:Nat}(hp:Sz n p)(hq:Sz m q)(h:n+m<=8000):g0.G [fV p,fV q]=.ok (.val (fV (p+q))) []:=by have c1:=aP (CMulA.of hp.top hq.bot (by omega) (by omega));have c2:=aP (CMulA.of hq.top hp.bot (by omega) (by omega));have c3:=aP (CMulA.of hp.bot hq.bot (by omega) (by omega));have fe:=b0 (a:=p.num*q.den+q.num*p.den) (b:=p.den*q.den) (O1 (bT p) (bT q)) ((hp.bot.mul hq.bot).mono h);rw[<- tQ] at fe;unfold g0;rw[aD];unfold uM;rw[show fV p=.tup [.int p.num,.int p.den] from rfl,show fV q=.tup [.int q.num,.int q.den] from rfl];simp![c1,c2,c3,fe]
def rX{p q:Rat}{n m:Nat}(hp:Sz n p)(hq:Sz m q)(h:n+m<=8000):fM.G [fV p,fV q]=.ok (.val (fV (p*q))) []:=by have c1:=aP (CMulA.of hp.top hq.top (by omega) (by omega));have c2:=aP (CMulA.of hp.bot hq.bot (by omega) (by omega));have fe:=b0 (a:=p.num*q.num) (b:=p.den*q.den) (O1 (bT p) (bT q)) ((hp.bot.mul hq.bot).mono h);rw[<- ui] at fe;unfold fM;rw[aD];unfold tu;rw[show fV p=.tup [.int p.num,.int p.den] from rfl,show fV q=.tup [.int q.num,.int q.den] from rfl];simp![c1,c2,fe]
def kW{p q:Rat}{n m:Nat}(hp:Sz n p)(hq:Sz m q)(h1:n<=100000)(h2:m<=100000):eg.G [fV p,fV q]=.ok (.val (.bl (decide (p<q)))) []:=by have c1:=aP (CMulA.of hp.top hq.bot h1 h2);have c2:=aP (CMulA.of hq.top hp.bot h2 h1);unfold eg;rw[aD];unfold nt;rw[show fV p=.tup [.int p.num,.int p.den] from rfl,show fV q=.tup [.int q.num,.int q.den] from rfl];simp![c1,c2];rw[show decide (p.num*(q.den:Int)<q.num*(p.den:Int))=decide (p<q) from decide_eq_decide.mpr (lK p q).symm]
def jL{v:Val}(hk:knV v=true):(bc bN).G [v,.ty "tuple"]=.val (.bl (eB v)):=by cases v <;> first |rfl |cases hk
def gH{v:Val}(hk:knV v=true):br.G [v]=.ok (.val (.bl (iC v))) []:=by unfold br;rw[aD];unfold iR;cases v <;> first |rfl |cases hk
def pP(v:Val):eB v=false\/∃xs,v=.tup xs:=by cases v <;> first |exact .inr ⟨_,rfl⟩ |exact .inl rfl
def kP(v:Val):iC v=false\/∃i,v=.int i:=by cases v <;> first |exact .inr ⟨_,rfl⟩ |exact .inl rfl
def Nm{v:Val}(h:eB v=false):aM v=false:=by cases v <;> first |rfl |cases h
def Mv{v:Val}(h:eB v=false):fg v=false:=by cases v <;> first |rfl |cases h
def Hj{a b:Val}(h:iC a=false):aM (.tup [a,b])=false:=by cases a <;> first |rfl |cases h
def Gp{i:Int}{b:Val}(h:iC b=false):aM (.tup [.int i,b])=false:=by cases b <;> first |rfl |cases h
def Lm{xs:List Val}(hl:xs.length≠2):aM (.tup xs)=false:=by
 unfold aM;split
 .rename_i e;injection e with e;subst e;exact absurd rfl hl
 .rfl
def NC{xs:List Val}(hl:xs.length≠4):fg (.tup xs)=false:=by
 unfold fg;split
 .rename_i e;injection e with e;subst e;exact absurd rfl hl
 .rfl
def C5{k:Nat}{v:Val}(ha:gJ k v=true)(h:eB v=false):knV v=true:=by
 cases v with
 |tup xs=>cases h
 |_=>cases k <;> exact ha
def m5{v:Val}(ha:gJ 1 v=true):bS.G [v]=.ok (.val (.bl (aM v))) []:=by
 unfold bS;rw[aD];unfold i5;rcases pP v with ht |⟨xs,rfl⟩
 .have it:=jL (C5 ha ht);rw[ht] at it;simp![it,Nm ht]
 have it:=jL (v:=.tup xs) rfl;by_cases hl:xs.length=2
 .match xs,hl,ha with
  |
   [a,b],_,ha=>
   have ha':(knV a&&(knV b&&true))=true:=by simpa [gJ] using ha
   simp only[r_] at ha';have w1:=gH ha'.1;have w2:=gH ha'.2.1;rcases kP a with h1 |⟨i,rfl⟩
   .rw[h1] at w1;simp![it,eB,w1,Hj h1]
   rcases kP b with h2 |⟨j,rfl⟩
   .rw[h2] at w2;simp![it,eB,w1,iC,w2,Gp h2]
   have f:aM (.tup [.int i,.int j])=(decide (1<=j)&&decide (Int.gcd i j=1)):=rfl;have g:((((Int.gcd i j:Nat):Int)==1):Bool)=decide (Int.gcd i j=1):=by rw[PM,N5,OT];omega
   by_cases hj:1<=j
   .simp![it,eB,w1,w2,iC,cq,D_ hj,f,g]
   .simp![it,eB,w1,w2,iC,cq,z_ hj,f,g]
 .have e:(((xs.length:Nat):Int)==2)=false:=by rw[F_];omega
  simp![it,eB,e,Lm hl]
def nB{v:Val}(ha:gJ 2 v=true):fN.G [v]=.ok (.val (.bl (fg v))) []:=by
 unfold fN;rw[aD];unfold sy;rcases pP v with ht |⟨xs,rfl⟩
 .have it:=jL (C5 ha ht);rw[ht] at it;simp![it,Mv ht]
 have it:=jL (v:=.tup xs) rfl;by_cases hl:xs.length=4
 .match
   xs,hl,ha with
  |
   [a,b,c,d],_,ha=>
   have e1:fg (.tup [a,b,c,d])=(aM a&&(aM b&&(aM c&&(aM d&&(iM c&&iM d))))):=rfl;have bl4:∀x y z w:Bool,ji [.bl x,.bl y,.bl z,.bl w]=some [x,y,z,w]:=λ_ _ _ _=>rfl;obtain⟨e',⟨s',rfl,_⟩,lc⟩:=mG (g:=(gtN 0).G) (F:=(ai bS (aa (af 0) ag)).G) (f:=λv=>.bl (aM v)) (λe=>∃s,e=[s]/\s.pl=true) [a,b,c,d] [] [.no] ⟨.no,rfl,rfl⟩ (by
    rintro v hv e ⟨s,rfl,hs⟩;have hv':gJ 1 v=true:=M_.mp (by simpa [gJ] using ha) v hv;refine⟨[.sh v],.val (.bl (aM v)),[.sh v],?_,?_,rfl,⟨_,rfl,rfl⟩⟩
    .simp![hs]
    .simp![m5 hv']) (by simp)
   have cy:cY=qY.G:=rfl;rw[cy,Oi] at lc;simp only[o_,K_] at lc;cases hA:(aM a&&(aM b&&(aM c&&aM d))) with
   |
    true=>
    simp only[r_] at hA;obtain⟨p,rfl⟩:=x8 hA.2.2.1;obtain⟨q,rfl⟩:=x8 hA.2.2.2;rw[hA.1,hA.2.1,hA.2.2.1,hA.2.2.2] at e1 lc;have e2:fg (.tup [a,b,fV p,fV q])=(decide (0<p.num)&&decide (0<q.num)):=by rw[e1];rfl
    rw[e2];have i1:(fV p).items=some [.int p.num,.int p.den]:=rfl;have i2:(fV q).items=some [.int q.num,.int q.den]:=rfl;by_cases hp:0<p.num
    .simp![it,eB,lc,cA,bl4,id,i1,i2,D_ hp]
    .simp![it,eB,lc,cA,bl4,id,i1,z_ hp]
   |
    false=>
    have e2:fg (.tup [a,b,c,d])=false:=by rw[e1];revert hA;generalize aM a=a',aM b=b',aM c=c',aM d=d',(iM c&&iM d)=z;revert a' b' c' d' z;decide
    rw[e2];simp![it,eB,lc,cA,bl4,id,hA]
 .have e:(((xs.length:Nat):Int)==4)=false:=by rw[F_];omega
  simp![it,eB,e,NC hl]
def p9{v:Val}(ha:gJ 2 v=true):aW.G [v]=if fg v=true then .ok (.val .non) [] else .exc "NoBox" []:=by
 unfold aW;rw[aD];unfold j7;cases h:fg v with
 |true=>simp![nB ha,h]
 |false=>simp![nB ha,h]
def bu{b:Bx}(hb:b.Ok):aW.G [bV b]=.ok (.val .non) []:=by rw[p9 (Hg b),Bq hb];rfl
def Mx{v:Val}(h:iC v=false):gv v=false:=by cases v <;> first |rfl |cases h
def zV(v:Val):cV v=false\/∃xs,v=.lst xs:=by cases v <;> first |exact .inr ⟨_,rfl⟩ |exact .inl rfl
def rQ{v:Val}(hk:knV v=true):cP.G [v]=.ok (.val (.bl (gv v))) []:=by
 have w:=gH hk;unfold cP;rw[aD];unfold j9;rcases kP v with h |⟨i,rfl⟩
 .rw[h] at w;simp![w,Mx h]
 .simp![w,iC];rfl
def tP{v:Val}(hk:knV v=true):(bc bN).G [v,.ty "list"]=.val (.bl (cV v)):=by cases v <;> first |rfl |cases hk
noncomputable def u4(v:Val):R3F:=match v with
 |.lst xs=>if xs=[] then .exc "NoWeights" [] else if xs.all gv=true then (if xs.length<=40 then .ok (.val .non) [] else .exc "TooMany" []) else .exc "NoWeights" []
 |_=>.exc "NoWeights" []
def Jt{v:Val}(h:cV v=false):u4 v=.exc "NoWeights" []:=by cases v <;> first |rfl |cases h
noncomputable def pV:Val->Bool
 |.lst xs=>decide (xs.length<=1000)&&xs.all knV
 |v=>knV v
def EI{v:Val}(h:pV v=true)(hl:cV v=false):knV v=true:=by cases v <;> first |(cases hl;done) |exact h
theorem ir(f:Val->Bool):∀xs:List Val,ji (xs.map λv=>.bl (f v))=some (xs.map f)
 | []=>rfl
 |x::xs=>by show (ji (xs.map λv=>.bl (f v))).map (f x :: ·)=_;rw[ir f xs];rfl
def iS(f:Val->Bool)(xs:List Val):(xs.map f).all id=xs.all f:=by rw[List.all_map];rfl
def kR{v:Val}(ha:pV v=true):aQ.G [v]=u4 v:=by
 unfold aQ;rw[aD];unfold gu;rcases zV v with hv |⟨xs,rfl⟩
 .have il:=tP (EI ha hv);rw[hv] at il;rw[Jt hv];simp![il]
 .have ha':xs.length<=1000/\xs.all knV=true:=by simpa [pV] using ha
  have il:=tP (v:=.lst xs) rfl;unfold u4;dsimp only;by_cases h0:xs=[]
  .subst h0;simp![il]
  .have e0:(((xs.length:Nat):Int)==0)=false:=by rw[F_];intro z;exact h0 (List.length_eq_zero_iff.mp (by omega))
   rw[if_neg h0];obtain⟨e',p',lc⟩:=mG (g:=(gtN 0).G) (F:=(ai cP (aa (af 0) ag)).G) (f:=λv=>.bl (gv v)) (λe=>∃s,e=[s]/\s.pl=true) xs [] [.no] ⟨.no,rfl,rfl⟩ (by
    rintro v hv e ⟨s,rfl,hs⟩;refine⟨[.sh v],.val (.bl (gv v)),[.sh v],?_,?_,rfl,⟨_,rfl,rfl⟩⟩
    .simp![hs]
    .simp![rQ (M_.mp ha'.2 v hv)]) (by simp;omega)
   obtain⟨s',rfl,_⟩:=p';have cy:cY=qY.G:=rfl;rw[cy,Oi] at lc;have a_:(xs.map λv=>Val.bl (gv v)).length<=16777216:=by rw[k_];omega
   by_cases hw:xs.all gv=true
   .rw[if_pos hw];by_cases h40:xs.length<=40
    .have hd:decide ((40:Int)<((xs.length:Nat):Int))=false:=z_ (by omega);rw[if_pos h40];simp![il,e0,cA,lc,a_,ir,iS,hw,hd]
    .have hd:decide ((40:Int)<((xs.length:Nat):Int))=true:=D_ (by omega);rw[if_neg h40];simp![il,e0,cA,lc,a_,ir,iS,hw,hd]
   .have hw':xs.all gv=false:=Bool.eq_false_iff.mpr hw;rw[if_neg hw];simp![il,e0,cA,lc,a_,ir,iS,hw']
def fT{ws:List Int}(h0:ws≠[])(h1:∀w∈ws,1<=w)(h2:ws.length<=40):aQ.G [.lst (ws.map .int)]=.ok (.val .non) []:=by
 have ha:pV (.lst (ws.map .int))=true:=by simp only[pV,r_,OT,k_];exact⟨by omega,by rw[M_];intro v hv;obtain⟨w,_,rfl⟩:=Og.mp hv;rfl⟩
 rw[kR ha];unfold u4;dsimp only;rw[if_neg (by intro z;exact h0 (P5.mp z)),if_pos (by rw[M_];intro v hv;obtain⟨w,hw,rfl⟩:=Og.mp hv;exact D_ (h1 w hw)),if_pos (by rw[k_];exact h2)]
def qL:bG (.str "down") (.str "across")=some false:=by rw[L3.eq_str (by decide) (by decide)];exact Oa some (by decide)
def rj:bG (.str "across") (.str "across")=some true:=by rw[L3.eq_str (by decide) (by decide)];exact Oa some (by decide)
noncomputable def prV(p:Rat×Rat):Val:=.tup [fV p.1,fV p.2]
theorem uf{s l:Rat}{n m:Nat}{W:Int}{wv:Val}(hs:Sz n s)(hl:Sz n l)(hW:0<W)(mW:Sm m W)(h:n+n+m<=8000):∀(ws:List Int) (a:Int) (acc:List (Rat×Rat)) (s6 s7:Sl),s6.pl=true->s7.pl=true->0<=a->(∀w∈ws,0<=w)->a+ws.sum<=W->acc.length+ws.length<=16777216->∃s6' s7',c9 (gtN 6).G gq.G (ws.map .int) [.sh (fV s),.sh (fV l),.sh wv,.sh (.int W),.sh (.int a),.ow (.lst (acc.map prV)),s6,s7]=.nx [.sh (fV s),.sh (fV l),.sh wv,.sh (.int W),.sh (.int (a+ws.sum)),.ow (.lst ((acc++shL s l W a ws).map prV)),s6',s7']
 | [],a,acc,s6,s7,h6,h7,ha,hw,hsum,a_=>⟨s6,s7,by rw[K_,de,List.sum_nil,Int.add_zero];unfold shL;rw[N7]⟩
 |
  w::ws,a,acc,s6,s7,h6,h7,ha,hw,hsum,a_=>by
  have hw0:=hw w (m_ ..);have hws:0<=ws.sum:=by
   have:∀l:List Int,(∀w∈l,0<=w)->0<=l.sum:=by
    intro l;induction l with
    |nil=>intro _;simp
    |cons x l ih=>intro hx;rw[N1];have:=hx x (m_ ..);have:=ih λw hw=>hx w (l_ _ hw);omega
   exact this ws λx hx=>hw x (l_ _ hx)
  rw[N1] at hsum;rw[B_] at a_;have sa:Sm m a:=mW.of_le (by omega);have sw:Sm m w:=mW.of_le (by omega);have f1:=b0 (a:=a) (b:=W) (by omega) (mW.mono (by omega));have f2:=b0 (a:=w) (b:=W) (by omega) (mW.mono (by omega));have z1:Sz m ((a:Rat)/(W:Rat)):=Sz.div (by omega) sa mW m (n_ _) (n_ _);have z2:Sz m ((w:Rat)/(W:Rat)):=Sz.div (by omega) sw mW m (n_ _) (n_ _);have t1:=rX hl z1 (by omega);have t2:=rX hl z2 (by omega);have ad:=B0 hs (hl.mul z1) (by omega);have ll:(acc.map prV).length<16777216:=by rw[k_];omega
  obtain⟨t6,t7,ih⟩:=uf (wv:=wv) hs hl hW mW h ws (a+w) (acc++[(s+l*((a:Rat)/(W:Rat)),l*((w:Rat)/(W:Rat)))]) (.sh (.int w)) (.sh (fV (s+l*((a:Rat)/(W:Rat))))) rfl rfl (by omega) (λx hx=>hw x (l_ _ hx)) (by omega) (by simp;omega);refine⟨t6,t7,?_⟩;have g1:(gtN 6).G (.int w) [.sh (fV s),.sh (fV l),.sh wv,.sh (.int W),.sh (.int a),.ow (.lst (acc.map prV)),s6,s7]=some [.sh (fV s),.sh (fV l),.sh wv,.sh (.int W),.sh (.int a),.ow (.lst (acc.map prV)),.sh (.int w),s7]:=by simp![h6]
  have b1:gq.G [.sh (fV s),.sh (fV l),.sh wv,.sh (.int W),.sh (.int a),.ow (.lst (acc.map prV)),.sh (.int w),s7]=.nx [.sh (fV s),.sh (fV l),.sh wv,.sh (.int W),.sh (.int (a+w)),.ow (.lst ((acc++[(s+l*((a:Rat)/(W:Rat)),l*((w:Rat)/(W:Rat)))]).map prV)),.sh (.int w),.sh (fV (s+l*((a:Rat)/(W:Rat))))]:=by unfold gq;rw[N0];simp![h7,f1,f2,t1,t2,ad,ll,prV]
  rw[o_,bP,g1];simp only[b1,gw];rw[ih,N1];rw[show shL s l W a (w::ws)=(s+l*((a:Rat)/(W:Rat)),l*((w:Rat)/(W:Rat)))::shL s l W (a+w) ws from rfl,OI,show a+w+ws.sum=a+(w+ws.sum) by omega];rfl
def nz{s l:Rat}{n m:Nat}{ws:List Int}(hs:Sz n s)(hl:Sz n l)(hw:∀w∈ws,0<=w)(h0:0<ws.sum)(mW:Sm m ws.sum)(h:n+n+m<=8000)(a_:ws.length<=1000):eT.G [fV s,fV l,.lst (ws.map .int)]=.ok (.new (.lst ((shL s l ws.sum 0 ws).map prV))) []:=by obtain⟨s6,s7,lo⟩:=uf (wv:=.lst (ws.map .int)) hs hl h0 mW h ws 0 [] .no .no rfl rfl (by omega) hw (by omega) (by simp;omega);rw[Oi,K_] at lo;unfold eT;rw[aD];unfold qZ;simp![lo]
def Kb{way:Str}(hw:way="across" \/ way="down"):dD.G [.str way]=.ok (.val .non) []:=by
 have i1:∀x:Str,(bc bN).G [.str x,.ty "str"]=.val (.bl true):=λ_=>rfl;have i2:bIn.G (.str way) (.tup [.str "across",.str "down"])=.val (.bl true):=by rcases hw with rfl |rfl <;> rfl
 have e1:da.G [.str way]=.ok (.val (.bl true)) []:=by unfold da;rw[aD];unfold ki;simp![i1,i2]
 unfold dD;rw[aD];unfold j6;simp![e1]
def yz{b:Bx}{n m:Nat}{way:Str}{ws:List Int}(hb:b.Ok)(hs:b.Sz n)(hway:way="across" \/ way="down")(h0:ws≠[])(hw:∀w∈ws,1<=w)(mW:Sm m ws.sum)(h:n+n+m<=8000)(a_:ws.length<=40):eU.G [bV b,.str way,.lst (ws.map .int)]=.ok (.new (.lst ((aq b way ws).map bV))) []:=by
 have cw:=fT h0 hw a_;have cy:=Kb hway;have sp:0<ws.sum:=by
  cases ws with
  |nil=>exact absurd rfl h0
  |
   cons x l=>
   rw[N1]
   have:=hw x (m_ ..)
   have:∀l:List Int,(∀w∈l,1<=w)->0<=l.sum:=by
    intro l;induction l with
    |nil=>intro _;simp
    |cons x l ih=>intro hx;rw[N1];have:=hx x (m_ ..);have:=ih λw hw=>hx w (l_ _ hw);omega
   have:=this l λx hx=>hw x (l_ _ hx)
   omega
 have cb:aW.G [.tup [fV b.l,fV b.t,fV b.w,fV b.h]]=.ok (.val .non) []:=bu hb;have sh1:=nz hs.l hs.w (λw z=>by have:=hw w z;omega) sp mW h (by omega);have sh2:=nz hs.t hs.h (λw z=>by have:=hw w z;omega) sp mW h (by omega);show eU.G [.tup [fV b.l,fV b.t,fV b.w,fV b.h],.str way,.lst (ws.map .int)]=_;unfold eU aq;rw[aD];unfold sj;rcases hway with rfl |rfl
 .rw[if_pos (rfl:("across" : Str)="across")];have ln:=gW b.l b.w ws.sum ws 0;obtain⟨e',⟨s,t,rfl,_,_⟩,lc⟩:=dX (g:=(gtT 2 (aU (gtN 0) (aU (gtN 1) dB))).G) (F:=(bI (aa (af 0) (aa (af 2) (aa (af 1) (aa (af 3) ag))))).G) prV (λp=>bV ⟨p.1,b.t,p.2,b.h⟩) (λe=>∃s t,e=[s,t,.sh (fV b.t),.sh (fV b.h)]/\s.pl=true/\t.pl=true) (shL b.l b.w ws.sum 0 ws) [] [.no,.no,.sh (fV b.t),.sh (fV b.h)] ⟨.no,.no,rfl,rfl,rfl⟩ (by
   rintro p hp e ⟨s,t,rfl,hs,ht⟩;refine⟨[.sh (fV p.1),.sh (fV p.2),.sh (fV b.t),.sh (fV b.h)],.val (bV ⟨p.1,b.t,p.2,b.h⟩),[.sh (fV p.1),.sh (fV p.2),.sh (fV b.t),.sh (fV b.h)],?_,?_,rfl,⟨_,_,rfl,rfl,rfl⟩⟩
   .simp![prV,hs,ht]
   .simp![bV]) (by rw[ln,N3];omega)
  rw[Oi] at lc;have ll:((shL b.l b.w ws.sum 0 ws).map λp=>bV ⟨p.1,b.t,p.2,b.h⟩).length<=16777216:=by rw[k_,ln];omega
  rw[OX,show (bV ∘ λp:Rat×Rat=>(⟨p.1,b.t,p.2,b.h⟩:Bx))=λp=>bV ⟨p.1,b.t,p.2,b.h⟩ from rfl];simp![cb,cy,cw,rj,sh1,lc,ll]
 .have hne:¬ (("down" : Str)="across"):=by decide
  rw[if_neg hne];have ln:=gW b.t b.h ws.sum ws 0;obtain⟨e',⟨s,t,rfl,_,_⟩,lc⟩:=dX (g:=(gtT 2 (aU (gtN 0) (aU (gtN 1) dB))).G) (F:=(bI (aa (af 2) (aa (af 0) (aa (af 3) (aa (af 1) ag))))).G) prV (λp=>bV ⟨b.l,p.1,b.w,p.2⟩) (λe=>∃s t,e=[s,t,.sh (fV b.l),.sh (fV b.w)]/\s.pl=true/\t.pl=true) (shL b.t b.h ws.sum 0 ws) [] [.no,.no,.sh (fV b.l),.sh (fV b.w)] ⟨.no,.no,rfl,rfl,rfl⟩ (by
   rintro p hp e ⟨s,t,rfl,hs,ht⟩;refine⟨[.sh (fV p.1),.sh (fV p.2),.sh (fV b.l),.sh (fV b.w)],.val (bV ⟨b.l,p.1,b.w,p.2⟩),[.sh (fV p.1),.sh (fV p.2),.sh (fV b.l),.sh (fV b.w)],?_,?_,rfl,⟨_,_,rfl,rfl,rfl⟩⟩
   .simp![prV,hs,ht]
   .simp![bV]) (by rw[ln,N3];omega)
  rw[Oi] at lc;have ll:((shL b.t b.h ws.sum 0 ws).map λp=>bV ⟨b.l,p.1,b.w,p.2⟩).length<=16777216:=by rw[k_,ln];omega
  rw[OX,show (bV ∘ λp:Rat×Rat=>(⟨b.l,p.1,b.w,p.2⟩:Bx))=λp=>bV ⟨b.l,p.1,b.w,p.2⟩ from rfl];simp![cb,cy,cw,qL,sh2,lc,ll]
theorem gM{f:Nat->Val}(v:Val):∀(N:Nat) (st:List AT) (acc:List Nat) (s3:Sl),AT.cntL st<=N->s3.pl=true->(∀k∈AT.lvsL st,lfV (f k)=true)->acc.length+AT.cntL st<=100000->
 ∃(l:List Nat) (s3':Sl),l.Perm (AT.lvsL st)/\(xWh (qTr (af 2)) bR).G [.sh v,.ow (.lst (acc.map f)),.ow (.lst (st.map (AT.val f))),s3]=.nx [.sh v,.ow (.lst ((acc++l).map f)),.ow (.lst []),s3']
 |
  N,[],acc,s3,_,_,_,_=>⟨[],s3,.nil,by
  rw[i8,N7];simp![K_,kS,List.isEmpty_nil]⟩
 |
  0,t::ts,acc,s3,h,_,_,_=>by
  rw[AT.cntL] at h;cases t <;> (rw[AT.cnt] at h;omega)
 |
  N+1,t0::ts0,acc,s3,hN,h3,hf,hl=>by
  obtain⟨st,t,hst⟩:∃st t,t0::ts0=st++[t]:=⟨(t0::ts0).dropLast,(t0::ts0).getLast (by simp),(List.dropLast_concat_getLast (by simp)).symm⟩;rw[hst] at hN hf hl ⊢;rw[AT.lvsL_app] at hf;rw[AT.lvsL_app];rw[AT.cntL_app] at hN hl;have hn0:((st++[t]).map (AT.val f)).isEmpty=false:=by cases st <;> rfl
  have c1:(qTr (af 2)).G [.sh v,.ow (.lst (acc.map f)),.ow (.lst ((st++[t]).map (AT.val f))),s3]=.ok true [.sh v,.ow (.lst (acc.map f)),.ow (.lst ((st++[t]).map (AT.val f))),s3]:=by simp![kS,hn0,Bool.not_false]
  rw[i8,c1];show ∃l s3',_/\((bR.G _).loop _)=_;rw[N0,o_,K_];cases t with
  |
   lf k=>
   simp only[AT.lvsL,AT.lvs,N7,AT.cntL,AT.cnt] at hf hN hl ⊢;obtain⟨l,s3',q1,q2⟩:=gM (f:=f) v N st (acc++[k]) (.sh (f k)) (by omega) rfl (λj hj=>hf j (by simp [hj])) (by rw[u_];simp only[B_,N3];omega);refine⟨k::l,s3',((q1.cons k).trans (List.perm_append_comm (l₁:=[k]) (l₂:=AT.lvsL st))),?_⟩;have i1:(bc bN).G [f k,.ty "tuple"]=.val (.bl false):=by
    have:=hf k (by simp)
    generalize f k=a at *;cases a <;> first |rfl |(cases this;done)
   have al:(acc.map f).length<16777216:=by rw[k_];omega
   have bb:bR.G [.sh v,.ow (.lst (acc.map f)),.ow (.lst (st.map (AT.val f)++[AT.val f (.lf k)])),s3]=.nx [.sh v,.ow (.lst ((acc++[k]).map f)),.ow (.lst (st.map (AT.val f))),.sh (f k)]:=by unfold bR;rw[AT.val,N0,o_,K_];generalize f k=a at *;simp![lN,h3,i1,al]
   rw[bb,show acc++k::l=acc++[k]++l by simp];exact q2
  |
   nd w ts=>
   simp only[AT.lvsL,AT.lvs,N7,AT.cntL,AT.cnt] at hf hN hl ⊢;obtain⟨l,s3',q1,q2⟩:=gM (f:=f) v N (st++ts) acc (.sh (AT.val f (.nd w ts))) (by rw[AT.cntL_app];omega) rfl (by rw[AT.lvsL_app];exact hf) (by rw[AT.cntL_app];omega);rw[AT.lvsL_app] at q1;refine⟨l,s3',q1,?_⟩;have i1:∀xs:List Val,(bc bN).G [.tup xs,.ty "tuple"]=.val (.bl true):=λ_=>rfl;have le:∀l:List AT,l.length<=AT.cntL l:=by
    intro l;induction l with
    |nil=>exact n_ _
    |cons t l ih=>rw[AT.cntL,B_];cases t <;> (rw[AT.cnt];omega)
   have ll:(st.map (AT.val f)).length+(ts.map (AT.val f)).length<=16777216:=by
    have:=le st
    have:=le ts
    rw[k_,k_];omega
   rw[AT.val,AT.vals_map] at q2 ⊢;rw[N0] at q2;have bb:bR.G [.sh v,.ow (.lst (acc.map f)),.ow (.lst (st.map (AT.val f)++[.tup [.str (wy w),.tup (ts.map (AT.val f))]])),s3]=.nx [.sh v,.ow (.lst (acc.map f)),.ow (.lst (st.map (AT.val f)++ts.map (AT.val f))),.sh (.tup [.str (wy w),.tup (ts.map (AT.val f))])]:=by unfold bR;simp![lN,h3,i1,vD,nT,ll]
   rw[bb];exact q2
def yR{f:Nat->Val}{t:AT}(hf:∀k∈t.lvs,lfV (f k)=true)(hc:t.cnt<=100000):∃l:List Nat,l.Perm t.lvs/\cL.G [t.val f]=.ok (.new (.lst (l.map f))) []:=by
 have e1:AT.lvsL [t]=t.lvs:=by simp [AT.lvsL]
 have e2:AT.cntL [t]=t.cnt:=by simp [AT.cntL]
 obtain⟨l,s3',q1,q2⟩:=gM (f:=f) (t.val f) (AT.cntL [t]) [t] [] .no (n_ _) rfl (by rw[e1];exact hf) (by rw[e2,N3];omega);rw[e1] at q1;refine⟨l,q1,?_⟩;rw[o_,K_,K_,Oi] at q2;unfold cL;rw[aD];unfold kd;generalize t.val f=tv at *;simp![q2]
def Kk{ws:List Int}{l:List Nat}(hl:l.length<=1000)(hi:∀k∈l,k<ws.length):∃s,lcV (gtN 0).G qY.G (pOp bIx (af 1) (af 0)).G (l.map λk:Nat=>.int k) [] [.no,.sh (liV ws)]=.ok ((l.map λk=>ws.getD k 0).map .int) [s,.sh (liV ws)]:=by
 obtain⟨e',⟨s,rfl,_⟩,lc⟩:=dX (g:=(gtN 0).G) (F:=(pOp bIx (af 1) (af 0)).G) (λk:Nat=>Val.int k) (λk:Nat=>Val.int (ws.getD k 0)) (λe=>∃s:Sl,e=[s,.sh (liV ws)]/\s.pl=true) l [] [.no,.sh (liV ws)] ⟨.no,rfl,rfl⟩ (by
  rintro k hk _ ⟨s,rfl,hs⟩;have h1:=hi k hk;have a1:atI (ws.map Val.int) (k:Nat)=some (.int (ws.getD k 0)):=dn (by omega) (by rw[L_];show (ws[k]?).map _=_;rw[NW,y_ h1];rfl);refine⟨[.sh (.int (k:Nat)),.sh (liV ws)],.val (.int (ws.getD k 0)),[.sh (.int (k:Nat)),.sh (liV ws)],?_,?_,rfl,_,rfl,rfl⟩
  .simp![hs]
  .unfold liV;simp![a1]) (by rw[N3];omega)
 exact⟨s,by rw[OX];exact lc⟩
def sW{ws:List Int}{b:Bx}{w:Bool}{ts:List AT}{n m:Nat}(h:AT.lay ws n m (.nd w ts) b)(hnm:n+n+m<=8000)(hi:∀k∈AT.lvsL ts,k<ws.length)(hl:(AT.lvsL ts).length<=1000)(hc:AT.cntL ts<=100000):er.G [bV b,liV ws,atV (.nd w ts)]=.ok (.new (.lst ((aq b (wy w) (ts.map (wtT ws))).map bV))) []:=by
 rw[AT.lay] at h;obtain⟨h1,h2,h3,h4,h5,h6,_⟩:=h;have ew:wy w="across" \/ wy w="down":=by cases w;exact .inr rfl;exact .inl rfl
 have pe:=yz h1 h2 ew (ws:=ts.map (wtT ws)) (by simpa using h3) (λx hx=>by obtain⟨t,ht,rfl⟩:=Og.mp hx;exact h5 t ht) h6 hnm (by rw[k_];exact h4);have cle:∀t∈ts,t.cnt<=AT.cntL ts:=λt ht=>AT.cnt_le ht;have lle:∀t∈ts,t.lvs.length<=(AT.lvsL ts).length:=λt ht=>AT.lvs_le ht;obtain⟨e',⟨s,rfl,_⟩,lc⟩:=dX (g:=(gtN 0).G) (F:=(pFn gj (aa (pLC (cx (ai cL (aa (af 0) ag))) [none,some 1] (by decide) (gtN 0) qY (pOp bIx (af 1) (af 0))) ag)).G) atV (λt=>Val.int (wtT ws t)) (λe=>∃s:Sl,e=[s,.sh (liV ws)]/\s.pl=true) ts [] [.no,.sh (liV ws)] ⟨.no,rfl,rfl⟩ (by
  rintro t ht _ ⟨s,rfl,hs⟩;obtain⟨l,lp,e1⟩:=yR (f:=λk=>.int (k:Nat)) (t:=t) (λ_ _=>rfl) (by have:=cle t ht;omega);rw[show AT.val (λk=>Val.int (k:Nat)) t=atV t from rfl] at e1;obtain⟨s',lc⟩:=Kk (ws:=ws) (l:=l) (by rw[lp.length_eq];have:=lle t ht;omega) (λk hk=>hi k (AT.lvsL_mem.mpr ⟨t,ht,lp.mem_iff.mp hk⟩));have ll:((l.map λk=>ws.getD k 0).map Val.int).length<=16777216:=by rw[k_,k_,lp.length_eq];have:=lle t ht;omega
  have sm:(l.map λk=>ws.getD k 0).sum=wtT ws t:=BG lp;refine⟨[.sh (atV t),.sh (liV ws)],.val (.int (wtT ws t)),[.sh (atV t),.sh (liV ws)],?_,?_,rfl,_,rfl,rfl⟩
  .generalize atV t=tv at *;simp![hs]
  .rw[<- sm];generalize atV t=tv at *;generalize liV ws=wv at *;generalize (l.map λk:Nat=>Val.int (k:Nat))=LV at *;simp![e1,cA,inS,lc,ll]) (by rw[N3];omega)
 have av:atV (.nd w ts)=.tup [.str (wy w),.tup (ts.map atV)]:=by unfold atV;rw[AT.val,AT.vals_map]
 have lm:ts.map (λt=>Val.int (wtT ws t))=(ts.map (wtT ws)).map .int:=by rw[OX];rfl
 have l2:((ts.map (wtT ws)).map Val.int).length<=16777216:=by rw[k_,k_];omega
 rw[Oi,lm] at lc;rw[av];generalize (aq b (wy w) (ts.map (wtT ws))).map bV=PB at *;generalize (ts.map (wtT ws)).map Val.int=SV at *;generalize ts.map atV=TV at *;generalize liV ws=wv at *;generalize bV b=bv at *;unfold er;rw[aD];unfold lR;simp![cA,inS,lc,l2,pe]
theorem lu{ws:List Int}{n m k:Nat}(rv tv:Val):∀(ts:List AT) (bs:List Bx) (kvs:List (Key×Val)) (s4 s5:Sl),s4.pl=true->s5.pl=true->ts.length=bs.length->(∀(t:AT) (b:Bx) (kvs:List (Key×Val)),t∈ts->AT.lay ws n m t b->kvs.length+t.lvs.length<=100000->(cK k).G [bV b,liV ws,atV t,.dct kvs]=.ok (.val .non) [.dct (cm kvs (AT.bx ws t b))])->AT.layL ws n m ts bs->kvs.length+(AT.lvsL ts).length<=100000->
 ∃s4' s5',c9 (gtX (gtT 2 (aU (gtN 4) (aU (gtN 5) dB)))).G (iq (cK k)).G (List.zipWith (λx y=>Val.tup [x,y]) (ts.map atV) (bs.map bV)) [.sh rv,.sh (liV ws),.sh tv,.mu (.dct kvs),s4,s5]=.nx [.sh rv,.sh (liV ws),.sh tv,.mu (.dct (cm kvs (AT.bxL ws ts bs))),s4',s5']
 | [],bs,kvs,s4,s5,_,_,_,_,_,_=>⟨s4,s5,by cases bs <;> rfl⟩
 |t::ts,[],kvs,s4,s5,_,_,h,_,_,_=>nomatch h
 |
  t::ts,b::bs,kvs,s4,s5,h4,h5,hl,hp,hy,hk=>by
  rw[AT.layL] at hy;rw[AT.lvsL,u_] at hk;have e1:=hp t b kvs (m_ ..) hy.1 (by omega);have a_:=rb (AT.bx ws t b) kvs;have hfst:=(AT.bx_fst ws t b).1;obtain⟨s4',s5',q⟩:=lu rv tv ts bs (cm kvs (AT.bx ws t b)) (.sh (atV t)) (.sh (bV b)) rfl rfl (by simpa using hl) (λu c kv hu=>hp u c kv (l_ _ hu)) hy.2 (by omega);refine⟨s4',s5',?_⟩;rw[AT.bxL,AN,o_,o_,List.zipWith_cons_cons,bP];generalize cm kvs (AT.bx ws t b)=kvs1 at *;generalize atV t=av at *;generalize bV b=bv at *;generalize liV ws=wv at *;have g1:(gtX (gtT 2 (aU (gtN 4) (aU (gtN 5) dB)))).G (.tup [av,bv]) [.sh rv,.sh wv,.sh tv,.mu (.dct kvs),s4,s5]=some [.sh rv,.sh wv,.sh tv,.mu (.dct kvs),.sh av,.sh bv]:=by simp![h4,h5]
  have b1:(iq (cK k)).G [.sh rv,.sh wv,.sh tv,.mu (.dct kvs),.sh av,.sh bv]=.nx [.sh rv,.sh wv,.sh tv,.mu (.dct kvs1),.sh av,.sh bv]:=by unfold iq;simp![e1]
  rw[g1];dsimp only;rw[b1];exact q
def vB(b:Bx)(way:Str)(ws:List Int):(aq b way ws).length=ws.length:=by unfold aq;split <;> rw[k_,gW]
def zq{ws:List Int}{n m:Nat}(hnm:n+n+m<=8000)(t:AT):∀(k:Nat) (b:Bx) (kvs:List (Key×Val)),t.dep<=k->AT.lay ws n m t b->(∀i∈t.lvs,i<ws.length)->t.lvs.length<=1000->t.cnt<=100000->kvs.length+t.lvs.length<=100000->(cK k).G [bV b,liV ws,atV t,.dct kvs]=.ok (.val .non) [.dct (cm kvs (AT.bx ws t b))]:=by
 induction t using AT.ind with
 |
  h1 x=>
  intro k b kvs hd _ _ _ _ hk;cases k with
  |zero=>simp [AT.dep] at hd
  |
   succ k=>
   have i1:(bc bN).G [.int (x:Nat),.ty "tuple"]=.val (.bl false):=rfl;have kl:kvs.length<16777216:=by omega
   have av:atV (.lf x)=.int (x:Nat):=rfl;have pe:cm kvs (AT.bx ws (.lf x) b)=cz kvs (.inl (x:Nat)) (bV b):=by rw[AT.bx];rfl
   show (PFx.of [false,false,false,true] 6 (fL (cK k))).G [bV b,liV ws,atV (.lf x),.dct kvs]=_;rw[Cw,av,pe];unfold fL;generalize bV b=bv at *;generalize liV ws=wv at *;simp![i1,FP,kl]
 |
  h2 w ts ih=>
  intro k b kvs hd hy hi hl hc hk;cases k with
  |zero=>simp [AT.dep] at hd
  |
   succ k=>
   rw[AT.dep] at hd;rw[AT.lvs] at hi hl hk;rw[AT.cnt] at hc;have hd':=AT.depL_le.mp (show AT.depL ts<=k by omega);have pe:=sW hy hnm hi hl (by omega);have hy':=hy;rw[AT.lay] at hy';obtain⟨s4,s5,lo⟩:=lu (ws:=ws) (n:=n) (m:=m) (k:=k) (bV b) (atV (.nd w ts)) ts (aq b (wy w) (ts.map (wtT ws))) kvs .no .no rfl rfl (by rw[vB,k_]) (λt c kv ht hy2 hk2=>ih t ht k c kv (hd' t ht) hy2 (λi hi2=>hi i (AT.lvsL_mem.mpr ⟨t,ht,hi2⟩)) (by have:=AT.lvs_le ht;omega) (by have:=AT.cnt_le ht;omega) hk2) hy'.2.2.2.2.2.2 hk;have av:atV (.nd w ts)=.tup [.str (wy w),.tup (ts.map atV)]:=by unfold atV;rw[AT.val,AT.vals_map]
   have bxe:AT.bx ws (.nd w ts) b=AT.bxL ws ts (aq b (wy w) (ts.map (wtT ws))):=by rw[AT.bx]
   show (PFx.of [false,false,false,true] 6 (fL (cK k))).G [bV b,liV ws,atV (.nd w ts),.dct kvs]=_;rw[Cw,bxe];unfold fL;rw[av] at pe lo ⊢;have i1:∀xs:List Val,(bc bN).G [.tup xs,.ty "tuple"]=.val (.bl true):=λ_=>rfl;generalize cm kvs (AT.bxL ws ts (aq b (wy w) (ts.map (wtT ws))))=kvs1 at *;generalize (aq b (wy w) (ts.map (wtT ws))).map bV=PB at *;generalize ts.map atV=TV at *;generalize bV b=bv at *;generalize liV ws=wv at *;simp![i1,vD,pe,lo]
def BK{ws:List Int}{n m:Nat}{b:Bx}{t:AT}(hnm:n+n+m<=8000)(hb:b.Ok)(h0:ws≠[])(hw:∀w∈ws,1<=w)(h40:ws.length<=40)(ho:t.ok=true)(hi:∀k,k∈t.lvs ↔ k<ws.length)(nd:t.lvs.Nodup)(hl:t.lvs.length=ws.length)(hd:t.dep<=42)(hy:AT.lay ws n m t b):dm.G [bV b,liV ws,atV t]=.ok (.new (.lst ((List.range ws.length).map λk=>bV (bxO (AT.bx ws t b) k)))) []:=by
 have hc:=AT.cnt_lvs t ho;have cb:=bu hb;have cw:=fT h0 hw h40;have ct:=nX (n:=ws.length) ho (λk hk=>(hi k).mp hk) nd hl (by omega) (by omega);have pl:=zq (ws:=ws) hnm t 42 b [] hd hy (λk hk=>(hi k).mp hk) (by omega) (by omega) (by rw[N3];omega);have ll:((ws.map Val.int).length:Nat)=ws.length:=k_ ..;have rg:iA [.int (ws.length:Nat)]=some (rgV ws.length):=uB (by omega);have keys:=AT.bx_keys ws t b;obtain⟨e',⟨s,rfl,_⟩,lc⟩:=dX (g:=(gtN 0).G) (F:=(pOp vp (af 1) (af 0)).G) (λk:Nat=>Val.int k) (λk:Nat=>bV (bxO (AT.bx ws t b) k)) (λe=>∃s:Sl,e=[s,.mu (.dct (cm [] (AT.bx ws t b)))]/\s.pl=true) (List.range ws.length) [] [.no,.mu (.dct (cm [] (AT.bx ws t b)))] ⟨.no,rfl,rfl⟩ (by
  rintro k hk _ ⟨s,rfl,hs⟩;rw[Oh] at hk;have lk:=KW ((tK (k:=k) (AT.bx ws t b) [] (by rw[keys];exact nd)).1 (by rw[keys];exact (hi k).mpr hk));generalize cm [] (AT.bx ws t b)=kv at *;generalize bV (bxO (AT.bx ws t b) k)=bv at *;refine⟨[.sh (.int (k:Nat)),.mu (.dct kv)],.val bv,[.sh (.int (k:Nat)),.mu (.dct kv)],?_,?_,rfl,_,rfl,rfl⟩
  .simp![hs]
  .simp![lk]) (by rw[N3,N_];omega)
 have l2:((List.range ws.length).map λk=>bV (bxO (AT.bx ws t b) k)).length<=16777216:=by simp;omega
 rw[Oi] at lc;rw[show (List.range ws.length).map (λk:Nat=>Val.int k)=rgV ws.length from rfl] at lc;generalize (List.range ws.length).map (λk=>bV (bxO (AT.bx ws t b) k))=RB at *;generalize cm [] (AT.bx ws t b)=kv at *;unfold liV at pl ⊢;generalize atV t=tv at *;generalize bV b=bv at *;unfold dm;rw[aD];unfold l9;simp![cb,cw,ll,ct,pl,rg,cA,inS,lc,l2]
def mq{ns:List Int}{k:Int}(hk:0<=k):∃a,cF.G [.kl (ns.map .int),.int k]=.ok (.new (fdV a 0 k)) []:=by
 unfold cF;rw[aD];unfold lY fdV;by_cases h0:ns.length=0
 .have e:((((ns.map Val.int).length:Nat):Int)==0)=true:=by rw[N5,k_];omega
  exact⟨0,by simp![e]⟩
 .have e:((((ns.map Val.int).length:Nat):Int)==0)=false:=by rw[F_,k_];omega
  have e1:bE.G (.int k) (.int ((ns.map Val.int).length:Nat))=.val (.int (k.fmod ((ns.map Val.int).length:Nat))):=dO (by rw[k_];omega);have r:=c8 (a:=k) (m:=((ns.map Val.int).length:Nat)) (by rw[k_];omega);rw[k_] at r e1;have hi:(k.fmod (ns.length:Nat)).toNat<ns.length:=by omega
  have at1:atI (ns.map Val.int) (k.fmod (ns.length:Nat))=some (.int ns[(k.fmod (ns.length:Nat)).toNat]):=dn r.1 (by rw[L_,y_ hi];rfl);rw[k_] at e;exact⟨ns[(k.fmod (ns.length:Nat)).toNat],by simp![k_,e,e1,at1]⟩
def pow6:eL.G (.int 10) (.int 6)=.val (.int 1000000):=oD ⟨by decide,by decide,by decide⟩
def Nu:iA [.int 6]=some [.int 0,.int 1,.int 2,.int 3,.int 4,.int 5]:=uG (i:=6) (by decide) (by decide)
def eN{a b k far:Int}(h0:0<=far)(hf:far.natAbs<=2000000000000000000000000000000):∃r a' b',a8.G [fdV a b k,.int far]=.ok (.val (.int r)) [fdV a' b' k]/\-far<=r/\r<=far:=by obtain⟨r1,a1,b1,e1,_,_⟩:=aA (a:=a) (b:=b) (k:=k) (m:=1000000) (by decide) (sm8 (by decide));obtain⟨r2,a2,b2,e2,_,_⟩:=aA (a:=a1) (b:=b1) (k:=k) (m:=1000000) (by decide) (sm8 (by decide));obtain⟨r3,a3,b3,e3,_,_⟩:=aA (a:=a2) (b:=b2) (k:=k) (m:=1000000) (by decide) (sm8 (by decide));obtain⟨r4,a4,b4,e4,_,_⟩:=aA (a:=a3) (b:=b3) (k:=k) (m:=1000000) (by decide) (sm8 (by decide));obtain⟨r5,a5,b5,e5,_,_⟩:=aA (a:=a4) (b:=b4) (k:=k) (m:=1000000) (by decide) (sm8 (by decide));obtain⟨r6,a6,b6,e6,_,_⟩:=aA (a:=a5) (b:=b5) (k:=k) (m:=1000000) (by decide) (sm8 (by decide));have c6:∀x:Int,aK.G (.int x) (.int 1000000)=.val (.int (x*1000000)):=λx=>aP (CMulA.right (by decide) (by decide));have c2:aK.G (.int 2) (.int far)=.val (.int (2*far)):=aP (CMulA.left (by decide) (by decide));have c3:∀x:Int,bE.G (.int x) (.int (2*far+1))=.val (.int (x.fmod (2*far+1))):=λx=>dO (by omega);have fr:=c8 (a:=(((((0*1000000+r1)*1000000+r2)*1000000+r3)*1000000+r4)*1000000+r5)*1000000+r6) (m:=2*far+1) (by omega);refine⟨((((((0*1000000+r1)*1000000+r2)*1000000+r3)*1000000+r4)*1000000+r5)*1000000+r6).fmod (2*far+1)-far,a6,b6,?_,by omega,by omega⟩;unfold a8;rw[aD];unfold j4 jc;unfold fdV at *;simp![Nu,bP,pow6,c6,e1,e2,e3,e4,e5,e6,c2,c3,Int.reduceMul]
theorem rJ(x y:Val):∀(n one bd:Nat),bd<=n->(xWh (qOf (pOp bGt (af 3) (ah 0))) fG).G [.sh x,.sh y,.sh (.int (one:Nat)),.sh (.int (bd:Nat))]=.nx [.sh x,.sh y,.sh (.int (Nat.gcd one bd:Nat)),.sh (.int 0)]
 |
  n,one,0,_=>by
  rw[i8];simp![Nat.gcd_zero_right,Int.natCast_zero,Int.lt_irrefl]
 |0,one,bd+1,hl=>absurd hl (by omega)
 |
  n+1,one,bd+1,hl=>by
  rw[i8];have e:decide ((0:Int)<((bd+1:Nat):Int))=true:=D_ (by omega);have e1:bE.G (.int (one:Nat)) (.int ((bd+1:Nat):Int))=.val (.int (((one:Nat):Int).fmod ((bd+1:Nat):Int))):=dO (by omega);have e2:((one:Nat):Int).fmod ((bd+1:Nat):Int)=((one % (bd+1):Nat):Int):=by rw[Pe _ (by omega)];rfl
  have ih:=rJ x y n (bd+1) (one % (bd+1)) (by have:=Nat.mod_lt one (show bd+1>0 by omega);omega);rw[Fr.euc] at ih;rw[e2] at e1;have bb:fG.G [.sh x,.sh y,.sh (.int (one:Nat)),.sh (.int ((bd+1:Nat):Int))]=.nx [.sh x,.sh y,.sh (.int ((bd+1:Nat):Int)),.sh (.int ((one % (bd+1):Nat):Int))]:=by unfold fG;simp![e1]
  simp![e,bb,ih]
def cX{a b:Int}(hb:b≠0)(hs:Sm 8000 b):aF.G [.int a,.int b]=.ok (.val (fV ((a:Rat)/(b:Rat)))) []:=by
 unfold aF;rw[aD];unfold nR;have lo:=rJ (.int a) (.int b) b.natAbs a.natAbs b.natAbs (n_ _);rw[show Nat.gcd a.natAbs b.natAbs=Int.gcd a b from rfl] at lo;have c:∀x,CDivB x (Fr.dv a b):=λx=>CDivB.of (Fr.dv_ne hb) (hs.of_le (by rw[Fr.dv_abs];exact Nat.le_of_dvd (by omega) (Nat.gcd_dvd_right a.natAbs b.natAbs)));have k1:=jA (c a);have k2:=jA (c b);have hh:=me (a:=a) hb;have g_:Val.tup [.int (a.fdiv (Fr.dv a b)),.int (b.fdiv (Fr.dv a b))]=fV ((a:Rat)/(b:Rat)):=by unfold fV;rw[<- hh.1,<- hh.2];rfl
 by_cases hn:b<0
 .have hd:Fr.dv a b=0-((Int.gcd a b:Nat):Int):=by unfold Fr.dv;rw[if_pos hn];omega
  rw[hd] at k1 k2 g_;simp![fI,lo,D_ hn,k1,k2,g_]
 .have hd:Fr.dv a b=((Int.gcd a b:Nat):Int):=by unfold Fr.dv;rw[if_neg hn]
  rw[hd] at k1 k2 g_;simp![fI,lo,z_ hn,k1,k2,g_]
def p30:eL.G (.int 10) (.int 30)=.val (.int 1000000000000000000000000000000):=oD ⟨by decide,by decide,by decide⟩
def rmQ(k:Int)(r:SR3):Prop:=∃b a c,Good b/\mj [true] r=.ok (.val (bV b)) [fdV a c k]
def rmI(k way:Int)(e:E3):Prop:=∃b x a c,Good b/\x.pl=true/\e=[.mu (fdV a c k),.sh (.int way),.sh (fV b.l),.sh (fV b.t),.sh (fV b.w),.sh (fV b.h),x]
def iD{r:Int}(h:0<=r):0<1+r:=by omega
def vK{r:Int}(h:0<=r):1+r≠0:=by omega
def gB{r m:Int}(h0:0<=r)(h1:r<m)(hm:m<=1000):(1+r).natAbs<=2000000000000000000000000000000:=by omega
def oy{r m c:Int}(h0:0<=r)(h1:r<m)(hm:m<=1000)(hc:0<=c/\c<=1000):(r-c).natAbs<=2000000000000000000000000000000:=by omega
def m8{r far:Int}(h0:-far<=r)(h1:r<=far)(hf:far<=1000000000000000000000000000000):r.natAbs<=2000000000000000000000000000000/\(1+((r.natAbs:Nat):Int)).natAbs<=2000000000000000000000000000000:=by omega
def ox{r:Int}:0<1+((r.natAbs:Nat):Int):=by omega
def xR{r:Int}(h:0<r):r≠0:=by omega
def Dg(a c k:Int):∃b a' c',Good b/\eF.G [fdV a c k]=.ok (.val (bV b)) [fdV a' c' k]:=by
 unfold eF;rw[oT rfl];show rmQ k (iL.G [.mu (fdV a c k),.no,.no,.no,.no,.no,.no]);unfold iL;obtain⟨way,a1,c1,e1,hw0,hw1⟩:=aA (a:=a) (b:=c) (k:=k) (m:=6) (by decide) (sm8 (by decide));refine aB (λe=>e=[.mu (fdV a1 c1 k),.sh (.int way),.no,.no,.no,.no,.no]) ⟨_,by simp![e1],rfl⟩ ?_;rintro _ rfl;obtain⟨l,a2,c2,e2,hl0,hl1⟩:=aA (a:=a1) (b:=c1) (k:=k) (m:=19) (by decide) (sm8 (by decide));obtain⟨t,a3,c3,e3,ht0,ht1⟩:=aA (a:=a2) (b:=c2) (k:=k) (m:=19) (by decide) (sm8 (by decide));refine aB (λe=>e=[.mu (fdV a3 c3 k),.sh (.int way),.sh (fV ((l-9:Int):Rat)),.sh (fV ((t-9:Int):Rat)),.no,.no,.no]) ⟨_,by simp![e2,e3,iV],rfl⟩ ?_;rintro _ rfl;obtain⟨w,a4,c4,e4,hww0,hww1⟩:=aA (a:=a3) (b:=c3) (k:=k) (m:=12) (by decide) (sm8 (by decide));obtain⟨hh,a5,c5,e5,hh0,hh1⟩:=aA (a:=a4) (b:=c4) (k:=k) (m:=12) (by decide) (sm8 (by decide));refine aB (rmI k way) ⟨[.mu (fdV a5 c5 k),.sh (.int way),.sh (fV ((l-9:Int):Rat)),.sh (fV ((t-9:Int):Rat)),.sh (fV ((1+w:Int):Rat)),.sh (fV ((1+hh:Int):Rat)),.no],by simp![e4,e5,iV],⟨_,_,_,_⟩,.no,a5,c5,⟨⟨eW (iD hww0),eW (iD hh0)⟩,⟨fo (oy hl0 hl1 (by decide) (by decide)),fo (oy ht0 ht1 (by decide) (by decide)),fo (gB hww0 hww1 (by decide)),fo (gB hh0 hh1 (by decide))⟩⟩,rfl,rfl⟩ ?_;rintro _ ⟨b,x,a,c,gb,hx,rfl⟩;refine aB (rmI k way) ?_ ?_
 .by_cases hw:way=1
  .subst hw;exact⟨[.mu (fdV a c k),.sh (.int 1),.sh (fV b.l),.sh (fV b.t),.sh (fV b.w),.sh (fV b.w),x],by simp![iH],⟨b.l,b.t,b.w,b.w⟩,x,a,c,⟨⟨gb.ok.w,gb.ok.w⟩,⟨gb.sz.l,gb.sz.t,gb.sz.w,gb.sz.w⟩⟩,hx,rfl⟩
  .exact⟨_,by simp![F_.mpr hw],b,x,a,c,gb,hx,rfl⟩
 rintro _ ⟨b,x,a,c,gb,hx,rfl⟩;refine aB (rmI k way) ?_ ?_
 .by_cases hw:way=2
  .subst hw;obtain⟨r,a1,c1,e1,h0,h1⟩:=aA (a:=a) (b:=c) (k:=k) (m:=99) (by decide) (sm8 (by decide));exact⟨[.mu (fdV a1 c1 k),.sh (.int 2),.sh (fV b.l),.sh (fV b.t),.sh (fV ((1+r:Int):Rat)),.sh (fV b.h),x],by simp![e1,iV],⟨b.l,b.t,((1+r:Int):Rat),b.h⟩,x,a1,c1,⟨⟨eW (iD h0),gb.ok.h⟩,⟨gb.sz.l,gb.sz.t,fo (gB h0 h1 (by decide)),gb.sz.h⟩⟩,hx,rfl⟩
  .exact⟨_,by simp![F_.mpr hw],b,x,a,c,gb,hx,rfl⟩
 rintro _ ⟨b,x,a,c,gb,hx,rfl⟩;refine aB (rmI k way) ?_ ?_
 .by_cases hw:way=3
  .subst hw;obtain⟨r,a1,c1,e1,h0,h1⟩:=aA (a:=a) (b:=c) (k:=k) (m:=99) (by decide) (sm8 (by decide));exact⟨[.mu (fdV a1 c1 k),.sh (.int 3),.sh (fV b.l),.sh (fV b.t),.sh (fV b.w),.sh (fV ((1+r:Int):Rat)),x],by simp![e1,iV],⟨b.l,b.t,b.w,((1+r:Int):Rat)⟩,x,a1,c1,⟨⟨gb.ok.w,eW (iD h0)⟩,⟨gb.sz.l,gb.sz.t,gb.sz.w,fo (gB h0 h1 (by decide))⟩⟩,hx,rfl⟩
  .exact⟨_,by simp![F_.mpr hw],b,x,a,c,gb,hx,rfl⟩
 rintro _ ⟨b,x,a,c,gb,hx,rfl⟩;refine aB (rmI k way) ?_ ?_
 .by_cases hw:way=4
  .subst hw;obtain⟨r1,a1,c1,e1,h10,h11⟩:=aA (a:=a) (b:=c) (k:=k) (m:=199) (by decide) (sm8 (by decide));obtain⟨r2,a2,c2,e2,h20,h21⟩:=aA (a:=a1) (b:=c1) (k:=k) (m:=30) (by decide) (sm8 (by decide));obtain⟨r3,a3,c3,e3,h30,h31⟩:=aA (a:=a2) (b:=c2) (k:=k) (m:=9) (by decide) (sm8 (by decide));obtain⟨r4,a4,c4,e4,h40,h41⟩:=aA (a:=a3) (b:=c3) (k:=k) (m:=99) (by decide) (sm8 (by decide));obtain⟨r5,a5,c5,e5,h50,h51⟩:=aA (a:=a4) (b:=c4) (k:=k) (m:=30) (by decide) (sm8 (by decide));obtain⟨r6,a6,c6,e6,h60,h61⟩:=aA (a:=a5) (b:=c5) (k:=k) (m:=99) (by decide) (sm8 (by decide));have l1:=cX (a:=r1-99) (b:=1+r2) (vK h20) (jS (gB h20 h21 (by decide)));have l2:=cX (a:=r3) (b:=7) (by decide) (jS (by decide));have l3:=cX (a:=1+r4) (b:=1+r5) (vK h50) (jS (gB h50 h51 (by decide)));have l4:=cX (a:=1+r6) (b:=11) (by decide) (jS (by decide));exact⟨[.mu (fdV a6 c6 k),.sh (.int 4),.sh (fV (((r1-99:Int):Rat)/((1+r2:Int):Rat))),.sh (fV (((r3:Int):Rat)/((7:Int):Rat))),.sh (fV (((1+r4:Int):Rat)/((1+r5:Int):Rat))),.sh (fV (((1+r6:Int):Rat)/((11:Int):Rat))),x],by simp![e1,e2,e3,e4,e5,e6,l1,l2,l3,l4],⟨_,_,_,_⟩,x,a6,c6,⟨⟨f9 (iD h40) (iD h50),f9 (iD h60) (by decide)⟩,⟨fJ (vK h20) (oy h10 h11 (by decide) (by decide)) (gB h20 h21 (by decide)),fJ (by decide) (by have:=oy (c:=0) h30 h31 (by decide) (by decide);rw[Int.sub_zero] at this;exact this) (by decide),fJ (vK h50) (gB h40 h41 (by decide)) (gB h50 h51 (by decide)),fJ (by decide) (gB h60 h61 (by decide)) (by decide)⟩⟩,hx,rfl⟩
  .exact⟨_,by simp![F_.mpr hw],b,x,a,c,gb,hx,rfl⟩
 rintro _ ⟨b,x,a,c,gb,hx,rfl⟩;refine aB (rmI k way) ?_ ?_
 .by_cases hw:way=5
  .subst hw;obtain⟨r1,a1,c1,e1,h10,h11⟩:=eN (a:=a) (b:=c) (k:=k) (far:=999999999999999999999999999999) (by decide) (by decide);obtain⟨r2,a2,c2,e2,h20,h21⟩:=eN (a:=a1) (b:=c1) (k:=k) (far:=999999999999999999999999999998) (by decide) (by decide);obtain⟨r3,a3,c3,e3,h30,h31⟩:=eN (a:=a2) (b:=c2) (k:=k) (far:=999999999999999999999999999999) (by decide) (by decide);obtain⟨r4,a4,c4,e4,h40,h41⟩:=eN (a:=a3) (b:=c3) (k:=k) (far:=999999999999999999999999999998) (by decide) (by decide);obtain⟨r5,a5,c5,e5,h50,h51⟩:=eN (a:=a4) (b:=c4) (k:=k) (far:=999999999999999999999999999998) (by decide) (by decide);have n2:=fI r2;have n4:=fI r4;have n5:=fI r5;have l1:=cX (a:=r1) (b:=1+((r2.natAbs:Nat):Int)) (xR ox) (jS (m8 h20 h21 (by decide)).2);have l4:=cX (a:=1+((r5.natAbs:Nat):Int)) (b:=999999999999999999999999999999) (by decide) (jS (by decide));exact⟨[.mu (fdV a5 c5 k),.sh (.int 5),.sh (fV (((r1:Int):Rat)/((1+((r2.natAbs:Nat):Int):Int):Rat))),.sh (fV ((r3:Int):Rat)),.sh (fV ((1+((r4.natAbs:Nat):Int):Int):Rat)),.sh (fV (((1+((r5.natAbs:Nat):Int):Int):Rat)/((999999999999999999999999999999:Int):Rat))),.sh (.int 999999999999999999999999999999)],by simp![hx,p30,e1,e2,e3,e4,e5,n2,n4,n5,l1,l4,iV],⟨_,_,_,_⟩,_,a5,c5,⟨⟨eW ox,f9 ox (by decide)⟩,⟨fJ (xR ox) (m8 h10 h11 (by decide)).1 (m8 h20 h21 (by decide)).2,fo (m8 h30 h31 (by decide)).1,fo (m8 h40 h41 (by decide)).2,fJ (by decide) (m8 h50 h51 (by decide)).2 (by decide)⟩⟩,rfl,rfl⟩
  .exact⟨_,by simp![F_.mpr hw],b,x,a,c,gb,hx,rfl⟩
 rintro _ ⟨b,x,a,c,gb,hx,rfl⟩;refine⟨b,a,c,gb,?_⟩;simp![vg,bV]
def lB{p q:Rat}{n m:Nat}(hp:Sz n p)(hq:Sz m q)(h:n+m<=8000):d6.G [fV p,fV q]=.ok (.val (fV (p+q))) []:=by have c1:=aP (CMulA.of hp.top hq.bot (by omega) (by omega));have c2:=aP (CMulA.of hq.top hp.bot (by omega) (by omega));have c3:=aP (CMulA.of hp.bot hq.bot (by omega) (by omega));have dp:=p.den_pos;have dq:=q.den_pos;have lo:=cX (a:=p.num*q.den+q.num*p.den) (b:=p.den*q.den) (Int.ne_of_gt (Pz (by omega) (by omega))) ((hp.bot.mul hq.bot).mono h);rw[<- tQ] at lo;unfold d6;rw[aD];unfold nA;rw[show fV p=.tup [.int p.num,.int p.den] from rfl,show fV q=.tup [.int q.num,.int q.den] from rfl];simp![c1,c2,c3,lo]
def EM(p:Rat)(a W:Int)(hW:0<W):((p.num*a:Int):Rat)/((p.den*W:Int):Rat)=p*((a:Rat)/(W:Rat)):=by
 have h1:p=(p.num:Rat)/(p.den:Rat):=by have z:=Rat.num_divInt_den p;rw[Rat.divInt_eq_div] at z;exact z.symm
 have h2:(p.den:Rat)≠0:=λz=>p.den_nz (by exact_mod_cast z);have h3:(W:Rat)≠0:=λz=>by
  have:W=0:=by exact_mod_cast z
  omega
 rw[N8,N8,Rat.intCast_natCast];generalize (p.num:Rat)=x at *;generalize (p.den:Rat)=y at *;generalize (W:Rat)=z at *;generalize (a:Rat)=u at *;subst h1;grind
def jz{p:Rat}{n m:Nat}{a W:Int}(hp:Sz n p)(hW:0<W)(mW:Sm m W)(h:n+m<=8000):aF.G [.int (p.num*a),.int (p.den*W)]=.ok (.val (fV (p*((a:Rat)/(W:Rat))))) []:=by have dp:=p.den_pos;rw[cX (Int.ne_of_gt (Pz (by omega) hW)) ((hp.bot.mul mW).mono h),EM p a W hW]
def jB(p:Rat):(fV p).items=some [.int p.num,.int p.den]:=rfl
noncomputable def prt(b:Bx)(way:Str)(W a:Int)(ws:List Int):List Bx:=if way="across" then (shL b.l b.w W a ws).map λp=>⟨p.1,b.t,p.2,b.h⟩ else (shL b.t b.h W a ws).map λp=>⟨b.l,p.1,b.w,p.2⟩
def Lf(b:Bx)(W a w:Int)(ws:List Int):prt b "across" W a (w::ws)=(⟨b.l+b.w*((a:Rat)/(W:Rat)),b.t,b.w*((w:Rat)/(W:Rat)),b.h⟩:Bx)::prt b "across" W (a+w) ws:=by unfold prt;rw[if_pos rfl,if_pos rfl];rfl
def KS(b:Bx)(W a w:Int)(ws:List Int):prt b "down" W a (w::ws)=(⟨b.l,b.t+b.h*((a:Rat)/(W:Rat)),b.w,b.h*((w:Rat)/(W:Rat))⟩:Bx)::prt b "down" W (a+w) ws:=by
 have hne:¬ (("down" : Str)="across"):=by decide
 unfold prt;rw[if_neg hne,if_neg hne];rfl
def Ex(b:Bx)(way:Str)(W a:Int):prt b way W a []=[]:=by unfold prt;split <;> rfl
theorem kh{b:Bx}{n m:Nat}{W:Int}{wv:Val}(hs:b.Sz n)(hW:0<W)(mW:Sm m W)(h:n+n+m<=8000){way:Str}(hway:way="across" \/ way="down"):∀(ws:List Int) (a:Int) (acc:List Bx) (s10 s11:Sl),s10.pl=true->s11.pl=true->0<=a->(∀w∈ws,1<=w)->a+ws.sum<=W->acc.length+ws.length<=1000->∃s9' s10' s11',c9 (gtN 10).G cB.G (ws.map .int) [.sh (bV b),.sh (.str way),.sh wv,.sh (fV b.l),.sh (fV b.t),.sh (fV b.w),.sh (fV b.h),.sh (.int W),.ow (.lst (acc.map bV)),.sh (.int a),s10,s11]=.nx [.sh (bV b),.sh (.str way),.sh wv,.sh (fV b.l),.sh (fV b.t),.sh (fV b.w),.sh (fV b.h),.sh (.int W),.ow (.lst ((acc++prt b way W a ws).map bV)),s9',s10',s11']
 | [],a,acc,s10,s11,h10,h11,ha,hw,hs',a_=>⟨.sh (.int a),s10,s11,by rw[K_,de,Ex,N7]⟩
 |
  w::ws,a,acc,s10,s11,h10,h11,ha,hw,hs',a_=>by
  have hw0:=hw w (m_ ..);have hws:0<=ws.sum:=by
   have:∀l:List Int,(∀w∈l,1<=w)->0<=l.sum:=by
    intro l;induction l with
    |nil=>intro _;simp
    |cons x l ih=>intro hx;rw[N1];have:=hx x (m_ ..);have:=ih λw hw=>hx w (l_ _ hw);omega
   exact this ws λx hx=>hw x (l_ _ hx)
  rw[N1] at hs';rw[B_] at a_;have sa:Sm m a:=mW.of_le (by omega);have sw:Sm m w:=mW.of_le (by omega);have z1:Sz m ((a:Rat)/(W:Rat)):=Sz.div (by omega) sa mW m (n_ _) (n_ _);have ll:(acc.map bV).length<16777216:=by rw[k_];omega
  have g1:(gtN 10).G (.int w) [.sh (bV b),.sh (.str way),.sh wv,.sh (fV b.l),.sh (fV b.t),.sh (fV b.w),.sh (fV b.h),.sh (.int W),.ow (.lst (acc.map bV)),.sh (.int a),s10,s11]=some [.sh (bV b),.sh (.str way),.sh wv,.sh (fV b.l),.sh (fV b.t),.sh (fV b.w),.sh (fV b.h),.sh (.int W),.ow (.lst (acc.map bV)),.sh (.int a),.sh (.int w),s11]:=by simp![h10]
  rcases hway with rfl |rfl
  .have t1:=jz (a:=a) hs.w hW mW (by omega);have t2:=jz (a:=w) hs.w hW mW (by omega);have c1:=aP (CMulA.of hs.w.top sa (by omega) (by omega));have c2:=aP (CMulA.of hs.w.top sw (by omega) (by omega));have c3:=aP (CMulA.of hs.w.bot mW (by omega) (by omega));have ad:=lB hs.l (hs.w.mul z1) (by omega);obtain⟨t9,t10,t11,ih⟩:=kh (wv:=wv) hs hW mW h (.inl rfl) ws (a+w) (acc++[(⟨b.l+b.w*((a:Rat)/(W:Rat)),b.t,b.w*((w:Rat)/(W:Rat)),b.h⟩:Bx)]) (.sh (.int w)) (.sh (fV (b.l+b.w*((a:Rat)/(W:Rat))))) rfl rfl (by omega) (λx hx=>hw x (l_ _ hx)) (by omega) (by rw[u_];show acc.length+1+_<=_;omega);refine⟨t9,t10,t11,?_⟩;have b1:cB.G [.sh (bV b),.sh (.str "across"),.sh wv,.sh (fV b.l),.sh (fV b.t),.sh (fV b.w),.sh (fV b.h),.sh (.int W),.ow (.lst (acc.map bV)),.sh (.int a),.sh (.int w),s11]=.nx [.sh (bV b),.sh (.str "across"),.sh wv,.sh (fV b.l),.sh (fV b.t),.sh (fV b.w),.sh (fV b.h),.sh (.int W),.ow (.lst ((acc++[(⟨b.l+b.w*((a:Rat)/(W:Rat)),b.t,b.w*((w:Rat)/(W:Rat)),b.h⟩:Bx)]).map bV)),.sh (.int (a+w)),.sh (.int w),.sh (fV (b.l+b.w*((a:Rat)/(W:Rat))))]:=by unfold cB;rw[N0,show [(⟨b.l+b.w*((a:Rat)/(W:Rat)),b.t,b.w*((w:Rat)/(W:Rat)),b.h⟩:Bx)].map bV=[.tup [fV (b.l+b.w*((a:Rat)/(W:Rat))),fV b.t,fV (b.w*((w:Rat)/(W:Rat))),fV b.h]] from rfl];simp![h11,jB,c1,c2,c3,t1,t2,ad,ll,rj]
   rw[o_,bP,g1];simp only[b1,gw];rw[ih,Lf,OI];rfl
  .have t1:=jz (a:=a) hs.h hW mW (by omega);have t2:=jz (a:=w) hs.h hW mW (by omega);have c1:=aP (CMulA.of hs.h.top sa (by omega) (by omega));have c2:=aP (CMulA.of hs.h.top sw (by omega) (by omega));have c3:=aP (CMulA.of hs.h.bot mW (by omega) (by omega));have ad:=lB hs.t (hs.h.mul z1) (by omega);obtain⟨t9,t10,t11,ih⟩:=kh (wv:=wv) hs hW mW h (.inr rfl) ws (a+w) (acc++[(⟨b.l,b.t+b.h*((a:Rat)/(W:Rat)),b.w,b.h*((w:Rat)/(W:Rat))⟩:Bx)]) (.sh (.int w)) (.sh (fV (b.t+b.h*((a:Rat)/(W:Rat))))) rfl rfl (by omega) (λx hx=>hw x (l_ _ hx)) (by omega) (by rw[u_];show acc.length+1+_<=_;omega);refine⟨t9,t10,t11,?_⟩;have b1:cB.G [.sh (bV b),.sh (.str "down"),.sh wv,.sh (fV b.l),.sh (fV b.t),.sh (fV b.w),.sh (fV b.h),.sh (.int W),.ow (.lst (acc.map bV)),.sh (.int a),.sh (.int w),s11]=.nx [.sh (bV b),.sh (.str "down"),.sh wv,.sh (fV b.l),.sh (fV b.t),.sh (fV b.w),.sh (fV b.h),.sh (.int W),.ow (.lst ((acc++[(⟨b.l,b.t+b.h*((a:Rat)/(W:Rat)),b.w,b.h*((w:Rat)/(W:Rat))⟩:Bx)]).map bV)),.sh (.int (a+w)),.sh (.int w),.sh (fV (b.t+b.h*((a:Rat)/(W:Rat))))]:=by unfold cB;rw[N0,show [(⟨b.l,b.t+b.h*((a:Rat)/(W:Rat)),b.w,b.h*((w:Rat)/(W:Rat))⟩:Bx)].map bV=[.tup [fV b.l,fV (b.t+b.h*((a:Rat)/(W:Rat))),fV b.w,fV (b.h*((w:Rat)/(W:Rat)))]] from rfl];simp![h11,jB,c1,c2,c3,t1,t2,ad,ll,qL]
   rw[o_,bP,g1];simp only[b1,gw];rw[ih,KS,OI];rfl
def rT{b:Bx}{n m:Nat}{way:Str}{ws:List Int}(hs:b.Sz n)(hway:way="across" \/ way="down")(hw:∀w∈ws,1<=w)(h0:0<ws.sum)(mW:Sm m ws.sum)(h:n+n+m<=8000)(a_:ws.length<=1000):dH.G [bV b,.str way,.lst (ws.map .int)]=.ok (.new (.lst ((aq b way ws).map bV))) []:=by obtain⟨s9,s10,s11,lo⟩:=kh (wv:=.lst (ws.map .int)) hs h0 mW h hway ws 0 [] .no .no rfl rfl (by omega) hw (by omega) (by simpa using a_);have pe:prt b way ws.sum 0 ws=aq b way ws:=rfl;rw[Oi,pe,K_] at lo;have e0:bV b=.tup [fV b.l,fV b.t,fV b.w,fV b.h]:=rfl;rw[e0] at lo ⊢;unfold dH;rw[aD];unfold j3;simp![lo]
def p29:eL.G (.int 10) (.int 29)=.val (.int 100000000000000000000000000000):=oD ⟨by decide,by decide,by decide⟩
def Jp{r:Int}(h0:0<=r)(h1:r<24):∃z,1<=z/\z<=8388608/\qE.G (.int 1) (.int r)=.val (.int z):=by
 have c1:(1:Nat)<=2^r.toNat:=Nat.one_le_two_pow;have c2:2^r.toNat<=2^23:=Oe (by decide) (by omega);have e:(2:Int)^r.toNat=((2^r.toNat:Nat):Int):=by rw[Int.natCast_pow];rfl
 refine⟨1*2^r.toNat,?_,?_,Lg ⟨h0,by omega,by decide⟩⟩
 .rw[Int.one_mul,e];exact Int.ofNat_le.mpr c1
 .rw[Int.one_mul,e];exact Int.ofNat_le.mpr c2
def EC{ns:List Int}{at_ most many more sty k:Int}{acc:List Int}{s9:Sl}(h9:s9.pl=true)(hk:0<=k/\k<=40)(hs:0<=sty/\sty<6)(a c q:Int):
 ∃w a' c',1<=w/\w<=8388608/\(au false 9 (pOp bIx (cH (aa (ah 1) (aa (pOp aR (ah 1) (ai ao (aa (af 3) (aa (ah 9) ag)))) (aa (pOp qE (ah 1) (pOp bE (af 8) (ah 24))) (aa (pOp aR (ah 1) (ai ao (aa (af 3) (aa (ah 9) ag)))) (aa (ah 1) (aa (pOp aR (ah 1) (ai ao (aa (af 3) (aa (ah 3) ag)))) ag))))))) (af 6))).G [.sh (.kl (ns.map .int)),.sh (.int at_),.sh (.int most),.ow (fdV a c q),.sh (.int many),.sh (.int more),.sh (.int sty),.ow (.lst (acc.map .int)),.sh (.int k),s9]=.nx [.sh (.kl (ns.map .int)),.sh (.int at_),.sh (.int most),.ow (fdV a' c' q),.sh (.int many),.sh (.int more),.sh (.int sty),.ow (.lst (acc.map .int)),.sh (.int k),.sh (.int w)]:=by
 obtain⟨r1,a1,c1,e1,l1,u1⟩:=aA (a:=a) (b:=c) (k:=q) (m:=9) (by decide) (sm8 (by decide));obtain⟨r2,a2,c2,e2,l2,u2⟩:=aA (a:=a1) (b:=c1) (k:=q) (m:=9) (by decide) (sm8 (by decide));obtain⟨r3,a3,c3,e3,l3,u3⟩:=aA (a:=a2) (b:=c2) (k:=q) (m:=3) (by decide) (sm8 (by decide));have fm:=c8 (a:=k) (m:=24) (by decide);have km:=dO (i:=k) (j:=24) (by decide);have sh:=Jp fm.1 fm.2;obtain⟨z,z1,z2,z3⟩:=sh;have hc:sty=0\/sty=1\/sty=2\/sty=3\/sty=4\/sty=5:=by omega
 have at6:∃w,1<=w/\w<=8388608/\atI [Val.int 1,.int (1+r1),.int z,.int (1+r2),.int 1,.int (1+r3)] sty=some (.int w):=by
  rcases hc with rfl |rfl |rfl |rfl |rfl |rfl
  .exact⟨1,by decide,by decide,rfl⟩
  .exact⟨1+r1,by omega,by omega,rfl⟩
  .exact⟨z,z1,z2,rfl⟩
  .exact⟨1+r2,by omega,by omega,rfl⟩
  .exact⟨1,by decide,by decide,rfl⟩
  .exact⟨1+r3,by omega,by omega,rfl⟩
 obtain⟨w,w1,w2,w3⟩:=at6;refine⟨w,a3,c3,w1,w2,?_⟩;simp![e1,e2,e3,km,z3,w3,h9]
def wtI(ns:List Int)(at_ most many more sty k:Int)(acc:List Int)(e:E3):Prop:=∃w a c q,1<=w/\w<=1000000000000000000000000000000/\(sty<3->w<=8388608)/\e=[.sh (.kl (ns.map .int)),.sh (.int at_),.sh (.int most),.ow (fdV a c q),.sh (.int many),.sh (.int more),.sh (.int sty),.ow (.lst (acc.map .int)),.sh (.int k),.sh (.int w)]
def wtQ(ns:List Int)(at_ most many more sty k:Int)(acc:List Int)(r:SR3):Prop:=∃w s3,1<=w/\w<=1000000000000000000000000000000/\(sty<3->w<=8388608)/\s3.pl=true/\r=.nx [.sh (.kl (ns.map .int)),.sh (.int at_),.sh (.int most),s3,.sh (.int many),.sh (.int more),.sh (.int sty),.ow (.lst ((acc++[w]).map .int)),.sh (.int k),.sh (.int w)]
def EZ{ns:List Int}{at_ most many more sty k:Int}{acc:List Int}{s3 s9:Sl}(h3:s3.pl=true)(h9:s9.pl=true)(ha:0<=at_)(hk:0<=k/\k<=40)(hs:0<=sty/\sty<6)(hl:acc.length<=1000):
 wtQ ns at_ most many more sty k acc (du.G [.sh (.kl (ns.map .int)),.sh (.int at_),.sh (.int most),s3,.sh (.int many),.sh (.int more),.sh (.int sty),.ow (.lst (acc.map .int)),.sh (.int k),s9]):=by
 unfold du;obtain⟨f,ef⟩:=mq (ns:=ns) (k:=at_+1+k) (by omega);refine aB (λe=>e=[.sh (.kl (ns.map .int)),.sh (.int at_),.sh (.int most),.ow (fdV f 0 (at_+1+k)),.sh (.int many),.sh (.int more),.sh (.int sty),.ow (.lst (acc.map .int)),.sh (.int k),s9]) ⟨_,by simp![ef,h3],rfl⟩ ?_;rintro _ rfl;refine aB (wtI ns at_ most many more sty k acc) ?_ ?_
 .obtain⟨w,a,c,w1,w2,e⟩:=EC (ns:=ns) (at_:=at_) (most:=most) (many:=many) (more:=more) (acc:=acc) h9 hk hs f 0 (at_+1+k);exact⟨_,e,w,a,c,_,w1,by omega,λ_=>w2,rfl⟩
 rintro _ ⟨w,a,c,q,w1,w2,w3,rfl⟩;refine aB (wtI ns at_ most many more sty k acc) ?_ ?_
 .by_cases h:sty=3
  .subst h;obtain⟨r1,a1,c1,e1,l1,u1⟩:=aA (a:=a) (b:=c) (k:=q) (m:=4) (by decide) (sm8 (by decide));obtain⟨r2,a2,c2,e2,l2,u2⟩:=aA (a:=a1) (b:=c1) (k:=q) (m:=100) (by decide) (sm8 (by decide));by_cases hr:r1=0
   .subst hr;exact⟨[.sh (.kl (ns.map .int)),.sh (.int at_),.sh (.int most),.ow (fdV a2 c2 q),.sh (.int many),.sh (.int more),.sh (.int 3),.ow (.lst (acc.map .int)),.sh (.int k),.sh (.int (100000000000000000000000000000+r2))],by simp![e1,e2,p29],_,_,_,_,by omega,by omega,λz=>absurd z (by decide),rfl⟩
   .exact⟨[.sh (.kl (ns.map .int)),.sh (.int at_),.sh (.int most),.ow (fdV a1 c1 q),.sh (.int many),.sh (.int more),.sh (.int 3),.ow (.lst (acc.map .int)),.sh (.int k),.sh (.int w)],by simp![e1,F_.mpr hr],_,_,_,_,w1,w2,w3,rfl⟩
  .exact⟨_,by simp![F_.mpr h],w,a,c,q,w1,w2,w3,rfl⟩
 rintro _ ⟨w,a,c,q,w1,w2,w3,rfl⟩;refine aB (wtI ns at_ most many more sty k acc) ?_ ?_
 .by_cases h:sty=4
  .subst h;obtain⟨r1,a1,c1,e1,l1,u1⟩:=eN (a:=a) (b:=c) (k:=q) (far:=999999999999999999999999999998) (by decide) (by decide);exact⟨[.sh (.kl (ns.map .int)),.sh (.int at_),.sh (.int most),.ow (fdV a1 c1 q),.sh (.int many),.sh (.int more),.sh (.int 4),.ow (.lst (acc.map .int)),.sh (.int k),.sh (.int (1+if r1<0 then -r1 else r1))],by simp![e1,p30],_,_,_,_,by split <;> omega,by split <;> omega,λz=>absurd z (by decide),rfl⟩
  .exact⟨_,by simp![F_.mpr h],w,a,c,q,w1,w2,w3,rfl⟩
 rintro _ ⟨w,a,c,q,w1,w2,w3,rfl⟩;have ll:(acc.map Val.int).length<16777216:=by rw[k_];omega
 refine⟨w,.ow (fdV a c q),w1,w2,w3,rfl,?_⟩;rw[N0,o_,K_];simp![ll]
theorem tZ{ns:List Int}{at_ most many more sty:Int}(ha:0<=at_)(hs:0<=sty/\sty<6):∀(ks:List Nat) (acc:List Int) (s3 s8 s9:Sl),s3.pl=true->s8.pl=true->s9.pl=true->(∀k∈ks,k<=40)->acc.length+ks.length<=1000->
 ∃(ws:List Int) (s3' s8' s9':Sl),ws.length=ks.length/\(∀w∈ws,1<=w/\w<=1000000000000000000000000000000/\(sty<3->w<=8388608))/\c9 (gtN 8).G du.G (ks.map λk:Nat=>Val.int (k:Nat)) [.sh (.kl (ns.map .int)),.sh (.int at_),.sh (.int most),s3,.sh (.int many),.sh (.int more),.sh (.int sty),.ow (.lst (acc.map .int)),s8,s9]=.nx [.sh (.kl (ns.map .int)),.sh (.int at_),.sh (.int most),s3',.sh (.int many),.sh (.int more),.sh (.int sty),.ow (.lst ((acc++ws).map .int)),s8',s9']
 | [],acc,s3,s8,s9,_,_,_,_,_=>⟨[],s3,s8,s9,rfl,(λ_ h=>nomatch h),by rw[K_,de,N7]⟩
 |
  k::ks,acc,s3,s8,s9,h3,h8,h9,hk,hl=>by
  rw[B_] at hl;obtain⟨w,t3,w1,w2,w3,p3,e⟩:=EZ (ns:=ns) (at_:=at_) (most:=most) (many:=many) (more:=more) (sty:=sty) (k:=(k:Nat)) (acc:=acc) h3 h9 ha ⟨by omega,by have:=hk k (m_ ..);omega⟩ hs (by omega);obtain⟨ws,s3',s8',s9',q1,q2,q3⟩:=tZ (ns:=ns) (most:=most) (many:=many) (more:=more) ha hs ks (acc++[w]) t3 (.sh (.int (k:Nat))) (.sh (.int w)) p3 rfl rfl (λj hj=>hk j (l_ _ hj)) (by rw[u_];show acc.length+1+_<=_;omega);refine⟨w::ws,s3',s8',s9',by rw[B_,B_,q1],λx hx=>?_,?_⟩
  .rcases E_.mp hx with rfl |hx
   .exact⟨w1,w2,w3⟩
   .exact q2 x hx
  .have g1:(gtN 8).G (.int (k:Nat)) [.sh (.kl (ns.map .int)),.sh (.int at_),.sh (.int most),s3,.sh (.int many),.sh (.int more),.sh (.int sty),.ow (.lst (acc.map .int)),s8,s9]=some [.sh (.kl (ns.map .int)),.sh (.int at_),.sh (.int most),s3,.sh (.int many),.sh (.int more),.sh (.int sty),.ow (.lst (acc.map .int)),.sh (.int (k:Nat)),s9]:=by simp![h8]
   rw[o_,bP,g1];dsimp only;rw[e];show c9 _ _ _ _=_;rw[q3,OI];rfl
def div8{x:Int}:iQ.G (.int x) (.int 8)=.val (.int (x.fdiv 8)):=jA (CDivB.of (by decide) (sm8 (by decide)))
def wsQ(M:Int)(r:SR3):Prop:=∃ws:List Int,1<=ws.length/\(ws.length:Int)<=M/\(∀w∈ws,1<=w/\w<=1000000000000000000000000000000)/\(9<ws.length->∀w∈ws,w<=8388608)/\mj [false,false,false] r=.ok (.new (liV ws)) []
def ws_a{x most M:Int}(h:x<=most)(h1:most<=M)(h7:7<=M):1<=(if x>1 then x else 1)/\(if x>1 then x else 1)<=M:=by split <;> omega
def ws_b{most:Int}(h1:1<=most)(h2:most<=40):0<(if (7:Int)<most then 7 else most)/\Sm 8000 (if (7:Int)<most then 7 else most):=by
 split
 .exact⟨by decide,sm8 (by decide)⟩
 .exact⟨by omega,sm8 (by omega)⟩
def ws_c{r most:Int}(h:r<if (7:Int)<most then 7 else most):1+r<=7:=by split at h <;> omega
def wu{ns:List Int}{at_ most:Int}(ha:0<=at_)(hm:1<=most/\most<=40):∃ws:List Int,1<=ws.length/\(ws.length:Int)<=max most 7/\(∀w∈ws,1<=w/\w<=1000000000000000000000000000000)/\(9<ws.length->∀w∈ws,w<=8388608)/\cJ.G [.kl (ns.map .int),.int at_,.int most]=.ok (.new (liV ws)) []:=by
 have x1:most<=max most 7:=Int.le_max_left ..;have x7:(7:Int)<=max most 7:=Int.le_max_right ..;have x4:max most 7<=40:=Int.max_le.mpr ⟨hm.2,by decide⟩;generalize max most 7=M at *;unfold cJ;rw[oT rfl];show wsQ M (fu.G [.sh (.kl (ns.map .int)),.sh (.int at_),.sh (.int most),.no,.no,.no,.no,.no,.no,.no]);unfold fu;obtain⟨f,ef⟩:=mq (ns:=ns) (k:=at_) ha;refine aB (λe=>e=[.sh (.kl (ns.map .int)),.sh (.int at_),.sh (.int most),.ow (fdV f 0 at_),.no,.no,.no,.no,.no,.no]) ⟨_,by simp![ef],rfl⟩ ?_;rintro _ rfl;obtain⟨r1,a1,c1,e1,l1,u1⟩:=aA (a:=f) (b:=0) (k:=at_) (m:=if (7:Int)<most then 7 else most) (ws_b hm.1 hm.2).1 (ws_b hm.1 hm.2).2;refine aB (λe=>e=[.sh (.kl (ns.map .int)),.sh (.int at_),.sh (.int most),.ow (fdV a1 c1 at_),.sh (.int (1+r1)),.no,.no,.no,.no,.no]) ⟨_,by simp![e1],rfl⟩ ?_;rintro _ rfl;have b1:1+r1<=7:=ws_c u1;obtain⟨r2,a2,c2,e2,l2,u2⟩:=aA (a:=a1) (b:=c1) (k:=at_) (m:=6) (by decide) (sm8 (by decide));refine aB (λe=>e=[.sh (.kl (ns.map .int)),.sh (.int at_),.sh (.int most),.ow (fdV a2 c2 at_),.sh (.int (1+r1)),.sh (.int r2),.no,.no,.no,.no]) ⟨_,by simp![e2],rfl⟩ ?_;rintro _ rfl;refine aB (λe=>∃many:Int,1<=many/\many<=M/\e=[.sh (.kl (ns.map .int)),.sh (.int at_),.sh (.int most),.ow (fdV a2 c2 at_),.sh (.int many),.sh (.int r2),.no,.no,.no,.no]) ?_ ?_
 .have mm:=aP (i:=1+r1) (j:=most) (CMulA.of (sm8 (m:=1+r1) (by omega)) (sm8 (m:=most) (by omega)) (by decide) (by decide));by_cases h:r2<2
  .have dl:((1+r1)*most).fdiv 8<=most:=by rw[Int.fdiv_eq_ediv_of_nonneg _ (by decide)];have:(1+r1)*most<=7*most:=Int.mul_le_mul_of_nonneg_right b1 (by omega);omega
   have hc:r2=0\/r2=1:=by omega
   rcases hc with rfl |rfl
   .exact⟨_,by simp![mm,div8],most,hm.1,x1,rfl⟩
   .exact⟨_,by simp![mm,div8],(if ((1+r1)*most).fdiv 8>1 then ((1+r1)*most).fdiv 8 else 1),(ws_a dl x1 x7).1,(ws_a dl x1 x7).2,rfl⟩
  .exact⟨_,by simp![z_ h],1+r1,Int.le_add_of_nonneg_right l1,Int.le_trans b1 x7,rfl⟩
 rintro _ ⟨many,m1,m2,rfl⟩;obtain⟨r3,a3,c3,e3,l3,u3⟩:=aA (a:=a2) (b:=c2) (k:=at_) (m:=6) (by decide) (sm8 (by decide));refine aB (λe=>e=[.sh (.kl (ns.map .int)),.sh (.int at_),.sh (.int most),.ow (fdV a3 c3 at_),.sh (.int many),.sh (.int r2),.sh (.int r3),.no,.no,.no]) ⟨_,by simp![e3],rfl⟩ ?_;rintro _ rfl;refine aB (λe=>∃sty:Int,0<=sty/\sty<6/\(9<many->sty<3)/\e=[.sh (.kl (ns.map .int)),.sh (.int at_),.sh (.int most),.ow (fdV a3 c3 at_),.sh (.int many),.sh (.int r2),.sh (.int sty),.no,.no,.no]) ?_ ?_
 .have km:=dO (i:=r3) (j:=3) (by decide);have fm:=c8 (a:=r3) (m:=3) (by decide);by_cases h:9<many
  .exact⟨_,by simp![D_ h,km],r3.fmod 3,fm.1,Int.lt_trans fm.2 (by decide),λ_=>fm.2,rfl⟩
  .exact⟨_,by simp![z_ h],r3,l3,u3,λz=>absurd z h,rfl⟩
 rintro _ ⟨sty,t0,t1,t2,rfl⟩;refine aB (λe=>e=[.sh (.kl (ns.map .int)),.sh (.int at_),.sh (.int most),.ow (fdV a3 c3 at_),.sh (.int many),.sh (.int r2),.sh (.int sty),.ow (.lst []),.no,.no]) ⟨_,by simp![N3],rfl⟩ ?_;rintro _ rfl;have rg:=uG (i:=many) (by omega) (by omega);obtain⟨ws,s3,s8,s9,q1,q2,q3⟩:=tZ (ns:=ns) (at_:=at_) (most:=most) (many:=many) (more:=r2) (sty:=sty) ha ⟨t0,t1⟩ (List.range many.toNat) [] (.ow (fdV a3 c3 at_)) .no .no rfl rfl rfl (λk hk=>by have:=Oh.mp hk;omega) (by rw[N3,N_];omega);rw[N_] at q1;rw[Oi,K_] at q3;unfold rgV at rg;refine⟨ws,by omega,by omega,λw hw=>⟨(q2 w hw).1,(q2 w hw).2.1⟩,λh w hw=>(q2 w hw).2.2 (t2 (by omega)),?_⟩;unfold liV;simp![rg,q3];rfl
theorem qN:∀(n:Nat) (l:List Nat),l.length=n->(∀i,i<n->i∈l)->l.Perm (List.range n)
 |0,l,h,_=>by rw[List.length_eq_zero_iff.mp h];exact List.Perm.refl _
 |
  n+1,l,h,hm=>by
  have h1:=hm n (by omega);have p:=List.perm_cons_erase h1;have q:=qN n (l.erase n) (by rw[List.length_erase_of_mem h1];omega) λi hi=>(List.mem_erase_of_ne (by omega)).mpr (hm i (by omega));rw[List.range_succ];exact p.trans ((q.cons n).trans (List.perm_append_singleton n _).symm)
def Hx{t:AT}{o:List Nat}{n:Nat}(T:TOk t o)(ho:∀i,i∈o ↔ i<n)(hl:o.length=n):t.lvs.Nodup:=
 (qN n t.lvs (by rw[T.len,hl]) λi hi=>(T.mem i).mpr ((ho i).mpr hi)).nodup_iff.mpr List.nodup_range
def lA{q:Rat}{k D:Nat}(hs:Sz 101 q)(hD:D=q.den*k)(hk:0<k):∃z:Int,q=(z:Rat)/((D:Int):Rat)/\z.natAbs<=2^101*D/\(0<q->0<z/\z<=((2^101:Nat):Int)*(D:Int)):=by
 have dp:=q.den_pos;have hn:q.num.natAbs<2^101:=hs.1;have hz:(q.num*(k:Int)).natAbs<=2^101*D:=by rw[Oo,Int.natAbs_natCast,hD];exact N4 (by omega) (PC _ dp)
 refine⟨q.num*(k:Int),?_,hz,λh=>⟨Pz (hX.mpr h) (by omega),?_⟩⟩
 .have:=l6 (y:=q.num) (W:=(k:Int)) dp (by omega)
  rw[Of,<- hD] at this;rw[<- this];exact dk q
 .rw[<- OP];generalize q.num*(k:Int)=z at *;generalize 2^101*D=y at *;omega
def CM{b:Bx}(g:Good b):∃D,D<2^404/\Rp D (2^101) (2^101) b:=by
 have dl:=b.l.den_pos;have dt:=b.t.den_pos;have dw:=b.w.den_pos;have dh:=b.h.den_pos;have sz:∀q:Rat,Sz 101 q->q.den<=2^101:=λq h=>by have:(q.den:Int).natAbs<2^101:=h.2;omega
 have k1:=OH (OH dt dw) dh;have k2:=OH (OH dl dw) dh;have k3:=OH (OH dl dt) dh;have k4:=OH (OH dl dt) dw;refine⟨b.l.den*(b.t.den*b.w.den*b.h.den),?_,OH dl k1,?_,?_,?_,?_⟩
 .have a1:b.l.den<2^101:=by have:(b.l.den:Int).natAbs<2^101:=g.sz.l.2;omega
  have a2:=N4 (N4 (sz _ g.sz.t) (sz _ g.sz.w)) (sz _ g.sz.h)
  calc b.l.den*(b.t.den*b.w.den*b.h.den)<=b.l.den*(2^101*2^101*2^101):=OB _ a2
   _<2^101*(2^101*2^101*2^101):=Nat.mul_lt_mul_of_pos_right a1 (by decide)
   _=2^404:=by rw[<- ON,<- ON,<- ON]
 .obtain⟨z,h1,h2,_⟩:=lA (D:=b.l.den*(b.t.den*b.w.den*b.h.den)) g.sz.l rfl k1;exact⟨z,h1,h2⟩
 .obtain⟨z,h1,h2,_⟩:=lA (D:=b.l.den*(b.t.den*b.w.den*b.h.den)) (k:=b.l.den*b.w.den*b.h.den) g.sz.t (by ac_rfl) k2;exact⟨z,h1,h2⟩
 .obtain⟨z,h1,_,h2⟩:=lA (D:=b.l.den*(b.t.den*b.w.den*b.h.den)) (k:=b.l.den*b.t.den*b.h.den) g.sz.w (by ac_rfl) k3;exact⟨z,h1,h2 g.ok.w⟩
 .obtain⟨z,h1,_,h2⟩:=lA (D:=b.l.den*(b.t.den*b.w.den*b.h.den)) (k:=b.l.den*b.t.den*b.w.den) g.sz.h (by ac_rfl) k4;exact⟨z,h1,h2 g.ok.h⟩
structure WOk(ws:List Int):Prop where
 pos:1<=ws.length
 len:ws.length<=40
 wt:∀w∈ws,1<=w/\w<=1000000000000000000000000000000
 few:10<ws.length->∀w∈ws,w<=8388608
theorem jm{ws:List Int}{M:Int}:∀{l:List Nat},(∀k∈l,ws.getD k 0<=M)->wtA ws l<=(l.length:Int)*M
 | [],_=>by simp [wtA]
 |
  k::l,h=>by
  have h1:=h k (m_ ..);have h2:=jm (l:=l) λj hj=>h j (l_ _ hj);unfold wtA at h2 ⊢;rw[o_,N1,B_,Int.natCast_add,Int.add_mul];omega
def Nv{ws:List Int}{t:AT}{o:List Nat}{b:Bx}(g:Good b)(W:WOk ws)(T:TOk t o)(ho:∀i,i∈o ↔ i<ws.length)(hl:o.length=ws.length):(∀k∈t.lvs,1<=ws.getD k 0)/\∃D m,m<=104/\Rp D (2^101) (2^101) b/\(2^101+t.dep*2^101)*(D*2^(m*t.dep))<2^2000/\wtT ws t<2^m:=by
 obtain⟨D,hD,R⟩:=CM g;have hlt:∀k∈t.lvs,k<ws.length:=λk hk=>(ho k).mp ((T.mem k).mp hk);have hin:∀k∈t.lvs,ws.getD k 0∈ws:=λk hk=>by rw[NW,y_ (hlt k hk)];exact PJ _
 have hd:=T.dep;have len:=T.len;have wl:=W.len;refine⟨λk hk=>(W.wt _ (hin k hk)).1,D,?_⟩;have key:∀m,m*t.dep<=1218->m<=104->wtT ws t<2^m->∃m,m<=104/\Rp D (2^101) (2^101) b/\(2^101+t.dep*2^101)*(D*2^(m*t.dep))<2^2000/\wtT ws t<2^m:=λm h1 h2 h3=>by
  refine⟨m,h2,R,?_,h3⟩;have a1:2^101+t.dep*2^101<=2^107:=by
   have h1:=Oz (2^101) (show t.dep<=40 by omega);have h2:2^107=64*2^101:=by decide
   rw[h2];generalize 2^101=X at *;omega
  have a2:2^(m*t.dep)<=2^1218:=Oe (by decide) h1;have a3:=N4 a1 (N4 (O_ hD) a2);refine OE a3 ?_;rw[<- ON,<- ON];exact Nat.pow_lt_pow_right (by decide) (by decide)
 by_cases h9:10<ws.length
 .refine key 29 (by omega) (by decide) ?_
  have:=jm (M:=8388608) λk hk=>W.few h9 _ (hin k hk)
  unfold wtT;have:(2:Int)^29=536870912:=by decide
  omega
 .refine key 104 (by omega) (by decide) ?_
  have:=jm (M:=1000000000000000000000000000000) λk hk=>(W.wt _ (hin k hk)).2
  unfold wtT;have:(2:Int)^104=20282409603651670423947251286016:=by decide
  omega
def Nc{ws:List Int}{t:AT}{o:List Nat}{b:Bx}(g:Good b)(W:WOk ws)(T:TOk t o)(ho:∀i,i∈o ↔ i<ws.length)(hl:o.length=ws.length):∃m,m<=104/\AT.lay ws 2000 m t b:=by obtain⟨hw,D,m,h1,R,h2,h3⟩:=Nv g W T ho hl;have len:=T.len;have wl:=W.len;exact⟨m,h1,IZ t b D (2^101) R (n_ _) (by decide) h2 T.ok hw h3 (by omega)⟩
def Ny(ws:List Int):bG (liV ws) (liV ws)=some true:=by
 have:wfV 60 (liV ws)=true:=by show d4 59 (ws.map .int)=true;exact tJ λv hv=>by obtain⟨w,_,rfl⟩:=Og.mp hv;rfl
 rw[CB this this,tT 60 _ this]
noncomputable def lwB(b:Bx):Bool:=!decide (b.w<b.h)
def sZ{b:Bx}{n:Nat}(hb:b.Ok)(hs:b.Sz n)(h:n<=8000):eu.G [bV b]=.ok (.val (.str (wy (lwB b)))) []:=by
 have cb:=bu hb;have il:=kW hs.w hs.h (by omega) (by omega);have ib:(bV b).items=some [fV b.l,fV b.t,fV b.w,fV b.h]:=rfl;unfold eu lwB;rw[aD];unfold lL;by_cases hl:b.w<b.h
 .rw[D_ hl] at il ⊢;simp![cb,ib,il];rfl
 .rw[z_ hl] at il ⊢;simp![cb,ib,il];rfl
def Bd(m B:Nat)(b:Bx)(n:Nat):Prop:=∃D A,Rp D A B b/\B<=A/\1<=A/\(A+n*B)*(D*2^(m*n))<2^2000
def Bd.ok{m B n:Nat}{b:Bx}(h:Bd m B b n):b.Ok:=by obtain⟨D,A,r,_⟩:=h;exact r.ok
def Bd.sz{m B n:Nat}{b:Bx}(h:Bd m B b n):b.Sz 2000:=by obtain⟨D,A,r,hBA,hA,hq⟩:=h;have hD1:1<=2^(m*n):=Nat.one_le_two_pow;have z1:A*D<=(A+n*B)*(D*2^(m*n)):=N4 (by omega) (Nat.le_mul_of_pos_right _ hD1);have z2:D<=A*D:=PC _ hA;have z3:B*D<=A*D:=Oz _ hBA;exact r.sz (by omega) (by omega) (by omega)
def Bd.part{m B n k:Nat}{b c:Bx}{way:Str}{ws:List Int}(h:Bd m B b n)(hw:∀w∈ws,1<=w)(hS:ws.sum<2^m)(hc:c∈aq b way ws)(hk:k<n):Bd m B c k:=by
 obtain⟨D,A,r,hBA,hA,hq⟩:=h;have hT:ws.sum.toNat<=2^m:=by
  have h4:((2^m:Nat):Int)=(2:Int)^m:=by push_cast;rfl
  rw[<- h4] at hS;generalize 2^m=X at hS ⊢;clear hq;omega
 refine⟨D*ws.sum.toNat,A+B,r.parts hw hc,by omega,by omega,OE (N4 ?_ ?_) hq⟩
 .have:(k+1)*B<=n*B:=Oz _ hk;rw[Nat.add_mul,Nat.one_mul] at this;omega
 .rw[PF];refine OB _ ?_;have e:2^m*2^(m*k)=2^(m*(k+1)):=by rw[<- ON];congr 1;rw[Nat.mul_add,Nat.mul_one,Nat.add_comm]
  exact C_ (Oz _ hT) (by rw[e];exact Oe (by decide) (OB _ hk))
def JQ(w:Bool):wy w="across" \/ wy w="down":=by cases w;exact .inr rfl;exact .inl rfl
def rV{m:Nat}{S:Int}(h0:0<=S)(h:S<2^m):Sm m S:=by
 show S.natAbs<2^m;have h4:((2^m:Nat):Int)=(2:Int)^m:=by push_cast;rfl
 rw[<- h4] at h;omega
def kT{p q:Rat}(hq:q≠0):p/q=((p.num*q.den:Int):Rat)/((p.den*q.num:Int):Rat):=by
 have h1:=fS (bT p);have h2:=fS (bT q);have h3:q.num≠0:=λz=>hq (PZ.mp z);have h4:=fS h3
 conv=>lhs;rw[dk p,dk q]
 rw[N8,N8];simp only[O4,Rat.inv_mul_rev,Rat.inv_inv];rw[Rat.mul_assoc,Rat.mul_assoc,Rat.mul_comm (((p.den:Int):Rat))⁻¹,Rat.mul_assoc]
def tE{p q:Rat}{n m:Nat}(hp:Sz n p)(hq:Sz m q)(h0:0<q)(h:n+m<=8000):hZ.G [fV p,fV q]=.ok (.val (fV (p/q))) []:=by
 have c1:=aP (CMulA.of hp.top hq.bot (by omega) (by omega));have c2:=aP (CMulA.of hp.bot hq.top (by omega) (by omega));have hq0:q≠0:=λz=>by rw[z] at h0;exact absurd h0 (by decide)
 have hn:q.num≠0:=λz=>hq0 (PZ.mp z);have fe:=b0 (a:=p.num*q.den) (b:=p.den*q.num) (O1 (bT p) hn) ((hp.bot.mul hq.top).mono h);rw[<- kT hq0] at fe;unfold hZ;rw[aD];unfold zg;rw[show fV p=.tup [.int p.num,.int p.den] from rfl,show fV q=.tup [.int q.num,.int q.den] from rfl];simp![c1,c2,fe]
def kD{b:Bx}{n:Nat}(hb:b.Ok)(hs:b.Sz n)(h:n+n<=8000):d7.G [bV b]=.ok (.val (fV (aC b))) []:=by
 have lw:=sZ hb hs (by omega);have ib:(bV b).items=some [fV b.l,fV b.t,fV b.w,fV b.h]:=rfl;have o1:=tE hs.w hs.h hb.2 h;have o2:=tE hs.h hs.w hb.1 h;unfold d7 aC;rw[aD];unfold uj;by_cases hl:b.w<b.h
 .rw[show wy (lwB b)="down" from by unfold lwB;rw[D_ hl];rfl] at lw;rw[if_pos hl];simp![lw,ib,o1,o2,qL]
 .rw[show wy (lwB b)="across" from by unfold lwB;rw[z_ hl];rfl] at lw;rw[if_neg hl];simp![lw,ib,o1,o2,rj]
def Sz.over{p q:Rat}{n m:Nat}(hp:Sz n p)(hq:Sz m q)(h0:0<q):Sz (n+m) (p/q):=by
 have hq0:q≠0:=λz=>by rw[z] at h0;exact absurd h0 (by decide)
 have hn:q.num≠0:=λz=>hq0 (PZ.mp z);rw[kT hq0];exact Sz.div (O1 (bT p) hn) (hp.top.mul hq.bot) (hp.bot.mul hq.top) (n+m) (n_ _) (n_ _)
def lg{b:Bx}{n:Nat}(hb:b.Ok)(hs:b.Sz n):Sz (n+n) (aC b):=by
 unfold aC;split
 .exact Sz.over hs.h hs.w hb.1
 .exact Sz.over hs.w hs.h hb.2
def mxL:List Rat->Rat
 | []=>0
 |x::xs=>xs.foldl mx x
theorem lM{n:Nat}(hn:n<=100000){v:Val}:∀(xs:List Rat) (a:Rat) (s:Sl),s.pl=true->Sz n a->(∀x∈xs,Sz n x)->∃s',c9 (gtN 2).G dg.G (xs.map fV) [.sh v,.sh (fV a),s]=.nx [.sh v,.sh (fV (xs.foldl mx a)),s']
 | [],a,s,_,_,_=>⟨s,by rw[K_,de];rfl⟩
 |
  x::xs,a,s,hs,ha,hx=>by
  have hx0:=hx x (m_ ..);have il:=kW ha hx0 hn hn;have hm:Sz n (mx a x):=by
   unfold mx;split
   .exact hx0
   .exact ha
  obtain⟨s',ih⟩:=lM hn (v:=v) xs (mx a x) (.sh (fV x)) rfl hm λy hy=>hx y (l_ _ hy);refine⟨s',?_⟩;have bb:dg.G [.sh v,.sh (fV a),.sh (fV x)]=.nx [.sh v,.sh (fV (mx a x)),.sh (fV x)]:=by
   unfold dg mx;by_cases hl:a<x
   .rw[D_ hl] at il;rw[if_pos hl];simp![il]
   .rw[z_ hl] at il;rw[if_neg hl];simp![il]
  have g1:(gtN 2).G (fV x) [.sh v,.sh (fV a),s]=some [.sh v,.sh (fV a),.sh (fV x)]:=by simp![hs]
  rw[o_,bP,g1];simp only[bb,gw];rw[ih];rfl
def gC{n:Nat}(hn:n<=100000){qs:List Rat}(h0:qs≠[])(hq:∀q∈qs,Sz n q):bD.G [.lst (qs.map fV)]=.ok (.val (fV (mxL qs))) []:=by
 cases qs with
 |nil=>exact absurd rfl h0
 |
  cons q qs=>
  have hq0:=hq q (m_ ..);obtain⟨s',lo⟩:=lM hn (v:=.lst ((q::qs).map fV)) (q::qs) q .no rfl hq0 hq;have e:(q::qs).foldl mx q=mxL (q::qs):=by rw[List.foldl_cons,show mx q q=q from if_neg Rat.lt_irrefl];rfl
  rw[e] at lo;have a0:atI ((q::qs).map fV) 0=some (fV q):=dn (by decide) rfl;generalize mxL (q::qs)=r at *;generalize (q::qs).map fV=qv at *;unfold bD;rw[aD];unfold iY;simp![a0,lo]
def wY{P:PFn}{bs:List Bx}(h:∀c∈bs,P.G [bV c]=.ok (.val (fV (aC c))) [])(hm:P.ms=[false])(hl:bs.length<=1000):∃s,lcV (gtN 0).G qY.G (ai P (aa (af 0) ag)).G (bs.map bV) [] [.no]=.ok ((bs.map aC).map fV) [s]:=by
 obtain⟨e',⟨s,rfl,_⟩,lc⟩:=dX (g:=(gtN 0).G) (F:=(ai P (aa (af 0) ag)).G) bV (λc=>fV (aC c)) (λe=>∃s:Sl,e=[s]/\s.pl=true) bs [] [.no] ⟨.no,rfl,rfl⟩ (by
  rintro c hc _ ⟨s,rfl,hs⟩;have hp:=h c hc;refine⟨[.sh (bV c)],.val (fV (aC c)),[.sh (bV c)],?_,?_,rfl,_,rfl,rfl⟩
  .simp![hs]
  .simp![hm,hp]) (by rw[N3];omega)
 rw[Oi] at lc;refine⟨s,?_⟩;rw[OX];exact lc
def wQ{q:Rat}(h:0<q.num):(q⁻¹).num=q.den/\((q⁻¹).den:Int)=q.num:=by rw[Rat.num_inv,Rat.den_inv,Int.sign_eq_one_of_pos h,if_neg (by omega)];omega
def jb{b:Bx}{n:Nat}(hb:b.Ok)(hs:b.Sz n)(h:n+n<=8000):bL.G [bV b]=.ok (.val (fV (aC b))) []:=by
 have ib:(bV b).items=some [fV b.l,fV b.t,fV b.w,fV b.h]:=rfl;have c1:aK.G (.int b.w.num) (.int (b.h.den:Nat))=.val (.int (b.w.num*(b.h.den:Nat))):=aP (CMulA.of hs.w.top hs.h.bot (by omega) (by omega));have c2:aK.G (.int (b.w.den:Nat)) (.int b.h.num)=.val (.int ((b.w.den:Nat)*b.h.num)):=aP (CMulA.of hs.w.bot hs.h.top (by omega) (by omega));have h0:=hb.1;have h1:=hb.2;have hw0:0<b.w.num:=hX.mpr h0;have hh0:0<b.h.num:=hX.mpr h1;have dw:=b.w.den_pos;have lo:=cX (a:=b.w.num*b.h.den) (b:=b.w.den*b.h.num) (Int.ne_of_gt (Pz (by omega) hh0)) ((hs.w.bot.mul hs.h.top).mono h);have hne:b.h≠0:=λz=>by rw[z] at h1;exact absurd h1 (by decide)
 have hnw:b.w≠0:=λz=>by rw[z] at h0;exact absurd h0 (by decide)
 rw[<- kT hne] at lo;have q0:0<b.w/b.h:=by rw[O4];exact Rat.mul_pos h0 (Rat.inv_pos.mpr h1)
 have qn:0<(b.w/b.h).num:=hX.mpr q0;have iv:(b.w/b.h)⁻¹=b.h/b.w:=by rw[O4,O4,Rat.inv_mul_rev,Rat.inv_inv]
 obtain⟨i1,i2⟩:=wQ qn;rw[iv] at i1 i2;have lt:(b.w/b.h).num<((b.w/b.h).den:Int) ↔ b.w<b.h:=by
  have e:=lK (b.w/b.h) 1;rw[show (1:Rat).den=1 from rfl,show (1:Rat).num=1 from rfl] at e;rw[show ((b.w/b.h).num<((b.w/b.h).den:Int)) ↔ (b.w/b.h).num*((1:Nat):Int)<1*((b.w/b.h).den:Int) from by omega,<- e];constructor
  .intro z
   have:=Rat.mul_lt_mul_of_pos_right z h1
   rw[Rat.div_mul_cancel hne,Rat.one_mul] at this;exact this
  .intro z
   have:=Rat.mul_lt_mul_of_pos_right z (Rat.inv_pos.mpr h1)
   rw[<- O4,Rat.mul_inv_cancel _ hne] at this;exact this
 unfold bL aC;rw[aD];unfold kf;by_cases hl:b.w<b.h
 .rw[if_pos hl,show fV (b.h/b.w)=.tup [.int (b.h/b.w).num,.int (b.h/b.w).den] from rfl,i1,i2];have d1:=D_ (lt.mpr hl);simp![ib,jB,c1,c2,lo,d1]
 .rw[if_neg hl];have d1:=z_ (λz=>hl (lt.mp z));simp![ib,jB,c1,c2,lo,d1]
theorem nF{n:Nat}(hn:n<=100000){v:Val}:∀(xs:List Rat) (a:Rat) (s:Sl),s.pl=true->Sz n a->(∀x∈xs,Sz n x)->∃s',c9 (gtN 2).G eZ.G (xs.map fV) [.sh v,.sh (fV a),s]=.nx [.sh v,.sh (fV (xs.foldl mx a)),s']
 | [],a,s,_,_,_=>⟨s,by rw[K_,de];rfl⟩
 |
  x::xs,a,s,hs,ha,hx=>by
  have hx0:=hx x (m_ ..);have c1:aK.G (.int x.num) (.int (a.den:Nat))=.val (.int (x.num*(a.den:Nat))):=aP (CMulA.of hx0.top ha.bot hn hn);have c2:aK.G (.int a.num) (.int (x.den:Nat))=.val (.int (a.num*(x.den:Nat))):=aP (CMulA.of ha.top hx0.bot hn hn);have hm:Sz n (mx a x):=by
   unfold mx;split
   .exact hx0
   .exact ha
  obtain⟨s',ih⟩:=nF hn (v:=v) xs (mx a x) (.sh (fV x)) rfl hm λy hy=>hx y (l_ _ hy);refine⟨s',?_⟩;have bb:eZ.G [.sh v,.sh (fV a),.sh (fV x)]=.nx [.sh v,.sh (fV (mx a x)),.sh (fV x)]:=by
   unfold eZ mx;by_cases hl:a<x
   .have d1:=D_ ((lK a x).mp hl);rw[if_pos hl];simp![jB,c1,c2,d1]
   .have d1:=z_ (λz=>hl ((lK a x).mpr z));rw[if_neg hl];simp![jB,c1,c2,d1]
  have g1:(gtN 2).G (fV x) [.sh v,.sh (fV a),s]=some [.sh v,.sh (fV a),.sh (fV x)]:=by simp![hs]
  rw[o_,bP,g1];simp only[bb,gw];rw[ih];rfl
def gD{n:Nat}(hn:n<=100000){qs:List Rat}(h0:qs≠[])(hq:∀q∈qs,Sz n q):bX.G [.lst (qs.map fV)]=.ok (.val (fV (mxL qs))) []:=by
 cases qs with
 |nil=>exact absurd rfl h0
 |
  cons q qs=>
  have hq0:=hq q (m_ ..);obtain⟨s',lo⟩:=nF hn (v:=.lst ((q::qs).map fV)) qs q .no rfl hq0 λx hx=>hq x (l_ _ hx);rw[show qs.foldl mx q=mxL (q::qs) from rfl] at lo;have a0:atI ((q::qs).map fV) 0=some (fV q):=dn (by decide) rfl;have cf:aSl (.lst ((q::qs).map fV)) (some 1) none=.new (.lst (qs.map fV)):=by rw[yQ,show (some 1:Option Int)=some ((1:Nat):Int) from rfl,rH];rfl
  generalize mxL (q::qs)=r at *;generalize (q::qs).map fV=qv at *;generalize qs.map fV=qw at *;unfold bX;rw[aD];unfold lW;simp![a0,cf,lo]
def so(ws:List Int):((List.range ws.length).map λk=>ws.getD k 0)=ws:=EX 0 ws
def bndN{ws:List Int}{b:Bx}(g:Good b)(W:WOk ws):∃m,m<=104/\Bd m (2^101) b ws.length/\∀l:List Nat,(∀k∈l,k<ws.length)->l.length<=ws.length->wtA ws l<2^m:=by
 obtain⟨D,hD,R⟩:=CM g;have hin:∀k,k<ws.length->ws.getD k 0∈ws:=λk hk=>by rw[NW,y_ hk];exact PJ _
 have wl:=W.len;have key:∀m,m*ws.length<=1218->Bd m (2^101) b ws.length:=λm h1=>by
  refine⟨D,2^101,R,n_ _,by decide,?_⟩;have a1:2^101+ws.length*2^101<=2^107:=by
   have h1:=Oz (2^101) (show ws.length<=40 by omega);have h2:2^107=64*2^101:=by decide
   rw[h2];generalize 2^101=X at *;omega
  have a2:2^(m*ws.length)<=2^1218:=Oe (by decide) h1;refine OE (N4 a1 (N4 (O_ hD) a2)) ?_;rw[<- ON,<- ON];exact Nat.pow_lt_pow_right (by decide) (by decide)
 by_cases h9:10<ws.length
 .refine⟨29,by decide,key 29 (by omega),λl hl hn=>?_⟩
  have:=jm (M:=8388608) λk hk=>W.few h9 _ (hin k (hl k hk))
  have:(2:Int)^29=536870912:=by decide
  omega
 .refine⟨104,by decide,key 104 (by omega),λl hl hn=>?_⟩
  have:=jm (M:=1000000000000000000000000000000) λk hk=>(W.wt _ (hin k (hl k hk))).2
  have:(2:Int)^104=20282409603651670423947251286016:=by decide
  omega
theorem CU:∀(xs:List Rat) (a:Rat),a<=xs.foldl mx a/\(∀x∈xs,x<=xs.foldl mx a)/\(xs.foldl mx a=a\/xs.foldl mx a∈xs)
 | [],a=>⟨Rat.le_refl,λ_ h=>(nomatch h),.inl rfl⟩
 |
  x::xs,a=>by
  obtain⟨h1,h2,h3⟩:=CU xs (mx a x);rw[List.foldl_cons];have ha:a<=mx a x:=by unfold mx;split;grind;exact Rat.le_refl
  have hx:x<=mx a x:=by unfold mx;split;exact Rat.le_refl;grind
  refine⟨Rat.le_trans ha h1,λy hy=>?_,?_⟩
  .rcases E_.mp hy with rfl |hy
   .exact Rat.le_trans hx h1
   .exact h2 y hy
  .rcases h3 with h3 |h3
   .rw[h3];unfold mx;split
    .exact .inr (m_ ..)
    .exact .inl rfl
   .exact .inr (l_ _ h3)
def rq{p:List Rat}(h:p≠[]):mxL p∈p/\∀x∈p,x<=mxL p:=by
 cases p with
 |nil=>exact absurd rfl h
 |
  cons a xs=>
  obtain⟨h1,h2,h3⟩:=CU xs a;refine⟨?_,λx hx=>?_⟩
  .show xs.foldl mx a∈_;rcases h3 with h3 |h3
   .rw[h3];exact m_ ..
   .exact l_ _ h3
  .rcases E_.mp hx with rfl |hx
   .exact h1
   .exact h2 x hx
def Jf{p q:List Rat}(hp:p≠[])(h:∀x,x∈p ↔ x∈q):mxL p=mxL q:=by
 obtain⟨a1,a2⟩:=rq hp;have hq:q≠[]:=λz=>by rw[z] at h;exact absurd ((h _).mp a1) (by simp)
 obtain⟨b1,b2⟩:=rq hq;exact Rat.le_antisymm (b2 _ ((h _).mp a1)) (a2 _ ((h _).mpr b1))
theorem wN(q:Rat):∀qs:List Rat,nq (fV q) (qs.map fV)=some (qs.map λp=>decide (p=q))
 | []=>rfl
 |x::xs=>by rw[o_,nq,wN q xs,C4];rfl
def B9{qs:List Rat}{q:Rat}(h:q∈qs):∃i:Int,ng.G (.lst (qs.map fV)) [fV q]=.val (.int i):=by have hm:true∈qs.map λp=>decide (p=q):=Og.mpr ⟨q,h,D_ rfl⟩;have hl:=List.idxOf_lt_length_iff.mpr hm;refine⟨((qs.map λp=>decide (p=q)).idxOf true:Nat),?_⟩;show g9 (.lst (qs.map fV)) [fV q]=_;unfold g9;dsimp only;rw[wN];dsimp only;rw[if_pos hl]
def Ad{bs:List Bx}(h0:bs≠[])(hb:∀c∈bs,c.Ok/\c.Sz 2000)(hl:bs.length<=1000):∃i:Int,gZ.G [.lst (bs.map bV)]=.ok (.val (.tup [fV (mxL (bs.map aC)),.int i])) []:=by
 have q1:bs.map aC≠[]:=λz=>h0 (P5.mp z);have q2:∀q∈bs.map aC,Sz 4000 q:=λq hq=>by obtain⟨c,hc,rfl⟩:=Og.mp hq;exact lg (hb c hc).1 (hb c hc).2
 obtain⟨s,lc⟩:=wY (P:=d7) (bs:=bs) (λc hc=>kD (hb c hc).1 (hb c hc).2 (by decide)) rfl hl;have ge:=gC (by decide) q1 q2;obtain⟨i,ix⟩:=B9 (rq q1).1;refine⟨i,?_⟩;have sl:((bs.map aC).map fV).length<=16777216:=by rw[k_,k_];omega
 unfold gZ;rw[aD];unfold tX;generalize (bs.map aC).map fV=sv at *;generalize mxL (bs.map aC)=r at *;generalize bs.map bV=bv at *;simp![lc,sl,ge,ix]
def thQ(p:Int×Int):Rat:=((p.1+p.2:Int):Rat)/((p.2:Int):Rat)
theorem tU{rv wv fv:Val}:∀(ps:List (Int×Int)) (acc:List Rat) (s4 s5:Sl),s4.pl=true->s5.pl=true->(∀p∈ps,1<=p.2/\Sm 104 p.2)->acc.length+ps.length<=1000->∃s4' s5',c9 (gtX (gtT 2 (aU (gtN 4) (aU (gtN 5) dB)))).G bW.G (ps.map λp=>.tup [.int p.1,.int p.2]) [.sh rv,.sh wv,.sh fv,.ow (.lst (acc.map fV)),s4,s5]=.nx [.sh rv,.sh wv,.sh fv,.ow (.lst ((acc++ps.map thQ).map fV)),s4',s5']
 | [],acc,s4,s5,_,_,_,_=>⟨s4,s5,by rw[K_,K_,de,N7]⟩
 |
  p::ps,acc,s4,s5,h4,h5,hp,hl=>by
  obtain⟨p1,p2⟩:=hp p (m_ ..);rw[B_] at hl;have fe:=b0 (a:=p.1+p.2) (b:=p.2) (by omega) (p2.mono (by decide));rw[show ((p.1+p.2:Int):Rat)/((p.2:Int):Rat)=thQ p from rfl] at fe;have ll:(acc.map fV).length<16777216:=by rw[k_];omega
  obtain⟨t4,t5,ih⟩:=tU (rv:=rv) (wv:=wv) (fv:=fv) ps (acc++[thQ p]) (.sh (.int p.1)) (.sh (.int p.2)) rfl rfl (λx hx=>hp x (l_ _ hx)) (by rw[u_,O8];omega);refine⟨t4,t5,?_⟩;have g1:(gtX (gtT 2 (aU (gtN 4) (aU (gtN 5) dB)))).G (.tup [.int p.1,.int p.2]) [.sh rv,.sh wv,.sh fv,.ow (.lst (acc.map fV)),s4,s5]=some [.sh rv,.sh wv,.sh fv,.ow (.lst (acc.map fV)),.sh (.int p.1),.sh (.int p.2)]:=by simp![h4,h5]
  have bb:bW.G [.sh rv,.sh wv,.sh fv,.ow (.lst (acc.map fV)),.sh (.int p.1),.sh (.int p.2)]=.nx [.sh rv,.sh wv,.sh fv,.ow (.lst ((acc++[thQ p]).map fV)),.sh (.int p.1),.sh (.int p.2)]:=by unfold bW;rw[N0,show [thQ p].map fV=[fV (thQ p)] from rfl];generalize fV (thQ p)=tq at *;generalize acc.map fV=av at *;simp![fe,ll]
  rw[o_,bP,g1];simp only[bb,gw];rw[ih,o_,OI];rfl
def thL(L:List Int):List (Int×Int):=L.zip (L.drop 1)
def Ih(L:List Int):List.zipWith (λx y=>Val.tup [x,y]) (L.map .int) ((L.map .int).drop 1)=(thL L).map λp=>.tup [.int p.1,.int p.2]:=by unfold thL;rw[<- List.map_drop,List.zipWith_map,List.map_zip_eq_zipWith];rfl
def yJ{L:List Int}{p:Int×Int}(h:p∈thL L):p.1∈L/\p.2∈L:=⟨(Pl h).1,List.mem_of_mem_drop (Pl h).2⟩
def KN(L:List Int):(thL L).length<=L.length:=by unfold thL;rw[List.length_zip];omega
structure W1(ws:List Int):Prop where
 pos:1<=ws.length
 len:ws.length<=40
 wt:∀w∈ws,1<=w/\w<=1000000000000000000000000000000
def sm30{w:Int}(h:0<=w)(h2:w<=2000000000000000000000000000000):Sm 104 w:=by
 refine rV h ?_;have e:(2:Int)^104=20282409603651670423947251286016:=by decide
 omega
def W1.sm{ws:List Int}(W:W1 ws){w:Int}(h:w∈ws):Sm 104 w:=sm30 (by have:=W.wt w h;omega) (by have:=W.wt w h;omega)
def MM{ws:List Int}(W:W1 ws){p:Int×Int}(h1:p.1∈ws)(h2:p.2∈ws):Sz 4000 (thQ p):=by have a1:=W.wt _ h1;have a2:=W.wt _ h2;exact Sz.div (by omega) (sm30 (by omega) (by omega)) (W.sm h2) 4000 (by decide) (by decide)
def bTh(b:Bx)(ws:List Int):Rat:=mxL ([aC b,3]++(thL (srI ws).reverse).map thQ)
def three:(.tup [.int 3,.int 1]:Val)=fV 3:=rfl
def xB{b:Bx}{ws:List Int}{l:List (Int×Int)}(hb:b.Ok)(hs:b.Sz 2000)(W:W1 ws)(hl:∀p∈l,p.1∈ws/\p.2∈ws):[aC b,3]++l.map thQ≠[]/\∀q∈[aC b,3]++l.map thQ,Sz 4000 q:=by
 refine⟨by simp,λq hq=>?_⟩;rcases Ot.mp hq with h |h
 .rcases E_.mp h with rfl |h
  .exact lg hb hs
  .rw[OD.mp h];exact⟨by show (3:Rat).num.natAbs<_;exact A_ (show 3<2^2 by decide) (Oe (by decide) (by decide)),by show (3:Rat).den<_;exact A_ (show 1<2^2 by decide) (Oe (by decide) (by decide))⟩
 .obtain⟨p,hp,rfl⟩:=Og.mp h;exact MM W (hl p hp).1 (hl p hp).2
def pf{b:Bx}{ws:List Int}(hb:b.Ok)(hs:b.Sz 2000)(W:W1 ws):bK.G [bV b,liV ws]=.ok (.val (fV (bTh b ws))) []:=by
 have wl:=W.len;have ks:=Eg ws (by omega);have sh:=kD hb hs (by decide);have hin:∀x,x∈(srI ws).reverse->x∈ws:=λx hx=>(bZ ws).mem_iff.mp (List.mem_reverse.mp hx);have rl:(srI ws).reverse.length=ws.length:=by rw[P4,(bZ ws).length_eq]
 have tl:=KN (srI ws).reverse;have hl:∀p∈thL (srI ws).reverse,p.1∈ws/\p.2∈ws:=λp hp=>⟨hin _ (yJ hp).1,hin _ (yJ hp).2⟩;obtain⟨s4,s5,lo⟩:=tU (rv:=bV b) (wv:=liV ws) (fv:=liV (srI ws).reverse) (thL (srI ws).reverse) [aC b,3] .no .no rfl rfl (λp hp=>⟨(W.wt _ (hl p hp).2).1,W.sm (hl p hp).2⟩) (by show 2+_<=_;omega);obtain⟨q1,q2⟩:=xB (l:=thL (srI ws).reverse) hb hs W hl;have ge:=gC (by decide) q1 q2;rw[show mxL ([aC b,3]++(thL (srI ws).reverse).map thQ)=bTh b ws from rfl] at ge;have zt:=Ih (srI ws).reverse;have fl:L3.flatV (fV (bTh b ws))=true:=rfl;have cf:gG ((srI ws).reverse.map Val.int) (some 1) none=((srI ws).reverse.map Val.int).drop 1:=rH _ 1;rw[show ([aC b,3]:List Rat).map fV=[fV (aC b),.tup [.int 3,.int 1]] from rfl] at lo;unfold bK;rw[aD];unfold fC;unfold liV at *;generalize ([aC b,3]++(thL (srI ws).reverse).map thQ).map fV=sv at *;generalize (thL (srI ws).reverse).map (λp=>Val.tup [.int p.1,.int p.2])=zv at *;generalize (srI ws).reverse.map Val.int=fv at *;generalize ws.map Val.int=wv at *;generalize bTh b ws=r at *;generalize fV (aC b)=sq at *;generalize bV b=bv at *;simp![ks,sh,yQ,cf,zt,lo,ge,fl]
theorem kJ:∀l:List Nat,AT.lvsL (l.map .lf)=l
 | []=>rfl
 |k::l=>by rw[o_,AT.lvsL,kJ l,AT.lvs];rfl
theorem tR:∀l:List Nat,AT.okL (l.map .lf)=true
 | []=>rfl
 |k::l=>by rw[o_,AT.okL,tR l,AT.ok];rfl
theorem pQ:∀l:List Nat,AT.depL (l.map .lf)<=1
 | []=>by rw[K_,AT.depL];omega
 |k::l=>by rw[o_,AT.depL,AT.dep];have:=pQ l;omega
theorem ue(ws:List Int):∀(l:List Nat) (bs:List Bx),AT.bxL ws (l.map .lf) bs=l.zip bs
 | [],bs=>by rw[K_,AT.bxL];rfl;exact λ_ _ _ _ z=>nomatch z
 |k::l,[]=>by rw[o_,AT.bxL];rfl;exact λ_ _ _ _ _ z=>nomatch z
 |k::l,b::bs=>by rw[o_,AT.bxL,ue ws l bs,AT.bx];rfl
theorem uI:∀(bs:List Bx) (a i:Nat) (c:Bx),bs[i]?=some c->bxO ((List.range' a bs.length).zip bs) (a+i)=c
 | [],a,i,c,h=>by simp at h
 |
  b::bs,a,i,c,h=>by
  rw[B_,List.range'_succ,List.zip_cons_cons];unfold bxO;cases i with
  |zero=>rw[List.find?_cons_of_pos (by simp)];simpa using h
  |
   succ i=>
   rw[List.find?_cons_of_neg (by simp)]
   have:=uI bs (a+1) i c (by simpa using h)
   unfold bxO at this;rw[show a+(i+1)=a+1+i by omega];exact this
def vS{bs:List Bx}{n:Nat}(h:bs.length=n):((List.range n).map λk=>bV (bxO ((List.range n).zip bs) k))=bs.map bV:=by
 subst h;refine List.ext_getElem (by simp) λi h1 h2=>?_;rw[k_] at h2;rw[List.getElem_map,List.getElem_map,List.getElem_range];congr 1
 have:=uI bs 0 i (bs[i]) (y_ h2)
 rw[Nat.zero_add,<- PX] at this;exact this
def sbT(w:Bool)(n:Nat):AT:=if n=1 then .lf 0 else .nd w ((List.range n).map .lf)
def Lq(w:Bool){n:Nat}(h:1<=n):TOk (sbT w n) (List.range n):=by
 unfold sbT;by_cases h1:n=1
 .rw[if_pos h1,h1];exact⟨rfl,λk=>Iff.rfl,n_ _,rfl⟩
 .rw[if_neg h1];refine⟨?_,λk=>by rw[AT.lvs,kJ],?_,by rw[AT.lvs,kJ]⟩
  .rw[AT.ok,tR,k_,N_,D_ (by omega)];rfl
  .rw[AT.dep,N_]
   have:=pQ (List.range n)
   omega
def BA(b:Bx)(w:Bool){x:Int}(h:1<=x):aq b (wy w) [x]=[b]:=by
 rw[xy];have hx:(x:Rat)≠0:=λz=>by
  have:x=0:=by exact_mod_cast z
  omega
 have e:(x:Rat)/(x:Rat)=1:=by rw[O4];exact Rat.mul_inv_cancel _ hx
 have e0:((0:Int):Rat)/(x:Rat)=0:=by rw[O4];exact Rat.zero_mul _
 simp only[N1,List.sum_nil,Int.add_zero,frm,Be,e,e0,Rat.mul_zero,Rat.mul_one,Rat.add_zero];cases w <;> rfl
def LD{ws:List Int}(b:Bx)(w:Bool)(h:1<=ws.length)(hw:∀x∈ws,1<=x):((List.range ws.length).map λk=>bV (bxO (AT.bx ws (sbT w ws.length) b) k))=(aq b (wy w) ws).map bV:=by
 unfold sbT;by_cases h1:ws.length=1
 .rw[if_pos h1,AT.bx,h1];obtain⟨x,rfl⟩:=List.length_eq_one_iff.mp h1;rw[BA b w (hw x (m_ ..))];rfl
 .rw[if_neg h1,AT.bx,OX];have e:(List.range ws.length).map (wtT ws ∘ AT.lf)=ws:=by
   have:=so ws
   refine Eq.trans (List.map_congr_left λk _=>?_) this;show wtA ws (AT.lvs (.lf k))=_;rw[AT.lvs];simp [wtA]
  rw[e,ue];exact vS (jo ..)
def Ay{ws:List Int}{b:Bx}(w:Bool)(g:Good b)(W:WOk ws):dm.G [bV b,liV ws,atV (sbT w ws.length)]=.ok (.new (.lst ((aq b (wy w) ws).map bV))) []:=by have wp:=W.pos;have wl:=W.len;have T:=Lq w wp;obtain⟨m,hm,hy⟩:=Nc g W T (λi=>Oh) N_;have be:=BK (by omega) g.ok (λz=>by rw[z] at wp;exact absurd wp (by decide)) (λx hx=>(W.wt x hx).1) wl T.ok (λk=>(T.mem k).trans Oh) (Hx T (λi=>Oh) N_) (by rw[T.len,N_]) (by have:=T.dep;rw[N_] at this;omega) hy;rw[LD b w wp λx hx=>(W.wt x hx).1] at be;exact be
def BU(w:Bool)(l:List Nat):atV (.nd w (l.map .lf))=.tup [.str (wy w),.tup (l.map λk:Nat=>Val.int k)]:=by unfold atV;rw[AT.val,AT.vals_map,OX];rfl
def DB{ws:List Int}{b:Bx}(w:Bool)(hb:b.Ok)(W:WOk ws):cC.G [.str (wy w),bV b,liV ws]=.ok (.val (atV (sbT w ws.length))) []:=by
 have wl:=W.len;have wp:=W.pos;have cb:=bu hb;have cw:=fT (ws:=ws) (by intro z;rw[z] at wp;exact absurd wp (by decide)) (λx hx=>(W.wt x hx).1) wl;have ll:((ws.map Val.int).length:Nat)=ws.length:=k_ ..;have kt:oJ.G [.int (ws.length:Nat)]=.val (.tup ((List.range ws.length).map λk:Nat=>Val.int k)):=NH ⟨by omega,by omega⟩;unfold cC sbT;rw[aD];unfold hE;unfold liV;by_cases h1:ws.length=1
 .have n1:(((ws.length:Nat):Int)==1)=true:=by rw[N5];omega
  rw[if_pos h1,show atV (.lf 0)=.int 0 from rfl];generalize ws.map Val.int=wv at *;generalize bV b=bv at *;generalize wy w=yy at *;simp![cb,cw,ll,n1]
 .have n1:(((ws.length:Nat):Int)==1)=false:=by rw[F_];omega
  rw[if_neg h1,BU];generalize ((List.range ws.length).map λk:Nat=>Val.int k)=rv at *;generalize ws.map Val.int=wv at *;generalize bV b=bv at *;generalize wy w=yy at *;simp![cb,cw,ll,n1,kt]
def fO{r:Str}(h:wG.G (.str r) (.tup [.str "across",.str "down",.str "halves",.str "rows",.str "greatest",.str "thirds"])=.val (.bl false)):bO.G [.str r]=.ok (.val .non) []:=by unfold bO;rw[aD];unfold jy;simp![h]
def sn(w:Bool){s:Str}(h:s∈(["halves", "rows", "greatest", "thirds"]:List Str)):bG (.str (wy w)) (.str s)=some false:=by simp only[E_,PK,or_false] at h;rcases h with rfl |rfl |rfl |rfl <;> cases w <;> (rw[L3.eq_str (by decide) (by decide)];exact Oa some (by decide))
def xg(w:Bool):bO.G [.str (wy w)]=.ok (.val .non) []:=by
 cases w
 .exact fO rfl
 .exact fO rfl
def LK{ws:List Int}{b:Bx}(w:Bool)(g:Good b)(W:WOk ws):fj.G [.str (wy w),bV b,liV ws]=.ok (.new (.lst ((aq b (wy w) ws).map bV))) []:=by
 have se:=DB w g.ok W;have bb:=Ay w g W;have ck:=xg w;have n1:=sn w (s:="halves") (by simp);have n2:=sn w (s:="rows") (by simp);have n3:=sn w (s:="greatest") (by simp);have n4:=sn w (s:="thirds") (by simp);have rt:dM.G [.str (wy w),bV b,liV ws]=.ok (.val (atV (sbT w ws.length))) []:=by unfold dM;rw[aD];unfold j5;generalize atV (sbT w ws.length)=tv at *;generalize liV ws=wv at *;generalize bV b=bv at *;generalize wy w=yy at *;simp![ck,n1,n2,n3,n4,se]
 unfold fj;rw[aD];unfold nr;generalize (aq b (wy w) ws).map bV=pv at *;generalize atV (sbT w ws.length)=tv at *;generalize liV ws=wv at *;generalize bV b=bv at *;generalize wy w=yy at *;simp![rt,bb]
def bWy(w:Bool)(b:Bx)(ws:List Int):Rat:=mxL ((aq b (wy w) ws).map aC)
def bHv(b:Bx)(ws:List Int):Rat:=mxL [aC b,((ws.sum:Int):Rat)/((mnI ws:Int):Rat)]
def WOk.one{ws:List Int}(W:WOk ws):W1 ws:=⟨W.pos,W.len,W.wt⟩
def WOk.ne{ws:List Int}(W:WOk ws):ws≠[]:=λz=>by
 have:=W.pos
 rw[z] at this;exact absurd this (by decide)
def gQ{b:Bx}{ws:List Int}(g:Good b)(W:WOk ws):b.Sz 2000:=by obtain⟨m,_,B,_⟩:=bndN g W;exact B.sz
def qW{ws:List Int}{b:Bx}(g:Good b)(W:WOk ws):∃m,m<=104/\Bd m (2^101) b ws.length/\ws.sum<2^m/\(ws.length:Int)<=ws.sum:=by obtain⟨m,hm,B,h⟩:=bndN g W;have e:=h (List.range ws.length) (λk hk=>Oh.mp hk) (by rw[N_];exact n_ _);unfold wtA at e;rw[so] at e;exact⟨m,hm,B,e,jr λw hw=>(W.wt w hw).1⟩
def tw{ws:List Int}{b:Bx}(w:Bool)(g:Good b)(W:WOk ws):(aq b (wy w) ws≠[]/\∀c∈aq b (wy w) ws,c.Ok/\c.Sz 2000)/\(aq b (wy w) ws).length<=1000/\(aq b (wy w) ws).map aC≠[]/\∀q∈(aq b (wy w) ws).map aC,Sz 4000 q:=by
 obtain⟨m,hm,B,h,_⟩:=qW g W;have wp:=W.pos;have wl:=W.len;have pl:=jo b (wy w) ws;have h0:aq b (wy w) ws≠[]:=λz=>by rw[z,N3] at pl;omega
 have h1:∀c∈aq b (wy w) ws,c.Ok/\c.Sz 2000:=λc hc=>by
  have:=B.part (λx hx=>(W.wt x hx).1) h hc (show 0<ws.length by omega)
  exact⟨this.ok,this.sz⟩
 refine⟨⟨h0,h1⟩,by omega,λz=>h0 (P5.mp z),λq hq=>?_⟩;obtain⟨c,hc,rfl⟩:=Og.mp hq;exact lg (h1 c hc).1 (h1 c hc).2
def CH{ws:List Int}{b:Bx}(g:Good b)(W:WOk ws):([aC b,((ws.sum:Int):Rat)/((mnI ws:Int):Rat)]≠[])/\(∀q∈[aC b,((ws.sum:Int):Rat)/((mnI ws:Int):Rat)],Sz 4000 q)/\mnI ws≠0/\Sm 8000 (mnI ws):=by
 obtain⟨m,hm,B,h,hp⟩:=qW g W;have hi:=jT W.ne;have h1:=(W.wt _ hi).1;have s1:=W.one.sm hi;refine⟨by simp,λq hq=>?_,by omega,s1.mono (by decide)⟩;rcases E_.mp hq with rfl |hq
 .exact lg g.ok (gQ g W)
 .rw[OD.mp hq];exact Sz.div (by omega) (rV (by omega) h) s1 4000 (by omega) (by decide)
section
variable{ws:List Int}{b:Bx}(g:Good b)(W:WOk ws)
def Bg(g:Good b)(W:WOk ws):aH.G [.str "thirds",bV b,liV ws]=.ok (.val (fV (bTh b ws))) []:=by
 have cr:=fO (r:="thirds") rfl;have cb:=bu g.ok;have cw:=fT W.ne (λx hx=>(W.wt x hx).1) W.len;have tb:=pf g.ok (gQ g W) W.one;have e1:bG (.str "thirds") (.str "thirds")=some true:=by rw[L3.eq_str (by decide) (by decide)];exact Oa some (by decide)
 unfold aH;rw[aD];unfold eA;unfold liV at *;generalize bTh b ws=r at *;generalize ws.map Val.int=wv at *;generalize bV b=bv at *;simp![cr,cb,cw,e1,tb]
def zX(g:Good b)(W:WOk ws):aH.G [.str "halves",bV b,liV ws]=.ok (.val (fV (bHv b ws))) []:=by
 have cr:=fO (r:="halves") rfl;have cb:=bu g.ok;have cw:=fT W.ne (λx hx=>(W.wt x hx).1) W.len;have sh:=kD g.ok (gQ g W) (by decide);obtain⟨q1,q2,q3,q4⟩:=CH g W;have fe:=b0 (a:=ws.sum) q3 q4;have ge:=gC (by decide) q1 q2;rw[show mxL [aC b,((ws.sum:Int):Rat)/((mnI ws:Int):Rat)]=bHv b ws from rfl] at ge;have mn:=Jl W.ne;have m1:=c7 ws;have e0:bG (.str "halves") (.str "thirds")=some false:=by rw[L3.eq_str (by decide) (by decide)];exact Oa some (by decide)
 have e1:bG (.str "halves") (.str "halves")=some true:=by rw[L3.eq_str (by decide) (by decide)];exact Oa some (by decide)
 have fl:L3.flatV (fV (bHv b ws))=true:=rfl;simp only[o_,K_] at ge;unfold aH;rw[aD];unfold eA;unfold liV at *;generalize bHv b ws=r at *;generalize fV (((ws.sum:Int):Rat)/((mnI ws:Int):Rat))=hq at *;generalize fV (aC b)=sq at *;generalize ws.map Val.int=wv at *;generalize bV b=bv at *;simp![cr,cb,cw,e0,e1,sh,m1,mn,fe,ge,fl]
def A9(w:Bool)(g:Good b)(W:WOk ws):aH.G [.str (wy w),bV b,liV ws]=.ok (.val (fV (bWy w b ws))) []:=by
 have cr:=xg w;have cb:=bu g.ok;have cw:=fT W.ne (λx hx=>(W.wt x hx).1) W.len;obtain⟨⟨p0,p1⟩,p2,_⟩:=tw w g W;obtain⟨i,wo⟩:=Ad p0 p1 p2;rw[show mxL ((aq b (wy w) ws).map aC)=bWy w b ws from rfl] at wo;have be:=LK w g W;have n1:=sn w (s:="halves") (by simp);have n4:=sn w (s:="thirds") (by simp);have iw:bIn.G (.str (wy w)) (.tup [.str "across",.str "down"])=.val (.bl true):=by cases w <;> rfl
 have a0:atI [fV (bWy w b ws),Val.int i] 0=some (fV (bWy w b ws)):=dn (by decide) rfl;unfold aH;rw[aD];unfold eA;unfold liV at *;generalize fV (bWy w b ws)=r at *;generalize (aq b (wy w) ws).map bV=pv at *;generalize ws.map Val.int=wv at *;generalize bV b=bv at *;generalize wy w=yy at *;simp![cr,cb,cw,n4,n1,iw,be,wo,a0]
def oY{r:Str}(h1:wG.G (.str r) (.tup [.str "across",.str "down",.str "halves",.str "rows",.str "greatest",.str "thirds"])=.val (.bl false))(h2:bG (.str r) (.str "thirds")=some false)(h3:bG (.str r) (.str "halves")=some false)(h4:bIn.G (.str r) (.tup [.str "across",.str "down"])=.val (.bl false))(g:Good b)(W:WOk ws):aH.G [.str r,bV b,liV ws]=.ok (.val .non) []:=by have cr:=fO h1;have cb:=bu g.ok;have cw:=fT W.ne (λx hx=>(W.wt x hx).1) W.len;unfold aH;rw[aD];unfold eA;unfold liV at *;generalize ws.map Val.int=wv at *;generalize bV b=bv at *;simp![cr,cb,cw,h2,h3,h4]
end
def nbQ(L:List Int)(i:Nat):Rat:=thQ (L.getD (i+1) 0,L.getD i 0)
def wz{L:List Int}{i:Nat}(h:i<L.length):L.getD i 0∈L:=by rw[NW,y_ h];exact PJ _
def oQ{L:List Int}{i:Nat}{z:Int}(h:i<L.length)(hz:z=(i:Nat)):atI (L.map Val.int) z=some (.int (L.getD i 0)):=by subst hz;refine dn (by omega) ?_;rw[L_];show (L[i]?).map _=_;rw[NW,y_ h];rfl
def y9{L:List Int}{p:Int×Int}:p∈thL L.reverse ↔ ∃j,j<L.length-1/\(L.getD (j+1) 0,L.getD j 0)=p:=by
 have rv:∀i,i<L.length->L.reverse.getD i 0=L.getD (L.length-1-i) 0:=λi hi=>by rw[NW,NW,List.getElem?_reverse hi]
 have g:∀i (h:i<(thL L.reverse).length),(thL L.reverse)[i]=(L.reverse.getD i 0,L.reverse.getD (i+1) 0):=λi h=>by unfold thL at h ⊢;rw[List.length_zip,Pb] at h;rw[List.getElem_zip,List.getElem_drop];simp only[NW];rw[y_ (show i<L.reverse.length by omega),y_ (show i+1<L.reverse.length by omega)];simp [Nat.add_comm]
 have ln:(thL L.reverse).length=L.length-1:=by unfold thL;rw[List.length_zip,Pb,P4];omega
 rw[List.mem_iff_getElem];constructor
 .rintro⟨i,hi,e⟩;rw[g i hi] at e;rw[ln] at hi;rw[rv i (by omega),rv (i+1) (by omega)] at e;exact⟨L.length-1-(i+1),by omega,by rw[<- e,show L.length-1-(i+1)+1=L.length-1-i by omega]⟩
 .rintro⟨j,hj,e⟩;refine⟨L.length-2-j,by omega,?_⟩;rw[g _ (by omega),rv _ (by omega),rv _ (by omega),<- e,show L.length-1-(L.length-2-j)=j+1 by omega,show L.length-1-(L.length-2-j+1)=j by omega]
def J2{b:Bx}{ws:List Int}:mxL ([aC b,3]++(List.range (ws.length-1)).map (nbQ (srI ws)))=bTh b ws:=by
 unfold bTh;refine Jf (by simp) λx=>?_;have e:x∈(List.range (ws.length-1)).map (nbQ (srI ws)) ↔ x∈(thL (srI ws).reverse).map thQ:=by
  rw[Og,Og];constructor
  .rintro⟨j,hj,rfl⟩;exact⟨_,y9.mpr ⟨j,by rw[(bZ ws).length_eq];exact Oh.mp hj,rfl⟩,rfl⟩
  .rintro⟨p,hp,rfl⟩;obtain⟨j,hj,rfl⟩:=y9.mp hp;rw[(bZ ws).length_eq] at hj;exact⟨j,Oh.mpr hj,rfl⟩
 rw[Ot,Ot,e]
def Kg{ws:List Int}(h:ws≠[]):(srI ws).getD 0 0=mnI ws:=by
 have pm:=bZ ws;have pw:=xE ws;have hm:=pm.mem_iff.mpr (jT h);generalize srI ws=L at *;cases L with
 |nil=>exact (nomatch hm)
 |
  cons x r=>
  show x=_;have h1:=rW (pm.mem_iff.mp (m_ (a:=x) (l:=r)));rw[List.pairwise_cons] at pw;rcases E_.mp hm with e |e
  .exact e.symm
  .have:=pw.1 _ e
   omega
theorem ub{L:List Int}{rv wv kv:Val}{s6 s7:Sl}(hL:∀x∈L,1<=x/\Sm 104 x):∀(k i:Nat) (acc:List Rat) (s5:Sl),s5.pl=true->i+k+1<=L.length->acc.length+k<=1000->∃s5',c9 (gtN 5).G eE.G ((List.range' i k).map λj=>Val.int (1+(j:Nat))) [.sh rv,.sh wv,.sh (liV L),.sh kv,.ow (.lst (acc.map fV)),s5,s6,s7]=.nx [.sh rv,.sh wv,.sh (liV L),.sh kv,.ow (.lst ((acc++(List.range' i k).map (nbQ L)).map fV)),s5',s6,s7]
 |0,i,acc,s5,_,_,_=>⟨s5,by rw[List.range'_zero,K_,K_,de,N7]⟩
 |
  k+1,i,acc,s5,h5,hk,hl=>by
  obtain⟨p1,p2⟩:=hL _ (wz (L:=L) (i:=i) (by omega));have lo:=cX (a:=L.getD i 0+L.getD (i+1) 0) (b:=L.getD i 0) (by omega) (p2.mono (by decide));rw[show ((L.getD i 0+L.getD (i+1) 0:Int):Rat)/((L.getD i 0:Int):Rat)=nbQ L i from by unfold nbQ thQ;rw[Int.add_comm]] at lo;have ll:(acc.map fV).length<16777216:=by rw[k_];omega
  have a1:=oQ (L:=L) (i:=i) (z:=1+(i:Nat)-1) (by omega) (by omega);have a2:=oQ (L:=L) (i:=i+1) (z:=1+(i:Nat)) (by omega) (by omega);obtain⟨t5,ih⟩:=ub (rv:=rv) (wv:=wv) (kv:=kv) (s6:=s6) (s7:=s7) hL k (i+1) (acc++[nbQ L i]) (.sh (.int (1+(i:Nat)))) rfl (by omega) (by rw[u_,O8];omega);refine⟨t5,?_⟩;unfold liV at *;have g1:(gtN 5).G (.int (1+(i:Nat))) [.sh rv,.sh wv,.sh (.lst (L.map .int)),.sh kv,.ow (.lst (acc.map fV)),s5,s6,s7]=some [.sh rv,.sh wv,.sh (.lst (L.map .int)),.sh kv,.ow (.lst (acc.map fV)),.sh (.int (1+(i:Nat))),s6,s7]:=by generalize L.map Val.int=lv at *;generalize acc.map fV=av at *;simp![h5]
  have bb:eE.G [.sh rv,.sh wv,.sh (.lst (L.map .int)),.sh kv,.ow (.lst (acc.map fV)),.sh (.int (1+(i:Nat))),s6,s7]=.nx [.sh rv,.sh wv,.sh (.lst (L.map .int)),.sh kv,.ow (.lst ((acc++[nbQ L i]).map fV)),.sh (.int (1+(i:Nat))),s6,s7]:=by unfold eE;rw[N0,show [nbQ L i].map fV=[fV (nbQ L i)] from rfl];generalize fV (nbQ L i)=tq at *;generalize L.map Val.int=lv at *;generalize acc.map fV=av at *;simp![a1,a2,lo,ll]
  rw[List.range'_succ,o_,bP,g1];simp only[bb,gw];rw[ih,o_,OI];rfl
def feq(q:Rat):bG (fV q) (fV q)=some true:=by rw[C4,D_ rfl]
def Im{n:Nat}(h:n<=1000):mw [.int 1,.int (n:Nat)]=some (jl 1 (n-1)):=by rw[show mw [.int 1,.int (n:Nat)]=some (jl 1 (((n:Nat):Int)-1).toNat) from if_pos ⟨⟨by decide,by decide⟩,⟨by omega,by omega⟩⟩];congr 2;omega
def rtQ(r:SR3):Prop:=mj [false,false] r=.ok (.val (.bl true)) []
def tD{ws:List Int}{b:Bx}(w:Bool)(g:Good b)(W:WOk ws){lv kv:Val}{dv:List Val}{s5 s6 s7:Sl}(h7:s7.pl=true):fR.G [.sh (bV b),.sh (liV ws),.sh lv,.sh kv,.ow (.lst dv),s5,.sh (.str (wy w)),s7]=.nx [.sh (bV b),.sh (liV ws),.sh lv,.sh kv,.ow (.lst dv),s5,.sh (.str (wy w)),.sh (.lst ((aq b (wy w) ws).map bV))]:=by
 obtain⟨m,hm,B,h,hp⟩:=qW g W;have wp:=W.pos;have wl:=W.len;have hs:=gQ g W;have pe:=rT (way:=wy w) (ws:=ws) (m:=m) hs (JQ _) (λx hx=>(W.wt x hx).1) (by omega) (rV (by omega) h) (by omega) (by omega);obtain⟨⟨p0,p1⟩,p2,q1,q2⟩:=tw w g W;obtain⟨s,lc⟩:=wY (P:=bL) (bs:=aq b (wy w) ws) (λc hc=>jb (p1 c hc).1 (p1 c hc).2 (by decide)) rfl p2;have ge:=gD (by decide) q1 q2;rw[show mxL ((aq b (wy w) ws).map aC)=bWy w b ws from rfl] at ge;have bw:=A9 w g W;have fe:=feq (bWy w b ws);have sl:(((aq b (wy w) ws).map aC).map fV).length<=16777216:=by rw[k_,k_];omega
 unfold fR;unfold liV at *;generalize ((aq b (wy w) ws).map aC).map fV=sv at *;generalize (aq b (wy w) ws).map bV=pv at *;generalize fV (bWy w b ws)=r at *;generalize ws.map Val.int=wv at *;generalize bV b=bv at *;generalize wy w=yy at *;simp![h7,pe,lc,sl,ge,bw,fe]
def rM{ws:List Int}{b:Bx}(g:Good b)(W:WOk ws):cN.G [bV b,liV ws]=.ok (.val (.bl true)) []:=by
 have wl:=W.len;have wp:=W.pos;have hs:=gQ g W;have sl:(srI ws).length=ws.length:=(bZ ws).length_eq;have hin:∀x,x∈srI ws->x∈ws:=λx hx=>(bZ ws).mem_iff.mp hx;have ks:=zG ws (by omega);have sh:=jb g.ok hs (by decide);have ll:(((srI ws).map Val.int).length:Nat)=ws.length:=by rw[k_,sl]
 have rg:=Im (n:=ws.length) (by omega);obtain⟨t5,lo⟩:=ub (L:=srI ws) (rv:=bV b) (wv:=liV ws) (kv:=liV ws) (s6:=.no) (s7:=.no) (λx hx=>⟨(W.wt x (hin x hx)).1,W.one.sm (hin x hx)⟩) (ws.length-1) 0 [aC b,3] .no rfl (by omega) (by show 2+_<=_;omega);rw[<- PX,show ([aC b,3]:List Rat).map fV=[fV (aC b),.tup [.int 3,.int 1]] from rfl] at lo;rw[Es] at rg;have hd:∀p∈(List.range (ws.length-1)).map λj=>((srI ws).getD (j+1) 0,(srI ws).getD j 0),p.1∈ws/\p.2∈ws:=λp hp=>by
  obtain⟨j,hj,rfl⟩:=Og.mp hp
  have:=Oh.mp hj
  exact⟨hin _ (wz (by omega)),hin _ (wz (by omega))⟩
 obtain⟨q1,q2⟩:=xB g.ok hs W.one hd;rw[OX] at q1 q2;have lm:=gD (by decide) q1 q2;rw[show mxL ([aC b,3]++(List.range (ws.length-1)).map (thQ ∘ λj=>((srI ws).getD (j+1) 0,(srI ws).getD j 0)))=bTh b ws from J2,show (List.range (ws.length-1)).map (thQ ∘ λj=>((srI ws).getD (j+1) 0,(srI ws).getD j 0))=(List.range (ws.length-1)).map (nbQ (srI ws)) from rfl] at lm;obtain⟨r1,r2,r3,r4⟩:=CH g W;have lh:=cX (a:=ws.sum) r3 r4;have mh:=gD (by decide) r1 r2;rw[show mxL [aC b,((ws.sum:Int):Rat)/((mnI ws:Int):Rat)]=bHv b ws from rfl] at mh;simp only[o_,K_] at mh;have a0:=oQ (L:=srI ws) (i:=0) (z:=0) (by omega) rfl;rw[Kg W.ne] at a0;have m1:=c7 ws;have b1:=Bg g W;have b2:=zX g W;have b3:=oY (r:="rows") rfl (by rw[L3.eq_str (by decide) (by decide)];exact Oa some (by decide)) (by rw[L3.eq_str (by decide) (by decide)];exact Oa some (by decide)) rfl g W;have b4:=oY (r:="greatest") rfl (by rw[L3.eq_str (by decide) (by decide)];exact Oa some (by decide)) (by rw[L3.eq_str (by decide) (by decide)];exact Oa some (by decide)) rfl g W;have e1:=feq (bTh b ws);have e2:=feq (bHv b ws);have ew:=Ny ws;have f1:L3.flatV (fV (bTh b ws))=true:=rfl;have f2:L3.flatV (fV (bHv b ws))=true:=rfl;have wy1:=tD (lv:=liV (srI ws)) (kv:=liV ws) (dv:=([aC b,3]++(List.range (ws.length-1)).map (nbQ (srI ws))).map fV) (s5:=t5) (s6:=.no) (s7:=.no) true g W rfl;have wy2:=tD (lv:=liV (srI ws)) (kv:=liV ws) (dv:=([aC b,3]++(List.range (ws.length-1)).map (nbQ (srI ws))).map fV) (s5:=t5) (s6:=.no) (s7:=.sh (.lst ((aq b (wy true) ws).map bV))) false g W rfl;rw[show wy true="across" from rfl] at wy1 wy2;rw[show wy false="down" from rfl] at wy2;unfold cN;rw[oT rfl];show rtQ (gK.G [.sh (bV b),.sh (liV ws),.no,.no,.no,.no,.no,.no]);unfold gK;generalize hS:([aC b,3]++(List.range (ws.length-1)).map (nbQ (srI ws))).map fV=sv at *;generalize (aq b "across" ws).map bV=pv1 at *;generalize (aq b "down" ws).map bV=pv2 at *;unfold liV at *;generalize fV (bTh b ws)=rt at *;generalize fV (bHv b ws)=rh at *;generalize fV (((ws.sum:Int):Rat)/((mnI ws:Int):Rat))=hq at *;generalize fV (aC b)=sq at *;generalize (List.range (ws.length-1)).map (λj:Nat=>Val.int (1+(j:Nat)))=rgv at *;generalize (srI ws).map Val.int=lv at *;generalize ws.map Val.int=wv at *;generalize bV b=bv at *;refine aB (λe=>e=[.sh bv,.sh (.lst wv),.sh (.lst lv),.no,.no,.no,.no,.no]) ⟨_,by simp![ks],rfl⟩ ?_;rintro _ rfl;refine aB (λe=>e=[.sh bv,.sh (.lst wv),.sh (.lst lv),.sh (.lst wv),.no,.no,.no,.no]) ⟨_,by simp![iH],rfl⟩ ?_;rintro _ rfl;refine aB (λe=>e=[.sh bv,.sh (.lst wv),.sh (.lst lv),.sh (.lst wv),.ow (.lst [sq,.tup [.int 3,.int 1]]),.no,.no,.no]) ⟨_,by simp![sh],rfl⟩ ?_;rintro _ rfl;refine aB (λe=>e=[.sh bv,.sh (.lst wv),.sh (.lst lv),.sh (.lst wv),.ow (.lst sv),t5,.no,.no]) ⟨_,by simp![ll,rg,lo],rfl⟩ ?_;rintro _ rfl;refine aB (λe=>e=[.sh bv,.sh (.lst wv),.sh (.lst lv),.sh (.lst wv),.ow (.lst sv),t5,.no,.no]) ⟨_,by simp![b1,lm,f1,e1,ew],rfl⟩ ?_;rintro _ rfl;refine aB (λe=>e=[.sh bv,.sh (.lst wv),.sh (.lst lv),.sh (.lst wv),.ow (.lst sv),t5,.no,.no]) ⟨_,by simp![b2,sh,m1,a0,lh,mh,f2,e2],rfl⟩ ?_;rintro _ rfl;refine aB (λe=>e=[.sh bv,.sh (.lst wv),.sh (.lst lv),.sh (.lst wv),.ow (.lst sv),t5,.sh (.str "down"),.sh (.lst pv2)]) ⟨_,by simp![bP,de,wy1,wy2],rfl⟩ ?_;rintro _ rfl;refine aB (λe=>e=[.sh bv,.sh (.lst wv),.sh (.lst lv),.sh (.lst wv),.ow (.lst sv),t5,.sh (.str "down"),.sh (.lst pv2)]) ⟨_,by simp![b3,b4],rfl⟩ ?_;rintro _ rfl;unfold rtQ;simp![b1,lm,f1,e1,ew,vg]
def KL{r:Int}:∃m:Int,1<=m/\m<=40/\atI [Val.int 9,.int 40] (if (r==0)=true then 1 else 0)=some (.int m):=by
 by_cases h:r=0
 .exact⟨40,by decide,by decide,by rw[h];exact dn (by decide) rfl⟩
 .have e:(r==0)=false:=by rw[F_];exact h
  exact⟨9,by decide,by decide,by rw[e];exact dn (by decide) rfl⟩
def GW{ws:List Int}(W:WOk ws)(i:Nat){v:Int}(h:1<=v/\v<=1000000):WOk (ws.set i v):=by
 have e:∀w∈ws.set i v,w∈ws\/w=v:=λw hw=>by
  rcases Pk hw with z |z
  .exact .inl z
  .exact .inr z
 refine⟨by rw[H_];exact W.pos,by rw[H_];exact W.len,λw hw=>?_,λhl w hw=>?_⟩
 .rcases e w hw with z |z
  .exact W.wt w z
  .omega
 .rw[H_] at hl;rcases e w hw with z |z
  .exact W.few hl w z
  .omega
def lawQ(r:SR3):Prop:=mj [false] r=.ok (.val (.bl true)) []
def Jq(ns:List Int)(hl:ns.length<=63):oH.G [.kl (ns.map .int)]=.ok (.val (.bl true)) []:=by
 unfold oH;rw[oT rfl];show lawQ (vm.G [.sh (.kl (ns.map .int)),.no,.no,.no]);unfold vm;obtain⟨a,e0⟩:=mq (ns:=ns) (k:=55) (by omega);refine aB (λe=>e=[.sh (.kl (ns.map .int)),.ow (fdV a 0 55),.no,.no]) ⟨_,by simp![e0],rfl⟩ ?_;rintro _ rfl;obtain⟨b,a1,c1,g,e1⟩:=Dg a 0 55;refine aB (λe=>e=[.sh (.kl (ns.map .int)),.ow (fdV a1 c1 55),.sh (bV b),.no]) ⟨_,by simp![e1],rfl⟩ ?_;rintro _ rfl;obtain⟨r,a2,c2,e2,_,_⟩:=aA (a:=a1) (b:=c1) (k:=55) (m:=6) (by decide) (sm8 (by decide));obtain⟨m,m1,m2,pm⟩:=KL (r:=r);obtain⟨ws,p1,p2,p3,p4,p5⟩:=wu (ns:=ns) (at_:=0) (most:=m) (by decide) ⟨m1,m2⟩;have W:WOk ws:=⟨p1,by omega,p3,λh=>p4 (by omega)⟩;refine aB (λe=>e=[.sh (.kl (ns.map .int)),.ow (fdV a2 c2 55),.sh (bV b),.ow (liV ws)]) ⟨_,by generalize liV ws=wv at *;generalize bV b=bv at *;generalize fdV a1 c1 55=f1 at *;generalize fdV a2 c2 55=f2 at *;simp![e2,pm,p5],rfl⟩ ?_;rintro _ rfl;have ro:=rM g W;refine aB (λe=>e=[.sh (.kl (ns.map .int)),.ow (fdV a2 c2 55),.sh (bV b),.ow (liV ws)]) ⟨_,by generalize liV ws=wv at *;generalize bV b=bv at *;generalize fdV a2 c2 55=f2 at *;simp![ro],rfl⟩ ?_;rintro _ rfl;have wl:=W.len;have wp:=W.pos;have ll:((ws.map Val.int).length:Nat)=ws.length:=k_ ..;have a0:=oQ (L:=ws) (i:=0) (z:=0) (by omega) rfl;have pw:=pow6;have md:bE.G (.int (ws.getD 0 0)) (.int 1000000)=.val (.int (ws.getD 0 0 % 1000000)):=by rw[dO (by decide),Pe _ (by decide)]
 have W2:=GW W (ws.length-1) (v:=1+ws.getD 0 0 % 1000000) (by omega);have ro2:=rM g W2;have ix:ixN ws.length (((ws.length:Nat):Int)-1)=some (ws.length-1):=by unfold ixN;rw[if_pos (by omega),if_pos (by omega)];congr 1;omega
 have st:(ws.map Val.int).set (ws.length-1) (.int (1+ws.getD 0 0 % 1000000))=(ws.set (ws.length-1) (1+ws.getD 0 0 % 1000000)).map Val.int:=by rw[List.map_set]
 refine aB (λe=>e=[.sh (.kl (ns.map .int)),.ow (fdV a2 c2 55),.sh (bV b),.ow (liV (ws.set (ws.length-1) (1+ws.getD 0 0 % 1000000)))]) ⟨_,by unfold liV;rw[<- st];generalize ws.map Val.int=wv at *;generalize bV b=bv at *;generalize fdV a2 c2 55=f2 at *;simp![CZ,ll,a0,pw,md,ix],rfl⟩ ?_;rintro _ rfl;unfold lawQ;generalize liV (ws.set (ws.length-1) (1+ws.getD 0 0 % 1000000))=wv at *;generalize bV b=bv at *;generalize fdV a2 c2 55=f2 at *;simp![ro2,vg]
end KK
namespace PySem.W.Fast
def tw10004508526729785667:=trivial
def tw10066417659143447615:=trivial
def tw10068567933080996985:=trivial
def tw10070217007820137950:=trivial
def tw10133071773174360662:=trivial
def tw10166161165283345636:=trivial
def tw10260491351283967909:=trivial
def tw10270430194333286504:=trivial
def tw10274774630280663729:=trivial
def tw1032031122969386349:=trivial
def tw10362606567117322356:=trivial
def tw10383710713329949672:=trivial
def tw1041038827138379745:=trivial
def tw10467881695377121541:=trivial
def tw10490176048821290072:=trivial
def tw10511435188550833858:=trivial
def tw10555276766022083729:=trivial
def tw10591826648185739432:=trivial
def tw10688095648581864551:=trivial
def tw10729579038552014502:=trivial
def tw10739341273023929984:=trivial
def tw10770180041756620280:=trivial
def tw10812109845578921552:=trivial
def tw10869673699551928572:=trivial
def tw1089296247754396232:=trivial
def tw10957971047980136597:=trivial
def tw11019135923039932245:=trivial
def tw11035949109864358605:=trivial
def tw11101160467172206741:=trivial
def tw11109750102286590770:=trivial
def tw1117642109170863928:=trivial
def tw11195097492651789961:=trivial
def tw11219475718444178538:=trivial
def tw11267856183361991046:=trivial
def tw11315110110785352043:=trivial
def tw1135561652619933268:=trivial
def tw11396173593955993328:=trivial
def tw11440520258435702522:=trivial
def tw11551697525846486238:=trivial
def tw11580997813412439965:=trivial
def tw11589863557563081801:=trivial
def tw11678868598717585336:=trivial
def tw11729384939897369767:=trivial
def tw11733328505869051911:=trivial
def tw11734874422461782145:=trivial
def tw11751640796219427049:=trivial
def tw11769440029133410725:=trivial
def tw11830818427387833373:=trivial
def tw11887613824684972190:=trivial
def tw11952577309865542934:=trivial
def tw11965383265710222917:=trivial
def tw12067397584277507209:=trivial
def tw12078566295611503646:=trivial
def tw12091403691864110987:=trivial
def tw12116779647762687195:=trivial
def tw12120126249363359002:=trivial
def tw12216070568711129291:=trivial
def tw12244257454240402590:=trivial
def tw12255391775788110221:=trivial
def tw12266980751137235725:=trivial
def tw12355676000287688721:=trivial
def tw12368699525953508532:=trivial
def tw12382417484024840118:=trivial
def tw12467944459865942324:=trivial
def tw12484916167244336312:=trivial
def tw12486562398795987995:=trivial
def tw12522474682599089082:=trivial
def tw12529627706121019757:=trivial
def tw12541965468407849587:=trivial
def tw12554643028948245726:=trivial
def tw12579744363030477262:=trivial
def tw12599167219760683288:=trivial
def tw12627793901445817424:=trivial
def tw12638692296827912196:=trivial
def tw12646196849077696825:=trivial
def tw12652366257424240883:=trivial
def tw12654860949692398783:=trivial
def tw1266198349545340549:=trivial
def tw12695569482037365159:=trivial
def tw12716826911518046889:=trivial
def tw12721847684472597809:=trivial
def tw12791462393722545274:=trivial
def tw12791553155821544337:=trivial
def tw12791720058532496214:=trivial
def tw12842508115160551905:=trivial
def tw12910091276049398250:=trivial
def tw12920975366168616224:=trivial
def tw12994745201128151630:=trivial
def tw13012773271308360740:=trivial
def tw13064862902030708462:=trivial
def tw13095145468987070951:=trivial
def tw13143925641740433280:=trivial
def tw13289291917596496614:=trivial
def tw13298661113048368892:=trivial
def tw1332945976038696238:=trivial
def tw13350596833535803742:=trivial
def tw13364496643303445313:=trivial
def tw1341972430698339091:=trivial
def tw13422625421410286300:=trivial
def tw13426935986107599906:=trivial
def tw1343026740955659897:=trivial
def tw13515815651651913823:=trivial
def tw13525445356823965354:=trivial
def tw1353649940182017539:=trivial
def tw13668104822701977415:=trivial
def tw13699436370462980534:=trivial
def tw137181181293314741:=trivial
def tw13786219803389678172:=trivial
def tw13797369695392701308:=trivial
def tw13847944704514623903:=trivial
def tw13855745042800516624:=trivial
def tw13917150934895860612:=trivial
def tw13992891666645731394:=trivial
def tw14007100370222399353:=trivial
def tw14023639417609936325:=trivial
def tw14037114229844742104:=trivial
def tw14046151919350510434:=trivial
def tw14083253728008587934:=trivial
def tw14086606857898626618:=trivial
def tw14108091278470481366:=trivial
def tw1413534401616133131:=trivial
def tw14160466366542331798:=trivial
def tw14228006522656508839:=trivial
def tw1423605501268911830:=trivial
def tw14277429706323969000:=trivial
def tw14313716439837206282:=trivial
def tw14318242200690487337:=trivial
def tw14346796362576245394:=trivial
def tw14485875521124758037:=trivial
def tw14519494042035819044:=trivial
def tw14561814022781253584:=trivial
def tw14565473509598772354:=trivial
def tw14638488519658617939:=trivial
def tw14649319093068334056:=trivial
def tw14716652392559656176:=trivial
def tw14743060831066020408:=trivial
def tw14753898883803991195:=trivial
def tw14779635078912047554:=trivial
def tw14793228066631564444:=trivial
def tw14798975040167035653:=trivial
def tw148406227076329231:=trivial
def tw14842309638417864770:=trivial
def tw14853059979950880350:=trivial
def tw14876360937260139495:=trivial
def tw1490079085472594438:=trivial
def tw1492117890427344801:=trivial
def tw14955440188599207215:=trivial
def tw15129828123923986116:=trivial
def tw15166072465403066365:=trivial
def tw15234800792857835218:=trivial
def tw15248390625156962968:=trivial
def tw15251612592515980444:=trivial
def tw1531226216259651099:=trivial
def tw15337296679199684645:=trivial
def tw15381182553391127281:=trivial
def tw15421466949821487267:=trivial
def tw15430611015587557502:=trivial
def tw15448789507728851667:=trivial
def tw15454240493692538241:=trivial
def tw15488464394991046980:=trivial
def tw15507974414907228306:=trivial
def tw15527263631322509634:=trivial
def tw15622089136052334180:=trivial
def tw1567674068624470387:=trivial
def tw15689445583826062891:=trivial
def tw15702988660866529768:=trivial
def tw15706656511059989083:=trivial
def tw15857561664710886578:=trivial
def tw15859358588429398457:=trivial
def tw15905315785427475649:=trivial
def tw15947123977970008415:=trivial
def tw16044517465834184234:=trivial
def tw16056707621914347838:=trivial
def tw16076647648639255513:=trivial
def tw16091212629559567238:=trivial
def tw16112611375711856771:=trivial
def tw16131192065202506818:=trivial
def tw16140210624013814558:=trivial
def tw16152590309556864909:=trivial
def tw16220350826043578246:=trivial
def tw16258601191031354322:=trivial
def tw16274065371455998079:=trivial
def tw16312029312499828126:=trivial
def tw164332660599530194:=trivial
def tw16470234878685881493:=trivial
def tw16484452491516216760:=trivial
def tw16491044457762724360:=trivial
def tw16555935856283220991:=trivial
def tw16581885327554368887:=trivial
def tw16597144382776788455:=trivial
def tw16631807385152472315:=trivial
def tw16669789347329077280:=trivial
def tw16673047922117049312:=trivial
def tw16698031373106903032:=trivial
def tw1671521030741882223:=trivial
def tw16718051652770969969:=trivial
def tw16721992814943751903:=trivial
def tw16783286906599086413:=trivial
def tw16802804119629766461:=trivial
def tw16842973705553967695:=trivial
def tw16966480837984163589:=trivial
def tw17005476890560380112:=trivial
def tw1713856469196207596:=trivial
def tw171641532273781313:=trivial
def tw17170272138639442283:=trivial
def tw17192791975545808627:=trivial
def tw17242596081107772890:=trivial
def tw17259343419623870841:=trivial
def tw17287734589097965389:=trivial
def tw17289567340561308528:=trivial
def tw17357658976245510119:=trivial
def tw17370373091706048628:=trivial
def tw17410144684930110513:=trivial
def tw17416889789227585709:=trivial
def tw17557609407392659390:=trivial
def tw17577962314978878320:=trivial
def tw17666630439163089015:=trivial
def tw17688410201095714670:=trivial
def tw17738318303490975516:=trivial
def tw17750526472436219588:=trivial
def tw17758414520720875442:=trivial
def tw17788783560273390858:=trivial
def tw17792198798032593267:=trivial
def tw17817470948498013719:=trivial
def tw17825276348159873616:=trivial
def tw1783883127980002593:=trivial
def tw1784617332685843721:=trivial
def tw1787425199437709630:=trivial
def tw17986763211927106960:=trivial
def tw17995123591834779739:=trivial
def tw1817195541672909530:=trivial
def tw18203868109965760393:=trivial
def tw18273955290651883429:=trivial
def tw18300084980195339451:=trivial
def tw18322619003234960043:=trivial
def tw1835279833555196358:=trivial
def tw18419773535155338781:=trivial
def tw1854228411225062945:=trivial
def tw1886139179768633182:=trivial
def tw1897407723409530161:=trivial
def tw1905178522423988563:=trivial
def tw1913676259431351437:=trivial
def tw1963484109421012855:=trivial
def tw1996606924147579214:=trivial
def tw2111162199791854725:=trivial
def tw2152501057288602640:=trivial
def tw2173536070614752804:=trivial
def tw2191996939375736850:=trivial
def tw2261632414653512687:=trivial
def tw2318063647863010032:=trivial
def tw2371940789325423902:=trivial
def tw2396139666116077611:=trivial
def tw2421835432453560092:=trivial
def tw2479098524752344121:=trivial
def tw2494149067564166686:=trivial
def tw2578377310508612375:=trivial
def tw2604771250054125713:=trivial
def tw2637838583051426140:=trivial
def tw2750994579718264252:=trivial
def tw2851904469346313370:=trivial
def tw2852142291527178991:=trivial
def tw2852210196380391925:=trivial
def tw3039794348092307314:=trivial
def tw307419213904655913:=trivial
def tw3100766811134181384:=trivial
def tw3106063592499092590:=trivial
def tw3114354601796166516:=trivial
def tw3134884132153218569:=trivial
def tw3138721281182775001:=trivial
def tw318040347275188556:=trivial
def tw3211150008424358437:=trivial
def tw3243973452436292599:=trivial
def tw3309709752787259651:=trivial
def tw3310989240609367478:=trivial
def tw3312325948253911634:=trivial
def tw3323341336622699866:=trivial
def tw3330135626719151468:=trivial
def tw3363814933107056054:=trivial
def tw3380000432358858835:=trivial
def tw3382031114600958521:=trivial
def tw3404872901963879257:=trivial
def tw3429028917604872766:=trivial
def tw3434149134007693789:=trivial
def tw3494408771077817816:=trivial
def tw349646719833131974:=trivial
def tw3545457357340045104:=trivial
def tw3560754393701057028:=trivial
def tw3577201872393620835:=trivial
def tw3631543222569359795:=trivial
def tw3690232987693480420:=trivial
def tw3736300084461144520:=trivial
def tw3745011858971896847:=trivial
def tw374850174413177055:=trivial
def tw3787838690434060240:=trivial
def tw3817914760291303542:=trivial
def tw3863022195385728468:=trivial
def tw3866270711582168800:=trivial
def tw3870554023132118137:=trivial
def tw397722670034152084:=trivial
def tw4060369810569571734:=trivial
def tw4098568536710438976:=trivial
def tw4106411773681231737:=trivial
def tw4127122621939282220:=trivial
def tw4154473557803167620:=trivial
def tw418059226997676548:=trivial
def tw4198392780681891337:=trivial
def tw4203222167591232789:=trivial
def tw4239013128522530071:=trivial
def tw4276008631341977092:=trivial
def tw4289583191730572549:=trivial
def tw4301006642544368906:=trivial
def tw4342216199854525346:=trivial
def tw4366963775537663329:=trivial
def tw4401029457201877448:=trivial
def tw4419433724434521198:=trivial
def tw4456504627402906587:=trivial
def tw4468183194430828464:=trivial
def tw4481867097988782879:=trivial
def tw4495867390325974417:=trivial
def tw44974766694724366:=trivial
def tw4522315001316166084:=trivial
def tw4563001339160091206:=trivial
def tw4596804920352417501:=trivial
def tw4677524104825884133:=trivial
def tw4711208601664920900:=trivial
def tw4740076853149638765:=trivial
def tw4787680597283821552:=trivial
def tw4793937459504901955:=trivial
def tw4810759520441751218:=trivial
def tw4820903872507957015:=trivial
def tw4837542882575442144:=trivial
def tw485241384347696383:=trivial
def tw4902687728060698397:=trivial
def tw4911107134672829452:=trivial
def tw4941600610914302243:=trivial
def tw4959333367750218312:=trivial
def tw5045758412378031463:=trivial
def tw5073415522949527360:=trivial
def tw515160059598502245:=trivial
def tw5248514090573055872:=trivial
def tw5310045857302802506:=trivial
def tw5329161340431831203:=trivial
def tw533305596130241224:=trivial
def tw5384464162082538067:=trivial
def tw5445484309278092901:=trivial
def tw5552307857625473322:=trivial
def tw5584449914262977077:=trivial
def tw5606610249503398133:=trivial
def tw5611629723305401227:=trivial
def tw5634115071603020408:=trivial
def tw5646693203821901134:=trivial
def tw5654703426396326601:=trivial
def tw5668471928959441109:=trivial
def tw56841983257419669:=trivial
def tw5697637519896714948:=trivial
def tw5702122197530740918:=trivial
def tw5792698455248197173:=trivial
def tw5815130582174747495:=trivial
def tw5843706854155492726:=trivial
def tw5844032803849846237:=trivial
def tw5912831252326460817:=trivial
def tw5914928112550495645:=trivial
def tw601132343735752187:=trivial
def tw6023665405327200581:=trivial
def tw60899448191580385:=trivial
def tw6108189695762020201:=trivial
def tw6188427594643005317:=trivial
def tw6205839885069274988:=trivial
def tw622358050661552934:=trivial
def tw6234490351366182382:=trivial
def tw635678386832021595:=trivial
def tw6518548125078163656:=trivial
def tw6642771465080047450:=trivial
def tw6652771434463102231:=trivial
def tw6675990325033135470:=trivial
def tw6751025858743876375:=trivial
def tw6761318429351046415:=trivial
def tw6767569613285665668:=trivial
def tw6799399228200044334:=trivial
def tw6818219898293450679:=trivial
def tw6824237158625250331:=trivial
def tw6839925977151730348:=trivial
def tw6865227801872395817:=trivial
def tw688183472233958470:=trivial
def tw6895993892206816357:=trivial
def tw692231970688006393:=trivial
def tw6923362533574462094:=trivial
def tw6937621507717826499:=trivial
def tw6965487644119906851:=trivial
def tw6971650341073925784:=trivial
def tw6990010483964596357:=trivial
def tw703812808765927659:=trivial
def tw703843447433050567:=trivial
def tw7066277515788677319:=trivial
def tw7098641934681192719:=trivial
def tw7147891535227931767:=trivial
def tw7189074234489557693:=trivial
def tw7219987812395922904:=trivial
def tw7309190375409770112:=trivial
def tw7388639448325047371:=trivial
def tw7401616448221353840:=trivial
def tw7404643732412575525:=trivial
def tw74341114677704801:=trivial
def tw757461132998753674:=trivial
def tw7610723997506720014:=trivial
def tw7611584870548777530:=trivial
def tw7622392217620308702:=trivial
def tw7648338724368146389:=trivial
def tw7689565745483945745:=trivial
def tw7690896148424599515:=trivial
def tw7747633102543668255:=trivial
def tw7749831835234178423:=trivial
def tw7750917033738139917:=trivial
def tw7753309045008640329:=trivial
def tw7785447924870249437:=trivial
def tw7838021397370902801:=trivial
def tw7855908447069052300:=trivial
def tw78834654736210760:=trivial
def tw7962351700279335641:=trivial
def tw8052674035954054672:=trivial
def tw8101837341760916755:=trivial
def tw8107174137903684467:=trivial
def tw8108440453729522572:=trivial
def tw8153277022917679609:=trivial
def tw8195924258794787080:=trivial
def tw8201212341392919245:=trivial
def tw8302986517151418896:=trivial
def tw8362137609431253866:=trivial
def tw8381384031114874769:=trivial
def tw8439317131278348791:=trivial
def tw8443936031341119216:=trivial
def tw8474912137753877080:=trivial
def tw8549664247964672552:=trivial
def tw8625740076548105488:=trivial
def tw8633809759310695358:=trivial
def tw8656193984665791166:=trivial
def tw8676903008652181384:=trivial
def tw8684556309203156812:=trivial
def tw8702380829564951168:=trivial
def tw8769230503022933465:=trivial
def tw8774532160633481692:=trivial
def tw8797711670335578206:=trivial
def tw8805157796538947592:=trivial
def tw8863173653582118660:=trivial
def tw8897261553857664416:=trivial
def tw8941020612093739789:=trivial
def tw8980612438128827813:=trivial
def tw908324779106611259:=trivial
def tw9160400737488505572:=trivial
def tw9193063208417262837:=trivial
def tw924103642610298303:=trivial
def tw9241313938589926660:=trivial
def tw9291111103695275835:=trivial
def tw9350566264000482185:=trivial
def tw9364344861363999086:=trivial
def tw9377131004660459843:=trivial
def tw9388463320257533697:=trivial
def tw9452573779340384995:=trivial
def tw9454218595705762408:=trivial
def tw9473494272398480639:=trivial
def tw9478465317737905617:=trivial
def tw9482467849520185401:=trivial
def tw949989073081938297:=trivial
def tw950470538468596332:=trivial
def tw9512850635329636265:=trivial
def tw9552159550818829644:=trivial
def tw9559531979877308083:=trivial
def tw9624357134783681914:=trivial
def tw9643648773073884198:=trivial
def tw9675760152839518934:=trivial
def tw9681479329113951937:=trivial
def tw9725010037656102391:=trivial
def tw9751935685124464239:=trivial
def tw9754990005148070119:=trivial
def tw9778482715743174657:=trivial
def tw9781283148305128498:=trivial
def tw9803987095073867245:=trivial
def tw9810126126217755933:=trivial
def tw9813172055069977842:=trivial
def tw9851778184206222901:=trivial
def tw988013386756025242:=trivial
def tw9959134945878729925:=trivial
def tw9968416745716854997:=trivial
def tw9978551685959042499:=trivial
def tw9991185898887311202:=trivial
def tw9995268278164686243:=trivial
end PySem.W.Fast
open PySem PySem.W PyProof.Rows L2 L3 KK
set_option maxRecDepth 100000 in
set_option maxHeartbeats 0 in
theorem PySem.Challenge.cw_weightrooms_k28_bounds_told_holds : PySem.Challenge.rw_weightrooms_k28_bounds_told.Holds := by
 w_on;o_law;k_head;(case hw=>w_witness2)
 k_fill
 refine L2.walk_lawT (l:=PySem.Challenge.rw_weightrooms_k28_bounds_told) (x:="_law_script") (k:=55) rfl rfl ⟨rfl,by decide,by decide⟩ (λw h Y=>⟨W.km_in_of Y,Fc (by kernel_rfl) (W.km_tabs_of Y)⟩) ?F ?D
 case F=>
  intro w mg h KX G base kb nb;refine yB (Dj ⟨⟨Mc KX G (by kernel_rfl),?_⟩,F2 KX G (by kernel_rfl)⟩) (HI KX G (by kernel_rfl)) (law3 oH rfl Jq);repeat first
   |exact trivial
   |refine⟨by refine' zd KX G ?a ?l ?c ?k;(case a=>k_is);(case l=>k_is);(case c=>k_is);(case k=>k_is),?_⟩
 case D=>
  intro w mg h KX G;refine⟨top 78,?_,(λ_ _ _ _ _ _=>ar1 λ_=>rfl)⟩;refine' zd KX G ?a ?l ?c ?k;case a|l|c|k=>k_is
