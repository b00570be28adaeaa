import PyProof.Rows.All
import Wide.All
import OpenK.AllK
import Wide.FinOn
import Lean
import PyProof.EqAt
import PyProof.EqKinds
import PyProof.TupleCall
import PyProof.Rows.SumAny
import PyProof.EnumMake
import PyProof.Draws
import PyProof.ZipIter
import KE.KNestM
import KE.KUnpack
import KE.KxIndex
import PyProof.SetRoads
import PyProof.SetNew
import PyProof.AutoSeq1
import KE.KRevSl
import PyProof.SeqI3
import PyProof.Rows.SortWalk
import PyProof.Rows.Range3
import KE.KSortTup
import KE.KLam
import PyProof.Rows.SetFrom
import PyProof.FactsAll.list_2
import PySem.Challenge.RW_weightrooms_k59_papers_refused
local macro_rules|`(tactic|trivial)=>`(tactic|first|exact Or.inl rfl|exact Or.inr rfl)
local macro_rules|`(tactic|decide)=>`(tactic|decide +kernel)
set_option genSizeOf false
set_option genInjectivity false
set_option bootstrap.genMatcherCode false
noncomputable section
set_option Elab.async false
set_option linter.all false
def v_:=@PySem.wpAny_bind
def w_:=@List.length_map
def x_:=@List.getElem?_eq_some_iff
def y_:=@Bool.false_ne_true
def z_:=@Nat.le_refl
def A_:=@List.mem_cons_of_mem
def B_:=@PySem.Heap.get?_push_of_some
def C_:=@Bool.and_eq_true
def D_:=@PySem.wpAny_pure
def Em:=@PySem.Heap.lt_size
def E_:=@List.map_cons
def F_:=@List.length_append
def G_:=@List.mem_cons_self
def H_:=@List.size_toArray
def I_:=@List.length_cons
def J_:=@Nat.le_trans
def K_:=@Nat.lt_of_lt_of_le
def L_:=@decide_eq_false
def M_:=@List.getElem?_eq_getElem
def NU:=@List.length_set
def NV:=@Option.some.inj
def NW:=@PySem.Heap.get?_push_size
def NX:=@decide_eq_true
def NY:=@List.all_eq_true
def NZ:=@List.mem_cons
def N0:=@Option.map_eq_some_iff
def N1:=@List.getElem?_append_left
def N2:=@Nat.ne_of_lt
def N3:=@beq_eq_false_iff_ne
def N4:=@List.getElem?_map
def N5:=@List.length_pos_iff
def N6:=@List.getElem?_append_right
def N7:=@List.nil_append
def N8:=@Option.bind_eq_some_iff
def N9:=@List.mem_append_right
def N_:=@PySem.wpAny_mono
def Oa:=@Nat.zero_le
def Od:=@List.length_nil
def Oe:=@List.mem_map
def Of:=@List.sum_cons
def Og:=@congrArg
def Oh:=@List.append_nil
def Oi:=@Option.isSome_iff_exists
def Oj:=@beq_iff_eq
def Ol:=@PyProof.Rows.callWith_type1
def Om:=@List.replicate_succ
def Oo:=@List.contains_iff_mem
def Oq:=@PySem.wpAny_field
def Ot:=@List.getElem?_replicate
def Ou:=@List.getD_eq_getElem?_getD
def Ov:=@List.map_nil
def Ow:=@Nat.lt_irrefl
def Ox:=@List.map_append
def Oy:=@List.length_replicate
def Oz:=@Nat.pow_le_pow_right
def OA:=@List.append_assoc
def OB:=@List.flatten_cons
def OC:=@PySem.wpAny_newObj_type
def OD:=@List.find?_cons
def OE:=@PySem.mem_of_lookup
def OF:=@List.any_cons
def OG:=@Bool.false_eq_true
def OH:=@List.getElem?_eq_none_iff
def OI:=@List.map_map
def OJ:=@List.nodup_cons
def OK:=@List.length_range
def OL:=@if_true
def OM:=@Int.mul_assoc
def ON:=@List.all_cons
def OO:=@PySem.wpAny_callSpecial?_slot
def OP:=@List.filterMap_cons
def OQ:=@List.lookup_cons
def OR:=@PySem.wpAny_seqItems
def OS:=@List.take_of_length_le
def OT:=@List.mem_singleton
def OU:=@PySem.wpAny_Call_Name_kw
def OV:=@PySem.wpAny_setField_rec
def OW:=@Int.mul_ne_zero
def OX:=@List.getElem?_zipWith
def OY:=@List.mem_append
def OZ:=@Nat.not_lt_zero
def O0:=@PySem.wpAny_passesOwn
def O1:=@PySem.F.slot_tuple_iterator_next
def O2:=@PySem.wpAny_truthy_bool
def O3:=@List.mem_of_getElem?
def O4:=@PySem.Heap.size_push
def O5:=@Int.natAbs_mul
def O6:=@List.length_zipWith
def O7:=@List.take_nil
def O8:=@PySem.wpAny_holding
def O9:=@List.forIn_cons
def O_:=@Int.mul_left_comm
def Pa:=@List.getElem?_set
def Pb:=@decide_eq_true_eq
def Pc:=@List.mapM_cons
def Pd:=@List.mem_range
def Pe:=@List.getElem?_set_ne
def Pf:=@List.length_take
def Pg:=@if_false
def Ph:=@PySem.wpAny_call_entry
def Pj:=@PySem.Calls.Name_function_global
def Pk:=@Int.eq_of_mul_eq_mul_right
def Pl:=@Int.fmod_eq_emod_of_nonneg
def Pm:=@List.drop_nil
def Pn:=@Nat.mul_le_mul_left
def Pp:=@Classical.byContradiction
def Pq:=@List.mem_of_find?_eq_some
def Pr:=@List.mem_or_eq_of_mem_set
def Pt:=@PySem.wpAny_execs_nil
def Pu:=@PySem.AutoSeq1.wpAny_loadPart'
def Pw:=@Int.mul_comm
def Px:=@Int.mul_right_comm
def Py:=@Nat.mul_comm
def Pz:=@Nat.ne_of_gt
def PB:=@Nat.sub_self
def PC:=@PySem.F.args_tuple_add_2
def PD:=@PySem.F.slot_list_append
def PF:=@PySem.F.type_list_append
def PH:=@PySem.wpAny_pyIter_tuple
def PJ:=@List.forIn_nil
def PK:=@PySem.F.entry_tuple_add
def PL:=@Int.toNat_natCast
def PM:=@PySem.Heap.get?_update_other
def PN:=@List.getElem?_set_self
def PQ:=@PySem.F.slot_tuple_add
def PR:=@PyProof.Rows.subscriptTail_builtinR
def PU:=@PySem.wpAny_standAt
def PV:=@Nat.le_add_right
def PX:=@Option.getD_none
def PY:=@List.take_append_drop
def PZ:=@PySem.F.slot_zip_next
def P0:=@PySem.Heap.get?_none_of_le
def P1:=@List.foldl_cons
def P2:=@List.getElem?_append
def P4:=@List.mem_append_left
def P5:=@List.of_mem_zip
def P6:=@Nat.lt_trans
def P7:=@Rat.intCast_mul
def P8:=@Rat.not_lt
def P9:=@Rat.num_eq_zero
def P_:=@PySem.call_meets
def Qa:=@PySem.wpAny_updateSeq_pair
def Qb:=@Array.length_toList
def Qc:=@List.mem_map_of_mem
def Qd:=@Rat.le_refl
def Qe:=@PySem.Paired.length
def Qf:=@PySem.wpAny_attempt
def Qg:=@PySem.wpAny_onRaise
set_option maxRecDepth 100000
namespace L2
open PySem PySem.Spec PyProof.Rows
abbrev _root_.Qh:=Str->Option Value
abbrev _root_.Qi:=List (Addr×Obj)
abbrev _root_.Qj:=Value->Shared->Prop
abbrev _root_.Qk:=List (Option Nat)
abbrev Key:=Sum Int Str
noncomputable def kh:Key->Value->Bool
 |.inl k,v=>Value.isInt k v
 |.inr x,v=>Value.isStrOf x v
noncomputable def keyH(w:World):Key->Int
 |.inl k=>hashInt k
 |.inr x=>hashStr w x
theorem bJ:∀{k:Key}{v:Value},kh k v=true->(∃i t,k=Sum.inl i/\v=Value.int i t)\/(∃x t,k=Sum.inr x/\v=Value.str x t)
 |
  .inl i,v,h=>by
  obtain⟨t,e⟩:=Value.isInt_shape (k:=i) (v:=v) h;exact .inl ⟨i,t,rfl,e⟩
 |
  .inr x,v,h=>by
  obtain⟨t,e⟩:=Value.isStrOf_shape (x:=x) (v:=v) h;exact .inr ⟨x,t,rfl,e⟩
def xS(i:Int)(t:Tok):kh (.inl i) (.int i t)=true:=by simp [kh,Value.isInt]
def yp(x:Str)(t:Tok):kh (.inr x) (.str x t)=true:=by simp [kh,Value.isStrOf]
def KH(a b:Int):decide ((Sum.inl a:Key)=Sum.inl b)=(a==b):=by
 by_cases e:a=b
 .subst e;simp
 .have h:¬ (Sum.inl a:Key)=Sum.inl b:=λq=>e (Sum.inl.inj q);rw[L_ h];exact (N3.mpr e).symm
def G7(a b:Str):decide ((Sum.inr a:Key)=Sum.inr b)=decide (a=b):=by
 by_cases e:a=b
 .subst e;simp
 .have h:¬ (Sum.inr a:Key)=Sum.inr b:=λq=>e (Sum.inr.inj q);rw[L_ h,L_ e]
def GJ(a:Int)(b:Str):decide ((Sum.inl a:Key)=Sum.inr b)=false:=L_ (λq=>nomatch q)
def Js(a:Str)(b:Int):decide ((Sum.inr a:Key)=Sum.inl b)=false:=L_ (λq=>nomatch q)
noncomputable def aV(prog:Program)(w:World):PySem.KeyKind prog w Key where
 is:=kh
 hash:=keyH w
 inj
  := λv a b ha hb=>by
  rcases bJ ha with ⟨i,t,rfl,rfl⟩ |⟨x,t,rfl,rfl⟩
  .rcases bJ hb with ⟨j,u,rfl,e⟩ |⟨y,u,rfl,e⟩
   .injection e with e1 _;rw[e1]
   .exact nomatch e
  .rcases bJ hb with ⟨j,u,rfl,e⟩ |⟨y,u,rfl,e⟩
   .exact nomatch e
   .injection e with e1 _;rw[e1]
 byValue:=λk v h=>by rcases bJ h with ⟨i,t,rfl,rfl⟩ |⟨x,t,rfl,rfl⟩ <;> rfl
 pyHash:=λhv h=>by
  rcases bJ hv with ⟨i,t,rfl,rfl⟩ |⟨x,t,rfl,rfl⟩
  .exact wpAny_pyHash_int h
  .exact wpAny_pyHash_str h
 eqBool:=λhu hv h=>by
  rcases bJ hu with ⟨i,t,rfl,rfl⟩ |⟨x,t,rfl,rfl⟩
  .rcases bJ hv with ⟨j,u,rfl,rfl⟩ |⟨y,u,rfl,rfl⟩
   .rw[KH] at h;exact wpAny_eqBool_int h
   .rw[GJ] at h;exact SeqAt.EqAt.int_str i t y u _ _ _ _ h
  .rcases bJ hv with ⟨j,u,rfl,rfl⟩ |⟨y,u,rfl,rfl⟩
   .rw[Js] at h;exact SeqAt.EqAt.str_int x t j u _ _ _ _ h
   .rw[G7] at h;exact wpAny_eqBool_str h
 «strs»:=λk x t v h=>by
  rcases bJ h with ⟨i,u,rfl,e⟩ |⟨y,u,rfl,e⟩
  .exact nomatch e
  .injection e with e1 _;subst e1;cases v <;> rfl
def tK(prog:Program)(w:World)(i:Int)(t:Tok):(aV prog w).is (.inl i) (.int i t)=true:=xS i t
def kL(prog:Program)(w:World)(x:Str)(t:Tok):(aV prog w).is (.inr x) (.str x t)=true:=yp x t
inductive V where
 |non |bl (b:Bool) |int (i:Int) |str (x:Str) |byt (b:Array UInt8) |flt (b:UInt64) |ref (a:Addr) |ty (n:String)
 deriving DecidableEq
def RelV:V->Value->Prop
 |.non,u=>u=Value.none
 |.bl b,u=>u=Value.bool b
 |.int i,u=>∃t,u=Value.int i t
 |.str x,u=>∃t,u=Value.str x t
 |.byt b,u=>∃t,u=Value.bytes b t
 |.flt b,u=>∃t,u=Value.float b t
 |.ref a,u=>u=Value.ref a
 |.ty n,u=>u=Value.type n
abbrev Vals:List V->List Value->Prop:=Paired RelV
def Vals.length(r:Vals xs us):xs.length=us.length:=Qe r
def Vals.get{xs:List V}{us:List Value}{i:Nat}{x:V}(r:Vals xs us)(e:xs[i]?=some x):∃u,us[i]?=some u/\RelV x u:=by
 induction r generalizing i with
 |nil=>rw[List.getElem?_nil] at e;cases e
 |
  cons r t ih=>
  cases i with
  |zero=>cases e;exact⟨_,rfl,r⟩
  |succ i=>exact ih (i:=i) e
def Vals.set(r:RelV x u)(i:Nat)(q:Vals xs us):Vals (xs.set i x) (us.set i u):=by
 induction q generalizing i with
 |nil=>exact .nil
 |
  cons q t ih=>
  cases i with
  |zero=>exact .cons r t
  |succ i=>exact .cons q (ih i)
def Vals.append(r:Vals xs us)(s:Vals ys ws):Vals (xs++ys) (us++ws):=by
 induction r with
 |nil=>exact s
 |cons r t ih=>exact .cons r ih
def Vals.take(n:Nat)(r:Vals xs us):Vals (xs.take n) (us.take n):=by
 induction r generalizing n with
 |nil=>rw[O7,O7];exact .nil
 |
  cons r t ih=>
  cases n with
  |zero=>exact .nil
  |succ n=>exact .cons r (ih n)
def Vals.drop(n:Nat)(r:Vals xs us):Vals (xs.drop n) (us.drop n):=by
 induction r generalizing n with
 |nil=>rw[Pm,Pm];exact .nil
 |
  cons r t ih=>
  cases n with
  |zero=>exact .cons r t
  |succ n=>exact ih n
def RelO:Option V->Option Value->Prop
 |some v,some u=>RelV v u
 |none,none=>True
 |_,_=>False
def KV{κ:Type}:List (κ×V)->List (κ×Value)->Prop:=Paired λ(p:κ×V) (q:κ×Value)=>p.1=q.1/\RelV p.2 q.2
noncomputable def kV:Key->V
 |.inl i=>.int i
 |.inr x=>.str x
inductive HO where
 |lst (xs:List V)
 |tup (xs:List V)
 |dK (kvs:List (Key×V)) |dT (kvs:List (List Key×V))
 |set (S:Int->Bool) (n:Nat)
 |ins (C dx:Addr) (fs:List (Str×V))
 |own (x:Addr)
 |xd (fs:List (Str×V))
 |met (f x:Addr)
 |rng (lo hi:Int)
 |frz (o:Obj) (u:HO)
 |tbl (ps:Array Value)
 |ext (φ:Heap->Prop)
abbrev Hp:=Addr->Option HO
noncomputable def upd(H:Hp)(a:Addr)(o:HO):Hp:=λb=>if b=a then some o else H b
def bD:upd H a o a=some o:=by unfold upd;rw[if_pos rfl]
def aD(h:b≠a):upd H a o b=H b:=by unfold upd;rw[if_neg h]
def K3{H:Hp}{a b:Addr}{o u:HO}(h:H a=some o)(h':H b=some u)(d:o≠u):a≠b:=by intro e;subst e;rw[h] at h';exact d (NV h')
def ba{H:Hp}{a b:Addr}{o:HO}(h:H a=some o)(h':H b=none):a≠b:=by intro e;subst e;rw[h] at h';cases h'
section
variable(P:Program)(w:World)
def ObjOk(H:Hp)(h:Heap)(a:Addr):HO->Prop
 |.lst xs=>xs.length<=sizeLine/\∃(its:List Value) (n:Nat),Vals xs its/\h.get? a=some { cls:=.type "list",data:=.seq its.toArray n }
 |.tup xs=>xs.length<=sizeLine/\∃its:List Value,Vals xs its/\IsTup h a its.toArray
 |.dK kvs=>kvs.length<=sizeLine/\(a==sysModules)=false/\∃vs,KV kvs vs/\h.DictOf (aV P w) a vs
 |.dT kvs=>kvs.length<=sizeLine/\(a==sysModules)=false/\∃xs:List (List Key×Addr×Value),
  Paired (λ(p:List Key×V) (q:List Key×Addr×Value)=>p.1=q.1/\H q.2.1=some (.tup (p.1.map kV))/\RelV p.2 q.2.2) kvs xs/\
  ∃o es ep,h.get? a=some o/\o.ExactDict/\o.data=.dict es ep/\es.toList=xs.map (entryOfKey (tupleKind (aV P w)))/\(xs.map (·.1)).Nodup
 |.set S n=>h.SetOf (intKind P w) a S n
 |.ins C dx fs=>H dx=some (.own a)/\fs.length<=1000/\dx≠a/\h.get? a=some (W.instObj C dx)/\
  ∃mA,h.Ns1 dx mA/\(∀f,RelO (fs.lookup f) (mA f))/\PySem.Within mA (fs.map (·.1))
 |.own _=>∃o,h.get? a=some o
 |.xd fs=>∃mA,h.Ns1 a mA/\∀f,RelO (fs.lookup f) (mA f)
 |.rng lo hi=>∃t u v,h.get? a=some { cls:=.type "range",data:=.fields #[.int lo t,.int hi u,.int 1 v] }
 |.frz o u=>h.get? a=some o/\ObjOk H h a u
 |.tbl ps=>h.get? a=some { cls:=.none,data:=.fields ps }
 |.met f x=>h.get? a=some (W.methodObj (.ref f) (.ref x))
 |.ext φ=>φ h/\(∃o,h.get? a=some o)/\∀h1 h2:Heap,φ h1->(∀o,h1.get? a=some o->h2.get? a=some o)->φ h2
def HOk(H:Hp)(h:Heap):Prop:=∀a o,H a=some o->ObjOk P w H h a o
end
section
variable{P:Program}{w:World}{H H':Hp}{h h':Heap}{a:Addr}{o:HO}
def ObjOk.lt(x:ObjOk P w H h a o):a<h.objs.size:=by
 cases o with
 |lst xs=>obtain⟨_,_,_,_,e⟩:=x;exact Em e
 |tup xs=>obtain⟨_,_,_,p⟩:=x;exact p.lt
 |dK kvs=>obtain⟨_,_,_,_,o,_,_,e,_⟩:=x;exact Em e
 |dT kvs=>obtain⟨_,_,_,_,o,_,_,e,_⟩:=x;exact Em e
 |set S n=>obtain⟨o,_,_,_,e,_⟩:=x;exact Em e
 |ins C dx fs=>obtain⟨_,_,_,e,_⟩:=x;exact Em e
 |own y=>obtain⟨_,e⟩:=x;exact Em e
 |xd fs=>obtain⟨_,⟨_,_,_,e,_⟩,_⟩:=x;exact Em e
 |rng lo hi=>obtain⟨_,_,_,e⟩:=x;exact Em e
 |frz ob u=>obtain⟨e,_⟩:=x;exact Em e
 |tbl ps=>exact Em (show h.get? a=some _ from x)
 |met f y=>exact Em (show h.get? a=some _ from x)
 |ext φ=>obtain⟨_,⟨_,e⟩,_⟩:=x;exact Em e
def Paired.mapP(r:Paired F l₁ l₂)(f:∀a b,F a b->G a b):Paired G l₁ l₂:=by
 induction r with
 |nil=>exact .nil
 |cons r t ih=>exact .cons (f _ _ r) ih
def ObjOk.stay(x:ObjOk P w H h a o)(k:∀b u,(b=a\/H b=some (.own a))->h.get? b=some u->h'.get? b=some u)
 (ho:∀b,H b=some (.own a)->H' b=some (.own a)) (ht:∀b xs,H b=some (.tup xs)->H' b=some (.tup xs)):ObjOk P w H' h' a o:=by
 induction o with
 |lst xs=>obtain⟨z,its,n,r,e⟩:=x;exact⟨z,its,n,r,k _ _ (.inl rfl) e⟩
 |tup xs=>obtain⟨z,its,r,ob,e,c⟩:=x;exact⟨z,its,r,ob,k _ _ (.inl rfl) e,c⟩
 |dK kvs=>obtain⟨z,y,vs,r,ob,es,ep,e,c⟩:=x;exact⟨z,y,vs,r,ob,es,ep,k _ _ (.inl rfl) e,c⟩
 |dT kvs=>obtain⟨z,y,xs,r,ob,es,ep,e,c⟩:=x;exact⟨z,y,xs,Paired.mapP r λp q z=>⟨z.1,ht _ _ z.2.1,z.2.2⟩,ob,es,ep,k _ _ (.inl rfl) e,c⟩
 |set S n=>obtain⟨ob,es,ep,t,e,c⟩:=x;exact⟨ob,es,ep,t,k _ _ (.inl rfl) e,c⟩
 |ins C dx fs=>obtain⟨d,z,ne,e,mA,⟨od,es,ep,e2,c⟩,r⟩:=x;exact⟨ho _ d,z,ne,k _ _ (.inl rfl) e,mA,⟨od,es,ep,k _ _ (.inr d) e2,c⟩,r⟩
 |own y=>obtain⟨ob,e⟩:=x;exact⟨ob,k _ _ (.inl rfl) e⟩
 |xd fs=>obtain⟨mA,⟨od,es,ep,e,c⟩,r⟩:=x;exact⟨mA,⟨od,es,ep,k _ _ (.inl rfl) e,c⟩,r⟩
 |rng lo hi=>obtain⟨t,u,v,e⟩:=x;exact⟨t,u,v,k _ _ (.inl rfl) e⟩
 |frz ob u ih=>obtain⟨e,q⟩:=x;exact⟨k _ _ (.inl rfl) e,ih q⟩
 |tbl ps=>have e:h.get? a=some { cls:=.none,data:=.fields ps }:=x;show h'.get? a=some { cls:=.none,data:=.fields ps };exact k a _ (.inl rfl) e
 |met f y=>have e:h.get? a=some (W.methodObj (.ref f) (.ref y)):=x;show h'.get? a=some (W.methodObj (.ref f) (.ref y));exact k a _ (.inl rfl) e
 |ext φ=>obtain⟨p,⟨o,e⟩,st⟩:=x;exact⟨st _ _ p λo q=>k _ _ (.inl rfl) q,⟨o,k _ _ (.inl rfl) e⟩,st⟩
def HOk.lt(x:HOk P w H h)(e:H a=some o):a<h.objs.size:=(x a o e).lt
def HOk.fresh(x:HOk P w H h)(e:h.objs.size<=a):H a=none:=by
 cases q:H a with
 |none=>rfl
 |some u=>exact absurd (K_ (x.lt q) e) (Ow _)
def HOk.kept(x:HOk P w H h)(k:∀b u,h.get? b=some u->h'.get? b=some u):HOk P w H h':=λa o e=>
 (x a o e).stay (λb u _ q=>k b u q) (λ_ q=>q) λ_ _ q=>q
def HOk.laid(x:HOk P w H h)(k:∀b u,h.get? b=some u->h'.get? b=some u)(hp:h.objs.size<=a)(new:ObjOk P w (upd H a o) h' a o):HOk P w (upd H a o) h':=λb u e=>by
 have hn:=x.fresh hp;by_cases hb:b=a
 .subst hb;rw[bD] at e;cases e;exact new
 .rw[aD hb] at e;exact (x b u e).stay (λc v _ q=>k c v q) (λc q=>by rw[aD (ba q hn)];exact q) λc xs q=>by rw[aD (ba q hn)];exact q
end
def Rd(H:Hp)(a:Addr)(u:HO):Prop:=H a=some u\/∃o,H a=some (.frz o u)
def Rd.ok(r:Rd H a u)(x:HOk P w H h):ObjOk P w H h a u:=by
 rcases r with r |⟨o,r⟩
 .exact x a u r
 .obtain⟨_,q⟩:=x a _ r;exact q
def Mut:Option HO->Prop
 |some (.lst _)=>True
 |some (.dK _)=>True
 |some (.dT _)=>True
 |some (.set _ _)=>True
 |some (.ins _ _ _)=>True
 |some (.ext _)=>True
 |_=>False
section
variable{P:Program}{w:World}{H:Hp}{h h':Heap}{x e:Addr}{o':HO}
def HOk.write(ok:HOk P w H h)(mu:Mut (H x))(he:e=x\/H e=some (.own x))(k:∀b u,b≠e->h.get? b=some u->h'.get? b=some u)(heo:∃u,h'.get? e=some u)
 (new:ObjOk P w (upd H x o') h' x o'):HOk P w (upd H x o') h':=λb u q=>by
 have nown:∀c y,H c=some (.own y)->c≠x:=λc y r z=>by subst z;rw[r] at mu;exact mu
 have ntup:∀c xs,H c=some (.tup xs)->c≠x:=λc xs r z=>by subst z;rw[r] at mu;exact mu
 by_cases hb:b=x
 .subst hb;rw[bD] at q;cases q;exact new
 .rw[aD hb] at q;by_cases hbe:b=e
  .have q':H b=some (.own x):=by
    rcases he with z |z
    .exact absurd (hbe.trans z) hb
    .rw[hbe];exact z
   rw[q] at q';cases q';obtain⟨v,hv⟩:=heo;exact⟨v,by rw[hbe];exact hv⟩
  .refine (ok b u q).stay (λc v hc r=>k c v ?_ r) (λc r=>by rw[aD (nown c b r)];exact r) λc xs r=>by rw[aD (ntup c xs r)];exact r
   rcases hc with rfl |hc
   .exact hbe
   .rintro rfl;rcases he with z |z
    .exact nown c b hc z
    .rw[hc] at z;cases z;exact hb rfl
end
structure Un(fs ex:List Addr)(H H':Hp)(h h':Heap):Prop where
 keep:∀b o,h.get? b=some o->H b=none->b∉fs->b∉ex->h'.get? b=some o
 slot:∀b o,h.get? b=some o->H b=none->b∈fs->b∉ex->∃sl,h'.get? b=some { o with slots:=sl }
 free:∀b o,h.get? b=some o->H b=none->b∉ex->H' b=none
 there:∀b o,h.get? b=some o->b∉ex->∃o',h'.get? b=some o'
 tups:∀b xs,H b=some (.tup xs)->H' b=some (.tup xs)
 frzs:∀b o u,H b=some (.frz o u)->H' b=some (.frz o u)
 tbls:∀b ps,H b=some (.tbl ps)->∃more,H' b=some (.tbl (ps++more))
section
variable{fs ex:List Addr}{H H1:Hp}{h h1 h':Heap}{a x e:Addr}{o:HO}
def Un.any(u:Un fs ex H H1 h h1)(q:h.get? b=some ob)(n:H b=none)(hx:b∉ex):∃sl,h1.get? b=some { ob with slots:=sl }:=by
 by_cases hb:b∈fs
 .exact u.slot b ob q n hb hx
 .exact⟨ob.slots,u.keep b ob q n hb hx⟩
def Un.kept(k:∀b u,h.get? b=some u->h'.get? b=some u):Un fs ex H H h h':=
 ⟨λb ob q _ _ _=>k b ob q,λb ob q _ _ _=>⟨ob.slots,k b ob q⟩,λ_ _ _ n _=>n,λb ob q _=>⟨ob,k b ob q⟩,λ_ _ q=>q,λ_ _ _ q=>q,λ_ ps q=>⟨#[],by rw[q];simp⟩⟩
def Un.refl:Un fs ex H H h h:=Un.kept λ_ _ q=>q
def Un.laid(k:∀b u,h.get? b=some u->h'.get? b=some u)(hp:h.objs.size<=a)(hn:H a=none):Un fs ex H (upd H a o) h h' where
 keep:=λb u q _ _ _=>k b u q
 slot:=λb u q _ _ _=>⟨u.slots,k b u q⟩
 free:=λb u q n _=>by rw[aD (N2 (K_ (Em q) hp))];exact n
 there:=λb u q _=>⟨u,k b u q⟩
 tups:=λb xs q=>by rw[aD (ba q hn)];exact q
 frzs:=λb u xs q=>by rw[aD (ba q hn)];exact q
 tbls:=λb ps q=>⟨#[],by rw[aD (ba q hn),q];simp⟩
def Un.write(mu:Mut (H x))(he:e=x\/H e=some (.own x))(k:∀b u,b≠e->h.get? b=some u->h'.get? b=some u)(heo:∃u,h'.get? e=some u):Un fs ex H (upd H x o) h h':=by
 have hx:∀b,H b=none->b≠x:=λb n z=>by subst z;rw[n] at mu;exact mu
 have hb:∀b,H b=none->b≠e:=λb n z=>by
  subst z;rcases he with r |r
  .exact hx b n r
  .rw[n] at r;cases r
 have hm:∀b u,H b=some u->¬ Mut (some u)->b≠x:=λb u q nm z=>by subst z;rw[q] at mu;exact nm mu
 refine⟨λb u q n _ _=>k b u (hb b n) q,λb u q n _ _=>⟨u.slots,k b u (hb b n) q⟩,λb u q n _=>by rw[aD (hx b n)];exact n,λb u q _=>?_,
  λb xs q=>by rw[aD (hm b _ q λz=>z)];exact q,λb u xs q=>by rw[aD (hm b _ q λz=>z)];exact q,λb ps q=>⟨#[],by rw[aD (hm b _ q λz=>z),q];simp⟩⟩
 by_cases hbe:b=e
 .subst hbe;exact heo
 .exact⟨u,k b u hbe q⟩
end
noncomputable def trk(h:Heap)(H:Hp):List Addr:=(List.range h.objs.size).filter λa=>(H a).isSome
noncomputable def jc(h:Heap)(H:Hp):Heap:=W.hideAll h (trk h H)
def xG(h:Heap)(H:Hp):(jc h H).objs.size=h.objs.size:=W.hideAll_size _ _
def AZ(e:h.get? b=some o)(n:H b=none):(jc h H).get? b=some o:=
 W.hideAll_get _ e λhm=>by have q:(H b).isSome=true:=(List.mem_filter.mp hm).2;rw[n] at q;simp at q
def Fv(e:(jc h H).get? b=some o):h.get? b=some o/\H b=none:=by
 have e':h.get? b=some o:=W.of_hideAll (trk h H) e;refine⟨e',?_⟩;cases q:H b with
 |none=>rfl
 |some x=>have hm:b∈trk h H:=List.mem_filter.mpr ⟨Pd.mpr (Em e'),by simp [q]⟩;have z:(jc h H).get? b=none:=W.hideAll_none (trk h H) hm;rw[z] at e;cases e
noncomputable def D9(g h:Heap)(L:Addr):List (Addr×Obj):=(List.range h.objs.size).filterMap λa=>if a=L\/(g.get? a).isSome=true then none else (h.get? a).map λo=>(a,o)
noncomputable def rest(g h:Heap)(L d:Addr):List (Addr×Obj):=(D9 g h L).filter λp=>decide (p.1≠d)
structure Mod(K:W.Frag)(mg:Qh)(base:Heap):Prop where
 kin:K.In base
 glob:base.Ns mainGlobals mg
 blt:∃mb,base.Ns builtinsNs mb/\∀x:Str,x ≠ "__name__"->mb x=bootBuiltins x
 nolimit:base.NoLimit
structure Cx where
 prog:Program
 w:World
 K:W.Frag
 mg:Str->Option Value
 base:Heap
 A:Around
 N:List Str
 s₀:Shared
 H₀:Hp
 env:Env
 outer:List Env
 stack:List Env
 ex:List Addr
 fn:Str->Bool
 calm:Bool
 pn:List (Addr×Obj)
 xe:Value->Shared->Prop
noncomputable def frs(l:List Env):List Addr:=l.filterMap (·.frame)
abbrev Cx.fs(X:Cx):List Addr:=frs X.outer
def Vis(sc:Scope)(x:Str):Prop:=sc.names.lookup x=some .local\/sc.names.lookup x=some .cell\/sc.names.lookup x=some .free
def Loc(sc:Scope)(x:Str):Prop:=sc.names.lookup x=some .local\/sc.names.lookup x=some .cell
def zX(env:Env)(h:Heap)(m:Qh)(x:Str)(u:Value):Prop:=
 (env.kindOf x=some .local/\m x=some u)\/((env.kindOf x=some .cell\/env.kindOf x=some .free)/\∃c,env.cells.lookup x=some c/\h.IsCell c (some u))
structure Cx.Ok(X:Cx):Prop where
 mod:Mod X.K X.mg X.base
 kind:X.env.scope.kind=.function
 glob:X.env.globals=mainGlobals
 blt:X.env.builtins=builtinsNs
 above:X.s₀.heap.objs.size<=X.env.locals
 inj:∀x y c,X.env.cells.lookup x=some c->X.env.cells.lookup y=some c->x=y
 has:∀x,(X.env.kindOf x=some .cell\/X.env.kindOf x=some .free)->∃c,X.env.cells.lookup x=some c
 cab:∀x c,X.fn x=true->X.env.cells.lookup x=some c->X.s₀.heap.objs.size<=c
 hd:X.calm=true->X.A.handled=none
 frames:X.A.frames=some X.stack
 stk:X.stack=X.outer\/(X.stack=X.env::X.outer/\X.env.frame=some X.env.locals)
 exf:∀b∈X.ex,b≠X.env.locals/\∀x c,X.env.cells.lookup x=some c->c≠b
 bs:∀b o,X.base.get? b=some o->X.s₀.heap.get? b=some o/\X.H₀ b=none
 bsz:X.base.objs.size<=X.s₀.heap.objs.size
 noex:∀b o,X.base.get? b=some o->b∉X.ex
 exfs:∀b∈X.ex,b∉X.fs
 funs:X.s₀.heap.FunFrames X.base X.outer
 frf:∀b∈X.fs,X.H₀ b=none
structure Inv(X:Cx)(pins:Qi)(σ:List (Option V))(H:Hp)(s:Shared):Prop where
 ok:X.Ok
 os:s.os=X.s₀.os
 bare:AllBare s.gens
 base:Un X.fs X.ex X.H₀ H X.s₀.heap s.heap
 loc:∃m,s.heap.Ns X.env.locals m/\∀(i:Nat) (x:Str) (v:V),X.N[i]?=some x->σ[i]?=some (some v)->Vis X.env.scope x->∃u,RelV v u/\zX X.env s.heap m x u
 cell:∀x c,X.env.cells.lookup x=some c->∃v,s.heap.IsCell c v
 free:H X.env.locals=none
 freeC:∀x c,X.env.cells.lookup x=some c->H c=none
 pin:∀p∈X.pn++pins,s.heap.get? p.1=some p.2/\H p.1=none/\p.1≠X.env.locals/\p.1∉X.fs/\∀v,p.2.data ≠ .cell v
 hok:HOk X.prog X.w H s.heap
 len:σ.length=X.N.length
section
variable{X:Cx}{pins:Qi}{σ:List (Option V)}{H H':Hp}{s:Shared}{h':Heap}
def Cx.Ok.nofr(ok:X.Ok)(e:X.base.get? b=some o):b∉X.fs:=λhb=>by
 have:=(ok.funs.mem hb).1
 rw[e] at this;cases this
def Inv.bs(I:Inv X pins σ H s):∀b o,X.base.get? b=some o->s.heap.get? b=some o/\H b=none:=λb o e=>
 ⟨I.base.keep b o (I.ok.bs b o e).1 (I.ok.bs b o e).2 (I.ok.nofr e) (I.ok.noex b o e),I.base.free b o (I.ok.bs b o e).1 (I.ok.bs b o e).2 (I.ok.noex b o e)⟩
def Inv.bk(I:Inv X pins σ H s):∀b o,X.base.get? b=some o->s.heap.get? b=some o:=λb o e=>(I.bs b o e).1
def Inv.mod(I:Inv X pins σ H s):Mod X.K X.mg X.base:=I.ok.mod
def Inv.kIn(I:Inv X pins σ H s):X.K.In s.heap:=I.ok.mod.kin.keeps I.bk
def Inv.lt(I:Inv X pins σ H s):X.env.locals<s.heap.objs.size:=let ⟨_,hn,_⟩:=I.loc;hn.lt
def Inv.sz(I:Inv X pins σ H s):X.s₀.heap.objs.size<=s.heap.objs.size:=J_ I.ok.above (Nat.le_of_lt I.lt)
def Inv.nofs(I:Inv X pins σ H s)(h:s.heap.objs.size<=a):a∉X.fs:=λhb=>by obtain⟨_,o,ho,_⟩:=I.ok.funs.mem hb;exact absurd (K_ (Em ho) (J_ I.sz h)) (Ow _)
def Inv.cne(I:Inv X pins σ H s):∀x c,X.env.cells.lookup x=some c->c≠X.env.locals:=λx c e z=>by obtain⟨v,o,ho,hd⟩:=I.cell x c e;obtain⟨m,⟨o',es,ep,ho',hd',_⟩,_⟩:=I.loc;rw[z,ho'] at ho;cases ho;rw[hd'] at hd;cases hd
def Inv.funs(I:Inv X pins σ H s):s.heap.FunFrames X.base X.outer:=by
 have all:∀(l:List Env),(∀b∈frs l,b∈X.fs)->X.s₀.heap.FunFrames X.base l->s.heap.FunFrames X.base l:=by
  intro l;induction l with
  |nil=>intro _ _;trivial
  |cons env r ih=>intro hs hl;obtain⟨hk,⟨L,o,hf,hn,ho,hd⟩,hr⟩:=hl;have hL:L∈X.fs:=hs L (by unfold frs;rw[OP,hf];exact G_);obtain⟨sl,e⟩:=I.base.slot L o ho (I.ok.frf L hL) hL λz=>I.ok.exfs L z hL;exact⟨hk,⟨L,_,hf,hn,e,hd⟩,ih (λb hb=>hs b (by unfold frs;rw[OP,hf];exact A_ _ hb)) hr⟩
 exact all X.outer (λ_ hb=>hb) I.ok.funs
def Inv.stack(I:Inv X pins σ H s):s.heap.FunFrames X.base X.stack:=by
 rcases I.ok.stk with e |⟨e,hf⟩
 .rw[e];exact I.funs
 .rw[e];obtain⟨m,hn,_⟩:=I.loc;refine .cons (by rw[I.ok.kind];decide) hf hn ?_ I.funs;exact P0 (J_ I.ok.bsz I.ok.above)
def Inv.stkSub(I:Inv X pins σ H s):∀b∈frs X.stack,b∈X.env.locals::X.fs:=λb hb=>by
 rcases I.ok.stk with e |⟨e,hf⟩
 .rw[e] at hb;exact A_ _ hb
 .rw[e] at hb;unfold frs at hb;rw[OP,hf] at hb;exact hb
def Inv.stkFree(I:Inv X pins σ H s):∀b∈frs X.stack,H b=none:=λb hb=>by
 rcases NZ.mp (I.stkSub b hb) with e |hb
 .rw[e];exact I.free
 .obtain⟨_,o,ho,_⟩:=I.ok.funs.mem hb;exact I.base.free b o ho (I.ok.frf b hb) λz=>I.ok.exfs b z hb
def Inv.step{g':Array GenState}{t':Nat}{d':Drawn}{ch:List Addr}(I:Inv X pins σ H s)
 (hch:∀b∈ch,(b∈X.ex\/X.s₀.heap.objs.size<=b)/\b≠X.env.locals/\(∀x c,X.env.cells.lookup x=some c->c≠b)/\∀p∈X.pn++pins,p.1≠b)
 (keep:∀b o,b≠X.env.locals->b∉X.fs->b∉ch->s.heap.get? b=some o->H b=none->h'.get? b=some o)
 (slot:∀b o,b≠X.env.locals->b∈X.fs->b∉ch->s.heap.get? b=some o->H b=none->∃sl,h'.get? b=some { o with slots:=sl }) (free:∀b o,b∉ch->s.heap.get? b=some o->H b=none->H' b=none)
 (there:∀b o,b∉ch->s.heap.get? b=some o->∃o',h'.get? b=some o')
 (tups:∀b xs,H b=some (.tup xs)->H' b=some (.tup xs)) (frzs:∀b o u,H b=some (.frz o u)->H' b=some (.frz o u)) (tbls:∀b ps,H b=some (.tbl ps)->∃more,H' b=some (.tbl (ps++more)))
 (ns:∀m,s.heap.Ns X.env.locals m->h'.Ns X.env.locals m) (hok:HOk X.prog X.w H' h') (hg:AllBare g'):
 Inv X pins σ H' { s with heap:=h',gens:=g',drawn:=d',toks:=t' }:=by
 have neL:∀b o,X.s₀.heap.get? b=some o->b≠X.env.locals:=λb o e=>N2 (K_ (Em e) I.ok.above);have neC:∀b o,X.s₀.heap.get? b=some o->b∉X.ex->b∉ch:=λb o e hx hb=>by
  rcases (hch b hb).1 with z |z
  .exact hx z
  .exact absurd (K_ (Em e) z) (Ow _)
 have cellK:∀x c,X.env.cells.lookup x=some c->∀v,s.heap.IsCell c v->h'.IsCell c v:=λx c e v ⟨o,ho,hd⟩=>by
  have nch:c∉ch:=λz=>(hch c z).2.2.1 x c e rfl;by_cases hc:c∈X.fs
  .obtain⟨sl,q⟩:=slot c o (I.cne x c e) hc nch ho (I.freeC x c e);exact⟨_,q,hd⟩
  .exact⟨o,keep c o (I.cne x c e) hc nch ho (I.freeC x c e),hd⟩
 refine⟨I.ok,I.os,hg,⟨λb o e n hb hx=>?_,λb o e n hb hx=>?_,λb o e n hx=>?_,λb o e hx=>?_,λb xs e=>tups b xs (I.base.tups b xs e),λb o xs e=>frzs b o xs (I.base.frzs b o xs e),λb ps e=>?_⟩,?_,λx c e=>?_,?_,λx c e=>?_,λp hp=>?_,hok,I.len⟩
 .exact keep b o (neL b o e) hb (neC b o e hx) (I.base.keep b o e n hb hx) (I.base.free b o e n hx)
 .obtain⟨sl,e1⟩:=I.base.slot b o e n hb hx;obtain⟨sl',e2⟩:=slot b _ (neL b o e) hb (neC b o e hx) e1 (I.base.free b o e n hx);exact⟨sl',e2⟩
 .obtain⟨o',e1⟩:=I.base.there b o e hx;exact free b o' (neC b o e hx) e1 (I.base.free b o e n hx)
 .obtain⟨o',e1⟩:=I.base.there b o e hx;exact there b o' (neC b o e hx) e1
 .obtain⟨m1,e1⟩:=I.base.tbls b ps e;obtain⟨m2,e2⟩:=tbls b _ e1;exact⟨m1++m2,by rw[e2,Array.append_assoc]⟩
 .obtain⟨m,hn,hl⟩:=I.loc;refine⟨m,ns m hn,λi x v e1 e2 e3=>?_⟩;obtain⟨u,r,l⟩:=hl i x v e1 e2 e3;refine⟨u,r,?_⟩;rcases l with l |⟨k,c,e,z⟩
  .exact .inl l
  .exact .inr ⟨k,c,e,cellK x c e _ z⟩
 .obtain⟨v,z⟩:=I.cell x c e;exact⟨v,cellK x c e v z⟩
 .obtain⟨m,⟨o,_,_,ho,_⟩,_⟩:=I.loc;exact free _ o (λz=>(hch _ z).2.1 rfl) ho I.free
 .obtain⟨v,o,ho,hd⟩:=I.cell x c e;exact free c o (λz=>(hch c z).2.2.1 x c e rfl) ho (I.freeC x c e)
 .obtain⟨e,n,ne,nf,d⟩:=I.pin p hp;have nch:p.1∉ch:=λz=>(hch p.1 z).2.2.2 p hp rfl;exact⟨keep p.1 p.2 ne nf nch e n,free p.1 p.2 nch e n,ne,nf,d⟩
def Inv.un{t':Nat}(I:Inv X pins σ H s)(u:Un X.fs [] H H' s.heap h')(hok:HOk X.prog X.w H' h'):Inv X pins σ H' { s with heap:=h',toks:=t' }:=by obtain⟨m,⟨o,es,ep,ho,r⟩,_⟩:=id I.loc;obtain⟨sl,hL⟩:=u.any ho I.free (by simp);exact I.step (g':=s.gens) (d':=s.drawn) (ch:=[]) (λ_ z=>nomatch z) (λb o _ hb _ e n=>u.keep b o e n hb (by simp)) (λb o _ hb _ e n=>u.slot b o e n hb (by simp)) (λb o _ e n=>u.free b o e n (by simp)) (λb o _ e=>u.there b o e (by simp)) u.tups u.frzs u.tbls (λm' hm=>by obtain⟨o',es',ep',ho',r'⟩:=hm;rw[ho] at ho';cases ho';exact⟨_,es',ep',hL,r'⟩) hok I.bare
def Inv.call{g':Array GenState}{t':Nat}{d':Drawn}{ch:List Addr}(I:Inv X pins σ H s)(u:Un (frs X.stack) ch H H' s.heap h')(hok:HOk X.prog X.w H' h')(hg:AllBare g')
 (hch:∀b∈ch,(b∈X.ex\/X.s₀.heap.objs.size<=b)/\b≠X.env.locals/\(∀x c,X.env.cells.lookup x=some c->c≠b)/\∀p∈X.pn++pins,p.1≠b):
 Inv X pins σ H' { s with heap:=h',gens:=g',drawn:=d',toks:=t' }:=by
 obtain⟨m,⟨o,es,ep,ho,r⟩,_⟩:=id I.loc;obtain⟨sl,hL⟩:=u.any ho I.free λz=>(hch _ z).2.1 rfl;exact I.step (ch:=ch) hch (λb o hL hb hc e n=>u.keep b o e n (λz=>(NZ.mp (I.stkSub b z)).elim hL hb) hc) (λb o _ _ hc e n=>u.any e n hc) (λb o hc e n=>u.free b o e n hc) (λb o hc e=>u.there b o e hc) u.tups u.frzs u.tbls (λm' hm=>by obtain⟨o',es',ep',ho',r'⟩:=hm;rw[ho] at ho';cases ho';exact⟨_,es',ep',hL,r'⟩) hok hg
def Inv.turned{t':Nat}{it:Addr}(I:Inv X pins σ H s)(k:∀b o,b≠it->s.heap.get? b=some o->h'.get? b=some o)(hn:H it=none)(hL:it≠X.env.locals)
 (h1:it∈X.ex\/X.s₀.heap.objs.size<=it) (h2:∀x c,X.env.cells.lookup x=some c->c≠it) (h3:∀p∈X.pn++pins,p.1≠it):Inv X pins σ H { s with heap:=h',toks:=t' }:=by
 have nit:∀b u,H b=some u->b≠it:=λb u e z=>by rw[z,hn] at e;cases e
 refine I.step (g':=s.gens) (d':=s.drawn) (ch:=[it]) (λb hb=>?_) (λb o _ _ hc e _=>k b o (λz=>hc (by simp [z])) e) (λb o _ _ hc e _=>⟨o.slots,k b o (λz=>hc (by simp [z])) e⟩) (λ_ _ _ _ n=>n)
  (λb o hc e=>⟨o,k b o (λz=>hc (by simp [z])) e⟩) (λ_ _ e=>e) (λ_ _ _ e=>e) (λb ps e=>⟨#[],by rw[e];simp⟩) (λm hm=>?_) (λb u e=>?_) I.bare
 .have e:b=it:=by simpa using hb
  subst e;exact⟨h1,hL,h2,h3⟩
 .obtain⟨o,es,ep,ho,r⟩:=hm;exact⟨o,es,ep,k _ o (Ne.symm hL) ho,r⟩
 .refine (I.hok b u e).stay (λc v hc q=>k c v ?_ q) (λ_ q=>q) λ_ _ q=>q;rcases hc with z |z
  .rw[z];exact nit b u e
  .exact nit c _ z
def Inv.tok(I:Inv X pins σ H s)(t:Nat):Inv X pins σ H { s with toks:=t }:=I.un (h':=s.heap) (t':=t) Un.refl I.hok
def Inv.kept(I:Inv X pins σ H s)(k:∀b u,s.heap.get? b=some u->h'.get? b=some u):Inv X pins σ H { s with heap:=h',toks:=t' }:=I.un (Un.kept k) (I.hok.kept k)
def Inv.laid(I:Inv X pins σ H s)(k:∀b u,s.heap.get? b=some u->h'.get? b=some u)(hp:s.heap.objs.size<=a)(new:ObjOk X.prog X.w (upd H a o) h' a o):
 Inv X pins σ (upd H a o) { s with heap:=h',toks:=t' }:=I.un (Un.laid k hp (I.hok.fresh hp)) (I.hok.laid k hp new)
def Inv.write(I:Inv X pins σ H s)(mu:Mut (H x))(he:e=x\/H e=some (.own x))(k:∀b u,b≠e->s.heap.get? b=some u->h'.get? b=some u)(heo:∃u,h'.get? e=some u)
 (new:ObjOk X.prog X.w (upd H x o) h' x o):Inv X pins σ (upd H x o) { s with heap:=h',toks:=t' }:=I.un (Un.write mu he k heo) (I.hok.write mu he k heo new)
def Inv.pins_of(I:Inv X pins σ H s)(h:∀p∈pins',s.heap.get? p.1=some p.2/\H p.1=none/\p.1≠X.env.locals/\p.1∉X.fs/\∀v,p.2.data ≠ .cell v):Inv X pins' σ H s:=
 ⟨I.ok,I.os,I.bare,I.base,I.loc,I.cell,I.free,I.freeC,λp hp=>(OY.mp hp).elim (λz=>I.pin p (P4 _ z)) (h p),I.hok,I.len⟩
def lL{N:List Str}(hN:N.Nodup){i j:Nat}{x:Str}(a:N[i]?=some x)(b:N[j]?=some x):i=j:=by obtain⟨h1,e1⟩:=x_.mp a;obtain⟨h2,e2⟩:=x_.mp b;exact (List.getElem_inj hN).mp (e1.trans e2.symm)
def o9(I:Inv X pins σ H s)(hN:X.N.Nodup)(hi:X.N[i]?=some x)(hx:Loc X.env.scope x)(r:RelV v u)
 (h:∀s',Inv X pins (σ.set i (some v)) H s'->(∃a,Heap.SameBut a s.heap s'.heap/\(a=X.env.locals\/X.env.cells.lookup x=some a))->Q () s') (hf:X.fn x=true\/X.env.scope.names.lookup x=some .local):wpAny M A (storeName X.env x u) Q E s:=by
 obtain⟨m,hn,hl⟩:=id I.loc;have hcls:(X.env.scope.kind == .class || (X.env.scope.kind == .module&&X.env.locals != X.env.globals))=false:=by rw[I.ok.kind];rfl
 have hiσ:i<σ.length:=by rw[I.len];exact (x_.mp hi).1
 have cne:=I.cne;have tracked:∀{a:Addr}{h':Heap},(∃o,s.heap.get? a=some o/\H a=none)->Heap.SameBut a s.heap h'->HOk X.prog X.w H h':=λ{a h'} ha hs b ob e=>by
  obtain⟨_,_,hfree⟩:=ha;refine (I.hok b ob e).stay (λc w' hc q=>(hs.2 c ?_).trans q) (λ_ q=>q) λ_ _ q=>q;rintro rfl;rcases hc with rfl |hc
  .rw[hfree] at e;cases e
  .rw[hfree] at hc;cases hc
 rcases hx with hk |hk
 .refine wpAny_storeName_local hk hn (λh' hn' hs=>?_) hcls;obtain⟨oL,_,_,hoL,_⟩:=id hn;refine h _ ⟨I.ok,I.os,I.bare,⟨λb o e n hb hx=>?_,λb o e n hb hx=>?_,I.base.free,λb o e hx=>?_,I.base.tups,I.base.frzs,I.base.tbls⟩,⟨_,hn',λj y v' e1 e2 e3=>?_⟩,λy c e=>?_,I.free,I.freeC,λp hp=>?_,tracked ⟨oL,hoL,I.free⟩ hs,by simpa using I.len⟩ ⟨_,hs,.inl rfl⟩
  .exact (hs.2 b (N2 (K_ (Em e) I.ok.above))).trans (I.base.keep b o e n hb hx)
  .obtain⟨sl,e1⟩:=I.base.slot b o e n hb hx;exact⟨sl,(hs.2 b (N2 (K_ (Em e) I.ok.above))).trans e1⟩
  .obtain⟨o',e1⟩:=I.base.there b o e hx;exact⟨o',(hs.2 b (N2 (K_ (Em e) I.ok.above))).trans e1⟩
  .by_cases hj:j=i
   .subst hj;rw[hi] at e1;cases e1;rw[PN hiσ] at e2;cases e2;exact⟨u,r,.inl ⟨hk,by simp⟩⟩
   .rw[Pe (Ne.symm hj)] at e2;obtain⟨u',r',q⟩:=hl j y v' e1 e2 e3;refine⟨u',r',?_⟩;rcases q with ⟨k,e⟩ |⟨k,c,e,z⟩
    .refine .inl ⟨k,?_⟩;have:y≠x:=λe=>hj (lL hN e1 (e ▸ hi));simp [this,e]
    .exact .inr ⟨k,c,e,z.sameBut hs (cne y c e)⟩
  .obtain⟨w',z⟩:=I.cell y c e;exact⟨w',z.sameBut hs (cne y c e)⟩
  .obtain⟨e,n,ne,nf,d⟩:=I.pin p hp;exact⟨(hs.2 p.1 ne).trans e,n,ne,nf,d⟩
 .have hfn:X.fn x=true:=by
   rcases hf with z |z
   .exact z
   .rw[z] at hk;cases hk
  obtain⟨c,hc⟩:=I.ok.has x (.inl hk);obtain⟨w',z⟩:=I.cell x c hc;refine wpAny_storeName_cell I.ok.kind hk hc z (λh' hc' hs=>?_);obtain⟨oc,hoc,hocd⟩:=id z;refine h { s with heap:=h' } ⟨I.ok,I.os,I.bare,⟨λb o e n hb hx=>?_,λb o e n hb hx=>?_,I.base.free,λb o e hx=>?_,I.base.tups,I.base.frzs,I.base.tbls⟩,⟨m,hn.sameBut hs (Ne.symm (cne x c hc)),λj y v' e1 e2 e3=>?_⟩,λy c' e=>?_,I.free,I.freeC,λp hp=>?_,tracked ⟨oc,hoc,I.freeC x c hc⟩ hs,by simpa using I.len⟩ ⟨c,hs,.inr hc⟩
  .exact (hs.2 b (N2 (K_ (Em e) (I.ok.cab x c hfn hc)))).trans (I.base.keep b o e n hb hx)
  .obtain⟨sl,e1⟩:=I.base.slot b o e n hb hx;exact⟨sl,(hs.2 b (N2 (K_ (Em e) (I.ok.cab x c hfn hc)))).trans e1⟩
  .obtain⟨o',e1⟩:=I.base.there b o e hx;exact⟨o',(hs.2 b (N2 (K_ (Em e) (I.ok.cab x c hfn hc)))).trans e1⟩
  .by_cases hj:j=i
   .subst hj;rw[hi] at e1;cases e1;rw[PN hiσ] at e2;cases e2;exact⟨u,r,.inr ⟨.inl hk,c,hc,hc'⟩⟩
   .rw[Pe (Ne.symm hj)] at e2;obtain⟨u',r',q⟩:=hl j y v' e1 e2 e3;refine⟨u',r',?_⟩;rcases q with q |⟨k,c',e,z'⟩
    .exact .inl q
    .refine .inr ⟨k,c',e,z'.sameBut hs ?_⟩;rintro rfl;exact hj (lL hN e1 (I.ok.inj _ _ _ e hc ▸ hi))
  .by_cases hcc:c'=c
   .subst hcc;exact⟨_,hc'⟩
   .obtain⟨w2,z2⟩:=I.cell y c' e;exact⟨w2,z2.sameBut hs hcc⟩
  .obtain⟨e,n,ne,nf,d⟩:=I.pin p hp;refine⟨(hs.2 p.1 ?_).trans e,n,ne,nf,d⟩;intro q;rw[q,hoc] at e;have q':oc=p.2:=NV e;exact d w' (by rw[<- q'];exact hocd)
def fA(I:Inv X pins σ H s)(hN:X.N.Nodup)(hi:X.N[i]?=some x)(hx:Loc X.env.scope x)(r:RelV v u)
 (h:∀s',Inv X pins (σ.set i (some v)) H s'->Q () s') (hf:X.fn x=true\/X.env.scope.names.lookup x=some .local):wpAny M A (storeName X.env x u) Q E s:=
 o9 I hN hi hx r (λs' I' _=>h s' I') hf
def Inv.call'(I:Inv X pins σ H s)(ho:s'.os=s.os)(u:Un (frs X.stack) ch H H' s.heap s'.heap)(hok:HOk X.prog X.w H' s'.heap)(hg:AllBare s'.gens)
 (hch:∀b∈ch,(b∈X.ex\/X.s₀.heap.objs.size<=b)/\b≠X.env.locals/\(∀x c,X.env.cells.lookup x=some c->c≠b)/\∀p∈X.pn++pins,p.1≠b):Inv X pins σ H' s':=by
 obtain⟨h',g',d',t',o'⟩:=s';have e:o'=s.os:=ho;subst e;exact I.call (g':=g') (t':=t') (d':=d') u hok hg hch
end
abbrev XK:=Value->Option Addr->Hp->Prop
abbrev St:=List (Option V)
abbrev VK:=V->Hp->Prop
abbrev TE:=St->Hp->VK->Prop
abbrev TT:=St->Hp->(Bool->Hp->Prop)->Prop
abbrev TA:=St->Hp->(List V->Hp->Prop)->Prop
structure Ends where
 nx:St->Hp->Prop
 rt:VK
 bk:St->Hp->Prop:=λ_ _=>False
 ct:St->Hp->Prop:=λ_ _=>False
abbrev TS:=Ends->St->Hp->Prop
def EP(X:Cx)(pins:Qi)(σ:St)(Q:VK)(u:Value)(s':Shared):Prop:=∃v H',Inv X pins σ H' s'/\RelV v u/\Q v H'
def TP(X:Cx)(pins:Qi)(σ:St)(Q:Bool->Hp->Prop)(b:Bool)(s':Shared):Prop:=∃H',Inv X pins σ H' s'/\Q b H'
def AP(X:Cx)(pins:Qi)(σ:St)(Q:List V->Hp->Prop)(us:List Value)(s':Shared):Prop:=∃vs H',Inv X pins σ H' s'/\Vals vs us/\Q vs H'
def SP(X:Cx)(pins:Qi)(D:Ends)(f:Flow)(s':Shared):Prop:=
 match f with
 |.next=>∃σ' H',Inv X pins σ' H' s'/\D.nx σ' H'
 |.brk=>∃σ' H',Inv X pins σ' H' s'/\D.bk σ' H'
 |.cont=>∃σ' H',Inv X pins σ' H' s'/\D.ct σ' H'
 |.ret u=>∃v σ' H',Inv X pins σ' H' s'/\RelV v u/\D.rt v H'
def PE(X:Cx)(e:Expr)(t:TE):Prop:=
 ∀(pins:Qi) (s:Shared) (σ:St) (H:Hp) (Q:VK),Inv X pins σ H s->t σ H Q->wpAny (model X.prog X.w) X.A (eval e X.env) (EP X pins σ Q) X.xe s
def PT(X:Cx)(e:Expr)(t:TT):Prop:=
 ∀(pins:Qi) (s:Shared) (σ:St) (H:Hp) (Q:Bool->Hp->Prop),Inv X pins σ H s->t σ H Q->wpAny (model X.prog X.w) X.A (isTrue e X.env (eval e X.env)) (TP X pins σ Q) X.xe s
def PW(X:Cx)(e:Expr)(t:TT):Prop:=
 ∀(g_:Sem Value) (pins:Qi) (s:Shared) (σ:St) (H:Hp) (Q:Bool->Hp->Prop),Inv X pins σ H s->t σ H Q->wpAny (model X.prog X.w) X.A (isTrue e X.env g_) (TP X pins σ Q) X.xe s
def PW.pt(h:PW X e t):PT X e t:=h _
def PA(X:Cx)(es:List Expr)(t:TA):Prop:=
 ∀(pos:Pos) (pins:Qi) (s:Shared) (σ:St) (H:Hp) (Q:List V->Hp->Prop),Inv X pins σ H s->t σ H Q->wpAny (model X.prog X.w) X.A (spliced (backTo pos (starEach es X.env))) (AP X pins σ Q) X.xe s
def PS(X:Cx)(st:Stmt)(t:TS):Prop:=
 ∀(pins:Qi) (s:Shared) (σ:St) (H:Hp) (D:Ends),Inv X pins σ H s->t D σ H->wpAny (model X.prog X.w) X.A (exec st X.env) (SP X pins D) X.xe s
def PSs(X:Cx)(st:List Stmt)(t:TS):Prop:=
 ∀(pins:Qi) (s:Shared) (σ:St) (H:Hp) (D:Ends),Inv X pins σ H s->t D σ H->wpAny (model X.prog X.w) X.A (execs st X.env) (SP X pins D) X.xe s
def thn(h:wpAny M A t Q E s)(hQ:∀a s,Q a s->Q' a s):wpAny M A t Q' E s:=N_ h hQ λ_ _ x=>x
section
variable{X:Cx}
def tVar(i:Nat):TE:=λσ H Q=>∃v,σ[i]?=some (some v)/\Q v H
def tC(v:V):TE:=λ_ H Q=>Q v H
def Ho(hN:X.N[i]?=some x)(hv:Vis X.env.scope x)(hd:(x==("__debug__" : Str))=false)(s_:(x==("__classdict__" : Str))=false):PE X (.Name x pos) (tVar i):=by
 intro pins s σ H Q I h;obtain⟨v,e,h⟩:=h;obtain⟨m,hn,hl⟩:=I.loc;obtain⟨u,r,l⟩:=hl i x v hN e hv;have l_:EP X pins σ Q u s:=⟨v,H,I,r,h⟩;rcases l with ⟨hk,hm⟩ |⟨hk,c,hc,hcell⟩
 .exact wpAny_Name (wpAny_loadName_local I.ok.kind hk hn hm l_) hd
 .rcases hk with hk |hk
  .exact wpAny_Name (wpAny_loadName_cell I.ok.kind hk hc hcell l_) hd
  .exact wpAny_Name (wpAny_loadName_free I.ok.kind hk hc hcell l_ s_) hd
def J7{i j pos}:PE X (.Constant (.int i) j pos) (tC (.int i)):=λ_ _ _ H _ I h=>wpAny_Constant_int ⟨.int i,H,I.tok _,⟨_,rfl⟩,h⟩
def Ll{b j pos}:PE X (.Constant (.bool b) j pos) (tC (.bl b)):=λ_ _ _ H _ I h=>Constant_bool ⟨.bl b,H,I,rfl,h⟩
def IV{j pos}:PE X (.Constant .none j pos) (tC .non):=λ_ _ _ H _ I h=>Constant_none ⟨.non,H,I,rfl,h⟩
def zG{x j pos}:PE X (.Constant (.str x) j pos) (tC (.str x)):=λ_ _ _ H _ I h=>Calls.Constant_str ⟨.str x,H,I.tok _,⟨_,rfl⟩,h⟩
def Gl(X:Cx)(x:Str):Prop:=X.env.kindOf x=some .globalImplicit
def j7(I:Inv X pins σ H s)(hg:Gl X x)(hm:X.mg x=some u)(h:Q u s)
 (hd:(x==("__debug__" : Str))=false):wpAny (model X.prog X.w) X.A (eval (.Name x pos) X.env) Q E s:=
 Pj I.ok.kind hg (Calls.loadGlobal_global (by rw[I.ok.glob];exact I.mod.glob.keeps I.bk) hm h) hd
def eZ(I:Inv X pins σ H s)(hg:Gl X x)(hm:X.mg x=none)(hv:bootBuiltins x=some u)(h:Q u s)
 (hn:x ≠ "__name__":=by decide) (hd:(x==("__debug__" : Str))=false:=by decide):wpAny (model X.prog X.w) X.A (eval (.Name x pos) X.env) Q E s:=by
 obtain⟨mb,h1,h2⟩:=I.mod.blt;exact Pj I.ok.kind hg (Calls.loadGlobal_builtin (by rw[I.ok.glob];exact I.mod.glob.keeps I.bk) hm (by rw[I.ok.blt];exact h1.keeps I.bk) ((h2 x hn).trans hv) h) hd
def uP(hg:Gl X x)(hm:X.mg x=some u)(r:RelV v u)(hd:(x==("__debug__" : Str))=false):PE X (.Name x pos) (tC v):=
 λ_ _ _ H _ I h=>j7 I hg hm ⟨v,H,I,r,h⟩ hd
def EH(hg:Gl X x)(hm:X.mg x=none)(hv:bootBuiltins x=some u)(r:RelV v u)(hn:x ≠ "__name__")(hd:(x==("__debug__" : Str))=false):PE X (.Name x pos) (tC v):=
 λ_ _ _ H _ I h=>eZ I hg hm hv ⟨v,H,I,r,h⟩ hn hd
variable{a b:Expr}{ta tb:TE}{pos:Pos}
def tB(t:TE):TT:=λσ H Q=>t σ H λx H1=>∃c,x=.bl c/\Q c H1
def JK(h:PE X e t)(he:∀g_,isTrue e X.env g_=(do let v <- g_;standAt e.pos;holding [v] (truthy v))):PT X e (tB t):=by intro pins s σ H Q I hw;refine isTrue_plain (thn (h pins s σ H _ I hw) λv s1 ⟨x,H1,I1,r1,q1⟩=>?_) (he _);obtain⟨d,rfl,q⟩:=q1;cases r1;exact O2 ⟨H1,I1,q⟩
variable{tA tB':TT}{rest:List Expr}
def tAnd(t u:TT):TT:=λσ H Q=>t σ H λc H1=>if c=true then u σ H1 Q else Q false H1
def tOr(t u:TT):TT:=λσ H Q=>t σ H λc H1=>if c=true then Q true H1 else u σ H1 Q
def tNot(t:TT):TT:=λσ H Q=>t σ H λc H1=>Q (!c) H1
def EA(ha:PT X a tA):PW X (.BoolOp .And [a] pos) tA:=by
 intro wh pins s σ H Q I h;refine isTrue_and (thn (ha pins s σ H Q I h) λc s1 e=>?_);cases c with
 |true=>exact isTrue_and_nil e
 |false=>exact e
def ID(ha:PT X a tA):PW X (.BoolOp .Or [a] pos) tA:=by
 intro wh pins s σ H Q I h;refine isTrue_or (thn (ha pins s σ H Q I h) λc s1 e=>?_);cases c with
 |false=>exact isTrue_or_nil e
 |true=>exact e
def Gg(ha:PT X a tA)(hb:PW X (.BoolOp .And (b::rest) pos) tB'):PW X (.BoolOp .And (a::b::rest) pos) (tAnd tA tB'):=by
 intro wh pins s σ H Q I h;refine isTrue_and (thn (ha pins s σ H _ I h) λc s1 ⟨H1,I1,q1⟩=>?_);cases c with
 |true=>exact hb wh pins s1 σ H1 Q I1 q1
 |false=>exact⟨H1,I1,q1⟩
def Mb(ha:PT X a tA)(hb:PW X (.BoolOp .Or (b::rest) pos) tB'):PW X (.BoolOp .Or (a::b::rest) pos) (tOr tA tB'):=by
 intro wh pins s σ H Q I h;refine isTrue_or (thn (ha pins s σ H _ I h) λc s1 ⟨H1,I1,q1⟩=>?_);cases c with
 |true=>exact⟨H1,I1,q1⟩
 |false=>exact hb wh pins s1 σ H1 Q I1 q1
def HY(ha:PT X a tA):PT X (.UnaryOp .Not a pos) (tNot tA):=by intro pins s σ H Q I h;exact isTrue_not (ha pins s σ H (λc H1=>Q (!c) H1) I h)
def Mf(ta tb:TE):TE:=λσ H Q=>ta σ H λx H1=>∃c,x=.bl c/\if c=true then tb σ H1 Q else Q (.bl false) H1
def Nt(ta:TE):TE:=λσ H Q=>ta σ H λx H1=>∃c,x=.bl c/\Q (.bl (!c)) H1
def HC{op}(h:PE X a t):PE X (.BoolOp op [a] pos) t:=λpins s σ H Q I hw=>BoolOp_one (h pins s σ H Q I hw)
def JM(ha:PE X a ta)(hb:PE X (.BoolOp .And (b::rest) pos) tb):PE X (.BoolOp .And (a::b::rest) pos) (Mf ta tb):=by
 intro pins s σ H Q I h;refine BoolOp_and (thn (ha pins s σ H _ I h) λv s1 ⟨x,H1,I1,r1,q1⟩=>?_);obtain⟨c,rfl,q1⟩:=q1;cases r1;refine O2 ?_;cases c with
 |true=>exact hb pins s1 σ H1 Q I1 q1
 |false=>exact⟨.bl false,H1,I1,rfl,q1⟩
def Jn(ha:PE X a ta):PE X (.UnaryOp .Not a pos) (Nt ta):=by intro pins s σ H Q I h;refine UnaryOp_ (thn (ha pins s σ H _ I h) λv s1 ⟨x,H1,I1,r1,q1⟩=>?_);obtain⟨c,rfl,q1⟩:=q1;cases r1;exact not_of (O2 ⟨.bl (!c),H1,I1,rfl,q1⟩)
def tIf(t:TT)(ta tb:TE):TE:=λσ H Q=>t σ H λc H1=>if c=true then ta σ H1 Q else tb σ H1 Q
def B6(hc:PT X c tA)(ha:PE X a ta)(hb:PE X b tb):PE X (.IfExp c a b pos) (tIf tA ta tb):=by
 intro pins s σ H Q I h;refine wpAny_IfExp (thn (hc pins s σ H _ I h) λd s1 ⟨H1,I1,q1⟩=>?_);cases d with
 |true=>exact ha pins s1 σ H1 Q I1 q1
 |false=>exact hb pins s1 σ H1 Q I1 q1
end
def SqL(K:W.Frag)(H:Hp)(a:Addr)(xs:List V):Prop:=
 Rd H a (.lst xs)\/
  ∃(o:Obj) (its:Array Value) (n:Nat),K.lookup a=some o/\o.cls=.type "list" /\ o.dict=none/\o.data=.seq its n/\its.size<=sizeLine/\Vals xs its.toList
def SqT(K:W.Frag)(H:Hp)(a:Addr)(xs:List V):Prop:=
 Rd H a (.tup xs)\/
  ∃(o:Obj) (its:Array Value) (n:Nat),K.lookup a=some o/\o.cls=.type "tuple" /\ o.data=.seq its n/\its.size<=sizeLine/\Vals xs its.toList
noncomputable def absV:Value->Option V
 |.none=>some .non
 |.bool b=>some (.bl b)
 |.int i _=>some (.int i)
 |.str x _=>some (.str x)
 |.bytes b _=>some (.byt b)
 |.float b _=>some (.flt b)
 |.ref a=>some (.ref a)
 |.type n=>some (.ty n)
 |_=>none
def RelV.abs(r:RelV x u):absV u=some x:=by
 cases x with
 |non=>cases r;rfl
 |bl _=>cases r;rfl
 |int _=>obtain⟨t,rfl⟩:=r;rfl
 |str _=>obtain⟨t,rfl⟩:=r;rfl
 |byt _=>obtain⟨t,rfl⟩:=r;rfl
 |flt _=>obtain⟨t,rfl⟩:=r;rfl
 |ref _=>cases r;rfl
 |ty _=>cases r;rfl
def RelV.inj(r:RelV x u)(q:RelV y u):x=y:=NV (r.abs.symm.trans q.abs)
def Vals.inj(r:Vals xs us)(q:Vals ys us):xs=ys:=by
 induction r generalizing ys with
 |nil=>cases q;rfl
 |
  cons r t ih=>
  cases q with
  |cons q t'=>rw[r.inj q,ih t']
section
variable{X:Cx}{pins:Qi}{σ:St}{H:Hp}{s:Shared}{a:Addr}{xs ys:List V}
def SqL.of{K:W.Frag}(h:H a=some (.lst xs)):SqL K H a xs:=.inl (.inl h)
def SqT.of{K:W.Frag}(h:H a=some (.tup xs)):SqT K H a xs:=.inl (.inl h)
def Inv.list(I:Inv X pins σ H s)(h:SqL X.K H a xs):∃its:List Value,Vals xs its/\PlainL s.heap a its.toArray/\xs.length<=sizeLine:=by
 rcases h with h |⟨o,its,n,hk,hc,hd,hs,hz,r⟩
 .obtain⟨z,its,n,r,e⟩:=h.ok I.hok;exact⟨its,r,⟨_,n,e,rfl,rfl,rfl⟩,z⟩
 .refine⟨its.toList,r,⟨o,n,I.kIn a o hk,hc,hd,by simpa using hs⟩,?_⟩;have e:=r.length;simp only[Qb] at e;omega
def Inv.tuple(I:Inv X pins σ H s)(h:SqT X.K H a xs):∃its:List Value,Vals xs its/\IsTup s.heap a its.toArray/\xs.length<=sizeLine:=by
 rcases h with h |⟨o,its,n,hk,hc,hs,hz,r⟩
 .obtain⟨z,its,r,p⟩:=h.ok I.hok;exact⟨its,r,p,z⟩
 .refine⟨its.toList,r,⟨o,I.kIn a o hk,hc,n,by simpa using hs⟩,?_⟩;have e:=r.length;simp only[Qb] at e;omega
def Inv.list_inj(I:Inv X pins σ H s)(h:SqL X.K H a xs)(h':SqL X.K H a ys):xs=ys:=by
 obtain⟨its,r,⟨o,n,e,_,_,d⟩,_⟩:=I.list h;obtain⟨its',r',⟨o',n',e',_,_,d'⟩,_⟩:=I.list h';rw[e] at e';cases e';rw[d] at d';injection d' with d1 _;have:its=its':=by simpa using Og Array.toList d1
 subst this;exact r.inj r'
def Inv.tuple_inj(I:Inv X pins σ H s)(h:SqT X.K H a xs)(h':SqT X.K H a ys):xs=ys:=by
 obtain⟨its,r,⟨o,e,_,n,d⟩,_⟩:=I.tuple h;obtain⟨its',r',⟨o',e',_,n',d'⟩,_⟩:=I.tuple h';rw[e] at e';cases e';rw[d] at d';injection d' with d1 _;have:its=its':=by simpa using Og Array.toList d1
 subst this;exact r.inj r'
end
section
variable{X:Cx}{st:Stmt}{rest:List Stmt}{t u:TS}{e:Expr}{te:TE}{pos:Pos}
def Mw:TS:=λD σ H=>D.nx σ H
def tSeq(t u:TS):TS:=λD σ H=>t { D with nx:=u D } σ H
def Eh:PSs X [] Mw:=λ_ _ σ H _ I h=>Pt ⟨σ,H,I,h⟩
def BK(h1:PS X st t)(h2:PSs X rest u):PSs X (st::rest) (tSeq t u):=by
 intro pins s σ H D I h;refine wpAny_execs_cons (thn (h1 pins s σ H { D with nx:=u D } I h) λf s1 q=>?_);cases f with
 |next=>obtain⟨σ',H',I',q⟩:=q;exact h2 pins s1 σ' H' D I' q
 |ret v=>exact q
 |brk=>exact q
 |cont=>exact q
def DN(h1:PS X st t):PSs X [st] t:=by
 intro pins s σ H D I h;refine wpAny_execs_cons (thn (h1 pins s σ H D I h) λf s1 q=>?_);cases f with
 |next=>exact Pt q
 |ret v=>exact q
 |brk=>exact q
 |cont=>exact q
def Nv:TS:=λD σ H=>D.ct σ H
def t9:PS X (.Continue pos) Nv:=λ_ _ σ H _ I h=>wpAny_Continue ⟨σ,H,I,h⟩
def Inv.quiet(I:Inv X pins σ H s):interactive X.env=false:=by simp [interactive,I.ok.kind]
def M7(te:TE):TS:=λD σ H=>te σ H λ_ H1=>D.nx σ H1
def DV(he:PE X e te)(hs:swapsWith e none pos.line X.env=pure false):PS X (.Expr e pos) (M7 te):=by intro pins s σ H D I h;exact wpAny_Expr_any (thn (he pins s σ H _ I h) λv s1 ⟨x,H1,I1,r1,q1⟩=>⟨σ,H1,I1,q1⟩) I.quiet hs
def tRet(te:TE):TS:=λD σ H=>te σ H D.rt
def IU(he:PE X e te):PS X (.Return (some e) pos) (tRet te):=by intro pins s σ H D I h;exact wpAny_Return_some (thn (he pins s σ H _ I h) λv s1 ⟨x,H1,I1,r1,q1⟩=>⟨x,σ,H1,I1,r1,q1⟩)
def tIfS(c:TT)(t u:TS):TS:=λD σ H=>c σ H λb H1=>if b=true then t D σ H1 else u D σ H1
def ND(hc:PT X c tc)(ha:PSs X a t)(hb:PSs X b u):PS X (.If c a b pos) (tIfS tc t u):=by
 intro pins s σ H D I h;refine wpAny_If (thn (hc pins s σ H _ I h) λd s1 ⟨H1,I1,q1⟩=>?_);cases d with
 |true=>exact ha pins s1 σ H1 D I1 q1
 |false=>exact hb pins s1 σ H1 D I1 q1
end
abbrev TG:=V->St->Hp->(St->Hp->Prop)->Prop
abbrev TGs:=List V->St->Hp->(St->Hp->Prop)->Prop
def PG(X:Cx)(target:Expr)(t:TG):Prop:=
 ∀
  (pins:Qi) (s:Shared) (σ:St) (H:Hp) (v:V) (u:Value) (Q:St->Hp->Prop),Inv X pins σ H s->RelV v u->t v σ H Q->
  wpAny (model X.prog X.w) X.A (assign target X.env u) (λ_ s'=>∃σ' H',Inv X pins σ' H' s'/\Q σ' H') X.xe s
def PGs(X:Cx)(ts:List Expr)(t:TGs):Prop:=
 ∀
  (pins:Qi) (s:Shared) (σ:St) (H:Hp) (vs:List V) (us:List Value) (Q:St->Hp->Prop),Inv X pins σ H s->Vals vs us->t vs σ H Q->
  wpAny (model X.prog X.w) X.A (assignInOrder ((assignEach ts X.env).map (·.2)) us) (λ_ s'=>∃σ' H',Inv X pins σ' H' s'/\Q σ' H') X.xe s
abbrev w9:=V->V->V->Hp->(Hp->Prop)->Prop
def rm(X:Cx)(t:w9):Prop:=
 ∀
  (pins:Qi) (s:Shared) (σ:St) (H:Hp) (o i v:V) (ov iv u:Value) (Q:Hp->Prop),Inv X pins σ H s->RelV o ov->RelV i iv->RelV v u->t o i v H Q->
  wpAny (model X.prog X.w) X.A (setItem ov iv u) (λ_ s'=>∃H',Inv X pins σ H' s'/\Q H') X.xe s
abbrev TIp:=V->V->Hp->VK->Prop
def PIp(X:Cx)(op:Operator)(t:TIp):Prop:=
 ∀
  (pins:Qi) (s:Shared) (σ:St) (H:Hp) (x y:V) (v u:Value) (Q:VK),Inv X pins σ H s->RelV x v->RelV y u->t x y H Q->
  wpAny (model X.prog X.w) X.A (inplaceOp op v u) (EP X pins σ Q) X.xe s
section
variable{X:Cx}{pos:Pos}
def mO(i:Nat):TG:=λv σ H Q=>Q (σ.set i (some v)) H
def Dn(hN:X.N.Nodup)(hi:X.N[i]?=some x)(hx:Loc X.env.scope x)(hf:X.fn x=true\/X.env.scope.names.lookup x=some .local):PG X (.Name x pos) (mO i):=by intro pins s σ H v u Q I r h;exact wpAny_assign_Name (fA I hN hi hx r (λs' I'=>⟨_,H,I',h⟩) hf)
def gNil:TGs:=λvs σ H Q=>vs=[]/\Q σ H
def LC(t:TG)(u:TGs):TGs:=λvs σ H Q=>∃v r,vs=v::r/\t v σ H λσ' H'=>u r σ' H' Q
def D6:PGs X [] gNil:=by intro pins s σ H vs us Q I r h;obtain⟨e,h⟩:=h;subst e;cases r;exact assignInOrder_nil ⟨σ,H,I,h⟩
def Bc(h1:PG X e t)(h2:PGs X es u)
 (hs:(assignEach (e::es) X.env).map (·.2)=assign e X.env::(assignEach es X.env).map (·.2)):PGs X (e::es) (LC t u):=by
 intro pins s σ H vs us Q I r h;obtain⟨v,vr,e1,h⟩:=h;subst e1;cases r with
 |cons r rr=>rw[hs];refine assignInOrder_cons (thn (h1 pins s σ H _ _ _ I r h) λ_ s1 ⟨σ1,H1,I1,q1⟩=>?_);exact h2 pins s1 σ1 H1 _ _ Q I1 rr q1
def gTup(K:W.Frag)(n:Nat)(t:TGs):TG:=λv σ H Q=>∃a xs,v=.ref a/\SqT K H a xs/\xs.length=n/\t xs σ H Q
def xV(hc:X.calm=true)(h:PGs X es t)
 (hn:(assignEach es X.env).length=n) (hst:(assignEach es X.env).findIdx? (·.1)=none):PG X (.Tuple es k pos) (gTup X.K n t):=by
 intro pins s σ H v u Q I r hw;obtain⟨a,xs,e1,hq,hl,hw⟩:=hw;subst e1;cases r;obtain⟨its,rv,ht,hz⟩:=I.tuple hq;refine assign_Tuple_tuple (I.ok.hd hc) ht (by simp [hn,<- hl,rv.length]) hst λh' hx=>?_;have I1:Inv X pins σ H { s with heap:=h' }:=I.kept (t':=s.toks) λb o e=>hx b o (N2 (Em e)) e;exact h pins _ σ H xs _ Q I1 (by simpa using rv) hw
def gSub(to ti:TE)(t:w9):TG:=λv σ H Q=>to σ H λo H1=>ti σ H1 λi H2=>t o i v H2 λH3=>Q σ H3
def Gj(ho:PE X o to)(hi:PE X i ti)(hs:rm X t)
 (ha:∀v,assign (.Subscript o i pos) X.env v=(do
  let ov <- holding [v] (eval o X.env)
  let iv <- holding [v,ov] (eval i X.env)
  standAt pos
  holding [v,ov,iv] (setItem ov iv v)
  release [v,ov,iv] [])):PG X (.Subscript o i pos) (gSub to ti t):=by
 intro pins s σ H v u Q I r h;rw[ha];refine v_ (O8 (thn (ho pins s σ H _ I h) λov s1 ⟨x,H1,I1,r1,q1⟩=>?_));refine v_ (O8 (thn (hi pins s1 σ H1 _ I1 q1) λiv s2 ⟨y,H2,I2,r2,q2⟩=>?_));refine v_ (PU (v_ (O8 (thn (hs pins s2 σ H2 x y v ov iv u _ I2 r1 r2 r q2) λ_ s3 ⟨H3,I3,q3⟩=>?_))));exact wpAny_release ⟨σ,H3,I3,q3⟩
def tf(te:TE)(g:TG):TS:=λD σ H=>te σ H λx H1=>g x σ H1 D.nx
def Hg(he:PE X e te)(hg:PG X tg g)(hs:swapsWithSole [tg] e pos.line X.env=pure false)(hw:swappedStores [tg] e X.env=pure none)
 (h1:(assignEach [tg] X.env).map (·.2)=[assign tg X.env]):PS X (.Assign [tg] e pos) (tf te g):=by
 intro pins s σ H D I h;refine wpAny_Assign_stores (thn (he pins s σ H _ I h) λv s1 ⟨x,H1,I1,r1,q1⟩=>?_) hs hw;rw[h1];exact thn (hg pins s1 σ H1 x v _ I1 r1 q1) λ_ s2 q=>q
def Hx(hN:X.N.Nodup)(hi:X.N[i]?=some x)(hx:Loc X.env.scope x)(he:PE X e te)(hs:swapsWith e (some (.Name x r_)) pos.line X.env=pure false)(hf:X.fn x=true\/X.env.scope.names.lookup x=some .local):
 PS X (.Assign [.Name x r_] e pos) (tf te (mO i)):=by
 intro pins s σ H D I h;refine wpAny_Assign_Name (thn (he pins s σ H _ I h) λv s1 ⟨y,H1,I1,r1,q1⟩=>?_) hs;exact fA I1 hN hi hx r1 (λs2 I2=>⟨_,H1,I2,q1⟩) hf
def tPar(i j:Nat)(ta:TA):TS:=λD σ H=>ta σ H λvs H1=>∃v w,vs=[v,w]/\D.nx ((σ.set i (some v)).set j (some w)) H1
def Gw{kt k2 pt2}(hc:X.calm=true)(hN:X.N.Nodup)(hi:X.N[i]?=some x)(hj:X.N[j]?=some y)(hij:i≠j)
 (hx:X.env.scope.names.lookup x=some .local) (hy:X.env.scope.names.lookup y=some .local) (ha:PA X [a,b] ta)
 (hw:swappedStores [.Tuple [.Name x px,.Name y py] kt pt] (.Tuple [a,b] k2 pt2) X.env=pure (some [x,y]))
 (hs:swapsWithSole [.Tuple [.Name x px,.Name y py] kt pt] (.Tuple [a,b] k2 pt2) pos.line X.env=pure false):
 PS X (.Assign [.Tuple [.Name x px,.Name y py] kt pt] (.Tuple [a,b] k2 pt2) pos) (tPar i j ta):=by
 intro pins s σ H D I h;rw[exec_Assign_arm];refine v_ (PU ?_);rw[hs];refine v_ (D_ ?_);rw[if_neg (by decide)];refine v_ (Tuple_ (thn (ha _ pins s σ H _ I h) λus s1 ⟨vs,H1,I1,r1,q1⟩=>?_));obtain⟨v,w,e1,q1⟩:=q1;subst e1;obtain⟨u1,u2,rfl,rv,rw'⟩:∃u1 u2,us=[u1,u2]/\RelV v u1/\RelV w u2:=by
  cases r1 with
  |
   cons p q=>
   cases q with
   |cons p' q'=>cases q';exact⟨_,_,rfl,p,p'⟩
 refine OC ?_ (by show 2<=sizeLine;decide);have I2:Inv X pins σ H1 { s1 with heap:=s1.heap.push { cls:=.type "tuple",data:=.seq [u1,u2].toArray } }:=I1.kept (t':=s1.toks) λb o e=>B_ _ e;rw[hw];refine v_ (D_ ?_);show wpAny (model X.prog X.w) X.A (do rule "assign.swapped-stores";let items <- unpackItems (.ref s1.heap.objs.size) 2 none;assignInOrder [λv=>bindName X.env y v,λv=>bindName X.env x v] items.reverse;pure Flow.next) _ _ _;refine v_ (wpAny_rule (v_ (unpackItems_tuple (items:=#[u1,u2]) (I.ok.hd hc) (IsTup.new s1.heap _) λh' hx'=>?_)));have I3:=I2.kept (h':=h') (t':=s1.toks) λb o e=>hx' b o (N2 (Em e)) e;show wpAny _ _ (assignInOrder [λv=>bindName X.env y v,λv=>bindName X.env x v] [u2,u1] >>= λ_=>pure Flow.next) _ _ _;refine v_ (assignInOrder_cons (wpAny_bindName (fA I3 hN hj (.inl hy) rw' (λs2 I4=>?_) (.inr hy))));refine assignInOrder_cons (wpAny_bindName (fA I4 hN hi (.inl hx) rv (λs3 I5=>assignInOrder_nil (D_ ?_)) (.inr hx)));rw[List.set_comm _ _ (Ne.symm hij)] at I5;exact⟨_,H1,I5,q1⟩
def tAug(i:Nat)(te:TE)(ti:TIp):TS:=λD σ H=>∃x,σ[i]?=some (some x)/\te σ H λy H1=>ti x y H1 λz H2=>D.nx (σ.set i (some z)) H2
def HM(hN:X.N.Nodup)(hi:X.N[i]?=some x)(hx:Loc X.env.scope x)(he:PE X e te)(ho:PIp X op ti)(hf:X.fn x=true\/X.env.scope.names.lookup x=some .local):
 PS X (.AugAssign (.Name x r_) op e pos) (tAug i te ti):=by
 intro pins s σ H D I h;obtain⟨v,e1,h⟩:=h;obtain⟨m,hn,hl⟩:=I.loc;have vis:Vis X.env.scope x:=by rcases hx with k |k;exact .inl k;exact .inr (.inl k)
 obtain⟨u,r,l⟩:=hl i x v hi e1 vis;refine wpAny_AugAssign_Name ?_;have go:wpAny (model X.prog X.w) X.A (eval e X.env) (λw s₂=>wpAny (model X.prog X.w) X.A (inplaceOp op u w) (λr s₃=>wpAny (model X.prog X.w) X.A (storeName X.env x r) (λ_=>SP X pins D .next) X.xe s₃) X.xe s₂) X.xe s:=by refine thn (he pins s σ H _ I h) λw s1 ⟨y,H1,I1,r1,q1⟩=>?_;refine thn (ho pins s1 σ H1 v y u w _ I1 r r1 q1) λz s2 ⟨zv,H2,I2,r2,q2⟩=>?_;exact fA I2 hN hi hx r2 (λs3 I3=>⟨_,H2,I3,q2⟩) hf
 rcases l with ⟨hk,hm⟩ |⟨hk,c,hc,hcell⟩
 .exact wpAny_loadName_local I.ok.kind hk hn hm go
 .rcases hk with hk |hk
  .exact wpAny_loadName_cell I.ok.kind hk hc hcell go
  .rcases hx with k |k
   .have:X.env.scope.names.lookup x=some .free:=hk;rw[k] at this;cases this
   .have:X.env.scope.names.lookup x=some .free:=hk;rw[k] at this;cases this
def ipI(f:Int->Int->Int):TIp:=λx y H Q=>∃i j,x=.int i/\y=.int j/\Q (.int (f i j)) H
def Iu:PIp X .Add (ipI λi j=>i+j):=by intro pins s σ H x y v u Q I r1 r2 h;obtain⟨i,j,e1,e2,q⟩:=h;subst e1;subst e2;obtain⟨t,rfl⟩:=r1;obtain⟨t',rfl⟩:=r2;exact iadd_int ⟨.int _,H,I.tok _,⟨_,rfl⟩,q⟩
def F6(c:TT)(tb:TS):TS:=λD σ H=>∃W:Nat->St->Hp->Prop,(∃m,W m σ H)/\∀m σ H,W m σ H->
 c σ H λb H1=>if b=true then ∃N:St->Hp->Prop,(∀σ' H',N σ' H'->∃m',m'<m/\W m' σ' H')/\tb { D with nx:=N,ct:=N,bk:=D.nx } σ H1 else D.nx σ H1
def Az(hp:PassesOwn (model X.prog X.w) X.A X.env X.xe)(hc:PT X c tc)(hb:PSs X body tb):PS X (.While c body [] pos) (F6 tc tb):=by
 intro pins s σ H D I h;obtain⟨W,⟨m0,w0⟩,turn⟩:=h;refine wpAny_While (codeAny_whileLoop (λn s'=>∃σ' H',Inv X pins σ' H' s'/\W n σ' H') ?_ m0 ⟨σ,H,I,w0⟩);rintro n s1 ⟨σ1,H1,I1,w1⟩;refine O0 hp (thn (hc pins s1 σ1 H1 _ I1 (turn n σ1 H1 w1)) λb s2 ⟨H2,I2,q2⟩=>?_);cases b with
 |
  true=>
  obtain⟨N,hN,q2⟩:=q2;rw[if_pos rfl];refine O0 hp (thn (hb pins s2 σ1 H2 _ I2 q2) λf s3 q3=>?_);cases f with
  |next=>obtain⟨σ3,H3,I3,n3⟩:=q3;obtain⟨m',hm,w3⟩:=hN σ3 H3 n3;exact⟨m',hm,σ3,H3,I3,w3⟩
  |cont=>obtain⟨σ3,H3,I3,n3⟩:=q3;obtain⟨m',hm,w3⟩:=hN σ3 H3 n3;exact⟨m',hm,σ3,H3,I3,w3⟩
  |brk=>exact q3
  |ret v=>exact q3
 |false=>rw[if_neg y_];exact Pt ⟨σ1,H2,I2,q2⟩
end
structure It where
 go:Nat->Hp->Prop
 yld:Nat->Hp->V->Hp->Prop
 stop:Nat->Hp->Prop
def FpOk(X:Cx)(pins:Qi)(H:Hp)(b:Addr):Prop:=
 H b=none/\b≠X.env.locals/\b∉X.fs/\(b∈X.ex\/X.s₀.heap.objs.size<=b)/\(∀x c,X.env.cells.lookup x=some c->c≠b)/\∀p∈X.pn++pins,p.1≠b
def Inv.fpOk(I:Inv X pins σ H s)(hb:s.heap.objs.size<=b)(hn:H' b=none):FpOk X pins H' b:=by
 refine⟨hn,Pz (K_ I.lt hb),I.nofs hb,.inr (J_ I.sz hb),λx c e z=>?_,λp hp z=>?_⟩
 .obtain⟨v,q⟩:=I.cell x c e;exact absurd (K_ q.lt (by rw[z];exact hb)) (Ow _)
 .exact absurd (K_ (Em (I.pin p hp).1) (by rw[z];exact hb)) (Ow _)
structure Turn(P:Program)(w:World)(K:W.Frag)(tg:Expr)(J:It)(fp:List Addr)(it:Addr)(tn:Nat->Heap->Prop):Prop where
 mem:it∈fp
 obj:∀i h,tn i h->∀b∈fp,∃o,h.get? b=some o/\∀v,o.data ≠ .cell v
 keep:∀i h h',tn i h->(∀b∈fp,∀o,h.get? b=some o->h'.get? b=some o)->tn i h'
 item:∀(X:Cx),X.prog=P->X.w=w->X.K=K->X.calm=true->∀(i:Nat) (pins:Qi) (s:Shared) (σ:St) (H:Hp) (E:Qj),Inv X pins σ H s->(∀b∈fp,FpOk X pins H b)->tn i s.heap->J.go i H->
  wpAny (model P w) X.A (pyNext (.ref it)) (λr s1=>∃u,r=some u/\
   wpAny (model P w) X.A (letOwnedTupleGo tg (.ref it) u) (λ_ s2=>∃x H',Inv X pins σ H' s2/\RelV x u/\J.yld i H x H'/\tn (i+1) s2.heap/\∀b∈fp,H' b=none) E s1) E s
 done:∀(X:Cx),X.prog=P->X.w=w->X.K=K->X.calm=true->∀(i:Nat) (pins:Qi) (s:Shared) (σ:St) (H:Hp) (E:Qj),Inv X pins σ H s->(∀b∈fp,FpOk X pins H b)->tn i s.heap->J.stop i H->
  wpAny (model P w) X.A (pyNext (.ref it)) (λr s1=>r=none/\Inv X pins σ H s1) E s
 self:∀(A:Around) (i:Nat) (s:Shared) (Q:Qj) (E:Qj),tn i s.heap->Q (.ref it) s->wpAny (model P w) A (pyIter (.ref it)) Q E s
abbrev TI:=St->Hp->(It->Hp->Prop)->Prop
def PIE(X:Cx)(pins:Qi)(σ:St)(tg:Expr)(R:It->Hp->Prop)(itv:Value)(s2:Shared):Prop:=
 ∃(it:Addr) (fp:List Addr) (tn:Nat->Heap->Prop) (J:It) (H':Hp),itv=.ref it/\Inv X pins σ H' s2/\Turn X.prog X.w X.K tg J fp it tn/\tn 0 s2.heap/\(∀b∈fp,FpOk X pins H' b)/\R J H'
def PI(X:Cx)(tg a_:Expr)(wi:TI):Prop:=
 ∀
  (pins:Qi) (s:Shared) (σ:St) (H:Hp) (R:It->Hp->Prop),Inv X pins σ H s->wi σ H R->
  wpAny (model X.prog X.w) X.A (eval a_ X.env) (λv s1=>wpAny (model X.prog X.w) X.A (pyIter v) (PIE X pins σ tg R) X.xe s1) X.xe s
def wY(ho:s.heap.get? it=some o)(hc:o.cls=.type n)(hd:o.data=.fields vs)
 (hn:["enumerate", "zip", "dict_itemiterator", "dict_reverseitemiterator", "odict_iterator", "itertools.zip_longest", "itertools.pairwise"].contains n=false) (hQ:Q () s):wpAny M A (letOwnedTupleGo tg (.ref it) u) Q E s:=by
 unfold letOwnedTupleGo;cases tg
  <;> first
  |exact D_ hQ
  |(cases u <;> first
   |exact D_ hQ
   |(
    refine v_ (wpAny_load ho ?_);rw[hc,hd];show wpAny M A (if (["enumerate", "zip", "dict_itemiterator", "dict_reverseitemiterator", "odict_iterator", "itertools.zip_longest", "itertools.pairwise"].contains n&&vs[0]?==some (rawInt _))=true then _ else _) Q E s;rw[if_neg (by intro h;rw[hn,Bool.false_and] at h;cases h)];exact D_ hQ))
noncomputable def Itl(K:W.Frag)(a:Addr):It:=
 ⟨λi H=>∃xs x,SqL K H a xs/\xs[i]?=some x,λi H x H'=>H'=H/\∀xs,SqL K H a xs->xs[i]?=some x,λi H=>∃xs,SqL K H a xs/\xs.length<=i⟩
noncomputable def Itt(K:W.Frag)(a:Addr):It:=
 ⟨λi H=>∃xs x,SqT K H a xs/\xs[i]?=some x,λi H x H'=>H'=H/\∀xs,SqT K H a xs->xs[i]?=some x,λi H=>∃xs,SqT K H a xs/\xs.length<=i⟩
noncomputable def Itr(lo:Int)(n:Nat):It:=⟨λi _=>i<n,λi H x H'=>H'=H/\x=.int (lo+i),λi _=>n<=i⟩
def yB{P:Program}{w:World}{K:W.Frag}{tg:Expr}(a it:Addr):Turn P w K tg (Itl K a) [it] it (λi h=>h.IsListIter it a i) where
 mem:=by simp
 obj:=λi h st b hb=>by
  have e:b=it:=by simpa using hb
  subst e;obtain⟨o,e,c,d⟩:=st;exact⟨o,e,λv z=>by rw[d] at z;cases z⟩
 keep:=λi h h' st k=>st.at λo e=>k it (by simp) o e
 item:=by intro X hP hw hK hc i pins s σ H E I hf st hg;subst hP hw hK;obtain⟨xs,x,hq,hx⟩:=hg;obtain⟨its,rv,p,hz⟩:=I.list hq;obtain⟨u,hu,ru⟩:=rv.get hx;obtain⟨f0,f1,f2,f3,f4,f5⟩:=hf it (by simp);refine wpAny_pyNext_list_item st p.isList (x:=u) (by simpa using hu) λh' st' sb=>?_;have I1:Inv X pins σ H { s with heap:=h' }:=I.turned (t':=s.toks) (λb o hb e=>(sb.2 b hb).trans e) f0 f1 f3 f4 f5;obtain⟨o,e,c,d⟩:=id st';exact⟨u,rfl,wY (s:={ s with heap:=h' }) e c d (by decide) ⟨x,H,I1,ru,⟨rfl,λys hy=>by rw[I.list_inj hy hq];exact hx⟩,st',λb hb=>(hf b hb).1⟩⟩
 done:=by intro X hP hw hK hc i pins s σ H E I hf st hg;subst hP hw hK;obtain⟨xs,hq,hx⟩:=hg;obtain⟨its,rv,p,hz⟩:=I.list hq;obtain⟨f0,f1,f2,f3,f4,f5⟩:=hf it (by simp);have hl:=rv.length;exact wpAny_pyNext_list_end (I.ok.hd hc) st p.isList (by simp;omega) λh' eb=>⟨rfl,I.turned (t':=s.toks) (λb o hb e=>eb b o hb e) f0 f1 f3 f4 f5⟩
 self:=λ_ _ _ _ _ st h=>wpAny_pyIter_listiter st h
def vn{P:Program}{w:World}{K:W.Frag}{tg:Expr}(a it:Addr):Turn P w K tg (Itt K a) [it] it (λi h=>h.IsTupleIter it a i) where
 mem:=by simp
 obj:=λi h st b hb=>by
  have e:b=it:=by simpa using hb
  subst e;obtain⟨o,e,c,d⟩:=st;exact⟨o,e,λv z=>by rw[d] at z;cases z⟩
 keep:=λi h h' st k=>st.at λo e=>k it (by simp) o e
 item:=by intro X hP hw hK hc i pins s σ H E I hf st hg;subst hP hw hK;obtain⟨xs,x,hq,hx⟩:=hg;obtain⟨its,rv,p,hz⟩:=I.tuple hq;obtain⟨u,hu,ru⟩:=rv.get hx;obtain⟨f0,f1,f2,f3,f4,f5⟩:=hf it (by simp);refine wpAny_pyNext_tuple_item st (show s.heap.IsTuple a its.toArray from p) (x:=u) (by simpa using hu) λh' st' sb=>?_;have I1:Inv X pins σ H { s with heap:=h' }:=I.turned (t':=s.toks) (λb o hb e=>(sb.2 b hb).trans e) f0 f1 f3 f4 f5;obtain⟨o,e,c,d⟩:=id st';exact⟨u,rfl,wY (s:={ s with heap:=h' }) e c d (by decide) ⟨x,H,I1,ru,⟨rfl,λys hy=>by rw[I.tuple_inj hy hq];exact hx⟩,st',λb hb=>(hf b hb).1⟩⟩
 done:=by intro X hP hw hK hc i pins s σ H E I hf st hg;subst hP hw hK;obtain⟨xs,hq,hx⟩:=hg;obtain⟨its,rv,p,hz⟩:=I.tuple hq;obtain⟨f0,f1,f2,f3,f4,f5⟩:=hf it (by simp);have hl:=rv.length;exact wpAny_pyNext_tuple_end (I.ok.hd hc) st (show s.heap.IsTuple a its.toArray from p) (by simp;omega) λh' eb=>⟨rfl,I.turned (t':=s.toks) (λb o hb e=>eb b o hb e) f0 f1 f3 f4 f5⟩
 self:=λ_ _ _ _ _ st h=>wpAny_pyIter_tupleiter st h
def vK{P:Program}{w:World}{K:W.Frag}{tg:Expr}(it:Addr)(lo:Int)(n:Nat):Turn P w K tg (Itr lo n) [it] it (λi h=>IsRangeIter h it (lo+(i:Nat)*1) ((n:Int)-(i:Nat)) 1) where
 mem:=by simp
 obj
  := λi h st b hb=>by
  have e:b=it:=by simpa using hb
  subst e;exact⟨_,st,λv z=>by have z':Data.fields _=Data.cell v:=z;cases z'⟩
 keep:=λi h h' st k=>k it (by simp) _ st
 item:=by intro X hP hw hK hc i pins s σ H E I hf st hg;subst hP hw hK;obtain⟨f0,f1,f2,f3,f4,f5⟩:=hf it (by simp);have W:=Walks.range (prog:=X.prog) (w:=X.w) (I.ok.hd hc) it lo 1 n;refine W.item i s _ _ hg st λv h' tk hv st' kk=>?_;obtain⟨t,rfl⟩:=hv;have I1:Inv X pins σ H { s with heap:=h',toks:=tk }:=I.turned (λb o hb e=>kk b o (by simpa using hb) e) f0 f1 f3 f4 f5;refine⟨_,rfl,wY (s:={ s with heap:=h',toks:=tk }) (n:="range_iterator") st' rfl rfl (by decide) ⟨.int (lo+i),H,I1,⟨t,?_⟩,⟨rfl,rfl⟩,st',λb hb=>(hf b hb).1⟩⟩;rw[Int.mul_one]
 done:=by intro X hP hw hK hc i pins s σ H E I hf st hg;subst hP hw hK;obtain⟨f0,f1,f2,f3,f4,f5⟩:=hf it (by simp);exact wpAny_pyNext_range_end (I.ok.hd hc) st (by have:n<=i:=hg;omega) λh' eb=>⟨rfl,I.turned (t':=s.toks) (λb o hb e=>eb b o hb e) f0 f1 f3 f4 f5⟩
 self:=λ_ _ _ _ _ st h=>wpAny_pyIter_rangeiter st h
section
variable{X:Cx}{tg:Expr}
def tF{pins:Qi}{σ:St}{H:Hp}{s:Shared}{R:It->Hp->Prop}{E:Qj}{lo hi:Int}{t u v:Tok}{tk:Nat}(I:Inv X pins σ H s)(h1:-(2^62)<=lo)(h2:lo<2^62)(h3:-(2^62)<=hi)(h4:hi<2^62)
 (q:R (Itr lo (hi-lo).toNat) H):wpAny (model X.prog X.w) X.A (pyIter (.ref s.heap.objs.size)) (PIE X pins σ tg R) E { s with heap:=s.heap.push { cls:=.type "range",data:=.fields #[.int lo t,.int hi u,.int 1 v] },toks:=tk }:=by
 refine wpAny_pyIter_range (IsRange.new ..) (small_one h1 h2 h3 h4) ?_;have I1:Inv X pins σ H { s with heap:=s.heap.push { cls:=.type "range",data:=.fields #[.int lo t,.int hi u,.int 1 v] },toks:=tk }:=I.kept λb o e=>B_ _ e;refine⟨(s.heap.push { cls:=.type "range",data:=.fields #[.int lo t,.int hi u,.int 1 v] }).objs.size,[(s.heap.push { cls:=.type "range",data:=.fields #[.int lo t,.int hi u,.int 1 v] }).objs.size],_,_,H,rfl,
  I1.kept (t':=tk) λb o e=>B_ _ e,vK _ lo (hi-lo).toNat,?_,λb hb=>?_,q⟩
 .have e1:lo+((0:Nat):Int)*1=lo:=by simp
  have e2:(((hi-lo).toNat:Nat):Int)-((0:Nat):Int)=Builtin.Range.rangeSize lo hi 1:=by rw[rangeSize_one];split <;> omega
  show IsRangeIter _ _ (lo+((0:Nat):Int)*1) ((((hi-lo).toNat:Nat):Int)-((0:Nat):Int)) 1;rw[e1,e2];exact NW _ rfl
 .have e:b=(s.heap.push { cls:=.type "range",data:=.fields #[.int lo t,.int hi u,.int 1 v] }).objs.size:=by simpa using hb
  subst e;exact I1.fpOk (z_ _) (I1.hok.fresh (z_ _))
def MF(ta:TA):TI:=λσ H R=>ta σ H λvs H1=>∃j:Int,vs=[.int j]/\-(2^62)<=j/\j<2^62/\R (Itr 0 j.toNat) H1
def Nw(ta:TA):TI:=λσ H R=>ta σ H λvs H1=>∃i j:Int,vs=[.int i,.int j]/\(-(2^62)<=i/\i<2^62/\-(2^62)<=j/\j<2^62)/\R (Itr i (j-i).toNat) H1
def zE(hg:Gl X "range")(hm:X.mg "range"=none)(ha:PA X [a] ta)(hs:starEach [a] X.env=[(false,eval a X.env)]):PI X tg (.Call (.Name "range" p) [a] [] pos) (MF ta):=by
 intro pins s σ H R I h;refine Call_ (eZ I hg hm boot_range (Ol (thn (ha pos pins s σ H _ I h) λus s1 ⟨vs,H1,I1,r1,q1⟩=>?_) hs rfl));obtain⟨j,e,q1,q2,q⟩:=q1;subst e;cases r1 with
 |cons r rr=>cases rr;obtain⟨t,rfl⟩:=r;exact call_range_1 (tF I1 (by omega) (by omega) q1 q2 (by simpa using q))
def ym(hg:Gl X "range")(hm:X.mg "range"=none)(ha:PA X [a,b] ta)(hs:starEach [a,b] X.env=[(false,eval a X.env),(false,eval b X.env)])(hs2:starEach [b] X.env=[(false,eval b X.env)]):
 PI X tg (.Call (.Name "range" p) [a,b] [] pos) (Nw ta):=by
 intro pins s σ H R I h;refine Call_ (eZ I hg hm boot_range (Ol (thn (ha pos pins s σ H _ I h) λus s1 ⟨vs,H1,I1,r1,q1⟩=>?_) (by rw[hs,hs2]) (by rw[hs2];rfl)));obtain⟨i,j,e,⟨q1,q2,q3,q4⟩,q⟩:=q1;subst e;cases r1 with
 |
  cons r rr=>
  cases rr with
  |cons r' rr=>cases rr;obtain⟨t,rfl⟩:=r;obtain⟨t',rfl⟩:=r';exact call_range_2 (tF I1 q1 q2 q3 q4 q)
def tFor(wi:TI)(g:TG)(tb:TS):TS:=λD σ H=>wi σ H λJ H1=>∃W:Nat->Nat->St->Hp->Prop,(∃m,W 0 m σ H1)/\∀i m σ H,W i m σ H->
 (J.stop i H/\D.nx σ H)\/(J.go i H/\∃N:St->Hp->Prop,(∀σ' H',N σ' H'->∃m',m'<m/\W (i+1) m' σ' H')/\∀x H',J.yld i H x H'->g x σ H' λσ2 H2=>tb { D with nx:=N,ct:=N,bk:=D.nx } σ2 H2)
noncomputable def jZ(fp:List Addr)(h:Heap):List (Addr×Obj):=fp.filterMap λb=>(h.get? b).map λo=>(b,o)
def fW(hb:b∈fp)(e:h.get? b=some o):(b,o)∈jZ fp h:=List.mem_filterMap.mpr ⟨b,hb,by rw[e];rfl⟩
def xx(hp:p∈jZ fp h):p.1∈fp/\h.get? p.1=some p.2:=by
 obtain⟨b,hb,e⟩:=List.mem_filterMap.mp hp;cases q:h.get? b with
 |none=>rw[q] at e;cases e
 |some o=>rw[q] at e;have e':(b,o)=p:=NV e;subst e';exact⟨hb,q⟩
def Inv.pinned(I:Inv X pins σ H s)(hf:∀b∈fp,FpOk X pins H b)(ho:∀b∈fp,∃o,s.heap.get? b=some o/\∀v,o.data ≠ .cell v):Inv X (pins++jZ fp s.heap) σ H s:=
 I.pins_of λp hp=>(OY.mp hp).elim (λz=>I.pin p (N9 _ z)) λz=>by obtain⟨hb,e⟩:=xx z;obtain⟨f0,f1,f2,_⟩:=hf p.1 hb;obtain⟨o,e',d⟩:=ho p.1 hb;rw[e] at e';cases e';exact⟨e,f0,f1,f2,d⟩
def Inv.unpinned(I:Inv X (pins++pl) σ H s):Inv X pins σ H s:=I.pins_of λp hp=>I.pin p (N9 _ (P4 _ hp))
def Hn(hp:PassesOwn (model X.prog X.w) X.A X.env X.xe)(hc:X.calm=true)(hi:PI X tg a_ wi)(hg:PG X tg g)(hb:PSs X body tb)
 (hs:∀x,foldedSetIterable a_ X.env x=pure x):PS X (.For tg a_ body [] pos) (tFor wi g tb):=by
 intro pins s σ H D I h;refine wpAny_For (thn (hi pins s σ H _ I h) λv s1 h1=>thn h1 λitv s2 h2=>?_) hs;obtain⟨it,fp,tn,J,H2,e,I2,T,st2,f2,W,⟨m0,w0⟩,turn⟩:=h2;subst e;have stat:∀{H':Hp},(∀b∈fp,H' b=none)->∀b∈fp,FpOk X pins H' b:=λhn b hb=>⟨hn b hb,(f2 b hb).2⟩;refine codeAny_forLoop_any (λn s'=>∃i σ' H',Inv X pins σ' H' s'/\tn i s'.heap/\(∀b∈fp,H' b=none)/\W i n σ' H') ?_ m0 ⟨0,σ,H2,I2,st2,λb hb=>(f2 b hb).1,w0⟩;rintro n s3 ⟨i,σ3,H3,I3,st3,fr3,w3⟩;rcases turn i n σ3 H3 w3 with ⟨stop,qn⟩ |⟨go,N,hN,step⟩
 .refine O0 hp (thn (T.done X rfl rfl rfl hc i pins s3 σ3 H3 X.xe I3 (stat fr3) st3 stop) λr s4 ⟨hr,I4⟩=>?_);subst hr;exact Pt ⟨σ3,H3,I4,qn⟩
 .refine O0 hp (thn (T.item X rfl rfl rfl hc i pins s3 σ3 H3 X.xe I3 (stat fr3) st3 go) λr s4 ⟨u,hr,h4⟩=>?_);subst hr;refine O0 hp (thn h4 λ_ s5 ⟨x,H5,I5,r5,y5,st5,fr5⟩=>?_);have I5':=I5.pinned (stat fr5) (T.obj _ _ st5);refine O0 hp (thn (hg _ s5 σ3 H5 x u _ I5' r5 (step x H5 y5)) λ_ s6 ⟨σ6,H6,I6,q6⟩=>?_);refine O0 hp (thn (hb _ s6 σ6 H6 _ I6 q6) λf s7 q7=>?_);have again:∀{σ7:St}{H7:Hp},Inv X (pins++jZ fp s5.heap) σ7 H7 s7->N σ7 H7->∃m,m<n/\∃i σ' H',Inv X pins σ' H' s7/\tn i s7.heap/\(∀b∈fp,H' b=none)/\W i m σ' H':=λ{σ7 H7} I7 n7=>by obtain⟨m',hm,w7⟩:=hN σ7 H7 n7;refine⟨m',hm,i+1,σ7,H7,I7.unpinned,T.keep _ _ _ st5 λb hb o e=>(I7.pin (b,o) (N9 _ (N9 _ (fW hb e)))).1,λb hb=>?_,w7⟩;obtain⟨o,e,d⟩:=T.obj _ _ st5 b hb;exact (I7.pin (b,o) (N9 _ (N9 _ (fW hb e)))).2.1
  cases f with
  |next=>obtain⟨σ7,H7,I7,n7⟩:=q7;exact again I7 n7
  |cont=>obtain⟨σ7,H7,I7,n7⟩:=q7;exact again I7 n7
  |brk=>obtain⟨σ7,H7,I7,q7⟩:=q7;exact⟨σ7,H7,I7.unpinned,q7⟩
  |ret v=>obtain⟨x7,σ7,H7,I7,r7,q7⟩:=q7;exact⟨x7,σ7,H7,I7.unpinned,r7,q7⟩
end
abbrev R2:=V->V->Hp->VK->Prop
def OpR(X:Cx)(f:Value->Value->Sem Value)(r:R2):Prop:=
 ∀
  (pins:Qi) (s:Shared) (σ:St) (H:Hp) (x y:V) (v u:Value) (Q:VK),Inv X pins σ H s->RelV x v->RelV y u->r x y H Q->
  wpAny (model X.prog X.w) X.A (f v u) (EP X pins σ Q) X.xe s
def UnR(X:Cx)(f:Value->Sem Value)(r:V->Hp->VK->Prop):Prop:=
 ∀
  (pins:Qi) (s:Shared) (σ:St) (H:Hp) (x:V) (v:Value) (Q:VK),Inv X pins σ H s->RelV x v->r x H Q->
  wpAny (model X.prog X.w) X.A (f v) (EP X pins σ Q) X.xe s
def CallR(X:Cx)(f:Value)(r:List V->Hp->VK->Prop):Prop:=
 ∀
  (pins:Qi) (s:Shared) (σ:St) (H:Hp) (xs:List V) (us:List Value) (Q:VK),Inv X pins σ H s->Vals xs us->r xs H Q->
  wpAny (model X.prog X.w) X.A (call f us) (EP X pins σ Q) X.xe s
def TruR(X:Cx)(r:V->Hp->(Bool->Hp->Prop)->Prop):Prop:=
 ∀
  (pins:Qi) (s:Shared) (σ:St) (H:Hp) (x:V) (v:Value) (Q:Bool->Hp->Prop),Inv X pins σ H s->RelV x v->r x H Q->
  wpAny (model X.prog X.w) X.A (truthy v) (TP X pins σ Q) X.xe s
def tOp(r:R2)(ta tb:TE):TE:=λσ H Q=>ta σ H λx H1=>tb σ H1 λy H2=>r x y H2 Q
def tUn(r:V->Hp->VK->Prop)(ta:TE):TE:=λσ H Q=>ta σ H λx H1=>r x H1 Q
def rI(C:Int->Int->Prop)(g:Int->Int->V):R2:=λx y H Q=>∃i j,x=.int i/\y=.int j/\C i j/\Q (g i j) H
def rI0(g:Int->Int->V):R2:=λx y H Q=>∃i j,x=.int i/\y=.int j/\Q (g i j) H
def rU(g:Int->V):V->Hp->VK->Prop:=λx H Q=>∃i,x=.int i/\Q (g i) H
section
variable{X:Cx}{a b:Expr}{ta tb:TE}{pos:Pos}
def AN(ha:PE X a ta)(hb:PE X b tb){pins:Qi}{s:Shared}{σ:St}{H:Hp}{R:V->V->Hp->Prop}(I:Inv X pins σ H s)
 (h:ta σ H λx H1=>tb σ H1 λy H2=>R x y H2) {Q:Qj}{f:Value->Value->Sem Value}
 (hf:∀v u s2 x y H2,Inv X pins σ H2 s2->RelV x v->RelV y u->R x y H2->wpAny (model X.prog X.w) X.A (f v u) Q X.xe s2):
 wpAny (model X.prog X.w) X.A (eval a X.env) (λv s₁=>wpAny (model X.prog X.w) X.A (eval b X.env) (λu s₂=>wpAny (model X.prog X.w) X.A (f v u) Q X.xe s₂) X.xe s₁) X.xe s:=by
 refine thn (ha pins s σ H _ I h) λv s1 ⟨x,H1,I1,r1,q1⟩=>?_;refine thn (hb pins s1 σ H1 _ I1 q1) λu s2 ⟨y,H2,I2,r2,q2⟩=>?_;exact hf v u s2 x y H2 I2 r1 r2 q2
def Md(ho:OpR X (binaryOp op) r)(ha:PE X a ta)(hb:PE X b tb):PE X (.BinOp a op b pos) (tOp r ta tb):=by intro pins s σ H Q I h;exact wpAny_BinOp (AN ha hb I h λv u s2 x y H2 I2 rx ry q=>ho pins s2 σ H2 x y v u Q I2 rx ry q)
def LB(ho:UnR X (unaryOp op) r)(ha:PE X a ta):PE X (.UnaryOp op a pos) (tUn r ta):=by intro pins s σ H Q I h;exact UnaryOp_ (thn (ha pins s σ H _ I h) λv s1 ⟨x,H1,I1,r1,q1⟩=>ho pins s1 σ H1 x v Q I1 r1 q1)
def opI{f:Value->Value->Sem Value}{C:Int->Int->Prop}{g:Int->Int->Int}
 (rule:∀(i j:Int) (t u:Tok) (s:Shared) (Q:Qj) (E:Qj),C i j->Q (.int (g i j) s.toks) { s with toks:=s.toks+1 }->wpAny (model X.prog X.w) X.A (f (.int i t) (.int j u)) Q E s):
 OpR X f (rI C λi j=>.int (g i j)):=by
 intro pins s σ H x y v u Q I rx ry h;obtain⟨i,j,rfl,rfl,hc,q⟩:=h;obtain⟨t,rfl⟩:=rx;obtain⟨t',rfl⟩:=ry;exact rule i j t t' s _ _ hc ⟨.int (g i j),H,I.tok _,⟨_,rfl⟩,q⟩
def opI0{f:Value->Value->Sem Value}{g:Int->Int->Int}
 (rule:∀(i j:Int) (t u:Tok) (s:Shared) (Q:Qj) (E:Qj),Q (.int (g i j) s.toks) { s with toks:=s.toks+1 }->wpAny (model X.prog X.w) X.A (f (.int i t) (.int j u)) Q E s):
 OpR X f (rI0 λi j=>.int (g i j)):=by
 intro pins s σ H x y v u Q I rx ry h;obtain⟨i,j,rfl,rfl,q⟩:=h;obtain⟨t,rfl⟩:=rx;obtain⟨t',rfl⟩:=ry;exact rule i j t t' s _ _ ⟨.int (g i j),H,I.tok _,⟨_,rfl⟩,q⟩
def B5{f:Value->Value->Sem Value}{g:Int->Int->Bool}
 (rule:∀(i j:Int) (t u:Tok) (s:Shared) (Q:Qj) (E:Qj),Q (.bool (g i j)) s->wpAny (model X.prog X.w) X.A (f (.int i t) (.int j u)) Q E s):
 OpR X f (rI0 λi j=>.bl (g i j)):=by
 intro pins s σ H x y v u Q I rx ry h;obtain⟨i,j,rfl,rfl,q⟩:=h;obtain⟨t,rfl⟩:=rx;obtain⟨t',rfl⟩:=ry;exact rule i j t t' s _ _ ⟨.bl (g i j),H,I,rfl,q⟩
def nU(i j:Int):Prop:=0<=j/\j<=1000000/\i.natAbs<2^64
def CMul(i j:Int):Prop:=(-(2^64)<i/\i<2^64)\/(-(2^64)<j/\j<2^64)
def CMul.ok(h:CMul i j):IntMulOk i j:=by
 rcases h with ⟨h1,h2⟩ |⟨h1,h2⟩
 .exact .of_left (intBits_le_64 h1 h2)
 .exact .of_right (intBits_le_64 h1 h2)
def Gq:OpR X (binaryOp .Add) (rI0 λi j=>.int (i+j)):=opI0 λ_ _ _ _ _ _ _ q=>add_int q
def Hj:OpR X (binaryOp .Mult) (rI CMul λi j=>.int (i*j)):=opI λ_ _ _ _ _ _ _ hc q=>mul_int q hc.ok
def Fp:OpR X (binaryOp .Mod) (rI (λ_ j=>j≠0) λi j=>.int (i.fmod j)):=opI λ_ _ _ _ _ _ _ hc q=>mod_int' hc q
def Ga:OpR X (binaryOp .Pow) (rI nU λi j=>.int (i^j.toNat)):=opI λ_ _ _ _ _ _ _ hc q=>pow_int_small hc.1 hc.2.1 hc.2.2 q
def unI{f:Value->Sem Value}{g:Int->Int}
 (rule:∀(i:Int) (t:Tok) (s:Shared) (Q:Qj) (E:Qj),Q (.int (g i) s.toks) { s with toks:=s.toks+1 }->wpAny (model X.prog X.w) X.A (f (.int i t)) Q E s):
 UnR X f (rU λi=>.int (g i)):=by
 intro pins s σ H x v Q I rx h;obtain⟨i,rfl,q⟩:=h;obtain⟨t,rfl⟩:=rx;exact rule i t s _ _ ⟨.int (g i),H,I.tok _,⟨_,rfl⟩,q⟩
def GO:UnR X (unaryOp .USub) (rU λi=>.int (-i)):=unI λ_ _ _ _ _ q=>neg_int q
end
section
variable{X:Cx}{a b c:Expr}{ta tb:TE}{pos:Pos}
def nj(I:Inv X pins σ H s)(q:Q (.bl k) H)(e:k=k'):EP X pins σ Q (.bool k') s:=by subst e;exact⟨.bl k,H,I,rfl,q⟩
def CQ:OpR X (compareOp .Lt) (rI0 λi j=>.bl (decide (i<j))):=B5 λ_ _ _ _ _ _ _ q=>lt_int q
def CW:OpR X (compareOp .Gt) (rI0 λi j=>.bl (decide (j<i))):=B5 λ_ _ _ _ _ _ _ q=>gt_int q
def CY:OpR X (compareOp .GtE) (rI0 λi j=>.bl (decide (j<=i))):=B5 λ_ _ _ _ _ _ _ q=>ge_int q
def HZ:OpR X (compareOp .Is) (λx y H Q=>y=.non/\Q (.bl (decide (x=.non))) H):=by
 intro pins s σ H x y v u Q I rx ry h;obtain⟨rfl,q⟩:=h;cases ry;refine is_none_gen (nj I q ?_);cases x <;> first
  |(cases rx;rfl)
  |(obtain⟨t,rfl⟩:=rx;rfl)
def Ex:OpR X (compareOp .IsNot) (λx y H Q=>y=.non/\Q (.bl (!decide (x=.non))) H):=by
 intro pins s σ H x y v u Q I rx ry h;obtain⟨rfl,q⟩:=h;cases ry;refine isnot_none_gen (nj I q ?_);cases x <;> first
  |(cases rx;rfl)
  |(obtain⟨t,rfl⟩:=rx;rfl)
def OpR.or(h:OpR X f r)(h':OpR X f r'):OpR X f (λx y H Q=>r x y H Q\/r' x y H Q):=by
 intro pins s σ H x y v u Q I rx ry q;rcases q with q |q
 .exact h pins s σ H x y v u Q I rx ry q
 .exact h' pins s σ H x y v u Q I rx ry q
def ya(b:Expr)(h:op ≠ .In:=by decide)(h2:op ≠ .NotIn:=by decide):behindInMarks op b=false:=by
 have e1:(op==CmpOp.In)=false:=by cases op <;> first |rfl |exact absurd rfl h
 have e2:(op==CmpOp.NotIn)=false:=by cases op <;> first |rfl |exact absurd rfl h2
 cases b <;> simp [behindInMarks,e1,e2]
def EY(ho:OpR X (compareOp op) r)(ha:PE X a ta)(hb:PE X b tb)(hm:behindInMarks op b=false):PE X (.Compare a [op] [b] pos) (tOp r ta tb):=by intro pins s σ H Q I h;exact wpAny_Compare1 (AN ha hb I h λv u s2 x y H2 I2 rx ry q=>ho pins s2 σ H2 x y v u Q I2 rx ry q) hm
def Mg(t:TE):TT:=λσ H Q=>t σ H λx H'=>∃k,x=.bl k/\Q k H'
def E6(ho:OpR X (compareOp op) r)(ha:PE X a ta)(hb:PE X b tb)(hm:behindInMarks op b=false):PT X (.Compare a [op] [b] pos) (Mg (tOp r ta tb)):=by
 intro pins s σ H Q I h;refine wpAny_isTrue_Compare1 (thn (ha pins s σ H _ I h) λv s1 ⟨x,H1,I1,r1,q1⟩=>thn (hb pins s1 σ H1 _ I1 q1) λu s2 ⟨y,H2,I2,r2,q2⟩=>
  thn (ho pins s2 σ H2 x y v u _ I2 r1 r2 q2) λc s3 ⟨z,H3,I3,r3,k,e,q3⟩=>?_) hm
 subst e;cases r3;exact O2 ⟨H3,I3,q3⟩
def zQ(K:W.Frag)(x:V)(H:Hp)(k:Bool):Prop:=
 match x with
 |.non=>k=false
 |.bl b=>k=b
 |.int i=>k=(i != 0)
 |.str y=>y.length<=sizeLine/\k=((y.length:Int) != 0)
 |.byt y=>y.size<=sizeLine/\k=((y.size:Int) != 0)
 |.ref p=>(∃xs,SqL K H p xs/\k=!xs.isEmpty)\/(∃xs,SqT K H p xs/\k=!xs.isEmpty)\/∃kvs,H p=some (.dK kvs)/\k=!kvs.isEmpty
 |_=>False
def wK(r:KV kvs vs):(!vs.isEmpty)=!kvs.isEmpty:=by cases r <;> rfl
def mT(r:Vals xs its):(!its.toArray.isEmpty)=!xs.isEmpty:=by cases r <;> simp
def gx:(sizeLine:Nat)<2^63:=by rw[sizeLine_eq];decide
def F7:TruR X (λx H Q=>∃k,zQ X.K x H k/\Q k H):=by
 intro pins s σ H x v Q I rx h;obtain⟨k,e,q⟩:=h;have hl:=gx;have hs:sizeLine=16777216:=sizeLine_eq;cases x with
 |non=>cases rx;have e':k=false:=e;subst e';exact truthy_none ⟨H,I,q⟩
 |bl b=>cases rx;have e':k=b:=e;subst e';exact O2 ⟨H,I,q⟩
 |int i=>obtain⟨t,rfl⟩:=rx;have e':k=(i != 0):=e;subst e';exact PySem.P.truthy_int ⟨H,I,q⟩
 |str y=>obtain⟨t,rfl⟩:=rx;obtain⟨hy,e'⟩:y.length<=sizeLine/\k=((y.length:Int) != 0):=e;subst e';exact PySem.P.truthy_str (by omega) ⟨H,I.tok _,q⟩
 |byt y=>obtain⟨t,rfl⟩:=rx;obtain⟨hy,e'⟩:y.size<=sizeLine/\k=((y.size:Int) != 0):=e;subst e';exact W.truthy_bytes (by omega) ⟨H,I.tok _,q⟩
 |
  ref p=>
  cases rx;have e':(∃xs,SqL X.K H p xs/\k=!xs.isEmpty)\/(∃xs,SqT X.K H p xs/\k=!xs.isEmpty)\/∃kvs,H p=some (.dK kvs)/\k=!kvs.isEmpty:=e;rcases e' with ⟨xs,hx,e'⟩ |⟨xs,hx,e'⟩ |⟨kvs,hx,e'⟩
  .subst e';obtain⟨its,r,pl,hz⟩:=I.list hx;have d_:=r.length;exact wpAny_truthy_list pl.isList (by simp only[H_];omega) ⟨H,I.tok _,by rw[mT r];exact q⟩
  .subst e';obtain⟨its,r,pl,hz⟩:=I.tuple hx;have d_:=r.length;exact truthy_tuple pl (by simp only[H_];omega) ⟨H,I.tok _,by rw[mT r];exact q⟩
  .subst e';obtain⟨hz,hS,vs,r,m⟩:kvs.length<=sizeLine/\(p==sysModules)=false/\∃vs,KV kvs vs/\s.heap.DictOf (aV X.prog X.w) p vs:=I.hok p _ hx;have d_:kvs.length=vs.length:=Qe r;exact wpAny_truthy_dict hS m (by omega) ⟨H,I.tok _,by rw[wK r];exact q⟩
 |_=>exact (show False from e).elim
def Ae(ha:PE X a ta)(he:∀g_,isTrue a X.env g_=(do let v <- g_;standAt a.pos;holding [v] (truthy v))):
 PT X a (λσ H Q=>ta σ H λx H'=>∃k,zQ X.K x H' k/\Q k H'):=by
 intro pins s σ H Q I h;exact isTrue_plain (thn (ha pins s σ H _ I h) λv s1 ⟨x,H1,I1,r1,q1⟩=>F7 pins s1 σ H1 x v Q I1 r1 q1) (he _)
def fZ(r:Vals [x] us):∃u,us=[u]/\RelV x u:=by
 cases r with
 |cons r1 r2=>cases r2;exact⟨_,rfl,r1⟩
def xj(r:Vals [x,y] us):∃u w',us=[u,w']/\RelV x u/\RelV y w':=by
 cases r with
 |
  cons r1 r2=>
  cases r2 with
  |cons r3 r4=>cases r4;exact⟨_,_,rfl,r1,r3⟩
def Bw:CallR X (.builtin "abs") (λxs H Q=>∃i,xs=[.int i]/\Q (.int (if i<0 then -i else i)) H):=by intro pins s σ H xs us Q I r h;obtain⟨i,rfl,q⟩:=h;obtain⟨u,rfl,t,rfl⟩:=fZ r;exact call_abs_int λu tk=>⟨.int (if i<0 then -i else i),H,I.tok _,⟨_,rfl⟩,q⟩
def yz(hc:X.calm=true):CallR X (.builtin "min") (λxs H Q=>∃i j,xs=[.int i,.int j]/\Q (.int (if j<i then j else i)) H):=by
 intro pins s σ H xs us Q I r h;obtain⟨i,j,rfl,q⟩:=h;obtain⟨u,w',rfl,⟨t,rfl⟩,⟨t',rfl⟩⟩:=xj r;refine min_two_ints (I.ok.hd hc) λh' tk k=>⟨_,H,I.kept k,?_,q⟩;by_cases hj:j<i
 .rw[if_pos hj,if_pos hj];exact⟨_,rfl⟩
 .rw[if_neg hj,if_neg hj];exact⟨_,rfl⟩
def yI:CallR X (.type "int") (λxs H Q=>(∃i,xs=[.int i]/\Q (.int i) H)\/∃k,xs=[.bl k]/\Q (.int (if k then 1 else 0)) H):=by
 intro pins s σ H xs us Q I r h;rcases h with ⟨i,rfl,q⟩ |⟨k,rfl,q⟩
 .obtain⟨u,rfl,t,rfl⟩:=fZ r;exact call_int_int ⟨.int i,H,I,⟨_,rfl⟩,q⟩
 .obtain⟨u,rfl,r1⟩:=fZ r;cases r1;exact call_int_bool ⟨.int (if k then 1 else 0),H,I.tok _,⟨_,rfl⟩,q⟩
end
structure ObjM(h:Heap)(x dx C:Addr)(mA:Qh):Prop where
 obj:h.get? x=some (W.instObj C dx)
 ns:h.Ns1 dx mA
 ne:dx≠x
def yA{h:Heap}{dx:Addr}{mA:Qh}(n:h.Ns1 dx mA):∃od,h.get? dx=some od/\∀name,W.lookIn name od=some (mA name):=by
 obtain⟨o,es,ep,ho,hd,hk,_,hm⟩:=n;refine⟨o,ho,λname=>?_⟩;have e:=hm name;unfold nsFind findBy at e;rw[<- Array.find?_toList] at e;unfold W.lookIn;rw[hd];dsimp only;split
 .rename_i y q;rw[q] at e;exact Og some e
 .rename_i q;rw[q] at e;have a:es.toList.any (·.refKey)=false:=by rw[List.any_eq_false];intro y hy;obtain⟨z,t,hkey⟩:=hk y (Array.mem_toList_iff.mp hy);simp [DictEntry.refKey,hkey]
  have a':¬ es.toList.any (·.refKey)=true:=by rw[a];exact y_
  rw[if_neg a'];exact Og some e
def ObjM.look(I:ObjM h x dx C mA):∃od,W.InstAt h x (W.instObj C dx) C (some od)/\∀name,W.lookIn name od=some (mA name):=
 let ⟨od,ho,hl⟩:=yA I.ns
 ⟨od,⟨I.obj,rfl,rfl,ho⟩,hl⟩
def RelO.some_of(r:RelO (some v) o):∃u,o=some u/\RelV v u:=by
 cases o with
 |none=>exact (show False from r).elim
 |some u=>exact⟨u,rfl,r⟩
section
variable{P:Program}{w:World}{H:Hp}{h:Heap}{a C dx:Addr}{fs:List (Str×V)}
def DH(hok:HOk P w H h)(e:H a=some (.ins C dx fs)):∃mA,ObjM h a dx C mA/\(∀f,RelO (fs.lookup f) (mA f))/\PySem.Within mA (fs.map (·.1))/\fs.length<=1000/\H dx=some (.own a):=by obtain⟨d,z,ne,ob,mA,n,r,q⟩:=(show ObjOk P w H h a (.ins C dx fs) from hok a _ e);exact⟨mA,⟨ob,n,ne⟩,r,q,z,d⟩
end
structure Cls(K:W.Frag)(C:Addr):Prop where
 pg:W.plainGet K C Str.empty=true
 hd:W.hasDictIn K C=true
 po:W.plainOver K C=true
 sa:W.findIn K (.ref C) "__setattr__"=some (some (.builtin "object.__setattr__"))
def Cls.get{K:W.Frag}{C:Addr}(c:Cls K C)(f:Str):W.plainGet K C f=true:=c.pg
section
variable{H:Hp}
inductive TyOf(K:W.Frag)(H:Hp):V->Value->Prop where
 |non:TyOf K H .non (.type "NoneType")
 |bl (x:Bool):TyOf K H (.bl x) (.type "bool")
 |int (i:Int):TyOf K H (.int i) (.type "int")
 |str (x:Str):TyOf K H (.str x) (.type "str")
 |flt (x:UInt64):TyOf K H (.flt x) (.type "float")
 |lst {a:Addr}{xs:List V} (e:H a=some (.lst xs)):TyOf K H (.ref a) (.type "list")
 |frz {a:Addr}{o:Obj}{xs:List V} (e:H a=some (.frz o (.lst xs))):TyOf K H (.ref a) (.type "list")
 |tup {a:Addr}{xs:List V} (e:H a=some (.tup xs)):TyOf K H (.ref a) (.type "tuple")
 |dK {a:Addr}{kvs:List (Key×V)} (e:H a=some (.dK kvs)):TyOf K H (.ref a) (.type "dict")
 |dT {a:Addr}{kvs:List (List Key×V)} (e:H a=some (.dT kvs)):TyOf K H (.ref a) (.type "dict")
 |ins {a C dx:Addr}{fs:List (Str×V)} (e:H a=some (.ins C dx fs)) (cl:Cls K C) (ha:W.findIn K (.ref C) "__class__"=some (some (.builtin "object.__class__")))
  (hn:W.specialIn K (.builtin "object.__class__") "__get__"=some (some (.builtin "getset_descriptor.__get__"))) (htk:W.takesIn K (.builtin "object.__class__")=some true)
  (hm:W.mroIn K C (.type "object")=some true):TyOf K H (.ref a) (.ref C)
end
structure Room(k:Nat)(A:Around):Prop where
 hd:A.handled=none
 dp:A.depth+3*k+5<recursionLimit
 un:A.units+16*k+200<cLine
def Room.mono(r:Room k A)(h:j<=k):Room j A:=⟨r.hd,by have:=r.dp;omega,by have:=r.un;omega⟩
def Room.deeper(r:Room (k+1) A)(env:Env):Room k (A.deeper env):=
 ⟨r.hd,by have:=r.dp;show A.depth+1+3*k+5<_;omega,by have:=r.un;show A.units+3+16*k+200<_;omega⟩
def Room.depth(r:Room k A):A.depth<recursionLimit:=by have:=r.dp;omega
def Room.units(r:Room k A):A.units+64<cLine:=by have:=r.un;omega
def tNil:TA:=λ_ H Q=>Q [] H
def K4(ta:TE)(tr:TA):TA:=λσ H Q=>ta σ H λx H1=>tr σ H1 λxs H2=>Q (x::xs) H2
section
variable{X:Cx}{e:Expr}{es:List Expr}{te:TE}{t:TA}{pos:Pos}
def F9:PA X [] tNil:=λ_ _ _ _ H Q I h=>Calls.spliced_nil ⟨[],H,I,.nil,h⟩
def Dv(ha:PE X e te)(hr:PA X es t)(hs:starEach (e::es) X.env=(false,eval e X.env)::starEach es X.env):PA X (e::es) (K4 te t):=by intro pos pins s σ H Q I h;rw[hs];show wpAny _ _ (spliced ((false,eval e X.env)::backTo pos (starEach es X.env))) _ _ s;refine Calls.spliced_cons (thn (ha pins s σ H _ I h) λu s1 ⟨x,H1,I1,r1,q1⟩=>?_);exact thn (hr pos pins s1 σ H1 _ I1 q1) λus s2 ⟨xs,H2,I2,r2,q2⟩=>⟨x::xs,H2,I2,.cons r1 r2,q2⟩
def tTup(t:TA):TE:=λσ H Q=>t σ H λxs H1=>xs.length<=sizeLine/\∀p,H1 p=none->Q (.ref p) (upd H1 p (.tup xs))
def tLst(t:TA):TE:=λσ H Q=>t σ H λxs H1=>xs.length<=sizeLine/\∀p,H1 p=none->Q (.ref p) (upd H1 p (.lst xs))
def JR{x1}(h:PA X es t):PE X (.Tuple es x1 pos) (tTup t):=by intro pins s σ H Q I hq;refine wpAny_Tuple_spliced (thn (h pos pins s σ H _ I hq) λus s1 ⟨xs,H1,I1,r,z,q⟩=>⟨by rw[<- r.length];exact z,?_⟩);have hf:H1 s1.heap.objs.size=none:=I1.hok.fresh (z_ _);refine⟨.ref s1.heap.objs.size,upd H1 s1.heap.objs.size (.tup xs),I1.laid (t':=s1.toks) (λb u e=>B_ _ e) (z_ _) ?_,rfl,q _ hf⟩;exact⟨z,us,r,⟨_,NW _ rfl,rfl,_,rfl⟩⟩
def JP(h:PA X es t):PE X (.List es pos) (tLst t):=by intro pins s σ H Q I hq;refine wpAny_List_spliced (thn (h pos pins s σ H _ I hq) λus s1 ⟨xs,H1,I1,r,z,q⟩=>⟨by rw[<- r.length];exact z,?_⟩);have hf:H1 s1.heap.objs.size=none:=I1.hok.fresh (z_ _);refine⟨.ref s1.heap.objs.size,upd H1 s1.heap.objs.size (.lst xs),I1.laid (t':=s1.toks) (λb u e=>B_ _ e) (z_ _) ?_,rfl,q _ hf⟩;exact⟨z,us,0,r,NW _ rfl⟩
end
abbrev Sp:=List V->Hp->VK->XK->Prop
abbrev CXT:=List Env->Hp->Shared->XK->Value->Shared->Prop
structure Env0(P:Program)(w:World)(K:W.Frag)(mg:Qh)(base:Heap)(A:Around)(outer:List Env)(s:Shared)(H:Hp):Prop where
 frames:A.frames=some outer
 mod:Mod K mg base
 bs:∀b o,base.get? b=some o->s.heap.get? b=some o/\H b=none
 bsz:base.objs.size<=s.heap.objs.size
 funs:s.heap.FunFrames base outer
 frf:∀b∈frs outer,H b=none
 hok:HOk P w H s.heap
 bare:AllBare s.gens
def CE(outer:List Env)(P:Program)(w:World)(H:Hp)(s:Shared)(Q:VK)(u:Value)(s':Shared):Prop:=
 ∃v H',s'.os=s.os/\AllBare s'.gens/\Un (frs outer) [] H H' s.heap s'.heap/\HOk P w H' s'.heap/\RelV v u/\Q v H'
def CR(CX:CXT)(outer:List Env)(P:Program)(w:World)(H:Hp)(s:Shared)(Q:VK)(E:XK)(r:Result)(s':Shared):Prop:=
 match r with
 |.ok (.ret u)=>CE outer P w H s Q u s'
 |.ok _=>False
 |.error e=>CX outer H s E e s'
structure FnOk(P:Program)(w:World)(K:W.Frag)(mg:Qh)(base:Heap)(CX:CXT)(k:Nat)(f:Addr)(fd:FuncData)(ps:List Str)(sp:Sp):Prop where
 len:∀vs H Q E,sp vs H Q E->vs.length=ps.length
 run:∀(A:Around) (outer:List Env) (s:Shared) (H:Hp) (args:Args) (us:List Value) (vs:List V) (Q:VK) (E:XK),Room k A->Env0 P w K mg base A outer s H->BindsTo s fd args (ps.zip us)->Vals vs us->sp vs H Q E->
  codeAny (model P w) A (.call (.ref f) args) (CR CX outer P w H s Q E) s
def FnOk.imp{P:Program}{w:World}{K:W.Frag}{mg:Qh}{base:Heap}{CX:CXT}{k:Nat}{f:Addr}{fd:FuncData}{ps:List Str}{sp sp':Sp}(F:FnOk P w K mg base CX k f fd ps sp)
 (h:∀vs H Q E,sp' vs H Q E->sp vs H Q E):FnOk P w K mg base CX k f fd ps sp':=
 ⟨λvs H Q E q=>F.len vs H Q E (h _ _ _ _ q),λA outer s H args us vs Q E hr he hb hv hs=>F.run A outer s H args us vs Q E hr he hb hv (h _ _ _ _ hs)⟩
section
variable{X:Cx}{pins:Qi}{σ:St}{H:Hp}{s s':Shared}
def Inv.env0(I:Inv X pins σ H s):Env0 X.prog X.w X.K X.mg X.base X.A X.stack s H:=
 ⟨I.ok.frames,I.ok.mod,I.bs,J_ I.ok.bsz I.sz,I.stack,I.stkFree,I.hok,I.bare⟩
def Inv.after(I:Inv X pins σ H s)(h:CE X.stack X.prog X.w H s Q u s'):EP X pins σ Q u s':=by obtain⟨v,H',os,bare,un,hok,r,q⟩:=h;obtain⟨hh,g,d,t,os'⟩:=s';obtain rfl:os'=s.os:=os;exact⟨v,H',I.call (h':=hh) (g':=g) (d':=d) (t':=t) (ch:=[]) un hok bare (λb z=>absurd z (by simp)),r,q⟩
end
def Binds(K:W.Frag)(fd:FuncData)(ps:List Str)(ds:List Value):Prop:=
 ∀(s:Shared) (us:List Value),K.In s.heap->(us++ds).length=ps.length->BindsTo s fd ⟨us,[]⟩ (ps.zip (us++ds))
def Binds.all{K:W.Frag}{fd:FuncData}{ps:List Str}(h:∀us:List Value,us.length=ps.length->bindArgs fd ⟨us,[]⟩=pure (ps.zip us)):Binds K fd ps []:=λs us _ hl=>by rw[Oh] at hl ⊢;exact .of_eq (h us hl)
def qU(CX:CXT)(X:Cx)(E:XK):Prop:=∀(pins:Qi) (σ:St) (H:Hp) (s:Shared) (e:Value) (s':Shared),Inv X pins σ H s->CX X.stack H s E e s'->X.xe e s'
structure FnScope(N P:List Str)(sc:Scope):Prop where
 kind:sc.kind=.function
 co:sc.isCoroutine=false
 gen:sc.isGenerator=false
 nd:N.Nodup
 pre:N.take P.length=P
 par:∀x∈P,sc.names.lookup x=some .local\/sc.names.lookup x=some .cell
 nofree:∀y∈sc.names,y.2 ≠ .free
theorem pG{kindOf:Str->Option NameKind}{x:Str}:∀{binds:List (Str×Value)}{m:Qh},(∀v,(x,v)∉binds)->bindL kindOf binds m x=m x
 | [],_,_=>rfl
 |
  (n,v)::r,m,h=>by
  unfold bindL;rw[pG λw hw=>h w (A_ _ hw)];split
  .have:x≠n:=by rintro rfl;exact h v G_
   simp [this]
  .rfl
theorem oJ{kindOf:Str->Option NameKind}{x:Str}:∀{binds:List (Str×Value)}{m:Qh},(∀v,(x,v)∉binds)->bindC kindOf binds m x=m x
 | [],_,_=>rfl
 |
  (n,v)::r,m,h=>by
  unfold bindC;rw[oJ λw hw=>h w (A_ _ hw)];split
  .rfl
  .have:x≠n:=by rintro rfl;exact h v G_
   simp [this]
theorem oV{kindOf:Str->Option NameKind}{x:Str}{v:Value}:∀{P:List Str}{vs:List Value}{i:Nat}{m:Qh},P.Nodup->P[i]?=some x->vs[i]?=some v->kindOf x=some .local->
 bindL kindOf (P.zip vs) m x=some v
 | [],_,_,_,_,h,_,_=>by simp at h
 |_::_,[],_,_,_,_,h,_=>by simp at h
 |
  p::P,w::vs,0,m,nd,h1,h2,hk=>by
  simp at h1 h2;subst h1;subst h2;show bindL kindOf ((p,w)::P.zip vs) m p=_;unfold bindL;rw[pG λv hv=>(OJ.mp nd).1 (P5 hv).1,if_pos hk];simp
 |
  p::P,w::vs,i+1,m,nd,h1,h2,hk=>by
  show bindL kindOf ((p,w)::P.zip vs) m x=_;unfold bindL;exact oV (i:=i) (OJ.mp nd).2 (by simpa using h1) (by simpa using h2) hk
theorem pf{kindOf:Str->Option NameKind}{x:Str}{v:Value}:∀{P:List Str}{vs:List Value}{i:Nat}{m:Qh},P.Nodup->P[i]?=some x->vs[i]?=some v->kindOf x≠some .local->
 bindC kindOf (P.zip vs) m x=some v
 | [],_,_,_,_,h,_,_=>by simp at h
 |_::_,[],_,_,_,_,h,_=>by simp at h
 |
  p::P,w::vs,0,m,nd,h1,h2,hk=>by
  simp at h1 h2;subst h1;subst h2;show bindC kindOf ((p,w)::P.zip vs) m p=_;unfold bindC;rw[oJ λv hv=>(OJ.mp nd).1 (P5 hv).1,if_neg hk];simp
 |
  p::P,w::vs,i+1,m,nd,h1,h2,hk=>by
  show bindC kindOf ((p,w)::P.zip vs) m x=_;unfold bindC;exact pf (i:=i) (OJ.mp nd).2 (by simpa using h1) (by simpa using h2) hk
noncomputable def cI(N:List Str)(vs:List V):St:=vs.map some++List.replicate (N.length-vs.length) none
noncomputable def df(CX:CXT)(P:Program)(w:World)(K:W.Frag)(mg:Qh)(base:Heap)(N:List Str)(qual:Str)(scope:Scope)(f:Addr)(cd:Value)(A:Around)(outer:List Env)(s:Shared)(H:Hp)(E:XK):Cx where
 prog:=P
 w:=w
 K:=K
 mg:=mg
 base:=base
 A:=A.deeper (envOfC qual scope s.heap.objs.size f cd)
 N:=N
 s₀:=s
 H₀:=H
 env:=envOfC qual scope s.heap.objs.size f cd
 outer:=outer
 stack:=envOfC qual scope s.heap.objs.size f cd::outer
 ex:=[]
 calm:=true
 fn:=λ_=>true
 pn:=[]
 xe:=λe s'=>wpAny (model P w) (A.deeper (envOfC qual scope s.heap.objs.size f cd)) (leaving (envOfC qual scope s.heap.objs.size f cd) e) (λ_ s''=>CX outer H s E e s'') (λe' s''=>CX outer H s E e' s'') s'
def qS{sc:Scope}{n:Nat}{x:Str}(h:sc.names.lookup x=some .cell):∃c,(cellsFrom n sc.names []).lookup x=some c:=by have q:=W.cellsFrom_some sc.names n [] (.inl h);exact Oi.mp q
def pC{CX:CXT}{P:Program}{w:World}{K:W.Frag}{mg:Qh}{base:Heap}{N ps:List Str}{qual:Str}{scope:Scope}{f:Addr}{cd:Value}{A:Around}{outer:List Env}{s s1:Shared}{H:Hp}{E:XK}{us:List Value}{vs:List V}
 (S:FnScope N ps scope) (hd:A.handled=none) (e0:Env0 P w K mg base A outer s H) (hl:vs.length=ps.length) (r:Vals vs us)
 (x:InCallC s s.heap.objs.size (bindL (envOfC qual scope s.heap.objs.size f cd).kindOf (ps.zip us) λ_=>none) (cellsFrom (s.heap.objs.size+1) scope.names []) (bindC (envOfC qual scope s.heap.objs.size f cd).kindOf (ps.zip us) λ_=>none) s1):
 Inv (df CX P w K mg base N qual scope f cd A outer s H E) [] (cI N vs) H s1:=by
 have hpl:ps.length<=N.length:=by have:=Og List.length S.pre;rw[Pf] at this;omega
 obtain⟨h1,tk,rfl,hk⟩:=x.done;have noA:∀b:Addr,b∉(df CX P w K mg base N qual scope f cd A outer s H E).ex:=λb z=>absurd (show b∈([]:List Addr) from z) (by simp);refine⟨⟨e0.mod,S.kind,rfl,rfl,z_ _,λy z c h1 h2=>?_,λy hy=>?_,λy c _ h=>?_,λ_=>hd,Around.frames_deeper e0.frames,.inr ⟨rfl,rfl⟩,λb z=>absurd z (noA b),e0.bs,e0.bsz,λb _ _=>noA b,λb z=>absurd z (noA b),e0.funs,e0.frf⟩,
  rfl,e0.bare,Un.kept hk,⟨_,x.toInCall.ns,λi y v h1 h2 h3=>?_⟩,λy c h=>⟨_,x.cell y c h⟩,e0.hok.fresh (z_ _),λy c h=>?_,λp hp=>absurd (show p∈([]:Qi) from hp) (by simp),e0.hok.kept hk,?_⟩
 .exact name_of_addr x.apart (OE h1) (OE h2)
 .have hy:scope.names.lookup y=some .cell\/scope.names.lookup y=some .free:=hy;rcases hy with hy |hy
  .exact qS hy
  .exact absurd rfl (S.nofree _ (OE hy))
 .exact Nat.le_of_lt (x.above y c (OE h))
 .have hi:i<vs.length:=by
   unfold cI at h2;by_cases hi:i<vs.length
   .exact hi
   .rw[N6 (by simpa using hi)] at h2;rw[Ot] at h2;split at h2 <;> cases h2
  have ha:vs[i]?=some v:=by
   unfold cI at h2;rw[N1 (by simpa using hi),N4] at h2;cases e:vs[i]? with
   |none=>rw[e] at h2;cases h2
   |some a=>rw[e] at h2;cases h2;rfl
  obtain⟨u,hu,rv⟩:=r.get ha;have hp:ps[i]?=some y:=by rw[<- S.pre,List.getElem?_take_of_lt (by omega)];exact h1
  have ndP:ps.Nodup:=by rw[<- S.pre];exact S.nd.sublist (List.take_sublist _ _)
  refine⟨u,rv,?_⟩;rcases S.par y (O3 hp) with k |k
  .exact .inl ⟨k,oV ndP hp hu k⟩
  .obtain⟨c,e⟩:=qS (n:=s.heap.objs.size+1) k;refine .inr ⟨.inl k,c,e,?_⟩;have q:=x.cell y c e;rw[pf ndP hp hu (by show scope.names.lookup y≠_;rw[k];decide)] at q;exact q
 .exact e0.hok.fresh (Nat.le_of_lt (x.above y c (OE h)))
 .unfold cI;show _=N.length;rw[F_,w_,Oy];omega
def KW{CX:CXT}{P:Program}{w:World}{K:W.Frag}{mg:Qh}{base:Heap}{k:Nat}{f:Addr}{name qual:Str}{params:Arguments}{body:List Stmt}{scope:Scope}{dV kV doc pm cdv ct oc:Value}{an od:Option Addr}
 {osl:Array (Option Value)}{N ps:List Str}{sp:Sp} (lk:K.lookup f=some ⟨oc,od,.func (W.fnOf name qual params body scope dV kV doc pm an cdv ct),osl⟩) (s_:W.codeIn K cdv qual=true) (S:FnScope N ps scope)
 (len:∀vs H Q E,sp vs H Q E->vs.length=ps.length)
 (e_:∀(A:Around) (outer:List Env) (s:Shared) (H:Hp) (vs:List V) (Q:VK) (E:XK),Room k (A.deeper (envOfC qual scope s.heap.objs.size f cdv))->sp vs H Q E->
  ∃t,PSs (df CX P w K mg base N qual scope f cdv A outer s H E) body t/\t { nx:=λ_ H'=>Q .non H',rt:=Q } (cI N vs) H):
 FnOk P w K mg base CX (k+1) f (W.fnOf name qual params body scope dV kV doc pm an cdv ct) ps sp:=by
 refine⟨len,λA outer s H args us vs Q E hr e0 hb r hsp=>?_⟩;have hl:=len _ _ _ _ hsp;have KX:K.In s.heap:=e0.mod.kin.keeps λb o e=>(e0.bs b o e).1;have lim:s.heap.NoLimit:=e0.mod.nolimit.keeps λb o e=>(e0.bs b o e).1;have hkind:∀y∈ps.zip us,scope.names.lookup y.1=some .local\/(scope.names.lookup y.1=some .cell/\((cellsFrom (s.heap.objs.size+1) scope.names []).lookup y.1).isSome=true):=λ⟨n,v⟩ hy=>by
  rcases S.par n (P5 hy).1 with q |q
  .exact .inl q
  .exact .inr ⟨q,W.cellsFrom_some _ _ _ (.inl q)⟩
 refine codeAny_call_function hr.depth (KX _ _ lk) rfl S.co S.gen rfl (W.codeRec_of KX s_) (hb _ _ _ _ ?_);refine wpAny_newFunctionEnv_cells S.kind hkind λenv he s1 x=>?_;subst he;refine⟨lim.keeps x.toInCall.keep,codeAny_func ?_⟩;obtain⟨t,ht,hq⟩:=e_ A outer s H vs Q E (hr.deeper _) hsp;have I:Inv (df CX P w K mg base N qual scope f cdv A outer s H E) [] (cI N vs) H s1:=pC S hr.hd e0 hl r x;refine N_ (ht [] s1 (cI N vs) H _ I hq) (λfl s' hs=>?_) λe s' hs=>hs;have l_:∀{σ':St}{H':Hp}{v:V}{u:Value},Inv (df CX P w K mg base N qual scope f cdv A outer s H E) [] σ' H' s'->RelV v u->Q v H'->CE outer P w H s Q u s':=
  λ{σ' H' v u} J rv q=>⟨v,H',J.os,J.bare,J.base,J.hok,rv,q⟩
 cases fl with
 |ret u=>obtain⟨v,σ',H',J,rv,q⟩:=hs;exact l_ J rv q
 |next=>obtain⟨σ',H',J,q⟩:=hs;exact l_ (v:=V.non) (u:=Value.none) J rfl q
 |brk=>obtain⟨_,_,_,q⟩:=hs;exact False.elim q
 |cont=>obtain⟨_,_,_,q⟩:=hs;exact False.elim q
section
variable{X:Cx}{x:Str}{p pos:Pos}{e:Expr}{es:List Expr}{t:TA}{id T:String}{r:List V->Hp->VK->Prop}
def tCB(r:List V->Hp->VK->Prop)(t:TA):TE:=λσ H Q=>t σ H λvs H1=>r vs H1 Q
def Ap(hc:CallR X (.builtin id) r)(hg:Gl X x)(hm:X.mg x=none)(hv:bootBuiltins x=some (.builtin id))(ha:PA X (e::es) t)(hn:x ≠ "__name__")(hdb:(x==("__debug__" : Str))=false)
 (he:starEach (e::es) X.env=(false,eval e X.env)::starEach es X.env) (hpl:(backTo pos (starEach es X.env)).any (·.1)=false):PE X (.Call (.Name x p) (e::es) [] pos) (tCB r t):=by
 intro pins s σ H Q I h;refine OU (eZ I hg hm hv ?_ hn hdb);exact PyProof.Rows.callWith_builtin1 (thn (ha pos pins s σ H _ I h) λus s1 ⟨vs,H1,I1,r1,q1⟩=>hc pins s1 σ H1 vs us Q I1 r1 q1) he hpl
def xZ(hc:CallR X (.type T) r)(hg:Gl X x)(hm:X.mg x=none)(hv:bootBuiltins x=some (.type T))(ha:PA X (e::es) t)(hn:x ≠ "__name__")(hdb:(x==("__debug__" : Str))=false)
 (he:starEach (e::es) X.env=(false,eval e X.env)::starEach es X.env) (hpl:(backTo pos (starEach es X.env)).any (·.1)=false):PE X (.Call (.Name x p) (e::es) [] pos) (tCB r t):=by
 intro pins s σ H Q I h;refine OU (eZ I hg hm hv ?_ hn hdb);exact Ol (thn (ha pos pins s σ H _ I h) λus s1 ⟨vs,H1,I1,r1,q1⟩=>hc pins s1 σ H1 vs us Q I1 r1 q1) he hpl
end
end L2
namespace HT
open PySem PyProof.Rows
section
variable{prog:Program}{w:World}{A:Around}{E:Qj}{s:Shared}
def cat_tup(ht:IsTup s.heap t vs.toArray)(hb:IsTup s.heap b ws.toArray)(hv:vs≠[])
 (h1:ws=[]->Q (.ref t) s) (h2:ws≠[]->Q (.ref s.heap.objs.size) { s with heap:=s.heap.push { cls:=.type "tuple",data:=.seq (vs++ws).toArray } })
 (hsz:vs.length+ws.length<=sizeLine):wpAny (model prog w) A (binaryOp .Add (.ref t) (.ref b)) Q E s:=by
 obtain⟨⟨cls,dd,data,sl⟩,ho,hc,n,hd⟩:=id ht;obtain⟨⟨cls2,dd2,data2,sl2⟩,ho2,hc2,n2,hd2⟩:=id hb;simp only at hc hd hc2 hd2;subst hc hd hc2 hd2;have e:vs.toArray++ws.toArray=(vs++ws).toArray:=by simp
 by_cases hw:ws=[]
 .exact concat_meets ⟨_,ho,rfl⟩ ⟨_,ho2,rfl⟩ noFill_tuple_add seq_tuple_add PQ PK (PC _ _)
   (tuple_addW1 t b vs.toArray ws.toArray n n2 dd dd2 sl sl2 (by simpa using hv) (by simp [hw])) ⟨ho,ho2,h1 hw⟩
 .refine concat_meets ⟨_,ho,rfl⟩ ⟨_,ho2,rfl⟩ noFill_tuple_add seq_tuple_add PQ PK (PC _ _)
   (tuple_addW2 t b vs.toArray ws.toArray n n2 dd dd2 sl sl2 (by simpa using hv) (by simpa using hw) (by rw[H_,H_];exact hsz)) ⟨ho,ho2,?_⟩
  rw[e];exact h2 hw
noncomputable def sIx(n d:Nat):Option Int->Nat
 |none=>d
 |some v=>if v<0 then (v+(n:Int)).toNat else min v.toNat n
def sIx_none(n d:Nat):sIx n d none=d:=rfl
def sIx_nat(n d k:Nat):sIx n d (some (k:Int))=min k n:=by show (if (k:Int)<0 then ((k:Int)+(n:Int)).toNat else min (k:Int).toNat n)=min k n;rw[if_neg (by omega),PL]
def J5(n d:Nat)(hd:d<=n)(o:Option Int):sIx n d o<=n:=by
 cases o with
 |none=>exact hd
 |
  some v=>
  show (if v<0 then (v+(n:Int)).toNat else min v.toNat n)<=n;by_cases hv:v<0
  .rw[if_pos hv];omega
  .rw[if_neg hv];exact Nat.min_le_right _ _
def uM(v:Int)(n d:Nat):(if v<0 then max (v+(n:Int)) 0 else min v (n:Int))=((sIx n d (some v):Nat):Int):=by
 show (if v<0 then max (v+(n:Int)) 0 else min v (n:Int))=(((if v<0 then (v+(n:Int)).toNat else min v.toNat n):Nat):Int);by_cases hv:v<0
 .simp only[if_pos hv];omega
 .simp only[if_neg hv];omega
def wN(lo hi:Option Int)(n:Nat):Builtin.Slice.sliceAdjust lo hi 1 (n:Int)=(((sIx n 0 lo:Nat):Int),((sIx n n hi:Nat):Int)):=by
 have h1:¬ ((1:Int)<0):=by omega
 unfold Builtin.Slice.sliceAdjust;simp only[h1,Pg];refine Prod.ext ?_ ?_
 .cases lo with
  |none=>rfl
  |some v=>exact uM v n 0
 .cases hi with
  |none=>rfl
  |some v=>exact uM v n n
def wG(i j:Nat):Builtin.Slice.slicePlaces (i:Int) (j:Int) 1=j-i:=by
 unfold Builtin.Slice.slicePlaces;have h1:(1:Int)>0:=by omega
 simp only[h1,OL,Int.ediv_one];split <;> omega
def mh(p:IsPart v o)(h:Q o s):wpAny (model prog w) A (Builtin.Slice.slicePartIndex v) Q E s:=by
 cases p with
 |none=>exact slicePart_none h
 |int i t=>exact slicePart_int h
def kT{sl:Addr}{vl vu:Value}{lo hi:Option Int}{n:Nat}{Q:Int×Int×Nat->Shared->Prop}(hs:s.heap.IsSliceOf sl vl vu .none)(pl:IsPart vl lo)(pu:IsPart vu hi)
 (h:Q (((sIx n 0 lo:Nat):Int),1,sIx n n hi-sIx n 0 lo) s):wpAny (model prog w) A (Builtin.Slice.sliceApplied (.ref sl) (pure (n:Int))) Q E s:=by
 obtain⟨os,hos,hcs,hds⟩:=id hs;unfold Builtin.Slice.sliceApplied Builtin.Slice.sliceFields;refine v_ (v_ (Oq hos hds (x:=vl) rfl (v_ (Oq hos hds (x:=vu) rfl (v_ (Oq hos hds (x:=.none) rfl (D_ ?_)))))));refine v_ (slicePart_none ?_);show wpAny _ _ (if ((1:Int)==0)=true then _ else _) _ _ s;rw[if_neg (by decide)];refine v_ (mh pl (v_ (mh pu (v_ (D_ ?_)))));show wpAny _ _ (match Builtin.Slice.sliceAdjust lo hi 1 (n:Int) with |(lo,hi)=>pure (lo,(1:Int),Builtin.Slice.slicePlaces lo hi 1)) _ _ s;rw[wN lo hi n];show wpAny _ _ (pure (((sIx n 0 lo:Nat):Int),(1:Int),Builtin.Slice.slicePlaces ((sIx n 0 lo:Nat):Int) ((sIx n n hi:Nat):Int) 1)) _ _ s;rw[wG];exact D_ h
def Cj(xs:Array Value)(i k:Nat):((List.range k).filterMap λ(m:Nat)=>xs[((i:Int)+(m:Int)*1).toNat]?).toArray=((xs.toList.drop i).take k).toArray:=by
 have e:(λ(m:Nat)=>xs[((i:Int)+(m:Int)*1).toNat]?)=λm=>xs[i+m]?:=by
  funext m;have:((i:Int)+(m:Int)*1).toNat=i+m:=by omega
  rw[this]
 rw[e]
 have:=pick_run xs i k
 rw[List.filterMap_map] at this;have e2:((λx=>xs[x]?) ∘ λx=>i+x)=λm=>xs[i+m]?:=rfl;rw[e2] at this;rw[this]
def getItem_tuple_cut{t sl:Addr}{items:Array Value}{vl vu:Value}{lo hi:Option Int}{Q:Qj}(ht:IsTup s.heap t items)(hs:s.heap.IsSliceOf sl vl vu .none)(pl:IsPart vl lo)(pu:IsPart vu hi)
 (hw:¬ (sIx items.size 0 lo=0/\sIx items.size items.size hi=items.size))
 (h:Q (.ref s.heap.objs.size) { s with heap:=s.heap.push { cls:=.type "tuple",data:=.seq ((items.toList.drop (sIx items.size 0 lo)).take (sIx items.size items.size hi-sIx items.size 0 lo)).toArray } })
 (hsz:items.size<=sizeLine):wpAny (model prog w) A (getItem (.ref t) (.ref sl)) Q E s:=by
 have htake:sizeOk (.seq ((items.toList.drop (sIx items.size 0 lo)).take (sIx items.size items.size hi-sIx items.size 0 lo)).toArray):=by show ((items.toList.drop (sIx items.size 0 lo)).take (sIx items.size items.size hi-sIx items.size 0 lo)).toArray.size<=sizeLine;rw[H_,Pf,List.length_drop,Qb];omega
 have hj:sIx items.size items.size hi<=items.size:=J5 _ _ (z_ _) hi;obtain⟨os,hos,hcs,hds⟩:=id hs;have hTs:s.TypeIs (.ref sl) "slice":=⟨os,hos,hcs⟩;unfold getItem;try with_reducible refine O8 ?_
 first |refine v_ (D_ ?_) |skip
 refine v_ (wpAny_sequenceKey ht.typeIs (by decide) ?_);refine v_ (OO (name:=Str.ofString "__getitem__") ht.typeIs PyProof.Rows.slot_tuple_getitem
  (Ph PyProof.Rows.slot_tuple_getitem ht.typeIs entry_tuple_getitem ?_ (args_tuple_getitem _ _)))
 show wpAny _ _ (Builtin.Tuple.tupleItemsOf (.ref t) >>= _) _ _ s;refine v_ (tupleItemsOf_ ht ?_);refine v_ (wpAny_typeOf hTs ?_);rw[if_pos (by decide)];refine v_ (kT hs pl pu ?_);have hno:¬ ((((sIx items.size 0 lo:Nat):Int)==0&&(1:Int)==1&&(sIx items.size items.size hi-sIx items.size 0 lo)==items.size)=true):=by intro q;rw[C_,C_] at q;have q1:((sIx items.size 0 lo:Nat):Int)=0:=eq_of_beq q.1.1;have q2:sIx items.size items.size hi-sIx items.size 0 lo=items.size:=eq_of_beq q.2;exact hw ⟨by omega,by omega⟩
 show wpAny _ _ (if (((sIx items.size 0 lo:Nat):Int)==0&&(1:Int)==1&&(sIx items.size items.size hi-sIx items.size 0 lo)==items.size)=true then _ else _) _ _ s;rw[if_neg hno,Cj];first
  |exact v_ (m:=Builtin.Tuple.tupleExact _) (OC (D_ ⟨_,rfl,D_ h⟩) htake)
  |exact v_ (m:=Builtin.Tuple.tupleExact _) (OC (v_ (D_ (D_ ⟨_,rfl,D_ h⟩))) htake)
  |exact v_ (v_ (m:=Builtin.Tuple.tupleExact _) (OC (D_ (D_ ⟨_,rfl,D_ h⟩)) htake))
  |exact v_ (v_ (m:=Builtin.Tuple.tupleExact _) (OC (D_ ⟨_,rfl,D_ h⟩) htake))
end
end HT
namespace L2
open PySem PySem.Spec PyProof.Rows
abbrev TO:=St->Hp->(Option Int->Hp->Prop)->Prop
def PO(X:Cx)(e:Option Expr)(t:TO):Prop:=
 ∀
  (pins:Qi) (s:Shared) (σ:St) (H:Hp) (Q:Option Int->Hp->Prop),Inv X pins σ H s->t σ H Q->
  wpAny (model X.prog X.w) X.A (evalPart e X.env) (λu s'=>∃o H',Inv X pins σ H' s'/\IsPart u o/\Q o H') X.xe s
def FC:TO:=λ_ H Q=>Q none H
def Nb(t:TE):TO:=λσ H Q=>t σ H λx H1=>∃i,x=.int i/\Q (some i) H1
section
variable{X:Cx}{e:Expr}{te:TE}{lo hi:Option Expr}{tl th:TO}{pos p2:Pos}
def Fq:PO X none FC:=by intro pins s σ H Q I h;rw[evalPart_none];exact D_ ⟨none,H,I,.none,h⟩
def Er(h:PE X e te):PO X (some e) (Nb te):=by intro pins s σ H Q I hw;rw[evalPart_some];refine thn (h pins s σ H _ I hw) λu s1 ⟨x,H1,I1,r1,q1⟩=>?_;obtain⟨i,rfl,q⟩:=q1;obtain⟨t,rfl⟩:=r1;exact⟨some i,H1,I1,.int i t,q⟩
def SlR(X:Cx)(r:V->Option Int->Option Int->Hp->VK->Prop):Prop:=
 ∀
  (pins:Qi) (s:Shared) (σ:St) (H:Hp) (x:V) (v vl vu:Value) (lo hi:Option Int) (sl:Addr) (Q:VK),Inv X pins σ H s->RelV x v->s.heap.IsSliceOf sl vl vu .none->IsPart vl lo->IsPart vu hi->r x lo hi H Q->
  ∃T id,typeLookup (.type T) "__getitem__"=pure (some (.builtin id))/\s.TypeIs v T/\wpAny (model X.prog X.w) X.A (getItem v (.ref sl)) (EP X pins σ Q) X.xe s
def SlR.or(h:SlR X r)(h':SlR X r'):SlR X (λx lo hi H Q=>r x lo hi H Q\/r' x lo hi H Q):=by
 intro pins s σ H x v vl vu lo hi sl Q I rx hs pl pu q;rcases q with q |q
 .exact h pins s σ H x v vl vu lo hi sl Q I rx hs pl pu q
 .exact h' pins s σ H x v vl vu lo hi sl Q I rx hs pl pu q
def tSl(r:V->Option Int->Option Int->Hp->VK->Prop)(te:TE)(tl th:TO):TE:=λσ H Q=>te σ H λx H1=>tl σ H1 λl H2=>th σ H2 λu H3=>r x l u H3 Q
def AQ(hr:SlR X r)(he:PE X e te)(hl:PO X lo tl)(hu:PO X hi th):PE X (.Subscript e (.Slice lo hi none p2) pos) (tSl r te tl th):=by intro pins s σ H Q I h;refine Subscript_ (thn (he pins s σ H _ I h) λv s1 ⟨x,H1,I1,r1,q1⟩=>?_);refine wpAny_Slice (thn (hl pins s1 σ H1 _ I1 q1) λvl s2 ⟨l,H2,I2,pl,q2⟩=>thn (hu pins s2 σ H2 _ I2 q2) λvu s3 ⟨u,H3,I3,pu,q3⟩=>?_);rw[evalPart_none];refine D_ ?_;have I4:Inv X pins σ H3 { s3 with heap:=s3.heap.push { cls:=.type "slice",data:=.fields #[vl,vu,.none] } }:=I3.kept (t':=s3.toks) λb ob q=>B_ _ q;obtain⟨T,id,hT,ht,hg⟩:=hr pins { s3 with heap:=s3.heap.push { cls:=.type "slice",data:=.fields #[vl,vu,.none] } } σ H3 x v vl vu l u s3.heap.objs.size Q I4 r1 (Heap.IsSliceOf.new ..) pl pu q3;show wpAny (model X.prog X.w) X.A (subscriptTail e (.Slice lo hi none p2) v (.ref s3.heap.objs.size)) (EP X pins σ Q) X.xe { s3 with heap:=s3.heap.push { cls:=.type "slice",data:=.fields #[vl,vu,.none] } };exact tail_any (ops:=[.ref s3.heap.objs.size,v]) ht hT hg (by with_unfolding_all rfl)
noncomputable def jM(xs:List V)(lo hi:Option Int):List V:=(xs.drop (HT.sIx xs.length 0 lo)).take (HT.sIx xs.length xs.length hi-HT.sIx xs.length 0 lo)
def kP(xs:List V)(lo hi:Option Int):(jM xs lo hi).length<=xs.length:=by unfold jM;rw[Pf,List.length_drop];omega
def rSlT(K:W.Frag):V->Option Int->Option Int->Hp->VK->Prop:=λx lo hi H Q=>∃a xs,x=.ref a/\SqT K H a xs/\
 ¬ (HT.sIx xs.length 0 lo=0/\HT.sIx xs.length xs.length hi=xs.length)/\∀p,H p=none->Q (.ref p) (upd H p (.tup (jM xs lo hi)))
def GA:SlR X (rSlT X.K):=by
 intro pins s σ H x v vl vu lo hi sl Q I rx hs pl pu h;obtain⟨a,xs,rfl,hx,hw,q⟩:=h;cases rx;obtain⟨its,r,ht,hz⟩:=I.tuple hx;have d_:its.toArray.size=xs.length:=by rw[H_];exact r.length.symm
 refine⟨"tuple",_,PyProof.Rows.slot_tuple_getitem.lookup,ht.typeIs,?_⟩;refine HT.getItem_tuple_cut ht hs pl pu (by rw[d_];exact hw) ?_ (by rw[d_];exact hz);rw[d_];refine⟨.ref s.heap.objs.size,_,I.laid (t':=s.toks) (o:=.tup (jM xs lo hi)) (λb ob q=>B_ _ q) (z_ _) ?_,rfl,q _ (I.hok.fresh (z_ _))⟩;exact⟨J_ (kP xs lo hi) hz,_,(r.drop (HT.sIx xs.length 0 lo)).take (HT.sIx xs.length xs.length hi-HT.sIx xs.length 0 lo),IsTup.new _ _⟩
def kE(K:W.Frag):R2:=λx y H Q=>∃a b xs ys,x=.ref a/\y=.ref b/\SqT K H a xs/\SqT K H b ys/\xs≠[]/\xs.length+ys.length<=sizeLine/\
 (ys=[]->Q (.ref a) H)/\(ys≠[]->∀p,H p=none->Q (.ref p) (upd H p (.tup (xs++ys))))
def Vals.nil_iff(r:Vals xs us):us=[] ↔ xs=[]:=by
 cases r with
 |nil=>simp
 |cons _ _=>simp
def EJ:OpR X (binaryOp .Add) (kE X.K):=by intro pins s σ H x y v u Q I rx ry h;obtain⟨a,b,xs,ys,rfl,rfl,ha,hb,hx,hz,q1,q2⟩:=h;cases rx;cases ry;obtain⟨its,r1,p1,_⟩:=I.tuple ha;obtain⟨its2,r2,p2,_⟩:=I.tuple hb;refine HT.cat_tup p1 p2 (λz=>hx (r1.nil_iff.mp z)) (λz=>⟨.ref a,H,I,rfl,q1 (r2.nil_iff.mp z)⟩) (λz=>?_) (by rw[<- r1.length,<- r2.length];exact hz);refine⟨.ref s.heap.objs.size,_,I.laid (t':=s.toks) (o:=.tup (xs++ys)) (λb ob q=>B_ _ q) (z_ _) ?_,rfl,q2 (λw=>z (r2.nil_iff.mpr w)) _ (I.hok.fresh (z_ _))⟩;exact⟨by rw[F_];exact hz,_,r1.append r2,IsTup.new _ _⟩
end
noncomputable def ixN(n:Nat)(i:Int):Option Nat:=if 0<=i then (if i<n then some i.toNat else none) else if -(n:Int)<=i then some (i+n).toNat else none
noncomputable def atI{α:Type}(xs:List α)(i:Int):Option α:=(ixN xs.length i).bind λj=>xs[j]?
def uu(h:ixN n i=some j):seqIndex? i n=some j/\j<n/\-(n:Int)<=i/\i<n:=by
 unfold ixN at h;by_cases h0:0<=i
 .rw[if_pos h0] at h;by_cases h1:i<n
  .rw[if_pos h1] at h;have e:i.toNat=j:=NV h;exact⟨by rw[seqIndex_of h0 h1,e],by omega,by omega,h1⟩
  .rw[if_neg h1] at h;cases h
 .rw[if_neg h0] at h;by_cases h1:-(n:Int)<=i
  .rw[if_pos h1] at h;have e:(i+n).toNat=j:=NV h;exact⟨by rw[seqIndex_neg (by omega) h1,e],by omega,h1,by omega⟩
  .rw[if_neg h1] at h;cases h
def uA(h:atI xs i=some v):∃j,seqIndex? i xs.length=some j/\xs[j]?=some v/\j<xs.length/\-(xs.length:Int)<=i/\i<xs.length:=by
 unfold atI at h;cases e:ixN xs.length i with
 |none=>rw[e] at h;cases h
 |some j=>rw[e] at h;obtain⟨h1,h2,h3,h4⟩:=uu e;exact⟨j,h1,h,h2,h3,h4⟩
def oh(b:Expr):Prop:=∀o i,subscripted b false o i=operate [o,i] (getItem o i)
def IxR(X:Cx)(r:R2):Prop:=
 ∀
  (value m_:Expr) (pins:Qi) (s:Shared) (σ:St) (H:Hp) (x y:V) (v u:Value) (Q:VK),Inv X pins σ H s->RelV x v->RelV y u->r x y H Q->
  subscripted m_ false v u=operate [v,u] (getItem v u)->wpAny (model X.prog X.w) X.A (subscriptTail value m_ v u) (EP X pins σ Q) X.xe s
def MtR(X:Cx)(id:String)(r:V->List V->Hp->VK->Prop):Prop:=
 ∀
  (pins:Qi) (s:Shared) (σ:St) (H:Hp) (x:V) (xs:List V) (v:Value) (us:List Value) (Q:VK),Inv X pins σ H s->RelV x v->Vals xs us->r x xs H Q->
  wpAny (model X.prog X.w) X.A (call (.builtin id) (v::us)) (EP X pins σ Q) X.xe s
section
variable{X:Cx}{a b:Expr}{ta tb:TE}{pos:Pos}
def IxR.or(h:IxR X r)(h':IxR X r'):IxR X (λx y H Q=>r x y H Q\/r' x y H Q):=by
 intro value m_ pins s σ H x y v u Q I rx ry q hs;rcases q with q |q
 .exact h value m_ pins s σ H x y v u Q I rx ry q hs
 .exact h' value m_ pins s σ H x y v u Q I rx ry q hs
def Ls(hr:IxR X r)(ha:PE X a ta)(hb:PE X b tb)(hs:oh b):PE X (.Subscript a b pos) (tOp r ta tb):=by intro pins s σ H Q I h;exact Subscript_ (AN ha hb I h λv u s2 x y H2 I2 rx ry q=>hr a b pins s2 σ H2 x y v u Q I2 rx ry q (hs _ _))
def vo(K:W.Frag):R2:=λx y H Q=>∃p xs i v,x=.ref p/\y=.int i/\SqL K H p xs/\atI xs i=some v/\Q v H
def vj(K:W.Frag):R2:=λx y H Q=>∃p xs i v,x=.ref p/\y=.int i/\SqT K H p xs/\atI xs i=some v/\Q v H
def FD:IxR X (vo X.K):=by
 intro value m_ pins s σ H x y v u Q I rx ry h hs;obtain⟨p,xs,i,z,rfl,rfl,hq,he,q⟩:=h;cases rx;obtain⟨t,rfl⟩:=ry;obtain⟨its,r,pl,hz⟩:=I.list hq;obtain⟨j,h1,h2,h3,h4,h5⟩:=uA he;obtain⟨w,ew,rw'⟩:=r.get h2;have hl:=r.length;have hn:=gx;have l_:EP X pins σ Q w s:=⟨z,H,I,rw',q⟩;by_cases h0:0<=i
 .have hj:i.toNat=j:=by rw[seqIndex_of h0 h5] at h1;exact NV h1
  exact item_listR pl.isList h0 (by omega) (by rw[hj];simpa using ew) l_ hs
 .have hj:(i+(its.toArray.size:Int)).toNat=j:=by rw[seqIndex_neg (by omega) h4] at h1;rw[H_,<- hl];exact NV h1
  exact PR (x:=w) pl.isList.typeIs slot_list_getitem.lookup
   (wpAny_getItem_list_neg (Q:=λr s'=>r=w/\EP X pins σ Q r s') pl.isList (by omega) (by rw[H_] <;> omega) (by omega) (by rw[hj];simpa using ew) ⟨rfl,l_⟩) hs
def Jg:IxR X (vj X.K):=by
 intro value m_ pins s σ H x y v u Q I rx ry h hs;obtain⟨p,xs,i,z,rfl,rfl,hq,he,q⟩:=h;cases rx;obtain⟨t,rfl⟩:=ry;obtain⟨its,r,pl,hz⟩:=I.tuple hq;obtain⟨j,h1,h2,h3,h4,h5⟩:=uA he;obtain⟨w,ew,rw'⟩:=r.get h2;have hl:=r.length;have hn:=gx;have l_:EP X pins σ Q w s:=⟨z,H,I,rw',q⟩;exact PR (x:=w) pl.typeIs slot_tuple_getitem.lookup
  (getItem_tuple (j:=j) (Q:=λr s'=>r=w/\EP X pins σ Q r s') pl (by omega) (by omega) (by rw[H_,<- hl];exact h1) (by simpa using ew) ⟨rfl,l_⟩) hs
def wO(its:List Value)(n j:Nat)(u:Value):Obj.mapSeq (·.setIfInBounds j u) { cls:=.type "list",data:=.seq its.toArray n }={ cls:=.type "list",data:=.seq (its.set j u).toArray n }:=by simp [Obj.mapSeq]
def Inv.lst(I:Inv X pins σ H s)(h:H p=some (.lst xs)):
 ∃(its:List Value) (n:Nat),Vals xs its/\s.heap.get? p=some { cls:=.type "list",data:=.seq its.toArray n }/\xs.length<=sizeLine:=by
 obtain⟨z,its,n,r,e⟩:=I.hok p _ h;exact⟨its,n,r,e,z⟩
def Inv.lstUpd{pins:Qi}{σ:St}{H:Hp}{s:Shared}{p:Addr}{xs ys:List V}{its its':List Value}{n n':Nat}{f:Obj->Obj}(I:Inv X pins σ H s)(h:H p=some (.lst xs))
 (ho:s.heap.get? p=some { cls:=.type "list",data:=.seq its.toArray n }) (hf:f { cls:=.type "list",data:=.seq its.toArray n }={ cls:=.type "list",data:=.seq its'.toArray n' }) (r:Vals ys its') (hz:ys.length<=sizeLine) (t:Nat):
 Inv X pins σ (upd H p (.lst ys)) { s with heap:=s.heap.update p f,toks:=t }:=by
 have e:(s.heap.update p f).get? p=some { cls:=.type "list",data:=.seq its'.toArray n' }:=by rw[Heap.get?_update_self f ho (by rw[hf] <;> rfl),hf]
 refine I.write (x:=p) (e:=p) (by rw[h];trivial) (.inl rfl) (λb u hb q=>(PM _ _ (Ne.symm hb)).trans q) ⟨_,e⟩ ?_;exact⟨hz,its',n',r,e⟩
def vS:V->V->V->Hp->(Hp->Prop)->Prop:=λo i v H Q=>∃p xs k j,o=.ref p/\i=.int k/\H p=some (.lst xs)/\ixN xs.length k=some j/\Q (upd H p (.lst (xs.set j v)))
def BY:rm X vS:=by
 intro pins s σ H o i v ov iv u Q I ro ri rv h;obtain⟨p,xs,k,j,rfl,rfl,hp,hj,q⟩:=h;cases ro;obtain⟨t,rfl⟩:=ri;obtain⟨its,n,r,ho,hz⟩:=I.lst hp;obtain⟨h1,h2,h3,h4⟩:=uu hj;have hl:=r.length;have hn:=gx;have I':Inv X pins σ (upd H p (.lst (xs.set j v))) { s with heap:=s.heap.update p (Obj.mapSeq (·.setIfInBounds j u)) }:=
  I.lstUpd hp ho (wO its n j u) (r.set rv j) (by rw[NU];exact hz) s.toks
 by_cases h0:0<=k
 .have hk:k.toNat=j:=by rw[seqIndex_of h0 h4] at h1;exact NV h1
  exact W.ki_setAt ho h0 (by omega) (by rw[H_,<- hl];exact h4) (by rw[hk];exact⟨_,I',q⟩)
 .have hk:(k+(its.toArray.size:Int)).toNat=j:=by rw[seqIndex_neg (by omega) h3] at h1;rw[H_,<- hl];exact NV h1
  exact W.ki_setBack ho (by omega) (by rw[H_,<- hl];exact h3) (by omega) (by rw[hk];exact⟨_,I',q⟩)
def sX(lo hi:Option Int)(n:Nat):(sliceBounds lo hi none n).1=((HT.sIx n 0 lo:Nat):Int)/\(sliceBounds lo hi none n).2.1=((HT.sIx n n hi:Nat):Int)/\(sliceBounds lo hi none n).2.2=1:=by
 refine⟨?_,?_,rfl⟩
 .cases lo with
  |none=>simp [sliceBounds,HT.sIx]
  |
   some i=>
   simp only[sliceBounds,HT.sIx,PX,show (1:Int)>0 by decide,OL];by_cases h:i<0
   .simp only[h,OL] <;> omega
   .simp only[h,Pg] <;> omega
 .cases hi with
  |none=>simp [sliceBounds,HT.sIx]
  |
   some i=>
   simp only[sliceBounds,HT.sIx,PX,show (1:Int)>0 by decide,OL];by_cases h:i<0
   .simp only[h,OL] <;> omega
   .simp only[h,Pg] <;> omega
def pM(its:List Value)(lo hi:Option Int):slicePick its.toArray lo hi none=((its.drop (HT.sIx its.length 0 lo)).take (HT.sIx its.length its.length hi-HT.sIx its.length 0 lo)).toArray:=by obtain⟨h1,h2,h3⟩:=sX lo hi its.toArray.size;unfold slicePick;rw[h1,h2,h3];simp only[sliceRange_one,pick_run,H_] <;> rfl
def rSlL(K:W.Frag):V->Option Int->Option Int->Hp->VK->Prop:=λx lo hi H Q=>∃a xs,x=.ref a/\SqL K H a xs/\∀p,H p=none->Q (.ref p) (upd H p (.lst (jM xs lo hi)))
def FT:SlR X (rSlL X.K):=by intro pins s σ H x v vl vu lo hi sl Q I rx hs pl pu h;obtain⟨a,xs,rfl,hx,q⟩:=h;cases rx;obtain⟨its,r,ht,hz⟩:=I.list hx;have d_:=r.length;refine⟨"list",_,slot_list_getitem.lookup,ht.isList.typeIs,?_⟩;refine wpAny_getItem_list_slice ht.isList hs pl pu .none (by simp) ?_ (by rw[H_] <;> omega);rw[pM,<- d_];refine⟨.ref s.heap.objs.size,_,I.laid (t':=s.toks) (o:=.lst (jM xs lo hi)) (λb ob q=>B_ _ q) (z_ _) ?_,rfl,q _ (I.hok.fresh (z_ _))⟩;exact⟨J_ (kP xs lo hi) hz,_,0,(r.drop (HT.sIx xs.length 0 lo)).take (HT.sIx xs.length xs.length hi-HT.sIx xs.length 0 lo),NW _ rfl⟩
noncomputable def flatV:V->Bool
 |.non=>true
 |.bl _=>true
 |.int _=>true
 |.str _=>true
 |_=>false
noncomputable def eqV:V->V->Bool
 |.non,.non=>true
 |.bl a,.bl b=>a==b
 |.bl a,.int b=>(if a then 1 else 0)==b
 |.int a,.bl b=>a==(if b then 1 else 0)
 |.int a,.int b=>a==b
 |.str a,.str b=>a==b
 |_,_=>false
def IT(ry:RelV y u)(rx:RelV x v)(fy:flatV y=true)(fx:flatV x=true):SeqAt.EqAt A s u v (eqV y x):=by
 cases y with
 |
  non=>
  cases ry;cases x with
  |non=>cases rx;exact SeqAt.EqAt.same _
  |bl b=>cases rx;exact SeqAt.EqAt.none_bool b
  |int b=>obtain⟨t,rfl⟩:=rx;exact SeqAt.EqAt.none_int b t
  |str b=>obtain⟨t,rfl⟩:=rx;exact SeqAt.EqAt.none_str b t
  |_=>exact absurd (show false=true from fx) y_
 |
  bl a=>
  cases ry;cases x with
  |non=>cases rx;exact SeqAt.EqAt.bool_none a
  |bl b=>cases rx;exact SeqAt.EqAt.bool_bool a b
  |int b=>obtain⟨t,rfl⟩:=rx;exact SeqAt.EqAt.bool_int a b t
  |str b=>obtain⟨t,rfl⟩:=rx;exact SeqAt.EqAt.bool_str a b t
  |_=>exact absurd (show false=true from fx) y_
 |
  int a=>
  obtain⟨t',rfl⟩:=ry;cases x with
  |non=>cases rx;exact SeqAt.EqAt.int_none a t'
  |bl b=>cases rx;exact SeqAt.EqAt.int_bool a t' b
  |int b=>obtain⟨t,rfl⟩:=rx;exact SeqAt.EqAt.int_int a t' b t
  |str b=>obtain⟨t,rfl⟩:=rx;exact SeqAt.EqAt.int_str a t' b t
  |_=>exact absurd (show false=true from fx) y_
 |
  str a=>
  obtain⟨t',rfl⟩:=ry;cases x with
  |non=>cases rx;exact SeqAt.EqAt.str_none a t'
  |bl b=>cases rx;exact SeqAt.EqAt.str_bool a t' b
  |int b=>obtain⟨t,rfl⟩:=rx;exact SeqAt.EqAt.str_int a t' b t
  |str b=>obtain⟨t,rfl⟩:=rx;exact SeqAt.EqAt.str_str a t' b t
  |_=>exact absurd (show false=true from fx) y_
 |_=>exact absurd (show false=true from fy) y_
noncomputable def eqU(x:V)(u:Value):Bool:=match u with
 |.none=>eqV .non x
 |.bool b=>eqV (.bl b) x
 |.int i _=>eqV (.int i) x
 |.str z _=>eqV (.str z) x
 |_=>false
def zD(r:RelV y u)(f:flatV y=true):eqU x u=eqV y x:=by
 cases y with
 |non=>cases r;rfl
 |bl b=>cases r;rfl
 |int i=>obtain⟨t,rfl⟩:=r;rfl
 |str z=>obtain⟨t,rfl⟩:=r;rfl
 |_=>exact absurd (show false=true from f) y_
theorem iP:∀{xs:List V}{us:List Value},Vals xs us->xs.all flatV=true->us.any (eqU x)=xs.any λy=>eqV y x
 |_,_,.nil,_=>rfl
 |
  y::xs,u::us,.cons r t,f=>by
  rw[ON,C_] at f;rw[OF,OF,zD r f.1,iP t f.2]
theorem gC(rx:RelV x v)(fx:flatV x=true):∀{xs:List V}{us:List Value},Vals xs us->xs.all flatV=true->∀u∈us,SeqAt.EqAt A s u v (eqU x u)
 |_,_,.nil,_=>λu hu=>by cases hu
 |
  y::xs,u::us,.cons r t,f=>λu' hu=>by
  rw[ON,C_] at f;rcases NZ.mp hu with rfl |hu
  .rw[zD r f.1];exact IT r rx f.1 fx
  .exact gC rx fx t f.2 u' hu
noncomputable def inV(x:V)(xs:List V):Bool:=xs.any λy=>eqV y x
def rIn(K:W.Frag)(o_:Bool):R2:=λx y H Q=>∃p xs,y=.ref p/\(SqL K H p xs\/SqT K H p xs)/\flatV x=true/\xs.all flatV=true/\Q (.bl (if o_ then !inV x xs else inV x xs)) H
def yJ:OpR X (compareOp .In) (rIn X.K false):=by
 intro pins s σ H x y v u Q I rx ry h;obtain⟨p,xs,rfl,hq,fx,fs,q⟩:=h;cases ry;rcases hq with hq |hq
 .obtain⟨its,r,pl,hz⟩:=I.list hq;refine SeqAt.in_listAt (eqU x) pl.isList (λw hw=>gC rx fx r fs w (by simpa using hw)) ⟨.bl _,H,I,rfl,?_⟩;rw[show its.toArray.any (eqU x)=its.any (eqU x) by simp,iP r fs];exact q
 .obtain⟨its,r,pl,hz⟩:=I.tuple hq;refine SeqAt.in_tupleAt (eqU x) pl (λw hw=>gC rx fx r fs w (by simpa using hw)) ⟨.bl _,H,I,rfl,?_⟩;rw[show its.toArray.any (eqU x)=its.any (eqU x) by simp,iP r fs];exact q
def qz:OpR X (compareOp .NotIn) (rIn X.K true):=by
 intro pins s σ H x y v u Q I rx ry h;obtain⟨p,xs,rfl,hq,fx,fs,q⟩:=h;cases ry;rcases hq with hq |hq
 .obtain⟨its,r,pl,hz⟩:=I.list hq;refine SeqAt.notIn_listAt (eqU x) pl.isList (λw hw=>gC rx fx r fs w (by simpa using hw)) ⟨.bl _,H,I,rfl,?_⟩;rw[show its.toArray.any (eqU x)=its.any (eqU x) by simp,iP r fs];exact q
 .obtain⟨its,r,pl,hz⟩:=I.tuple hq;refine SeqAt.notIn_tupleAt (eqU x) pl (λw hw=>gC rx fx r fs w (by simpa using hw)) ⟨.bl _,H,I,rfl,?_⟩;rw[show its.toArray.any (eqU x)=its.any (eqU x) by simp,iP r fs];exact q
def qK:CallR X (.builtin "len") (λxs H Q=>∃p ys,xs=[.ref p]/\(SqL X.K H p ys\/SqT X.K H p ys)/\Q (.int ys.length) H):=by
 intro pins s σ H xs us Q I r h;obtain⟨p,ys,rfl,hq,q⟩:=h;obtain⟨u,rfl,rx⟩:=fZ r;cases rx;have hn:=gx;rcases hq with hq |hq
 .obtain⟨its,r',pl,hz⟩:=I.list hq;have d_:=r'.length;exact Calls.call_len_list pl.isList (by simp only[H_] <;> omega) ⟨.int ys.length,H,I.tok _,⟨s.toks+1,by rw[H_,d_]⟩,q⟩
 .obtain⟨its,r',pl,hz⟩:=I.tuple hq;have d_:=r'.length;exact len_tuple pl (by simp only[H_] <;> omega) ⟨.int ys.length,H,I.tok _,⟨s.toks+1,by rw[H_,d_]⟩,q⟩
def qF:CallR X (.builtin "len") (λxs H Q=>∃z,xs=[.str z]/\z.length<=sizeLine/\Q (.int z.length) H):=by intro pins s σ H xs us Q I r h;obtain⟨z,rfl,hz,q⟩:=h;obtain⟨u,rfl,t,rfl⟩:=fZ r;have hn:=gx;exact len_str (by omega) ⟨.int z.length,H,I.tok _,⟨_,rfl⟩,q⟩
def CallR.or(h:CallR X f r)(h':CallR X f r'):CallR X f (λxs H Q=>r xs H Q\/r' xs H Q):=by
 intro pins s σ H xs us Q I rs q;rcases q with q |q
 .exact h pins s σ H xs us Q I rs q
 .exact h' pins s σ H xs us Q I rs q
def qQ:CallR X (.type "list") (λxs H Q=>∃p ys,xs=[.ref p]/\(SqL X.K H p ys\/SqT X.K H p ys)/\∀l,H l=none->Q (.ref l) (upd H l (.lst ys))):=by
 intro pins s σ H xs us Q I r h;obtain⟨p,ys,rfl,hq,q⟩:=h;obtain⟨u,rfl,rx⟩:=fZ r;cases rx;have l_:∀(its:List Value),Vals ys its->ys.length<=sizeLine->∀(h':Heap) (c':Nat),(∀b o',s.heap.get? b=some o'->h'.get? b=some o')->
  h'.get? s.heap.objs.size=some { cls:=.type "list",dict:=none,data:=.seq its.toArray c',slots:=#[] }->EP X pins σ Q (.ref s.heap.objs.size) { s with heap:=h' }:=λits r' hz h' c' kp e=>
  ⟨.ref s.heap.objs.size,_,I.laid (t':=s.toks) kp (z_ _) (show ObjOk X.prog X.w _ h' _ (.lst ys) from ⟨hz,its,c',r',e⟩),rfl,q _ (I.hok.fresh (z_ _))⟩
 rcases hq with hq |hq
 .obtain⟨its,r',pl,hz⟩:=I.list hq;have d_:=r'.length;obtain⟨o,ho,hc,n,hd⟩:=pl.isList;exact call_list_seq p (.inl rfl) ho hc hd (λh' c' kp e=>l_ its r' hz h' c' kp e) (by simp only[H_] <;> omega)
 .obtain⟨its,r',pl,hz⟩:=I.tuple hq;have d_:=r'.length;obtain⟨o,ho,hc,n,hd⟩:=pl;exact call_list_seq p (.inr rfl) ho hc hd (λh' c' kp e=>l_ its r' hz h' c' kp e) (by simp only[H_] <;> omega)
def pI:CallR X (.type "tuple") (λxs H Q=>∃p ys,xs=[.ref p]/\((SqL X.K H p ys/\∀l,H l=none->Q (.ref l) (upd H l (.tup ys)))\/(SqT X.K H p ys/\Q (.ref p) H))):=by
 intro pins s σ H xs us Q I r h;obtain⟨p,ys,rfl,h⟩:=h;obtain⟨u,rfl,rx⟩:=fZ r;cases rx;rcases h with ⟨hq,q⟩ |⟨hq,q⟩
 .obtain⟨its,r',pl,hz⟩:=I.list hq;have d_:=r'.length;refine call_tuple_list pl.isList (λh' kp=>?_) (by simp only[H_] <;> omega);have I1:Inv X pins σ H { s with heap:=h' }:=I.kept (t':=s.toks) kp;have I2:Inv X pins σ (upd H h'.objs.size (.tup ys)) { s with heap:=h'.push { cls:=.type "tuple",data:=.seq its.toArray } }:=
   I1.laid (t':=s.toks) (λb o e=>B_ _ e) (z_ _) (show ObjOk X.prog X.w _ _ _ (.tup ys) from ⟨hz,its,r',IsTup.new _ _⟩)
  exact⟨.ref h'.objs.size,_,I2,rfl,q _ (I1.hok.fresh (z_ _))⟩
 .obtain⟨its,r',pl,hz⟩:=I.tuple hq;exact call_tuple_same pl ⟨.ref p,H,I,rfl,q⟩
def tyV(K:W.Frag)(T:String)(x:V)(H:Hp):Prop:=match x with
 |.str _=>T="str"
 |.int _=>T="int"
 |.ref p=>(T="list" /\ ∃xs,SqL K H p xs)\/(T="tuple" /\ ∃o,K.lookup p=some o/\o.cls=.type "tuple" /\ o.dict=none)\/
  (T="dict" /\ ((∃kvs,H p=some (.dK kvs))\/∃kvs,H p=some (.dT kvs)))\/(T="set" /\ ∃S n,H p=some (.set S n))
 |_=>False
def Kv(I:Inv X pins σ H s)(r:RelV x v)(ty:tyV X.K T x H):
 s.TypeIs v T/\∀a,v=.ref a->∃ob,s.heap.get? a=some ob/\ob.dict=none:=by
 cases x with
 |str z=>obtain⟨t,rfl⟩:=r;cases (show T="str" from ty);exact⟨typeIs_str s z t,λ_ e=>nomatch e⟩
 |int i=>obtain⟨t,rfl⟩:=r;cases (show T="int" from ty);exact⟨typeIs_int s i t,λ_ e=>nomatch e⟩
 |
  ref p=>
  cases r;rcases ty with ⟨rfl,xs,hq⟩ |⟨rfl,o,hk,hc,hd⟩ |⟨rfl,hk⟩ |⟨rfl,S,n,hk⟩
  .obtain⟨its,_,pl,_⟩:=I.list hq;refine⟨pl.isList.typeIs,λa e=>?_⟩;cases e;obtain⟨o,n,e,c,hd,_⟩:=pl;exact⟨o,e,hd⟩
  .refine⟨⟨o,I.kIn p o hk,hc⟩,λa e=>?_⟩;cases e;exact⟨o,I.kIn _ o hk,hd⟩
  .have z:∃o,s.heap.get? p=some o/\o.ExactDict:=by
    rcases hk with ⟨kvs,hk⟩ |⟨kvs,hk⟩
    .obtain⟨_,_,_,_,o,_,_,e,ex,_⟩:=I.hok p _ hk;exact⟨o,e,ex⟩
    .obtain⟨_,_,_,_,o,_,_,e,ex,_⟩:=I.hok p _ hk;exact⟨o,e,ex⟩
   obtain⟨o,e,ex⟩:=z;refine⟨⟨o,e,ex.1⟩,λa e2=>?_⟩;cases e2;exact⟨o,e,ex.2.1⟩
  .obtain⟨o,_,_,_,e,ex,_⟩:=I.hok p _ hk;refine⟨⟨o,e,ex.1⟩,λa e2=>?_⟩;cases e2;exact⟨o,e,ex.2.1⟩
 |_=>exact False.elim ty
def tBM(K:W.Frag)(T:String)(r:V->List V->Hp->VK->Prop)(to:TE)(t:TA):TE:=λσ H Q=>to σ H λx H1=>tyV K T x H1/\t σ H1 λxs H2=>r x xs H2 Q
variable{o e:Expr}{es:List Expr}{to:TE}{t:TA}{name:Str}{apos cpos:Pos}{T id:String}{r:V->List V->Hp->VK->Prop}
def LP(pa:PlainAttrs T)(slot:Slot T name id)(hty:typeOf (.builtin id)=pure (.type "method_descriptor"))(hm:MtR X id r)(ho:PE X o to)(ha:PA X (e::es) t)
 (hbase:attributeBase o name X.env (eval o X.env)=eval o X.env)
 (hfew:((backTo cpos (starEach (e::es) X.env)).all (λx=>!x.1)&&(backToKw cpos (keywordEach [] X.env)).all (λx=>x.1.isSome)
  && decide ((e::es).length+([]:List Keyword).length+(if ([]:List Keyword).isEmpty then 0 else 1)<30))=true)
 (hline:(apos.endLine==cpos.line)=true) (hs:starEach (e::es) X.env=(false,eval e X.env)::starEach es X.env) (i_:(backTo cpos (starEach es X.env)).any (·.1)=false):
 PE X (.Call (.Attribute o name apos) (e::es) [] cpos) (tBM X.K T r to t):=by
 intro pins s σ H Q I h;refine wpAny_Call_method_late hbase hfew hline rfl (thn (ho pins s σ H _ I h) λv s1 ⟨x,H1,I1,r1,ty,q1⟩=>?_);obtain⟨h1,h2⟩:=Kv I1 r1 ty;refine⟨T,id,pa,slot,hty,h1,h2,?_⟩;have hA:=ha cpos pins s1 σ H1 _ I1 q1;rw[hs] at hA ⊢;refine Calls.callWith_builtin (by show (false || (backTo cpos (starEach es X.env)).any (·.1))=false;rw[i_] <;> rfl) (Calls.evalArgs_plain ?_);exact thn hA λus s2 ⟨vs,H2,I2,r2,q2⟩=>hm pins s2 σ H2 x vs v us Q I2 r1 r2 q2
end
def MtM(X:Cx)(id:String)(r:V->List V->Hp->VK->Prop):Prop:=
 ∀
  (pins:Qi) (s:Shared) (σ:St) (H:Hp) (x:V) (xs:List V) (v:Value) (us:List Value) (Q:VK),Inv X pins σ H s->RelV x v->Vals xs us->r x xs H Q->
  wpAny (model X.prog X.w) X.A (call (.builtin id) (v::us)) (EP X pins σ Q) X.xe s
def Vals.one(r:Vals [x] us):∃u,us=[u]/\RelV x u:=by
 cases r with
 |cons r t=>cases t;exact⟨_,rfl,r⟩
theorem Vals.rep(h:Vals xs us):∀k:Nat,Vals (List.replicate k xs).flatten (List.replicate k us).flatten
 |0=>.nil
 |
  k+1=>by
  rw[Om,Om,OB,OB];exact Vals.append h (Vals.rep h k)
theorem pj(its:List Value):∀(k:Nat) (acc:List Value),
 List.foldl (λx1 x2=>x1++x2) acc.toArray (List.replicate k its.toArray)=(acc++(List.replicate k its).flatten).toArray
 |0,acc=>by simp
 |
  k+1,acc=>by
  have e:acc.toArray++its.toArray=(acc++its).toArray:=by simp
  have e2:(acc++its)++(List.replicate k its).flatten=acc++(List.replicate (k+1) its).flatten:=by rw[Om,OB,OA]
  rw[<- e2,<- pj its k (acc++its),<- e,Om,P1]
section
variable{X:Cx}{pins:Qi}{σ:St}{H:Hp}{s:Shared}{l:Addr}{xs ys:List V}
def Inv.lset{its its':List Value}{n:Nat}{f:Array Value->Array Value}{t':Nat}(I:Inv X pins σ H s)(hH:H l=some (.lst xs))
 (e:s.heap.get? l=some { cls:=.type "list",data:=.seq its.toArray n }) (hf:f its.toArray=its'.toArray) (hv:Vals ys its') (hz:ys.length<=sizeLine):
 Inv X pins σ (upd H l (.lst ys)) { s with heap:=s.heap.update l (Obj.mapSeq f),toks:=t' }:=by
 have q:=PySem.IsL.update e f;rw[hf] at q;refine I.write (x:=l) (e:=l) (by rw[hH];exact trivial) (.inl rfl) (λb' u hb hu=>(PM s.heap (Obj.mapSeq f) (Ne.symm hb)).trans hu) ⟨_,q⟩ ?_;exact⟨hz,its',_,hv,q⟩
def Inv.lnew(I:Inv X pins σ H s)(hv:Vals ys its)(hz:ys.length<=sizeLine):
 Inv X pins σ (upd H s.heap.objs.size (.lst ys)) { s with heap:=s.heap.push { cls:=.type "list",data:=.seq its.toArray },toks:=t' }:=
 I.laid (λ_ _ q=>B_ _ q) (z_ _) ⟨hz,its,0,hv,NW _ rfl⟩
def Inv.fresh(I:Inv X pins σ H s):H s.heap.objs.size=none:=I.hok.fresh (z_ _)
def Inv.lstM(I:Inv X pins σ H s)(hH:H l=some (.lst xs)):xs.length<=sizeLine/\∃(its:List Value) (n:Nat),Vals xs its/\xs.length=its.length/\s.heap.get? l=some { cls:=.type "list",data:=.seq its.toArray n }:=by obtain⟨z,its,n,r,e⟩:=I.hok l _ hH;exact⟨z,its,n,r,r.length,e⟩
def BF{n:Nat}(h:n<=sizeLine):Builtin.List.listTooLong n=false:=by unfold Builtin.List.listTooLong;exact L_ (by omega)
end
section
variable{X:Cx}
def nV:V->List V->Hp->VK->Prop:=λx vs H Q=>∃l xs y,x=.ref l/\vs=[y]/\H l=some (.lst xs)/\xs.length<sizeLine/\Q .non (upd H l (.lst (xs++[y])))
def ia:MtM X "list.append" nV:=by intro pins s σ H x vs v us Q I rx rv h;obtain⟨l,xs,y,rfl,rfl,hH,hz,q⟩:=h;cases rx;obtain⟨u,rfl,ru⟩:=rv.one;obtain⟨z,its,n,r,hl,e⟩:=I.lstM hH;refine P_ F.slot_list_append ⟨_,e,rfl⟩ F.entry_list_append (F.args_list_append_2 _ _) (PySem.list_append l its.toArray n u (by rw[H_];omega)) ⟨e,?_⟩;refine⟨.non,_,I.lset (its':=its++[u]) hH e (by simp) (r.append (.cons ru .nil)) ?_,rfl,q⟩;rw[F_,List.length_singleton];omega
def oB:R2:=λx y H Q=>∃l b xs zs,x=.ref l/\y=.ref b/\H l=some (.lst xs)/\H b=some (.lst zs)/\xs.length+zs.length<=sizeLine/\∀p,H p=none->Q (.ref p) (upd H p (.lst (xs++zs)))
def HW:OpR X (binaryOp .Add) oB:=by
 intro pins s σ H x y v u Q I rx ry h;obtain⟨l,b,xs,zs,rfl,rfl,hH,hB,hz,q⟩:=h;cases rx;cases ry;obtain⟨z,its,n,r,hl,e⟩:=I.lstM hH;obtain⟨z2,its2,n2,r2,hl2,e2⟩:=I.lstM hB;refine PySem.P.add_list e e2 ?_ (by rw[H_,H_];omega);have ea:its.toArray++its2.toArray=(its++its2).toArray:=by simp
 rw[ea];exact⟨.ref _,_,I.lnew (t':=s.toks) (r.append r2) (by rw[F_];omega),rfl,q _ I.fresh⟩
def BN:R2:=λx y H Q=>∃l k xs,x=.ref l/\y=.int k/\H l=some (.lst xs)/\-(2^63)<=k/\k<2^63/\xs.length*k.toNat<=sizeLine/\
 ∀p,H p=none->Q (.ref p) (upd H p (.lst (List.replicate k.toNat xs).flatten))
def Es(xs:List α)(k:Nat):(List.replicate k xs).flatten.length=k*xs.length:=by
 induction k with
 |zero=>simp
 |succ k ih=>rw[Om,OB,F_,ih,Nat.succ_mul,Nat.add_comm]
def HD:OpR X (binaryOp .Mult) BN:=by
 intro pins s σ H x y v u Q I rx ry h;obtain⟨l,k,xs,rfl,rfl,hH,h1,h2,hz,q⟩:=h;cases rx;obtain⟨t,rfl⟩:=ry;obtain⟨z,its,n,r,hl,e⟩:=I.lstM hH;have d_:its.toArray.size*k.toNat<=sizeLine:=by rw[H_,<- hl];exact hz
 have hcap:¬ its.toArray.size*k.toNat>(2^63-1)/8:=by
  have:(sizeLine:Nat)<=(2^63-1)/8:=by decide
  omega
 have hfit:¬ (!Builtin.List.listFitsIndex k)=true:=by rw[fitsIndex_both h1 h2];exact y_
 have hlong:¬ Builtin.List.listTooLong (its.toArray.size*k.toNat)=true:=by rw[BF d_];exact y_
 have hnew:List.foldl (λx1 x2=>x1++x2) #[] (List.replicate (if its.toArray.isEmpty=true then 0 else k.toNat) its.toArray)=(List.replicate k.toNat its).flatten.toArray:=by
  have f0:∀m:Nat,List.foldl (λx1 x2=>x1++x2) #[] (List.replicate m its.toArray)=(List.replicate m its).flatten.toArray:=λm=>by
   have:=pj its m []
   rw[N7] at this;exact this
  rw[f0];cases its with
  |nil=>simp
  |cons a r'=>rw[if_neg (by simp)]
 refine wpAny_binaryOp_repeat_ref (T:="list") (U:="int") (by decide) ⟨_,e,rfl⟩ (λs'=>typeIs_int s' k t) noFill_list_mul F.fills_int_mul F.slot_int_rmul repeat_list F.slot_int_index.lookup
  (P_ F.slot_int_rmul (typeIs_int s k t) F.entry_int_rmul (F.args_int_rmul_2 _ _) (int___rmul___int_list k t l its.toArray n)
   ⟨e,rfl,⟨_,e,rfl⟩,P_ F.slot_list_mul ⟨_,e,rfl⟩ F.entry_list_mul (F.args_list_mul_2 _ _) (AutoListH.list___mul___list_int_3 l its.toArray n k t hfit hcap hlong) ⟨e,?_⟩⟩)
 rw[hnew];exact⟨.ref _,_,I.lnew (t':=s.toks) (r.rep k.toNat) (by rw[Es,Py];exact hz),rfl,q _ I.fresh⟩
end
section
set_option maxRecDepth 100000 in
end
end L2
namespace Att
open PySem PySem.W PySem.Calls PyProof.Rows
def mL:∀(ns:List Int) (vs:List Value),WellAll P h vs (ns.map WData.int)->IntsAre vs ns:=by
 intro ns;induction ns with
 |nil=>intro vs w;rw[Ov] at w;cases w;exact .nil
 |
  cons n ns ih=>
  intro vs w;rw[E_] at w;cases w with
  |cons a b=>cases a;exact .cons _ _ (ih _ b)
def yM{l:OpenLaw}{n:Nat}(hn:l.most=some n){P:Params}{h:Heap}{args:List WData}{vals:List Value}
 (hpre:l.row.toRowW.claim.pre args=true) (hwl:WellAll P h vals args):
 ∃a vs ns,vals=[Value.ref a]/\args=[WData.list (ns.map WData.int)]/\h.get? a=some { cls:=.type "list",data:=.seq vs.toArray }/\IntsAre vs ns/\ns.length<=n:=by
 have hsh:WShape.hasAll [] args [.list .int]=true:=(pre_splitW hpre).1;have hc:l.pre.holds [] { args:=args }=true:=(pre_splitW hpre).2;obtain⟨d,r,rfl,h1,h2⟩:=hasAllW_cons hsh;obtain rfl:=hasAllW_nil h2;obtain⟨xs,rfl,h3⟩:=hasW_list h1;obtain⟨ns,rfl⟩:=items_int h3;have d_:ns.length<=n:=by
  unfold OpenLaw.pre at hc;have h4:(WTm.not (.lt (.lit (.int (n:Int))) (.len (.arg 0)))).holds [] { args:=[.list (ns.map .int)] }=true:=by have h4:=(holds_andW hc).1;rw[hn] at h4;exact h4
  have h5:=condW_of h4 (w_not (w_lt w_lit (w_len_list (w_arg rfl))));rw[w_] at h5;refine Nat.le_of_not_lt λq=>?_;have q':(n:Int)<((ns.length:Nat):Int):=by omega
  first
   |(rw[NX q'] at h5;exact absurd h5 (by decide))
   |(simp at h5;omega)
 cases hwl with
 |
  cons w1 w2=>
  cases w2;cases w1 with
  |list ho hall=>exact⟨_,_,ns,rfl,rfl,ho,mL ns _ hall,d_⟩
def xy(l:OpenLaw)(args:List WData):l.row.toRowW.claim.post args (.bool true) args=true:=
 postW_of (r:=l.row.toRowW) (X:=(true==true))
  (show WShape.has [] (.bool true) .bool=true by first |rfl |decide |simp [WShape.has,WShape.arms,WShape.armsAll])
  (show (WTm.eq .res (.lit (.bool true))).value [] { args:=args,res:=some (.bool true),after:=args }=some (.bool (true==true)) from w_eq_bool (w_res rfl) w_lit) rfl
def attach_call{l:OpenLaw}{n:Nat}{q:Program}{loose:List Str}{XP:(Str->Option Value)->Heap->Prop}{YP:World->Heap->Prop}{d:DefRec}
 (hn:l.most=some n) (hdf:d.params.defaults=[])
 (call:∀(w:World) (s₀ s₁:Shared) (mg mb:Qh) (fa:Addr) (o:Obj) (pm cd doc:Value) (a:Addr) (vs:List Value) (ns:List Int),
  Ground q loose [] XP w s₀ mg mb s₁.heap->YP w s₁.heap->
  s₁.heap.get? fa=some o->o.data=.func (docDef d.name d.params d.body d.scope pm cd doc)->s₁.heap.CodeRec cd d.name->mg d.name=some (.ref fa)->
  s₁.heap.get? a=some { cls:=.type "list",data:=.seq vs.toArray }->IntsAre vs ns->ns.length<=n->s₁.gens=#[]->
  codeAny (model l.prog w) callerA (.call (.ref fa) ⟨[.ref a],[]⟩) (λr s'=>r=.ok (.ret (.bool true))/\OldK s₁.heap s'.heap/\s'.os=s₁.os/\AllBare s'.gens) s₁):
 WalkO q loose XP YP l.row.toRowW d [] (λf vs=>PySem.call f vs):=by
 intro w s₀ s₁ mg mb G Y fa o pm cd doc dV kV ho hd s_ hD hmg hg args vals as hpre hlay hrd hwl hlo;obtain rfl:dV=.none:=Dflts.none hD hdf;obtain rfl:kV=.none:=Dflts.noKw hD;obtain⟨a,vs,ns,rfl,rfl,hobj,hints,d_⟩:=yM hn hpre hwl;refine enter_call (codeAny_mono (call w s₀ s₁ mg mb fa o pm cd doc a vs ns G Y ho (fd_plain hd) s_ hmg hobj hints d_ hg) λr s' hq=>?_);obtain⟨rfl,h2,h3,h4⟩:=hq;exact⟨.inl ⟨.bool true,.bool true,[],rfl,λ_=>rfl,.bool true,xy l _,λ_=>⟨List.Pairwise.nil,λ_ hm=>(nomatch hm)⟩⟩,h2,h3,h4⟩
section
def qI(h:Heap):Heap:={ h with objs:=#[] }
def wW(h:Heap)(b:Addr):(qI h).get? b=none:=by
 cases e:(qI h).get? b with
 |none=>rfl
 |some o=>exact absurd (Em e) (OZ _)
def ledger(h:Heap)(L d:Addr):List (Addr×Obj):=(List.range h.objs.size).filterMap λa=>if a=L\/a=d then none else (h.get? a).map λo=>(a,o)
def fr_all(n:h.Ns L m):Fr (qI h) L h m:=
 ⟨n,λb o e=>(by rw[wW] at e;cases e),Oa _⟩
end
end Att
namespace L2
open PySem PySem.Spec PyProof.Rows
theorem pE:∀{vs:List Value}{ns:List Int},IntsAre vs ns->Vals (ns.map V.int) vs
 |_,_,.nil=>.nil
 |_,_,.cons n t h=>.cons ⟨t,rfl⟩ (pE h)
def nC(H:Hp):Prop:=∀b,H b=none\/∃o xs,H b=some (.frz o (.lst xs))
def Cs{P:Program}{w:World}{K:W.Frag}{mg mb:Qh}{CX:CXT}{k:Nat}{fa a:Addr}{fd:FuncData}{x:Str}{sp:Sp}{s₁:Shared}{vs:List Value}{ns:List Int}
 (KX:K.In s₁.heap) (hns:s₁.heap.Ns mainGlobals mg) (hb:s₁.heap.Ns builtinsNs mb) (hbb:∀x:Str,x ≠ "__name__"->mb x=bootBuiltins x) (hlim:s₁.heap.NoLimit) (hg:s₁.gens=#[])
 (ha:s₁.heap.get? a=some { cls:=.type "list",data:=.seq vs.toArray }) (hi:IntsAre vs ns) (hl:ns.length<=sizeLine) (hr:Room k callerA)
 (F:∀base:Heap,K.In base->base.Ns mainGlobals mg->FnOk P w K mg base CX k fa fd [x] sp) (hbind:∀(s:Shared) (u:Value),BindsTo s fd ⟨[u],[]⟩ [(x,u)])
 (hsp:∀H:Hp,nC H->SqL K H a (ns.map V.int)->sp [.ref a] H (λv _=>v=.bl true) λ_ _ _=>False)
 (hCX:∀H e s',CX [] H s₁ (λ_ _ _=>False) e s'->False):
 codeAny (model P w) callerA (.call (.ref fa) ⟨[.ref a],[]⟩) (λr s'=>r=.ok (.ret (.bool true))/\OldK s₁.heap s'.heap/\s'.os=s₁.os/\AllBare s'.gens) s₁:=by
 have rv:=pE hi;have lenV:=hi.length;have core
  : ∀H:Hp,nC H->SqL K H a (ns.map V.int)->HOk P w H s₁.heap->(∀b,H b≠none->b=a)->(H a≠none->K.lookup a=none)->
  codeAny (model P w) callerA (.call (.ref fa) ⟨[.ref a],[]⟩) (λr s'=>r=.ok (.ret (.bool true))/\OldK s₁.heap s'.heap/\s'.os=s₁.os/\AllBare s'.gens) s₁:=by
  intro H hO hS hok hA hK;have base_of:∀{b:Addr}{o:Obj},s₁.heap.get? b=some o->H b=none->(jc s₁.heap H).get? b=some o:=λe n=>AZ e n;have noA:∀{b:Addr}{o:Obj}{es:Array DictEntry}{ep:Nat},s₁.heap.get? b=some o->o.data=.dict es ep->H b=none:=λ{b o es ep} e d=>by
   cases q:H b with
   |none=>rfl
   |some u=>have e':b=a:=hA b (by rw[q];simp);subst e';rw[ha] at e;cases e;have d':Data.seq vs.toArray _=Data.dict es ep:=d;cases d'
  have nsK:∀{b:Addr}{m:Qh},s₁.heap.Ns b m->(jc s₁.heap H).Ns b m:=λ{b m} ⟨o,es,ep,e,d,r⟩=>⟨o,es,ep,base_of e (noA e d),d,r⟩;have hKb:K.In (jc s₁.heap H):=λb o e=>base_of (KX b o e) (by
   cases q:H b with
   |none=>rfl
   |some u=>have e':b=a:=hA b (by rw[q];simp);subst e';rw[hK (by rw[q];simp)] at e;cases e)
  have hM:Mod K mg (jc s₁.heap H):=⟨hKb,nsK hns,⟨mb,nsK hb,hbb⟩,let ⟨mc,h1,h2⟩:=hlim;⟨mc,nsK h1,h2⟩⟩;have e0:Env0 P w K mg (jc s₁.heap H) callerA [] s₁ H:=⟨rfl,hM,λb o e=>Fv e,Nat.le_of_eq (xG _ _),trivial,λb hb=>absurd (show b∈([]:List Addr) from hb) (by simp),hok,.of_eq hg⟩;refine codeAny_mono ((F _ hKb (nsK hns)).run callerA [] s₁ H ⟨[.ref a],[]⟩ [.ref a] [.ref a] _ _ hr e0 (hbind s₁ (.ref a)) (.cons rfl .nil) (hsp H hO hS)) λr s' h=>?_;cases r with
  |error e=>exact (hCX H e s' h).elim
  |
   ok fl=>
   cases fl with
   |next=>exact False.elim h
   |brk=>exact False.elim h
   |cont=>exact False.elim h
   |
    ret u=>
    obtain⟨v,H',os,bare,un,hok',r',q⟩:=h;have q':v=.bl true:=q;subst q';obtain rfl:u=Value.bool true:=r';refine⟨rfl,OldK.of_keep λb o e=>?_,os,bare⟩;cases q:H b with
    |none=>exact un.keep b o e q (by intro z;exact absurd (show b∈([]:List Addr) from z) (by simp)) (by simp)
    |
     some u=>
     rcases hO b with z |⟨ob,xs,z⟩
     .rw[q] at z;cases z
     .have z2:=un.frzs b ob _ z;obtain⟨e1,_⟩:=hok b _ z;obtain⟨e2,_⟩:=hok' b _ z2;rw[e] at e1;cases e1;exact e2
 cases hk:K.lookup a with
 |some o=>have e:=KX a o hk;rw[ha] at e;cases e;refine core (λ_=>none) (λ_=>.inl rfl) (.inr ⟨_,vs.toArray,_,hk,rfl,rfl,rfl,by rw[H_,lenV];exact hl,by simpa using rv⟩) (λb u z=>by have z':(none:Option HO)=some u:=z;cases z') (λb z=>absurd rfl z) λz=>absurd rfl z
 |
  none=>
  refine core (λb=>if b=a then some (.frz { cls:=.type "list",data:=.seq vs.toArray } (.lst (ns.map V.int))) else none) (λb=>?_) (.inl (.inr ⟨{ cls:=.type "list",data:=.seq vs.toArray },if_pos rfl⟩)) (λb u z=>?_) (λb z=>?_) λ_=>hk
  .by_cases hb:b=a
   .exact .inr ⟨_,_,if_pos hb⟩
   .exact .inl (if_neg hb)
  .by_cases hb:b=a
   .have z':=(if_pos hb).symm.trans z;cases z';subst hb;exact⟨ha,by rw[w_];exact hl,vs,_,rv,ha⟩
   .have z':=(if_neg hb).symm.trans z;cases z'
  .by_cases hb:b=a
   .exact hb
   .exact absurd (if_neg hb) z
abbrev KOf{K:W.Frag}{h:Heap}(_:K.In h):W.Frag:=K
def walk_of{l:W.OpenLaw}{n k:Nat}{q:Program}{loose:List Str}{XP:(Str->Option Value)->Heap->Prop}{YP:World->Heap->Prop}{d:DefRec}{K:Params->W.Frag}{CX:World->CXT}{sp:World->Sp}{x:Str}
 (hn:l.most=some n) (hn2:n<=sizeLine) (hdf:d.params.defaults=[]) (hr:Room k callerA)
 (hY:∀(w:World) (h:Heap),YP w h->(K w.params).In h)
 (F:∀(w:World) (mg:Qh) (fa:Addr) (h:Heap),(K w.params).In h->h.Ns mainGlobals mg->mg d.name=some (.ref fa)->
  ∃
   fd:FuncData,(∀(s:Shared) (u:Value),BindsTo s fd ⟨[u],[]⟩ [(x,u)])/\
   ∀base:Heap,(K w.params).In base->base.Ns mainGlobals mg->FnOk l.prog w (K w.params) mg base (CX w) k fa fd [x] (sp w))
 (hsp:∀(w:World) (H:Hp) (a:Addr) (ns:List Int),ns.length<=n->nC H->SqL (K w.params) H a (ns.map V.int)->sp w [.ref a] H (λv _=>v=.bl true) λ_ _ _=>False)
 (hCX:∀(w:World) (H:Hp) (s:Shared) (e:Value) (s':Shared),CX w [] H s (λ_ _ _=>False) e s'->False):
 W.WalkO q loose XP YP l.row.toRowW d [] (λf vs=>PySem.call f vs):=by
 refine Att.attach_call hn hdf λw s₀ s₁ mg mb fa o pm cd doc a vs ns G Y ho hd s_ hmg hobj hints d_ hg=>?_;have KX:=hY w _ Y;obtain⟨fd,hb,hF⟩:=F w mg fa _ KX G.T.g hmg;exact Cs KX G.T.g G.T.b G.T.builtins G.T.nolimit hg hobj hints (J_ d_ hn2) hr hF hb (λH hO hS=>hsp w H a ns d_ hO hS) λH e s'=>hCX w H s₁ e s'
noncomputable def bj(s:Stmt):Arguments:=match s with
 |.FunctionDef _ a _ _ _ _ _ _ _ _=>a
 |_=>{ posonlyargs:=[],args:=[],vararg:=none,kwonlyargs:=[],kw_defaults:=[],kwarg:=none,defaults:=[] }
noncomputable def aG(s:Stmt):List Stmt:=match s with
 |.FunctionDef _ _ b _ _ _ _ _ _ _=>b
 |_=>[]
noncomputable def ak(s:Stmt):Scope:=match s with
 |.FunctionDef _ _ _ _ _ _ sc _ _ _=>sc
 |_=>{ kind:=.function,names:=[],isGenerator:=false,isCoroutine:=false }
abbrev E0:XK:=λ_ _ _=>False
structure Fun(K:W.Frag)(x qual:Str)(st:Stmt)(f:Addr)(fd:FuncData):Prop where
 ex:∃(oc:Value) (od:Option Addr) (kV doc pm:Value) (an:Option Addr) (cdv ct:Value) (osl:Array (Option Value)),
  fd=W.fnOf x qual (bj st) (aG st) (ak st) .none kV doc pm an cdv ct/\K.lookup f=some ⟨oc,od,.func fd,osl⟩/\W.codeIn K cdv qual=true
 kp:W.keepIn K (.ref f)=true
section
variable{K:W.Frag}
def Fun.binds{x qual:Str}{st:Stmt}{f:Addr}{fd:FuncData}{ps:List Str}(F:Fun K x qual st f fd)
 (h:∀(kV doc pm:Value) (an:Option Addr) (cdv ct:Value) (us:List Value),us.length=ps.length->bindArgs (W.fnOf x qual (bj st) (aG st) (ak st) .none kV doc pm an cdv ct) ⟨us,[]⟩=pure (ps.zip us)):Binds K fd ps []:=by
 obtain⟨oc,od,kV,doc,pm,an,cdv,ct,osl,rfl,lk,s_⟩:=F.ex;exact .all (h kV doc pm an cdv ct)
def KN{x qual:Str}{st:Stmt}{f:Addr}{oc:Value}{od an:Option Addr}{osl:Array (Option Value)}{kV doc pm cdv ct:Value}(l:K.lookup f=some ⟨oc,od,.func (W.fnOf x qual (bj st) (aG st) (ak st) .none kV doc pm an cdv ct),osl⟩)
 (c:W.codeIn K cdv qual=true) (k:W.keepIn K (.ref f)=true):Fun K x qual st f (W.fnOf x qual (bj st) (aG st) (ak st) .none kV doc pm an cdv ct):=⟨⟨oc,od,kV,doc,pm,an,cdv,ct,osl,rfl,l,c⟩,k⟩
end
def Cz(hr:Room k A):A.units+1<cLine:=Nat.lt_of_le_of_lt (Nat.add_le_add_left (by decide:1<=64) _) hr.units
section
variable{X:Cx}{pins:Qi}{σ:St}{H:Hp}{s:Shared}
def Inv.track{a:Addr}{o:HO}(I:Inv X pins σ H s)(hn:H a=none)(h0:X.s₀.heap.get? a=none)(hL:a≠X.env.locals)(hc:∀x c,X.env.cells.lookup x=some c->c≠a)
 (hp:∀p∈X.pn++pins,p.1≠a) (new:ObjOk X.prog X.w (upd H a o) s.heap a o):Inv X pins σ (upd H a o) s:=by
 have ne:∀b u,H b=some u->b≠a:=λb u e z=>by rw[z,hn] at e;cases e
 have ne0:∀b u,X.s₀.heap.get? b=some u->b≠a:=λb u e z=>by rw[z,h0] at e;cases e
 refine⟨I.ok,I.os,I.bare,⟨I.base.keep,I.base.slot,λb u e n hx=>?_,I.base.there,λb xs e=>?_,λb u xs e=>?_,λb ps e=>?_⟩,I.loc,I.cell,?_,λx c e=>?_,λp hp'=>?_,λb u e=>?_,I.len⟩
 .rw[aD (ne0 b u e)];exact I.base.free b u e n hx
 .have q:=I.base.tups b xs e;rw[aD (ne _ _ q)];exact q
 .have q:=I.base.frzs b u xs e;rw[aD (ne _ _ q)];exact q
 .obtain⟨m,q⟩:=I.base.tbls b ps e;exact⟨m,by rw[aD (ne _ _ q)];exact q⟩
 .rw[aD (Ne.symm hL)];exact I.free
 .rw[aD (hc x c e)];exact I.freeC x c e
 .obtain⟨e,n,r⟩:=I.pin p hp';exact⟨e,by rw[aD (hp p hp')];exact n,r⟩
 .by_cases hb:b=a
  .subst hb;rw[bD] at e;cases e;exact new
  .rw[aD hb] at e;exact (I.hok b u e).stay (λc v _ q=>q) (λc q=>by rw[aD (ne _ _ q)];exact q) λc xs q=>by rw[aD (ne _ _ q)];exact q
end
theorem jj{env:Env}:∀{names:List (Str×NameKind)} (cs:List (Str×Addr)),(∀x∈names,x.2=.free->∃c,env.cells.lookup x.1=some c)->(∀x c,cs.lookup x=some c->env.cells.lookup x=some c)->
 ∃
  cl,(forIn names cs λ(x:Str×NameKind) (r:List (Str×Addr))=>if (x.2==NameKind.free)=true then do let a <- cellOf env x.1;pure (ForInStep.yield ((x.1,a)::r)) else pure (ForInStep.yield r):Sem (List (Str×Addr)))=pure cl/\
  (∀x c,cl.lookup x=some c->env.cells.lookup x=some c)/\(∀x c,cs.lookup x=some c->∃c',cl.lookup x=some c')/\∀x∈names,x.2=.free->∃c,cl.lookup x.1=some c
 | [],cs,_,h=>⟨cs,by simp,h,λx c e=>⟨c,e⟩,λ_ hx=>nomatch hx⟩
 |
  (n,k)::r,cs,hf,h=>by
  rw[O9];by_cases hk:k=.free
  .subst hk;obtain⟨c,hc⟩:=hf (n,.free) G_ rfl;have hcell:cellOf env n=pure c:=by unfold cellOf;rw[hc]
   have h':∀x d,((n,c)::cs).lookup x=some d->env.cells.lookup x=some d:=λx d e=>by
    rw[OQ] at e;cases q:x==n with
    |true=>rw[q] at e;cases e;rw[Oj.mp q];exact hc
    |false=>rw[q] at e;exact h x d e
   obtain⟨cl,e1,e2,e3,e4⟩:=jj (env:=env) (names:=r) ((n,c)::cs) (λx hx=>hf x (A_ _ hx)) h';have top:∃c',cl.lookup n=some c':=e3 n c (by rw[OQ];simp);refine⟨cl,?_,e2,λx d e=>?_,λx hx p_=>?_⟩
   .simp only[beq_self_eq_true,OL,hcell];exact e1
   .by_cases q:x=n
    .rw[q];exact top
    .exact e3 x d (by rw[OQ,(N3.mpr q:(x==n)=false)];exact e)
   .rcases NZ.mp hx with rfl |hx
    .exact top
    .exact e4 x hx p_
  .have hb:(k==NameKind.free)=false:=by simpa using hk
   obtain⟨cl,e1,e2,e3,e4⟩:=jj (env:=env) (names:=r) cs (λx hx=>hf x (A_ _ hx)) h;refine⟨cl,?_,e2,e3,λx hx p_=>?_⟩
   .simp only[hb,OG,Pg];exact e1
   .rcases NZ.mp hx with rfl |hx
    .exact absurd p_ hk
    .exact e4 x hx p_
def pR{env:Env}{scope:Scope}(hf:∀x∈scope.names,x.2=.free->∃c,env.cells.lookup x.1=some c):
 ∃cl,closureFor scope env=pure cl/\(∀x c,cl.lookup x=some c->env.cells.lookup x=some c)/\∀x∈scope.names,x.2=.free->∃c,cl.lookup x.1=some c:=by
 obtain⟨cl,e1,e2,_,e4⟩:=jj (env:=env) (names:=scope.names) [] hf (λx c e=>by simp at e);refine⟨cl,?_,e2,e4⟩;unfold closureFor;simp only[e1];rfl
noncomputable def aC(X:Cx)(N:List Str)(scope:Scope)(cl:List (Str×Addr))(C:Addr)(s₂:Shared)(H:Hp)(fp:List Addr):Cx:=
 { X with N:=N,s₀:=s₂,H₀:=H,env:=compEnvC scope cl C X.env,outer:=X.stack,stack:=X.stack,ex:=fp,fn:=λ_=>false,pn:=[],xe:=λ_ _=>False }
noncomputable def fM(sub:Qk)(σ:St):St:=sub.map λo=>o.bind λi=>(σ[i]?).bind id
def LcW(J:It)(sub:Qk)(g:TG)(tc:TT)(te:TE)(σ:St)(H1:Hp)(Q:VK):Prop:=∃W:Nat->Nat->List V->St->Hp->Prop,(∃m,W 0 m [] (fM sub σ) H1)/\∀i m ys σ H,W i m ys σ H->
 (J.stop i H/\ys.length<=sizeLine/\∀D,H D=none->Q (.ref D) (upd H D (.lst ys)))\/
 (J.go i H/\ys.length<sizeLine/\∃Nx:List V->St->Hp->Prop,(∀ys' σ' H',Nx ys' σ' H'->∃m',m'<m/\W (i+1) m' ys' σ' H')/\
  ∀x H',J.yld i H x H'->g x σ H' λσ2 H2=>tc σ2 H2 λb H3=>if b=true then te σ2 H3 λy H4=>Nx (ys++[y]) σ2 H4 else Nx ys σ2 H3)
def hE(wi:TI)(sub:Qk)(g:TG)(tc:TT)(te:TE):TE:=λσ H Q=>wi σ H λJ H1=>LcW J sub g tc te σ H1 Q
abbrev zZ:TT:=λ_ H Q=>Q true H
section
variable{prog:Program}{w:World}{A:Around}{R:Result->Shared->Prop}{s:Shared}
def qG{k_ target a_:Expr}{ifs:List Expr}{scope:Scope}{pos:Pos}{it acc:Value}{env:Env}(I:Nat->Shared->Prop)
 (turn
  : ∀n s,I n s->wpAny (model prog w) A (pyNext it) (λr s₁=>match r with
  |none=>R (.ok .next) s₁
  |some v=>wpAny (model prog w) A (letOwnedTupleGo target it v) (λ_ s₁'=>wpAny (model prog w) A (assign target env v) (λ_ s₂=>
   wpAny (model prog w) A (forIn ifs true λc r=>if r=true then do let ok <- isTrue c env (eval c env);pure (ForInStep.yield ok) else pure (ForInStep.yield r))
    (λok s₃=>if ok=true then wpAny (model prog w) A (eval k_ env) (λx s₄=>wpAny (model prog w) A (call (.builtin "list.append") [acc,x]) (λ_ s₅=>∃m,m<n/\I m s₅) (λ_ _=>False) s₄) (λ_ _=>False) s₃
     else ∃m,m<n/\I m s₃) (λ_ _=>False) s₂) (λ_ _=>False) s₁') (λ_ _=>False) s₁) (λ_ _=>False) s)
 (n:Nat) (h:I n s):
 codeAny (model prog w) A (.compLoop (.ListComp k_ [⟨target,a_,ifs,0⟩] scope pos) 0 it acc env) R s:=by
 refine codeAny_loop rfl I (λn s hI=>?_) n h;show wpAny _ _ ((compTurn (.ListComp k_ [⟨target,a_,ifs,0⟩] scope pos) 0 it acc env).onRaise (λx=>do noteFrame x env;theTreesLotGoes x)) _ _ s;refine wpAny_noted ?_;rw[compTurn_list];refine N_ (E:=λ_ _=>False) ?_ (λ_ _ q=>q) λ_ _ q=>q.elim;refine v_ (PU (v_ (N_ (turn n s hI) (λr s₁ h₁=>?_) λ_ _ h'=>h')));cases r with
 |none=>exact D_ h₁
 |
  some v=>
  refine v_ (N_ h₁ (λ_ s₁' h₁'=>?_) λ_ _ h'=>h');refine v_ (N_ h₁' (λ_ s₂ h₂=>?_) λ_ _ h'=>h');refine v_ (N_ h₂ (λok s₃ h₃=>?_) λ_ _ h'=>h');cases ok with
  |true=>simp only[OL] at h₃ ⊢;refine v_ (v_ (N_ h₃ (λx s₄ h₄=>?_) λ_ _ h'=>h'));refine v_ (N_ h₄ (λ_ s₅ h₅=>?_) λ_ _ h'=>h');exact D_ (D_ ⟨rfl,h₅⟩)
  |
   false=>
   simp only[OG,Pg] at h₃ ⊢;first
    |exact v_ (D_ (D_ ⟨rfl,h₃⟩))
    |exact D_ ⟨rfl,h₃⟩
end
section
variable{X:Cx}
def PTs(X:Cx)(ifs:List Expr)(t:TT):Prop:=
 ∀
  (pins:Qi) (s:Shared) (σ:St) (H:Hp) (Q:Bool->Hp->Prop),Inv X pins σ H s->t σ H Q->
  wpAny (model X.prog X.w) X.A (forIn ifs true λc r=>if r=true then do let ok <- isTrue c X.env (eval c X.env);pure (ForInStep.yield ok) else pure (ForInStep.yield r)) (TP X pins σ Q) X.xe s
def uW:PTs X [] (λ_ H Q=>Q true H):=λpins s σ H Q I h=>by rw[PJ];exact D_ ⟨H,I,h⟩
def DQ{c:Expr}{tc:TT}(hc:PT X c tc):PTs X [c] tc:=λpins s σ H Q I h=>by rw[O9];simp only[OL];refine v_ (v_ (thn (hc pins s σ H Q I h) λb s1 q=>D_ ?_));dsimp only;rw[PJ];exact D_ q
structure LcEnd(X:Cx)(pins:Qi)(σ:St)(Q:VK)(D C:Addr)(s4:Shared):Prop where
 ns:∃m,s4.heap.Ns C m
 dc:D<C
 fr:X.env.locals<D
 cell:∀x c,X.env.cells.lookup x=some c->c<D
 pin:∀p∈X.pn++pins,p.1<D
 sz:X.s₀.heap.objs.size<=D
 inv:∃H',H' C=none/\Q (.ref D) H'/\∀h',Heap.SameBut C s4.heap h'->Inv X pins σ H' { s4 with heap:=h' }
def uH{k_ a_ tg:Expr}{ifs:List Expr}{scope:Scope}{pos:Pos}{wi:TI}{g:TG}{tc:TT}{te:TE}{N:List Str}{sub:Qk}{use:Option (Value->Sem Unit)}{R:Qj}{pins:Qi}{s:Shared}{σ:St}{H:Hp}{Q:VK}{fpos:Pos}
 (hc:X.calm=true) (hi:PI X tg a_ wi)
 (hk:scope.kind=.function) (t_:∀x∈scope.names,x.2 ≠ .cell) (b_:∀x∈scope.names,x.2=.local->scope.names.lookup x.1=some .local)
 (p_:∀x∈scope.names,x.2=.free->X.env.kindOf x.1=some .cell\/X.env.kindOf x.1=some .free)
 (u_:sub.length=N.length) (f_:∀(j i:Nat) (x:Str),sub[j]?=some (some i)->N[j]?=some x->X.N[i]?=some x/\scope.names.lookup x=some .free)
 (hg:∀cl C s₂ H fp,PG (aC X N scope cl C s₂ H fp) tg g) (ht:∀cl C s₂ H fp,PTs (aC X N scope cl C s₂ H fp) ifs tc) (he:∀cl C s₂ H fp,PE (aC X N scope cl C s₂ H fp) k_ te)
 (hs:∀x,foldedSetIterable a_ X.env x=pure x) (I:Inv X pins σ H s) (h:hE wi sub g tc te σ H Q)
 (l_:∀D C s4,LcEnd X pins σ Q D C s4->compPost (model X.prog X.w) X.A X.xe use R (.ref D) C (.ok .next) s4):
 wpAny (model X.prog X.w) X.A (comprehension (.ListComp k_ [⟨tg,a_,ifs,0⟩] scope pos) scope X.env fpos (newList []) false (eval a_ X.env) use) R X.xe s:=by
 obtain⟨cl,hclos,hcl,hclf⟩:=pR (env:=X.env) (scope:=scope) λx hx hf=>I.ok.has x.1 (p_ x hx hf);refine wpAny_comprehension_free rfl hs hclos hk b_ ?_;show wpAny _ _ (eval a_ X.env) _ _ _;refine thn (hi pins s σ H _ I h) λv s1 h1=>thn h1 λitv s2 h2=>?_;obtain⟨it,fp,tn,J,H2,e,I2,T,st2,f2,W,⟨m0,w0⟩,turn⟩:=h2;subst e;refine OC (wpAny_newFunctionEnv t_ (by intro y hy;simp at hy) (λh₁ hns₁ hsb₁=>?_) hk);dsimp only at hns₁ hsb₁ ⊢;generalize hH2:s2.heap.push { cls:=.type "list",dict:=none,data:=.seq ([]:List Value).toArray }=G2 at hns₁ hsb₁ ⊢;have hC:G2.objs.size=s2.heap.objs.size+1:=by rw[<- hH2,O4]
 have hDC:s2.heap.objs.size≠G2.objs.size:=by omega
 have below:∀b,b<s2.heap.objs.size->b≠G2.objs.size/\b≠s2.heap.objs.size:=λb hb=>⟨by omega,by omega⟩;have old:∀b o,s2.heap.get? b=some o->h₁.get? b=some o:=λb o e=>hsb₁.extBut b o (below b (Em e)).1 (B_ _ (hH2 ▸ B_ _ e));have hD₁:h₁.get? s2.heap.objs.size=some { cls:=.type "list",dict:=none,data:=.seq ([]:List Value).toArray }:=hsb₁.extBut _ _ hDC (B_ _ (hH2 ▸ NW _ rfl));have fresh:∀a,s2.heap.objs.size<=a->s2.heap.get? a=none:=λa ha=>P0 ha;have cellOld:∀x c,cl.lookup x=some c->c<s2.heap.objs.size:=λx c e=>by obtain⟨v,z⟩:=I2.cell x c (hcl x c e);exact z.lt
 have fpOld:∀b∈fp,b<s2.heap.objs.size:=λb hb=>by obtain⟨o,e,_⟩:=T.obj _ _ st2 b hb;exact Em e
 let Y:Cx:=aC X N scope cl G2.objs.size s2 H2 fp
 have okY:Y.Ok
  := by
  refine⟨I2.ok.mod,?_,I2.ok.glob,I2.ok.blt,?_,λx y c e1 e2=>I2.ok.inj x y c (hcl x c e1) (hcl y c e2),λx hx=>?_,λx c hfn _=>absurd hfn y_,I2.ok.hd,I2.ok.frames,.inl rfl,
   λb hb=>⟨?_,λx c e z=>?_⟩,I2.bs,J_ I2.ok.bsz I2.sz,λb o e hb=>?_,λb hb hf=>?_,I2.stack,I2.stkFree⟩
  .show (relabel scope X.env).kind=.function;exact hk
  .show s2.heap.objs.size<=G2.objs.size;omega
  .have hx':(
    relabel scope X.env).names.lookup x=some .cell\/(relabel scope X.env).names.lookup x=some .free:=hx
   have:∃k,
    (x,k)∈scope.names/\k=.free:=by
    have gen:∀(names:List (Str×NameKind)),(∀y∈names,y.2 ≠ .cell)->∀kk,(kk=NameKind.cell\/kk=NameKind.free)->(names.map λ(n,k)=>if (k==NameKind.free&&X.env.scope.kind == .function&&X.env.kindOf n==some .cell) then (n,NameKind.cell) else (n,k)).lookup x=some kk->∃k,(x,k)∈names/\k=.free:=by
     intro names;induction names with
     |nil=>intro _ kk _ e;simp at e
     |
      cons y r ih=>
      intro hn kk hkk e;obtain⟨n,k⟩:=y;rw[E_,OQ] at e;by_cases hkf:k=.free
      .subst hkf;by_cases hxn:x=n
       .exact⟨.free,by rw[hxn];exact G_,rfl⟩
       .have hb:(x==(if (NameKind.free==NameKind.free&&X.env.scope.kind == .function&&X.env.kindOf n==some .cell)=true then (n,NameKind.cell) else (n,NameKind.free)).1)=false:=by split <;> exact N3.mpr hxn
        rw[hb] at e;obtain⟨k',m,q⟩:=ih (λz hz=>hn z (A_ _ hz)) kk hkk e;exact⟨k',A_ _ m,q⟩
      .have hb0:(k==NameKind.free&&X.env.scope.kind == .function&&X.env.kindOf n==some .cell)=false:=by
        have:(k==NameKind.free)=false:=by simpa using hkf
        rw[this];rfl
       rw[hb0] at e;simp only[OG,Pg] at e;cases q:x==n with
       |
        true=>
        rw[q] at e;have e':k=kk:=NV e;subst e';rcases hkk with z |z
        .exact absurd z (hn (n,k) G_)
        .exact absurd z hkf
       |false=>rw[q] at e;obtain⟨k',m,q⟩:=ih (λz hz=>hn z (A_ _ hz)) kk hkk e;exact⟨k',A_ _ m,q⟩
    rcases hx' with z |z
    .exact gen scope.names t_ _ (.inl rfl) z
    .exact gen scope.names t_ _ (.inr rfl) z
   obtain⟨k,m,q⟩:=this;exact hclf (x,k) m q
  .show b≠G2.objs.size;exact (below b (fpOld b hb)).1
  .exact (f2 b hb).2.2.2.2.1 x c (hcl x c e) z
  .rcases (f2 b hb).2.2.2.1 with z |z
   .exact I2.ok.noex b o e z
   .exact absurd (K_ (Em e) (J_ I2.ok.bsz z)) (Ow _)
  .have hf':b∈frs X.stack:=hf;rcases NZ.mp (I2.stkSub b hf') with z |z
   .exact (f2 b hb).2.1 z
   .exact (f2 b hb).2.2.1 z
 have startLoc
  : ∃m,h₁.Ns G2.objs.size m/\∀(i:Nat) (x:Str) (v:V),N[i]?=some x->(fM sub σ)[i]?=some (some v)->Vis (relabel scope X.env) x->∃u,RelV v u/\zX Y.env h₁ m x u:=by
  refine⟨_,hns₁,λj x v e1 e2 e3=>?_⟩;unfold fM at e2;rw[N4] at e2;cases q:sub[j]? with
  |none=>rw[q] at e2;cases e2
  |
   some o=>
   rw[q] at e2;cases o with
   |none=>cases e2
   |
    some i=>
    obtain⟨hNi,hfree⟩:=f_ j i x q e1;have e2':(σ[i]?).bind id=some v:=NV e2;have e2'':σ[i]?=some (some v):=by
     cases z:σ[i]? with
     |none=>rw[z] at e2';cases e2'
     |some y=>rw[z] at e2';rw[show y=some v from e2']
    obtain⟨m2,hn2,hl2⟩:=I2.loc;have hkx:=p_ (x,.free) (OE hfree) rfl;obtain⟨u,r,l⟩:=hl2 i x v hNi e2'' (by rcases hkx with z |z;exact .inr (.inl z);exact .inr (.inr z));refine⟨u,r,.inr ⟨?_,?_⟩⟩
    .rcases e3
      with z |z |z
     .exfalso;have gen:∀(names:List (Str×NameKind)),names.lookup x=some .free->(names.map λ(n,k)=>if (k==NameKind.free&&X.env.scope.kind == .function&&X.env.kindOf n==some .cell) then (n,NameKind.cell) else (n,k)).lookup x=some .local->False:=by
       intro names;induction names with
       |nil=>intro e _;simp at e
       |
        cons y r ih=>
        intro e1 e2;obtain⟨n,k⟩:=y;rw[OQ] at e1;rw[E_,OQ] at e2;by_cases hxn:x=n
        .have hb1:(x==n)=true:=Oj.mpr hxn;rw[hb1] at e1;have:k=.free:=NV e1;subst this;split at e2
         .rename_i hq;split at e2 <;> cases e2
         .rename_i hq;split at hq <;> (rw[hb1] at hq;cases hq)
        .have hb1:(x==n)=false:=N3.mpr hxn;rw[hb1] at e1;refine ih e1 ?_;split at e2
         .rename_i hq;split at hq <;> (rw[hb1] at hq;cases hq)
         .exact e2
      exact gen scope.names hfree z
     .exact .inl z
     .exact .inr z
    .obtain⟨c,hc'⟩:=hclf (x,.free) (OE hfree) rfl;refine⟨c,hc',?_⟩;rcases l with ⟨k,_⟩ |⟨_,c2,ec2,z⟩
     .rcases hkx with z |z <;> (rw[k] at z;cases z)
     .have:=hcl x c hc'
      rw[ec2] at this;cases this;obtain⟨oc,hoc,hd⟩:=z;exact⟨oc,old _ _ hoc,hd⟩
 have pinD:∀{σ':St}{H':Hp}{s':Shared}{pl:Qi}{o:Obj},Inv Y pl σ' H' s'->s'.heap.get? s2.heap.objs.size=some o->(∀v,o.data ≠ .cell v)->H' s2.heap.objs.size=none->Inv Y [(s2.heap.objs.size,o)] σ' H' s':=λ{σ' H' s' pl o} IY e d n=>
  IY.pins_of λp hp=>by
   have e':p=(s2.heap.objs.size,o):=by simpa using hp
   subst e';refine⟨e,n,?_,?_,d⟩
   .show s2.heap.objs.size≠G2.objs.size;omega
   .intro hf;have hf':s2.heap.objs.size∈frs X.stack:=hf;obtain⟨_,o',ho',_⟩:=I2.stack.mem hf';exact absurd (Em ho') (Ow _)
 have fpY:∀{H':Hp}{pl:Qi},(∀b∈fp,H' b=none)->(∀p∈pl,p.1∉fp)->∀b∈fp,FpOk Y pl H' b:=λ{H' pl} hn hp b hb=>by
  refine⟨hn b hb,?_,?_,.inl hb,λx c e=>?_,λp hp'=>?_⟩
  .exact (okY.exf b hb).1
  .exact okY.exfs b hb
  .exact (okY.exf b hb).2 x c e
  .intro z;have hp'':p∈pl:=by simpa [Y,aC] using hp'
   exact hp p hp'' (by rw[z];exact hb)
 have hDfp:s2.heap.objs.size∉fp:=λz=>Ow _ (fpOld _ z);have loop
  : ∀s₃:Shared,s₃={ s2 with heap:=h₁,toks:=s2.toks+([]:List (Str×Value)).length }->
  codeAny (model X.prog X.w) X.A (.compLoop (.ListComp k_ [⟨tg,a_,ifs,0⟩] scope pos) 0 (.ref it) (.ref s2.heap.objs.size) (compEnvC scope cl G2.objs.size X.env))
   (compPost (model X.prog X.w) X.A X.xe use R (.ref s2.heap.objs.size) G2.objs.size) s₃:=by
  rintro s₃ rfl;have IY0:Inv Y [(s2.heap.objs.size,{ cls:=.type "list",dict:=none,data:=.seq ([]:List Value).toArray })] (fM sub σ) H2 { s2 with heap:=h₁,toks:=s2.toks+([]:List (Str×Value)).length }:=by
   have J0:Inv Y [] (fM sub σ) H2 { s2 with heap:=h₁,toks:=s2.toks+([]:List (Str×Value)).length }:=by
    refine⟨okY,rfl,I2.bare,Un.kept old,startLoc,λx c e=>?_,I2.hok.fresh (by show s2.heap.objs.size<=G2.objs.size;omega),λx c e=>I2.freeC x c (hcl x c e),λp hp=>absurd (show p∈([]:Qi) from hp) (by simp),I2.hok.kept old,?_⟩
    .obtain⟨v,oc,hoc,hd⟩:=I2.cell x c (hcl x c e);exact⟨v,oc,old _ _ hoc,hd⟩
    .show (fM sub σ).length=N.length;unfold fM;rw[w_];exact u_
   exact pinD J0 hD₁ (λv z=>by cases z) I2.fresh
  refine qG (λn s'=>∃(i:Nat) (ys:List V) (its:List Value) (k:Nat) (σ':St) (H':Hp),Inv Y [(s2.heap.objs.size,{ cls:=.type "list",dict:=none,data:=.seq its.toArray k })] σ' H' s'/\Vals ys its/\tn i s'.heap/\(∀b∈fp,H' b=none)/\W i n ys σ' H') ?_ m0
   ⟨0,[],[],0,fM sub σ,H2,IY0,.nil,T.keep _ _ _ st2 (λb hb o e=>old b o e),λb hb=>(f2 b hb).1,w0⟩
  rintro n s3 ⟨i,ys,its,k,σ3,H3,I3,rv,st3,fr3,w3⟩;have npl:∀(o:Obj),∀p∈[(s2.heap.objs.size,o)],p.1∉fp:=λo p hp=>by
   have e':p=(s2.heap.objs.size,o):=by simpa using hp
   subst e';exact hDfp
  rcases turn i n ys σ3 H3 w3 with ⟨stop,hz,qn⟩ |⟨go,hz,Nx,hNx,step⟩
  .refine N_ (T.done Y rfl rfl rfl hc i _ s3 σ3 H3 (λ_ _=>False) I3 (fpY fr3 (npl _)) st3 stop) (λr s4 ⟨hr,I4⟩=>?_) λ_ _ z=>z;subst hr;obtain⟨m4,hn4,_⟩:=I4.loc;have hCfree:H3 G2.objs.size=none:=I4.free;have hD4:=I4.pin (s2.heap.objs.size,{ cls:=.type "list",dict:=none,data:=.seq its.toArray k }) (N9 _ G_);have un4:Un (frs X.stack) fp H2 H3 s2.heap s4.heap:=I4.base;have ne2:∀b o,s2.heap.get? b=some o->b≠G2.objs.size:=λb o e=>(below b (Em e)).1;have hDfree:H3 s2.heap.objs.size=none:=hD4.2.1;have sz0:X.s₀.heap.objs.size<=s2.heap.objs.size:=I2.sz;refine l_ s2.heap.objs.size G2.objs.size s4 ⟨⟨m4,hn4⟩,by rw[hC];exact Nat.lt_succ_self _,I2.lt,λx c e=>?_,λp hp=>Em (I2.pin p hp).1,sz0,upd H3 s2.heap.objs.size (.lst ys),by rw[aD (Ne.symm hDC)];exact hCfree,qn _ hDfree,λh' hs'=>?_⟩
   .obtain⟨v,q⟩:=I2.cell x c e;exact q.lt
   have up:∀b o,b≠G2.objs.size->s4.heap.get? b=some o->h'.get? b=some o:=λb o hb e=>hs'.extBut b o hb e;have un5:Un (frs X.stack) fp H2 H3 s2.heap h':=by
    refine⟨λb o e n hb hx=>up b o (ne2 b o e) (un4.keep b o e n hb hx),λb o e n hb hx=>?_,un4.free,λb o e hx=>?_,un4.tups,un4.frzs,un4.tbls⟩
    .obtain⟨sl,q⟩:=un4.slot b o e n hb hx;exact⟨sl,up b _ (ne2 b o e) q⟩
    .obtain⟨o',q⟩:=un4.there b o e hx;exact⟨o',up b _ (ne2 b o e) q⟩
   have hok5:HOk X.prog X.w H3 h':=λb u e=>(I4.hok b u e).stay (λc v hcc q=>up c v (λz=>by
    rcases hcc with zz |zz
    .rw[zz] at z;rw[z,hCfree] at e;cases e
    .rw[z,hCfree] at zz;cases zz) q) (λ_ q=>q) λ_ _ q=>q
   have I5:Inv X pins σ H3 { s4 with heap:=h' }:=I2.call' (s':={ s4 with heap:=h' }) (ch:=fp) I4.os un5 hok5 I4.bare λb hb=>by obtain⟨_,g1,_,g3,g4,g5⟩:=f2 b hb;exact⟨g3,g1,g4,g5⟩
   refine I5.track (o:=.lst ys) hDfree (P0 sz0) (Pz I2.lt) (λx c e z=>?_) (λp hp z=>?_) ?_
   .obtain⟨v,q⟩:=I2.cell x c e;exact absurd q.lt (by rw[z];exact Ow _)
   .exact absurd (Em (I2.pin p hp).1) (by rw[z];exact Ow _)
   .exact⟨hz,its,k,rv,up _ _ hDC hD4.1⟩
  .refine N_ (T.item Y rfl rfl rfl hc i _ s3 σ3 H3 (λ_ _=>False) I3 (fpY fr3 (npl _)) st3 go) (λr s4 ⟨u,hr,h4⟩=>?_) λ_ _ z=>z;subst hr;refine N_ h4 (λ_ s5 ⟨x,H5,I5,r5,y5,st5,fr5⟩=>?_) λ_ _ z=>z;have I5':=I5.pinned (fpY fr5 (npl _)) (T.obj _ _ st5);refine N_ (hg cl G2.objs.size s2 H2 fp _ s5 σ3 H5 x u _ I5' r5 (step x H5 y5)) (λ_ s6 ⟨σ6,H6,I6,q6⟩=>?_) λ_ _ z=>z;refine N_ (ht cl G2.objs.size s2 H2 fp _ s6 σ6 H6 _ I6 q6) (λok s7 ⟨H7,I7,q7⟩=>?_) λ_ _ z=>z;have back:∀{σ':St}{H':Hp}{s':Shared},Inv Y ([(s2.heap.objs.size,{ cls:=.type "list",dict:=none,data:=.seq its.toArray k })]++jZ fp s5.heap) σ' H' s'->tn (i+1) s'.heap/\∀b∈fp,H' b=none:=λ{σ' H' s'} IB=>by refine⟨T.keep _ _ _ st5 λb hb o e=>(IB.pin (b,o) (N9 _ (N9 _ (fW hb e)))).1,λb hb=>?_⟩;obtain⟨o,e,d⟩:=T.obj _ _ st5 b hb;exact (IB.pin (b,o) (N9 _ (N9 _ (fW hb e)))).2.1
   cases ok with
   |false=>rw[if_neg y_] at q7;obtain⟨m',hm,w7⟩:=hNx _ _ _ q7;rw[if_neg y_];obtain⟨t7,f7⟩:=back I7;exact⟨m',hm,i+1,ys,its,k,σ6,H7,I7.unpinned,rv,t7,f7,w7⟩
   |
    true=>
    rw[if_pos rfl] at q7;rw[if_pos rfl];refine N_ (he cl G2.objs.size s2 H2 fp _ s7 σ6 H7 _ I7 q7) (λy s8 ⟨yv,H8,I8,r8,q8⟩=>?_) λ_ _ z=>z;obtain⟨m',hm,w8⟩:=hNx _ _ _ q8;obtain⟨t8,f8⟩:=back I8;have I9:=I8.unpinned;have hD9:=I9.pin (s2.heap.objs.size,{ cls:=.type "list",dict:=none,data:=.seq its.toArray k }) (N9 _ G_);have e9:s8.heap.get? s2.heap.objs.size=some { cls:=.type "list",dict:=none,data:=.seq its.toArray k }:=hD9.1;have d_:=rv.length;refine P_ F.slot_list_append ⟨_,e9,rfl⟩ F.entry_list_append (F.args_list_append_2 _ _) (PySem.list_append _ its.toArray k y (by rw[H_];omega)) ⟨e9,?_⟩;have q9:=PySem.IsL.update e9 (λxs=>xs.push y);have ea:its.toArray.push y=(its++[y]).toArray:=by simp
    rw[ea] at q9;have k9:∀b o,b≠s2.heap.objs.size->s8.heap.get? b=some o->(s8.heap.update s2.heap.objs.size (Obj.mapSeq λxs=>xs.push y)).get? b=some o:=λb o hb e=>(PM _ _ (Ne.symm hb)).trans e;have I10:Inv Y [] σ6 H8 { s8 with heap:=s8.heap.update s2.heap.objs.size (Obj.mapSeq λxs=>xs.push y) }:=
     (I9.pins_of (pins':=[]) (λp hp=>nomatch hp)).turned (t':=s8.toks) k9 hD9.2.1 hD9.2.2.1 (.inr (z_ _)) (λx c e z=>absurd (cellOld x c e) (by rw[z];exact Ow _))
      (λp hp=>absurd (show p∈([]:Qi) from hp) (by simp))
    refine⟨m',hm,i+1,ys++[yv],its++[y],_,σ6,H8,pinD I10 q9 (λv z=>by cases z) hD9.2.1,rv.append (.cons r8 .nil),?_,f8,w8⟩;exact T.keep _ _ _ t8 λb hb o e=>k9 b o (λz=>hDfp (by rw[<- z];exact hb)) e
 exact codeAny_compStart_list (loop _ rfl) (T.self _ 0 _ _ _ (T.keep _ _ _ st2 λb hb o e=>old b o e) (loop _ rfl))
def yC{k_ a_ tg:Expr}{ifs:List Expr}{scope:Scope}{pos:Pos}{wi:TI}{g:TG}{tc:TT}{te:TE}{N:List Str}{sub:Qk}
 (hc:X.calm=true) (hi:PI X tg a_ wi)
 (hk:scope.kind=.function) (t_:∀x∈scope.names,x.2 ≠ .cell) (b_:∀x∈scope.names,x.2=.local->scope.names.lookup x.1=some .local)
 (p_:∀x∈scope.names,x.2=.free->X.env.kindOf x.1=some .cell\/X.env.kindOf x.1=some .free)
 (u_:sub.length=N.length) (f_:∀(j i:Nat) (x:Str),sub[j]?=some (some i)->N[j]?=some x->X.N[i]?=some x/\scope.names.lookup x=some .free)
 (hg:∀cl C s₂ H fp,PG (aC X N scope cl C s₂ H fp) tg g) (ht:∀cl C s₂ H fp,PTs (aC X N scope cl C s₂ H fp) ifs tc) (he:∀cl C s₂ H fp,PE (aC X N scope cl C s₂ H fp) k_ te)
 (hs:∀x,foldedSetIterable a_ X.env x=pure x):
 PE X (.ListComp k_ [⟨tg,a_,ifs,0⟩] scope pos) (hE wi sub g tc te):=by
 intro pins s σ H Q I h;rw[eval_ListComp];refine uH hc hi hk t_ b_ p_ u_ f_ hg ht he hs I h λD C s4 e=>?_;obtain⟨m,hm⟩:=e.ns;obtain⟨H',_,q,i⟩:=e.inv;exact⟨m,hm,λh' hs'=>⟨.ref D,H',i h' hs',rfl,q⟩⟩
noncomputable def dE(M:List Str)(names:List (Str×NameKind))(sub:Qk)(N:List Str):Bool:=(sub.zip N).all λp=>match p.1 with
 |none=>true
 |some i=>M[i]?==some p.2&&names.lookup p.2==some .free
def lT{M:List Str}{names:List (Str×NameKind)}{sub:Qk}{N:List Str}(h:dE M names sub N=true)(j i:Nat)(x:Str)(h1:sub[j]?=some (some i))(h2:N[j]?=some x):
 M[i]?=some x/\names.lookup x=some .free:=by
 unfold dE at h;rw[NY] at h;have hm:(some i,x)∈sub.zip N:=by refine O3 (i:=j) ?_;rw[List.getElem?_zip_eq_some];exact⟨h1,h2⟩
 have q:=h _ hm;simp only[C_,Oj] at q;exact q
noncomputable def fb(kn names:List (Str×NameKind)):Bool:=names.all λx=>x.2 != .free || kn.lookup x.1==some .cell || kn.lookup x.1==some .free
def nR{kn names:List (Str×NameKind)}(h:fb kn names=true):∀x∈names,x.2=.free->kn.lookup x.1=some .cell\/kn.lookup x.1=some .free:=λx hx hf=>by unfold fb at h;rw[NY] at h;have q:=h x hx;rw[hf] at q;simpa using q
def DJ{k_ a_ tg c:Expr}{scope:Scope}{pos:Pos}{wi:TI}{g:TG}{tc:TT}{te:TE}(M:List Str)(kn:List (Str×NameKind))(N:List Str)(sub:Qk)
 (hc:X.calm=true) (hi:PI X tg a_ wi)
 (hg:∀cl C s₂ H fp,PG (aC X N scope cl C s₂ H fp) tg g) (ht:∀cl C s₂ H fp,PT (aC X N scope cl C s₂ H fp) c tc) (he:∀cl C s₂ H fp,PE (aC X N scope cl C s₂ H fp) k_ te)
 (hM:X.N=M) (hkn:X.env.scope.names=kn) (f_:dE M scope.names sub N=true)
 (hk:scope.kind=.function) (t_:∀x∈scope.names,x.2 ≠ .cell) (b_:∀x∈scope.names,x.2=.local->scope.names.lookup x.1=some .local)
 (p_:fb kn scope.names=true)
 (u_:sub.length=N.length) (hs:∀x,foldedSetIterable a_ X.env x=pure x):
 PE X (.ListComp k_ [⟨tg,a_,[c],0⟩] scope pos) (hE wi sub g tc te):=
 yC hc hi hk t_ b_ (by subst hkn;exact nR p_) u_ (by subst hM;exact lT f_) hg (λcl C s₂ H fp=>DQ (ht cl C s₂ H fp)) he hs
def Mh{k_ a_ tg:Expr}{scope:Scope}{pos:Pos}{wi:TI}{g:TG}{te:TE}(M:List Str)(kn:List (Str×NameKind))(N:List Str)(sub:Qk)
 (hc:X.calm=true) (hi:PI X tg a_ wi)
 (hg:∀cl C s₂ H fp,PG (aC X N scope cl C s₂ H fp) tg g) (he:∀cl C s₂ H fp,PE (aC X N scope cl C s₂ H fp) k_ te)
 (hM:X.N=M) (hkn:X.env.scope.names=kn) (f_:dE M scope.names sub N=true)
 (hk:scope.kind=.function) (t_:∀x∈scope.names,x.2 ≠ .cell) (b_:∀x∈scope.names,x.2=.local->scope.names.lookup x.1=some .local)
 (p_:fb kn scope.names=true)
 (u_:sub.length=N.length) (hs:∀x,foldedSetIterable a_ X.env x=pure x):
 PE X (.ListComp k_ [⟨tg,a_,[],0⟩] scope pos) (hE wi sub g zZ te):=
 yC hc hi hk t_ b_ (by subst hkn;exact nR p_) u_ (by subst hM;exact lT f_) hg (λcl C s₂ H fp=>uW) he hs
end
open PySem PySem.Spec PyProof.Rows PySem.W PySem.Builtin PySem.Builtin.ObjectAttr PySem.Builtin.Getset_descriptor
structure XCls(K:W.Frag)(C:Addr):Prop where
 cls:(clsIn K C).isSome=true
 ga:findIn K (.ref C) "__getattribute__"=some (some (.builtin "BaseException.__getattribute__"))
 gt:findIn K (.ref C) "__getattr__"=some none
 at_:findIn K (.ref C) "__class__"=some (some (.builtin "object.__class__"))
 gs:specialIn K (.builtin "object.__class__") "__get__"=some (some (.builtin "getset_descriptor.__get__"))
 tk:takesIn K (.builtin "object.__class__")=some true
 mo:mroIn K C (.type "object")=some true
 mb:mroIn K C (.type "BaseException")=some true
section
variable{prog:Program}{w:World}{A:Around}{E:Qj}{K:W.Frag}{x C:Addr}{o:Obj}
def gJ(hx:h.get? x=some o)(hc:o.cls=.ref C):Looks M h (typeOf (.ref x)) (.ref C):=hc ▸ (Looks.ld hx).andThen .now
def AK(X:K.In h)(T:XCls K C):Looks M h (find (.ref x) (.ref C) "__class__") (.bind (.builtin "getset_descriptor.__get__") (.builtin "object.__class__")):=by have L1:=looks_findIn (M:=M) X T.at_;have L2:Looks M h (getOf (some (.builtin "object.__class__"))) (some (.builtin "getset_descriptor.__get__")):=looks_specialIn X T.gs;have L3:=looks_takesIn (M:=M) X T.tk;refine L1.andThen (L2.andThen ?_);exact (show Looks M h (dataDescriptor? (some (.builtin "object.__class__")) (some (.builtin "getset_descriptor.__get__"))) (some (.builtin "getset_descriptor.__get__",.builtin "object.__class__")) from L3.andThen .now).andThen (Looks.tag .now)
def pJ(X:K.In s.heap)(hx:s.heap.get? x=some o)(hc:o.cls=.ref C)(T:XCls K C)
 (h:R (.ok (.ret (.ref C))) s):codeAny (model prog w) A (.call (.builtin "getset_descriptor.__get__") ⟨[.builtin "object.__class__",.ref x,tp],[]⟩) R s:=by
 obtain⟨hh,g,dr,t,os⟩:=s;have L0:=gJ (M:=model prog w) hx hc;have L1:=looks_mroIn (M:=model prog w) X T.mo;refine codeAny_call_builtin KF.slot_gs.plain KF.entry_gs (KF.slot_gs.check _ _ _ _ _ _ _ _ KF.type_class (KF.args_gs _ _ _) ?_);unfold Builtin.«getset_descriptor.__get__» descrGet;rw[dga_obj];refine v_ (D_ ?_);unfold descrGetter descrCheckInstance descrNameAndClass isInstance;simp only[KF.owner_class];repeat lk
 refine⟨Code.quiet_builtin _ (by decide),codeAny_builtin KF.entry_class ?_⟩;unfold Builtin.«object.__class__» shownTypeOf;repeat lk
 exact h
def zF(X:K.In s.heap)(hx:s.heap.get? x=some o)(hc:o.cls=.ref C)(T:XCls K C)(hq:Q () s):
 wpAny M A (checkBuiltinCall "BaseException.__getattribute__" ⟨[.ref x,nameV],[]⟩) Q E s:=by
 obtain⟨h,g,dr,t,os⟩:=s;have hk:builtinKind "BaseException.__getattribute__"=some .slot:=by decide
 have hsplit:splitId "BaseException.__getattribute__"=some ("BaseException", "__getattribute__"):=by decide
 have ha:=PySem.F.args_bexc_ga (.ref x) nameV;have L0:=gJ (M:=M) hx hc;have LM:=looks_mroIn (M:=M) X T.mb;have LI:Looks M h (isInstance (.ref x) (.type "BaseException")) true:=L0.andThen LM;simp only[checkBuiltinCall,hk,hsplit];refine v_ ?_;refine LI.at ?_;repeat (first |wp_step)
 all_goals exact hq
def GX(X:K.In s.heap)(hx:s.heap.get? x=some o)(hc:o.cls=.ref C)(T:XCls K C)(h:Q (some (.ref C)) { s with toks:=s.toks+1 }):
 wpAny (model prog w) A (getAttr? (.ref x) "__class__") Q E s:=by
 obtain⟨hh,g,d,t,os⟩:=s;have L0:=gJ (M:=model prog w) hx hc;have L1:=looks_findIn (M:=model prog w) X T.ga;have L2:=looks_findIn (M:=model prog w) X T.gt;have LF:=AK (M:=model prog w) (x:=x) X T;have f3:=PySem.F.excAttr_ValueError.ga.bind (.ref x);have hx2:(Value.builtin "BaseException.__getattribute__" == Value.builtin "object.__getattribute__")=false:=by decide
 unfold getAttr? getAttrBy? getAttrBy;refine v_ (wpAny_mkText (v_ (Qf (O8 (v_ (L0.at (v_ (L1.at ?_))))))));dsimp only;rw[if_neg (by rw[hx2];simp)];unfold getAttrByItsOwn hookBefore;rw[if_pos (show onTheHeap (Value.ref C)=true from rfl)];refine v_ (L2.at ?_);unfold callGetattribute;refine v_ (Qf (O8 ?_));rw[if_neg (by simp)];unfold boundAndCalled;refine v_ (wpAny_of_eq f3 ?_);refine wpAny_call (codeAny_call_builtin PySem.F.excAttr_ValueError.ga.plain PySem.F.entry_bexc_ga (zF X hx hc T ?_));unfold Builtin.«object.__getattribute__»;repeat (first |(refine v_ (L0.at ?_)) |(refine v_ (LF.at ?_)) |wp_step)
 refine pJ (s:=⟨hh,g,d,t+1,os⟩) X hx hc T ?_;repeat (first |exact h |wp_step)
def oi(x:Addr)(C:Addr)(h:Heap):Prop:=∃o vs,h.get? x=some o/\o.cls=.ref C/\o.data=.fields vs
def BM(T:XCls K C):KitX K (.ref x) (.ref C) (oi x C) where
 ty:=λM h _ ⟨o,_,hx,hc,_⟩=>gJ hx hc
 it:=λM h X _=>by
  obtain⟨cd,s_⟩:=Oi.mp T.cls;unfold clsIn at s_;split at s_
  .rename_i c' d' cd' sl' ho;intro A' Q' E' s' k q;unfold isType loadHead;exact v_ (wpAny_loadPart (k _ _ (X _ _ ho)) (D_ q))
  .cases s_
 ne:=λh tp dd its n sl X htp=>by
  obtain⟨cd,s_⟩:=Oi.mp T.cls;refine Bool.eq_false_iff.mpr λq=>?_;have e:C=tp:=Value.ref.inj (Oj.mp q);subst e;unfold clsIn at s_;split at s_
  .rename_i c' d' cd' sl' ho;have z:=(X _ _ ho).symm.trans htp;cases z
  .cases s_
 ca:=λX ⟨o,_,hx,hc,_⟩ k=>GX X hx hc T k
end
inductive TyX(K:W.Frag)(H:Hp):V->Value->Prop where
 |of {x:V}{t:Value} (h:TyOf K H x t):TyX K H x t
 |exc {a C:Addr} (e:H a=some (.ext (oi a C))) (T:XCls K C):TyX K H (.ref a) (.ref C)
 |sqT {a:Addr}{xs:List V} (h:SqT K H a xs):TyX K H (.ref a) (.type "tuple")
 |sqL {a:Addr}{xs:List V} (h:SqL K H a xs):TyX K H (.ref a) (.type "list")
section
variable{X:Cx}{pins:Qi}{σ:St}{H:Hp}{s:Shared}{c:Value}
def uQ(I:Inv X pins σ H s)(rx:RelV x u)(ty:TyX X.K H x t):∃Hh:Heap->Prop,KitX X.K u t Hh/\Hh s.heap/\u ≠ .builtin "__main__.__loader__#opaque":=by
 cases ty with
 |exc ea T=>cases (show u=Value.ref _ from rx);exact⟨_,BM T,(I.hok _ _ ea).1,λz=>nomatch z⟩
 |sqT h=>cases (show u=Value.ref _ from rx);obtain⟨its,rv,⟨o,e,c,_⟩,_⟩:=I.tuple h;exact⟨_,kitx_tuple,⟨o,e,c⟩,λz=>nomatch z⟩
 |sqL h=>cases (show u=Value.ref _ from rx);obtain⟨its,rv,⟨o,n,e,c,_⟩,_⟩:=I.list h;exact⟨_,kitx_list,⟨o,e,c⟩,λz=>nomatch z⟩
 |
  of ty=>
  cases ty with
  |non=>cases (show u=Value.none from rx);exact⟨_,kitx_none,True.intro,λz=>nomatch z⟩
  |bl y=>cases (show u=Value.bool y from rx);exact⟨_,kitx_bool,True.intro,λz=>nomatch z⟩
  |int i=>obtain⟨t,q⟩:=(show ∃t,u=Value.int i t from rx);cases q;exact⟨_,kitx_int,True.intro,λz=>nomatch z⟩
  |str y=>obtain⟨t,q⟩:=(show ∃t,u=Value.str y t from rx);cases q;exact⟨_,kitx_str,True.intro,λz=>nomatch z⟩
  |flt y=>obtain⟨t,q⟩:=(show ∃t,u=Value.float y t from rx);cases q;exact⟨_,kitx_float,True.intro,λz=>nomatch z⟩
  |@lst a xs ea=>cases (show u=Value.ref a from rx);obtain⟨_,_,n,_,h1⟩:=(show ObjOk X.prog X.w H s.heap a (.lst xs) from I.hok a _ ea);exact⟨_,kitx_list,⟨_,h1,rfl⟩,λz=>nomatch z⟩
  |@frz a ob xs ea=>cases (show u=Value.ref a from rx);obtain⟨_,_,_,n,_,h1⟩:=(show ObjOk X.prog X.w H s.heap a (.frz ob (.lst xs)) from I.hok a _ ea);exact⟨_,kitx_list,⟨_,h1,rfl⟩,λz=>nomatch z⟩
  |@tup a xs ea=>cases (show u=Value.ref a from rx);obtain⟨_,_,_,p⟩:=(show ObjOk X.prog X.w H s.heap a (.tup xs) from I.hok a _ ea);obtain⟨o,h1,h2,_⟩:=p;exact⟨_,kitx_tuple,⟨o,h1,h2⟩,λz=>nomatch z⟩
  |@dK a kvs ea=>cases (show u=Value.ref a from rx);obtain⟨_,_,vs,_,p⟩:=(show ObjOk X.prog X.w H s.heap a (.dK kvs) from I.hok a _ ea);obtain⟨o,es,ep,h1,h2,_⟩:=p;exact⟨_,kitx_dict,⟨o,h1,h2.1⟩,λz=>nomatch z⟩
  |@dT a kvs ea=>cases (show u=Value.ref a from rx);obtain⟨_,_,xs,_,o,es,ep,h1,h2,_⟩:=(show ObjOk X.prog X.w H s.heap a (.dT kvs) from I.hok a _ ea);exact⟨_,kitx_dict,⟨o,h1,h2.1⟩,λz=>nomatch z⟩
  |@ins a C dx fs ea cl ha hn htk hm=>cases (show u=Value.ref a from rx);obtain⟨mA,O,_⟩:=DH I.hok ea;obtain⟨od,J,_⟩:=O.look;exact⟨_,kitx_own (cl.get _) cl.hd ha hn htk hm,J,λz=>nomatch z⟩
end
section
variable{X:Cx}
noncomputable def eO:V->Option Value
 |.ref C=>some (.ref C)
 |.ty T=>some (.type T)
 |_=>none
def tu(h:eO c=some v)(r:RelV c u):u=v:=by
 cases c with
 |ref C=>cases r;exact NV h
 |ty T=>cases r;exact NV h
 |_=>cases h
theorem oK:∀{cs:List V}{us vs:List Value},cs.mapM eO=some vs->Vals cs us->us=vs
 |
  [],_,vs,h,.nil=>by
  have h':some ([]:List Value)=some vs:=h;exact NV h'
 |
  c::cs,_,vs,h,.cons r rr=>by
  rw[Pc] at h;cases q:eO c with
  |none=>rw[q] at h;cases h
  |
   some v=>
   rw[q] at h;cases q2:cs.mapM eO with
   |none=>rw[q2] at h;cases h
   |some vs'=>rw[q2] at h;have h':some (v::vs')=some vs:=h;cases h';rw[tu q r,oK q2 rr]
def A8:CallR X (.builtin "isinstance") (λxs H Q=>∃x c t v b,xs=[x,c]/\TyX X.K H x t/\eO c=some v/\kitOne X.K t v=some b/\Q (.bl b) H):=by intro pins s σ H xs us Q I r h;obtain⟨x,c,t,v,b,rfl,ty,hc,hk,q⟩:=h;obtain⟨u,w',rfl,rx,rc⟩:=xj r;obtain rfl:=tu hc rc;obtain⟨Hh,Z,p,hne⟩:=uQ I rx ty;exact kia_one Z I.kIn p hk hne λtk=>⟨.bl b,H,I.tok _,rfl,q⟩
end
def ObjOk.there(x:ObjOk P w H h a o):∃u,h.get? a=some u:=by
 cases o with
 |lst xs=>obtain⟨_,_,_,_,e⟩:=x;exact⟨_,e⟩
 |tup xs=>obtain⟨_,_,_,ob,e,_⟩:=x;exact⟨_,e⟩
 |dK kvs=>obtain⟨_,_,_,_,o,_,_,e,_⟩:=x;exact⟨_,e⟩
 |dT kvs=>obtain⟨_,_,_,_,o,_,_,e,_⟩:=x;exact⟨_,e⟩
 |set S n=>obtain⟨o,_,_,_,e,_⟩:=x;exact⟨_,e⟩
 |ins C dx fs=>obtain⟨_,_,_,e,_⟩:=x;exact⟨_,e⟩
 |own y=>exact x
 |xd fs=>obtain⟨_,⟨_,_,_,e,_⟩,_⟩:=x;exact⟨_,e⟩
 |rng lo hi=>obtain⟨_,_,_,e⟩:=x;exact⟨_,e⟩
 |frz ob u=>obtain⟨e,_⟩:=x;exact⟨_,e⟩
 |tbl ps=>exact⟨_,show h.get? a=some _ from x⟩
 |met f y=>exact⟨_,show h.get? a=some _ from x⟩
 |ext φ=>obtain⟨_,e,_⟩:=x;exact e
structure Fly(P:Program)(w:World)(outer:List Env)(H:Hp)(h₀:Heap)(H':Hp)(ea:Addr)(cls:Value)(h:Heap)(B:Heap)(t:Addr):Prop where
 un:Un (frs outer) [] H H' h₀ h
 hok:HOk P w H' h
 fl:Heap.FlyingW B outer ea cls (.ref t) h
 old:∀b o,h₀.get? b=some o->b∉frs outer->∃o',B.get? b=some o'
 trk:∀b o,H' b=some o->∃o',B.get? b=some o'
def CX1(P:Program)(w:World):CXT:=λouter H s E e s'=>∃(ea t:Addr) (cls:Value) (H':Hp) (B:Heap),e=.ref ea/\s'.os=s.os/\AllBare s'.gens/\Fly P w outer H s.heap H' ea cls s'.heap B t/\E cls none H'
def sd(h:env.frame=some L):frs (env::outer)=L::frs outer:=by unfold frs;rw[OP,h]
section
variable{P:Program}{w:World}{outer:List Env}{H H':Hp}{h₀ h h' B:Heap}{ea t:Addr}{cls:Value}
def Fly.step(F:Fly P w outer H h₀ H' ea cls h B t)(fl':Heap.FlyingW B outer' ea cls (.ref t) h')(up:h.UpToSlots h'):
 Un (frs outer) [] H H' h₀ h'/\HOk P w H' h':=by
 have st:=F.fl.1;have same:∀b o,(∃o',B.get? b=some o')->h.get? b=some o->h'.get? b=some o:=λb o ⟨o',e⟩ q=>by have z:=st b o' e;rw[q] at z;cases z;exact fl'.1 b _ e
 have frame:∀b o,b∈frs outer->h.get? b=some o->∃sl,h'.get? b=some { o with slots:=sl }:=λb o hb q=>by obtain⟨_,o',ho',hd⟩:=F.fl.2.2.1.mem hb;rw[q] at ho';cases ho';exact up b o q hd
 refine⟨⟨λb o e n hb hx=>same b o (F.old b o e hb) (F.un.keep b o e n hb hx),λb o e n hb hx=>?_,F.un.free,λb o e hx=>?_,F.un.tups,F.un.frzs,F.un.tbls⟩,λa o e=>?_⟩
 .obtain⟨sl,q⟩:=F.un.slot b o e n hb hx;obtain⟨sl',q'⟩:=frame b _ hb q;exact⟨sl',q'⟩
 .obtain⟨o',q⟩:=F.un.there b o e hx;by_cases hb:b∈frs outer
  .obtain⟨sl,q'⟩:=frame b _ hb q;exact⟨_,q'⟩
  .exact⟨o',same b o' (F.old b o e hb) q⟩
 .refine (F.hok a o e).stay (λb u hb q=>same b u ?_ q) (λ_ q=>q) λ_ _ q=>q;rcases hb with z |z
  .rw[z];exact F.trk a o e
  .exact F.trk b _ z
end
structure Cx.Top(X:Cx):Prop where
 ex:X.ex=[]
 stk:X.stack=X.env::X.outer
 fr:X.env.frame=some X.env.locals
section
variable{X:Cx}{pins:Qi}{σ:St}{H:Hp}{s s':Shared}{E:XK}{e:Value}
def xq(T:X.Top)(hA:A.frames=some X.stack)(I:Inv X pins σ H s)(h:CX1 X.prog X.w X.stack H s E e s'):
 wpAny (model X.prog X.w) A (leaving X.env e) (λ_ s''=>CX1 X.prog X.w X.outer X.H₀ X.s₀ E e s'') E' s':=by
 obtain⟨ea,t,cls,H',B,rfl,os,bare,F,q⟩:=h;have F0:=F;rw[T.stk] at F;have hf:=sd (outer:=X.outer) T.fr;refine wpAny_leaves_onW (by rw[hA,T.stk]) T.fr F.fl λh'' fl'' up=>?_;obtain⟨un2,hok2⟩:=F.step fl'' up;have exn:∀b,b∉X.ex:=λb z=>by rw[T.ex] at z;cases z
 have neL:∀b o,X.s₀.heap.get? b=some o->b≠X.env.locals:=λb o e=>N2 (K_ (Em e) I.ok.above);have notin:∀b o,X.s₀.heap.get? b=some o->b∉frs X.outer->b∉frs (X.env::X.outer):=λb o e hb z=>by
  rw[hf] at z;rcases NZ.mp z with z |z
  .exact neL b o e z
  .exact hb z
 refine⟨ea,t,cls,H',B,rfl,os.trans I.os,bare,⟨⟨λb o e n hb hx=>?_,λb o e n hb hx=>?_,λb o e n hx=>?_,λb o e hx=>?_,λb xs e=>un2.tups b xs (I.base.tups b xs e),λb o xs e=>un2.frzs b o xs (I.base.frzs b o xs e),λb ps e=>?_⟩,hok2,fl'',λb o e hb=>?_,F.trk⟩,q⟩
 .exact un2.keep b o (I.base.keep b o e n hb (exn b)) (I.base.free b o e n (exn b)) (notin b o e hb) (by simp)
 .obtain⟨sl,e1⟩:=I.base.slot b o e n hb (exn b);obtain⟨sl',e2⟩:=un2.slot b _ e1 (I.base.free b o e n (exn b)) (by rw[hf];exact A_ _ hb) (by simp);exact⟨sl',e2⟩
 .obtain⟨o',e1⟩:=I.base.there b o e (exn b);exact un2.free b o' e1 (I.base.free b o e n (exn b)) (by simp)
 .obtain⟨o',e1⟩:=I.base.there b o e (exn b);exact un2.there b o' e1 (by simp)
 .obtain⟨m1,e1⟩:=I.base.tbls b ps e;obtain⟨m2,e2⟩:=un2.tbls b _ e1;exact⟨m1++m2,by rw[e2,Array.append_assoc]⟩
 .obtain⟨o',e1⟩:=I.base.there b o e (exn b);exact F.old b o' e1 (notin b o e hb)
def Al(T:X.Top)(hA:A.frames=some X.stack)(I:Inv X pins σ H s)(hx:Heap.MadeExcOf s.heap h' ea cls args)(q:E cls none H):
 wpAny (model X.prog X.w) A (leaving X.env (.ref ea)) (λ_ s''=>CX1 X.prog X.w X.outer X.H₀ X.s₀ E (.ref ea) s'') E' { s with heap:=h' }:=by
 have hf:=sd (outer:=X.outer) T.fr;have stk:=I.stack;rw[T.stk] at stk;have hin:∀env∈(X.env::X.outer),∀b,env.frame=some b->b∈frs (X.env::X.outer):=λenv he b hb=>List.mem_filterMap.mpr ⟨env,he,hb⟩;refine wpAny_leaves_madeW (base:=W.hideAll s.heap (frs (X.env::X.outer))) (h:=s.heap) (by rw[hA,T.stk]) T.fr (λb o q=>W.of_hideAll _ q) (W.funFrames_hide stk hin) hx λh'' t fl tup tn up=>?_;have inB:∀b o,s.heap.get? b=some o->b∉frs (X.env::X.outer)->(W.hideAll s.heap (frs (X.env::X.outer))).get? b=some o:=λb o e hb=>W.hideAll_get _ e hb;have free:∀b∈frs (X.env::X.outer),H b=none:=λb hb=>I.stkFree b (by rw[T.stk];exact hb);have up2:s.heap.UpToSlots h'':=(Heap.UpToSlots.of_keeps hx.keeps).trans up;have exn:∀b,b∉X.ex:=λb z=>by rw[T.ex] at z;cases z
 have neL:∀b o,X.s₀.heap.get? b=some o->b≠X.env.locals:=λb o e=>N2 (K_ (Em e) I.ok.above);have notin:∀b o,X.s₀.heap.get? b=some o->b∉frs X.outer->b∉frs (X.env::X.outer):=λb o e hb z=>by
  rw[hf] at z;rcases NZ.mp z with z |z
  .exact neL b o e z
  .exact hb z
 have trk:∀b o,H b=some o->∃o',(W.hideAll s.heap (frs (X.env::X.outer))).get? b=some o':=λb o e=>by obtain⟨u,hu⟩:=(I.hok b o e).there;exact⟨u,inB b u hu λz=>by rw[free b z] at e;cases e⟩
 refine⟨ea,t,cls,H,_,rfl,I.os,I.bare,⟨⟨λb o e n hb hx=>?_,λb o e n hb hx=>?_,λb o e n hx=>?_,λb o e hx=>?_,I.base.tups,I.base.frzs,I.base.tbls⟩,λa o e=>?_,fl,λb o e hb=>?_,trk⟩,q⟩
 .exact fl.1 b o (inB b o (I.base.keep b o e n hb (exn b)) (notin b o e hb))
 .obtain⟨sl,e1⟩:=I.base.slot b o e n hb (exn b);obtain⟨_,o',ho',hd⟩:=I.ok.funs.mem hb;rw[e] at ho';cases ho';obtain⟨sl',e2⟩:=up2 b _ e1 hd;exact⟨sl',e2⟩
 .exact I.base.free b o e n (exn b)
 .obtain⟨o',e1⟩:=I.base.there b o e (exn b);by_cases hb:b∈frs X.outer
  .obtain⟨_,o2,ho2,hd⟩:=I.funs.mem hb;rw[e1] at ho2;cases ho2;obtain⟨sl',e2⟩:=up2 b _ e1 hd;exact⟨_,e2⟩
  .exact⟨o',fl.1 b o' (inB b o' e1 (notin b o e hb))⟩
 .refine (I.hok a o e).stay (λb u hb q=>?_) (λ_ q=>q) λ_ _ q=>q;refine fl.1 b u (inB b u q λz=>?_);rcases hb with y |y
  .rw[y] at z;rw[free a z] at e;cases e
  .rw[free b z] at y;cases y
 .obtain⟨o',e1⟩:=I.base.there b o e (exn b);exact⟨o',inB b o' e1 (notin b o e hb)⟩
def sO{h6:Heap}{ea t:Addr}{C:Addr}{H':Hp}{B:Heap}{g':Shared}(T:X.Top)(I:Inv X pins σ H s)(F:Fly X.prog X.w X.stack H s.heap H' ea (.ref C) s'.heap B t)(os:s'.os=s.os)(bare:AllBare s'.gens)
 (fl6:Heap.FlyingW B X.stack ea (.ref C) (.ref t) h6) (up:s'.heap.UpToSlots h6):
 H' ea=none/\Inv X pins σ (upd H' ea (.ext (oi ea C))) { s' with heap:=h6 }:=by
 obtain⟨un2,hok2⟩:=F.step fl6 up;obtain⟨oe,vs,he,hc,hd,_⟩:=fl6.first;have hB:B.get? ea=none:=fl6.2.1;have hn:H' ea=none:=by
  cases q:H' ea with
  |none=>rfl
  |some o=>obtain⟨o',z⟩:=F.trk ea o q;rw[hB] at z;cases z
 have hnf:ea∉frs X.stack:=λz=>by obtain⟨_,o,ho,hdd⟩:=fl6.2.2.1.mem z;rw[he] at ho;cases ho;exact hdd vs hd
 have hs:s.heap.get? ea=none:=by
  cases q:s.heap.get? ea with
  |none=>rfl
  |some o=>obtain⟨o',z⟩:=F.old ea o q hnf;rw[hB] at z;cases z
 have I5:Inv X pins σ H' { s' with heap:=h6 }:=I.call' (s':={ s' with heap:=h6 }) (ch:=[]) os un2 hok2 bare λb hb=>nomatch hb;refine⟨hn,I5.track hn ?_ ?_ (λx c e z=>?_) (λp hp z=>?_) ⟨⟨oe,vs,he,hc,hd⟩,⟨oe,he⟩,λh1 h2 ⟨o1,v1,e1,r⟩ k=>⟨o1,v1,k o1 e1,r⟩⟩⟩
 .cases q:X.s₀.heap.get? ea with
  |none=>rfl
  |some o=>obtain⟨o',z⟩:=I.base.there ea o q (by rw[T.ex];simp);rw[hs] at z;cases z
 .intro z;obtain⟨m,⟨o,es,ep,ho,hdd,_⟩,_⟩:=I.loc;rw[<- z,hs] at ho;cases ho
 .obtain⟨v,o,ho,_⟩:=I.cell x c e;rw[z,hs] at ho;cases ho
 .have:=(I.pin p hp).1
  rw[z,hs] at this;cases this
end
section
variable{P:Program}{w:World}{K:W.Frag}{mg:Qh}{base:Heap}{N:List Str}{qual:Str}{scope:Scope}{f:Addr}{cd:Value}{A:Around}{outer:List Env}{s:Shared}{H:Hp}{E:XK}
def pV:(df (CX1 P w) P w K mg base N qual scope f cd A outer s H E).Top:=⟨rfl,rfl,rfl⟩
def Nz:qU (CX1 P w) (df (CX1 P w) P w K mg base N qual scope f cd A outer s H E) E:=λpins σ H s e s' I h=>xq pV I.ok.frames I h
def MV:qU (CX1 P w) X E0:=λpins σ H s e s' I ⟨_,_,_,_,_,_,_,_,_,q⟩=>q.elim
def xo:PassesOwn (model P w) (df (CX1 P w) P w K mg base N qual scope f cd A outer s H E).A (df (CX1 P w) P w K mg base N qual scope f cd A outer s H E).env (df (CX1 P w) P w K mg base N qual scope f cd A outer s H E).xe:=PassesOwn.leaving
def Rz(X:Cx)(E:XK):Prop:=∀(pins:Qi) (σ:St) (H:Hp) (s:Shared) (h':Heap) (ea:Addr) (cls:Value) (args:List Value),Inv X pins σ H s->Heap.MadeExcOf s.heap h' ea cls args->E cls none H->X.xe (.ref ea) { s with heap:=h' }
def rz1:Rz (df (CX1 P w) P w K mg base N qual scope f cd A outer s H E) E:=λpins σ H s h' ea cls args I hx q=>Al pV I.ok.frames I hx q
def Fun.okR{x qual:Str}{st:Stmt}{f:Addr}{fd:FuncData}{N ps:List Str}{k:Nat}{sp:Sp}(F:Fun K x qual st f fd)(S:FnScope N ps (ak st))(len:∀vs H Q E,sp vs H Q E->vs.length=ps.length)
 (e_:∀(cdv:Value) (A:Around) (outer:List Env) (s:Shared) (H:Hp) (vs:List V) (Q:VK) (E:XK),Room k (A.deeper (envOfC qual (ak st) s.heap.objs.size f cdv))->sp vs H Q E->
  ∃t,PSs (df (CX1 P w) P w K mg base N qual (ak st) f cdv A outer s H E) (aG st) t/\t { nx:=λ_ H'=>Q .non H',rt:=Q } (cI N vs) H):FnOk P w K mg base (CX1 P w) (k+1) f fd ps sp:=by
 obtain⟨oc,od,kV,doc,pm,an,cdv,ct,osl,rfl,lk,s_⟩:=F.ex;exact KW lk s_ S len λA outer s H vs Q E hr hsp=>e_ cdv A outer s H vs Q E hr hsp
end
abbrev kR:List Value:=[.type "ValueError",.type "Exception",.type "BaseException",.type "object"]
def yG{K:W.Frag}{h:Heap}{C:Addr}(X:K.In h)(q:W.excIn K C kR "ValueError.__new__"=true):
 ∃bm N nm q' bs hdct sn sub ab col dd k0 k1 k2 k3 k5 mN,h.get? C=some (excClassObj nm q' C N bs bm hdct sn sub ab col dd k0 k1 k2 k3 k5 "ValueError.__new__")/\h.Ns N mN/\mN "__init__"=none/\OwnTail h kR bm:=by
 unfold W.excIn at q;split at q
 .rename_i dd cd sl ho;split at q
  .rename_i C' bm k0 k1 k2 k3 n k5 hm hs;simp only[C_,Oj,Bool.not_eq_true'] at q;obtain⟨⟨⟨⟨⟨rfl,rfl⟩,hdel⟩,ht⟩,hok⟩,hni⟩:=q;obtain⟨nm,bs,mro,ns,qn,hd,sn,sub,ab,col,del⟩:=cd;dsimp only at hm hdel hok hni;subst hm hdel;have u_:sl=#[k0,k1,k2,k3,some (.builtin "ValueError.__new__"),k5]:=by obtain⟨l⟩:=sl;simp only at hs;rw[hs]
   subst u_;exact⟨bm,ns,nm,qn,bs,hd,sn,sub,ab,col,dd,k0,k1,k2,k3,k5,_,X _ _ ho,.of_isNs (W.isNs_of_in X hok),W.nsMap_none_of_in X hok hni,W.tail_of_in X ht⟩
  .cases q
 .cases q
section
variable{X:Cx}{x:Str}{C:Addr}{E:XK}{np cpos pos:Pos}{e₀:Expr}{es:List Expr}{ta:TA}
def G6(C:Addr)(E:XK)(ta:TA):TS:=λ_ σ H=>ta σ H λvs H1=>vs.length<=sizeLine/\E (.ref C) none H1
def Am(hc:X.calm=true)(hR:Rz X E)(hg:Gl X x)(hm:X.mg x=some (.ref C))(hq:W.excIn X.K C kR "ValueError.__new__"=true)(ha:PA X (e₀::es) ta)
 (he:starEach (e₀::es) X.env=(false,eval e₀ X.env)::starEach es X.env) (i_:(backTo cpos (starEach es X.env)).any (·.1)=false) (hd:(x==("__debug__" : Str))=false):
 PS X (.Raise (some (.Call (.Name x np) (e₀::es) [] cpos)) none pos) (G6 C E ta):=by
 intro pins s σ H D I h;obtain⟨bm,N,nm,q',bs,hdct,sn,sub,ab,col,dd,k0,k1,k2,k3,k5,mN,hC,hN,hni,T⟩:=yG I.ok.mod.kin hq;refine wpAny_Raise_call_subT (C:=C) (nm:=nm) (q:=q') (N:=N) (bs:=bs) (bm:=bm) (hdct:=hdct) (sn:=sn) (sub:=sub) (ab:=ab) (col:=col) (dd:=dd) (k0:=k0) (k1:=k1) (k2:=k2) (k3:=k3) (k5:=k5)
  PySem.F.excBase_ValueError (mN:=mN) (T.hasType PySem.F.excBase_ValueError.hasBase) (I.ok.hd hc) (by rw[he];show (false || (backTo cpos (starEach es X.env)).any (·.1))=false;rw[i_];rfl) hni (j7 I hg hm ⟨rfl,?_⟩ hd)
 have hA:=ha cpos pins s σ H _ I h;rw[he] at hA ⊢;refine Calls.evalArgs_plain (thn hA λus s2 ⟨vs,H2,I2,r2,hz,q2⟩=>⟨rfl,by rw[<- r2.length];exact hz,I2.bk _ _ hC,hN.keeps I2.bk,T.keeps I2.bk,λh' e hm'=>?_⟩);exact hR pins σ H2 s2 h' e _ _ I2 hm' q2
end
abbrev XS:=St->XK
abbrev TEx:=St->Hp->VK->XK->Prop
abbrev TSx:=Ends->XS->St->Hp->Prop
def XP(X:Cx)(pins:Qi)(E:XS)(e:Value)(s':Shared):Prop:=∃σ1 H1 s1,Inv X pins σ1 H1 s1/\CX1 X.prog X.w X.stack H1 s1 (E σ1) e s'
def PEx(X:Cx)(e:Expr)(t:TEx):Prop:=
 ∀(pins:Qi) (s:Shared) (σ:St) (H:Hp) (Q:VK) (E:XS),Inv X pins σ H s->t σ H Q (E σ)->wpAny (model X.prog X.w) X.A (eval e X.env) (EP X pins σ Q) (XP X pins E) s
def PSsx(X:Cx)(st:List Stmt)(t:TSx):Prop:=
 ∀(pins:Qi) (s:Shared) (σ:St) (H:Hp) (D:Ends) (E:XS),Inv X pins σ H s->t D E σ H->wpAny (model X.prog X.w) X.A (execs st X.env) (SP X pins D) (XP X pins E) s
def gi(X:Cx)(ea:Addr):Cx:={ X with A:=X.A.mark (some (.ref ea)),calm:=false,xe:=λ_ _=>False }
section
variable{X:Cx}{pins:Qi}{σ:St}{H:Hp}{s:Shared}{ea:Addr}
def Inv.suite(I:Inv X pins σ H s):Inv (gi X ea) pins σ H s:=
 ⟨⟨I.ok.mod,I.ok.kind,I.ok.glob,I.ok.blt,I.ok.above,I.ok.inj,I.ok.has,I.ok.cab,λz=>absurd z y_,I.ok.frames,I.ok.stk,I.ok.exf,I.ok.bs,I.ok.bsz,I.ok.noex,I.ok.exfs,I.ok.funs,I.ok.frf⟩,I.os,I.bare,I.base,I.loc,I.cell,I.free,I.freeC,I.pin,I.hok,I.len⟩
def Inv.unsuite(ok:X.Ok)(I:Inv (gi X ea) pins σ H s):Inv X pins σ H s:=
 ⟨ok,I.os,I.bare,I.base,I.loc,I.cell,I.free,I.freeC,I.pin,I.hok,I.len⟩
def xW{M:Model}{A:Around}{E:Qj}{K:W.Frag}{C Ce:Addr}{o:Obj}{Q:Bool->Shared->Prop}(KX:K.In s.heap)(he:s.heap.get? ea=some o)(hc:o.cls=.ref Ce)
 (hty:W.typeIn K (.ref C)=some (.type "type")) (hcl:(W.clsIn K C).isSome=true) (hb:W.mroIn K C (.type "BaseException")=some true) (hm:W.mroIn K Ce (.ref C)=some true) (q:Q true s):
 wpAny M A (excMatches (.ref ea) (.ref C)) Q E s:=by
 obtain⟨h,g,d,tk,os⟩:=s;have L0:=gJ (M:=M) he hc;have L1:=W.looks_typeIn (M:=M) KX hty;have L2:=W.looks_mroIn (M:=M) KX hb;have L3:=W.looks_mroIn (M:=M) KX hm;have L4:W.Looks M h (isType (.ref C)) true:=by
  obtain⟨cd,s_⟩:=Oi.mp hcl;unfold W.clsIn at s_;split at s_
  .rename_i c' d' cd' sl' ho;intro A' Q' E' s' k q;unfold isType loadHead;exact v_ (wpAny_loadPart (k _ _ (KX _ _ ho)) (D_ q))
  .cases s_
 have LT:W.Looks M h (isInstance (.ref C) (.type "tuple")) false:=L1.andThen (W.Looks.of_pure tc_notTuple);have LE:W.Looks M h (isExcClass (.ref C)) true:=by unfold isExcClass;exact L4.andThen L2
 unfold excMatches;refine v_ (LT.at ?_);rw[if_neg y_];refine v_ (D_ ?_);dsimp only;refine v_ ?_;rw[O9];refine v_ (v_ (LE.at ?_));simp only[Bool.not_true,OG,Pg];refine D_ ?_;dsimp only;rw[PJ];refine D_ ?_;refine v_ (L0.at (v_ ?_));rw[O9];refine v_ (v_ (L3.at ?_));simp only[OL];exact D_ (D_ (D_ q))
def Inv.unbind(I:Inv X pins σ H s)(hN:X.N.Nodup)(hi:X.N[i]?=some n)(hl:X.env.kindOf n=some .local)
 (hm:∀(i:Nat) (x:Str) (v:V),X.N[i]?=some x->σ[i]?=some (some v)->Vis X.env.scope x->∃u,RelV v u/\zX X.env s.heap m x u) (hn:s.heap.Ns X.env.locals m)
 (hn':h'.Ns X.env.locals (λx=>if x=n then v else m x)) (hs:Heap.SameBut X.env.locals s.heap h'):Inv X pins (σ.set i none) H { s with heap:=h',toks:=tk }:=by
 have cne:=I.cne;have neL:∀b o,X.s₀.heap.get? b=some o->b≠X.env.locals:=λb o e=>N2 (K_ (Em e) I.ok.above);refine⟨I.ok,I.os,I.bare,⟨λb o e n hb hx=>?_,λb o e n hb hx=>?_,I.base.free,λb o e hx=>?_,I.base.tups,I.base.frzs,I.base.tbls⟩,⟨_,hn',λj y v' e1 e2 e3=>?_⟩,λy c e=>?_,I.free,I.freeC,λp hp=>?_,λb ob e=>?_,by simpa using I.len⟩
 .exact (hs.2 b (neL b o e)).trans (I.base.keep b o e n hb hx)
 .obtain⟨sl,e1⟩:=I.base.slot b o e n hb hx;exact⟨sl,(hs.2 b (neL b o e)).trans e1⟩
 .obtain⟨o',e1⟩:=I.base.there b o e hx;exact⟨o',(hs.2 b (neL b o e)).trans e1⟩
 .by_cases hj:j=i
  .subst hj;have hiσ:j<σ.length:=by rw[I.len];exact (x_.mp hi).1
   rw[PN hiσ] at e2;cases e2
  .rw[Pe (Ne.symm hj)] at e2;obtain⟨u',r',q⟩:=hm j y v' e1 e2 e3;refine⟨u',r',?_⟩;rcases q with ⟨k,e⟩ |⟨k,c,e,z⟩
   .refine .inl ⟨k,?_⟩;have:y≠n:=λe=>hj (lL hN e1 (e ▸ hi));simp [this,e]
   .exact .inr ⟨k,c,e,z.sameBut hs (cne y c e)⟩
 .obtain⟨w',z⟩:=I.cell y c e;exact⟨w',z.sameBut hs (cne y c e)⟩
 .obtain⟨e,n,ne,nf,d⟩:=I.pin p hp;exact⟨(hs.2 p.1 ne).trans e,n,ne,nf,d⟩
 .refine (I.hok b ob e).stay (λc w' hc q=>(hs.2 c ?_).trans q) (λ_ q=>q) λ_ _ q=>q;rintro rfl;rcases hc with z |hc
  .rw[<- z,I.free] at e;cases e
  .rw[I.free] at hc;cases hc
def Bn(I:Inv X pins σ H s)(hg:Gl X x)(hm:X.mg x=some u)(h:Q u s)
 (hd:(x==("__debug__" : Str))=false):wpAny (model X.prog X.w) A (eval (.Name x pos) X.env) Q E s:=
 Pj I.ok.kind hg (Calls.loadGlobal_global (by rw[I.ok.glob];exact I.mod.glob.keeps I.bk) hm h) hd
end
structure XHand(K:W.Frag)(C:Addr):Prop where
 ty:W.typeIn K (.ref C)=some (.type "type")
 cls:(W.clsIn K C).isSome=true
 mb:W.mroIn K C (.type "BaseException")=some true
def CN(i:Nat)(D:Ends):Ends:={ nx:=λσ H=>D.nx (σ.set i none) H,rt:=D.rt,bk:=λσ H=>D.bk (σ.set i none) H,ct:=λσ H=>D.ct (σ.set i none) H }
def tTry(K:W.Frag)(C:Addr)(i:Nat)(tb:TSx)(ts:TS):TS:=λD σ H=>
 tb D (λσ1 cls _ H1=>∃Ce,cls=.ref Ce/\W.mroIn K Ce (.ref C)=some true/\∀ea,H1 ea=none->ts (CN i D) (σ1.set i (some (.ref ea))) (upd H1 ea (.ext (oi ea Ce)))) σ H
section
variable{X:Cx}{x n:Str}{C:Addr}{i:Nat}{body suite:List Stmt}{b₀:Stmt}{tb:TSx}{ts:TS}{np hpos pos:Pos}
def J1(T:X.Top)(hN:X.N.Nodup)(hi:X.N[i]?=some n)(hl:X.env.kindOf n=some .local)(hg:Gl X x)(hm:X.mg x=some (.ref C))(hh:XHand X.K C)(hb:PSsx X body tb)(hs:∀ea,PSs (gi X ea) (b₀::suite) ts)
 (hd:(x==("__debug__" : Str))=false):PS X (.Try body [.ExceptHandler (some (.Name x np)) (some n) (b₀::suite) hpos] [] [] pos) (tTry X.K C i tb ts):=by
 intro pins s σ H D I h;refine wpAny_Try_except (N_ (hb pins s σ H D _ I h) (λf s1 q=>?_) λe s1 hx=>?_)
 .cases f with
  |next=>exact Pt q
  |ret v=>exact q
  |brk=>exact q
  |cont=>exact q
 .obtain⟨σ1,H1,s0,I1,ea,t,cls,H',B,rfl,os,bare,F,Ce,rfl,hme,q⟩:=hx;have F1:=F.fl;rw[T.stk] at F1;have p_:X.A.frames=some (X.env::X.outer):=by rw[I1.ok.frames,T.stk]
  refine wpAny_looks_onW p_ T.fr F1 λh4 held4 up4=>?_;refine wpAny_landsW held4 λh5 fl5 up5=>?_;have fl5':=fl5;rw[<- T.stk] at fl5';obtain⟨hn5,I5⟩:=sO (g':=s1) T I1 F os bare fl5' (up4.trans up5);obtain⟨o5,he5,hc5⟩:=fl5.there;refine wpAny_handleBy_cons (codeAny_handlers_test (Bn I5 hg hm ?_ hd)) (by intro q;cases q);refine xW I5.kIn he5 hc5 hh.ty hh.cls hh.mb hme ?_;refine codeAny_handlers_suite_as ?_;refine lands_againW fl5 λh6 fl6 up6=>?_;have fl6':=fl6;rw[<- T.stk] at fl6';obtain⟨hn6,I6⟩:=sO (g':=s1) T I1 F os bare fl6' ((up4.trans up5).trans up6);refine fA (v:=.ref ea) I6 hN hi (.inl hl) rfl (λs7 I7=>?_) (.inr hl);refine N_ (hs ea pins s7 _ _ (CN i D) I7.suite (q ea hn6)) (λf s8 h8=>?_) λ_ _ z=>False.elim z;have go:∀{σ8:St}{H8:Hp},Inv (gi X ea) pins σ8 H8 s8->(∀s9,Inv X pins (σ8.set i none) H8 s9->SP X pins D f s9)->
   wpAny (model X.prog X.w) X.A (do bindName X.env n .none;unbindBehindTheSuite X.env n hpos) (λ_ s9=>SP X pins D f s9) X.xe s8:=λ{σ8 H8} I8' k=>by
   have I8:=I8'.unsuite I.ok;obtain⟨m,hn,hm⟩:=I8.loc;exact wpAny_nameGoes_keeps hl hn (by rw[I8.ok.kind];rfl) λh' v hn' hs'=>k _ (I8.unbind hN hi hl hm hn hn' hs')
  cases f with
  |next=>obtain⟨σ8,H8,I8,q8⟩:=h8;exact go I8 λs9 I9=>⟨_,_,I9,q8⟩
  |brk=>obtain⟨σ8,H8,I8,q8⟩:=h8;exact go I8 λs9 I9=>⟨_,_,I9,q8⟩
  |cont=>obtain⟨σ8,H8,I8,q8⟩:=h8;exact go I8 λs9 I9=>⟨_,_,I9,q8⟩
  |ret u=>obtain⟨v,σ8,H8,I8,r8,q8⟩:=h8;exact go I8 λs9 I9=>⟨v,_,_,I9,r8,q8⟩
end
mutual
inductive Rep(K:W.Frag)(H:Hp):V->PyData->Prop where
 |non:Rep K H .non .none
 |bl (b:Bool):Rep K H (.bl b) (.bool b)
 |int (i:Int):Rep K H (.int i) (.int i)
 |str (x:Str):Rep K H (.str x) (.str x)
 |tup {a:Addr}{xs:List V}{ds:List PyData} (h:SqT K H a xs) (r:Reps K H xs ds):Rep K H (.ref a) (.tuple ds)
 |lst {a:Addr}{xs:List V}{ds:List PyData} (h:SqL K H a xs) (r:Reps K H xs ds):Rep K H (.ref a) (.list ds)
inductive Reps(K:W.Frag)(H:Hp):List V->List PyData->Prop where
 |nil:Reps K H [] []
 |cons {x:V}{d:PyData}{xs:List V}{ds:List PyData} (r:Rep K H x d) (rr:Reps K H xs ds):Reps K H (x::xs) (d::ds)
end
section
variable{X:Cx}{pins:Qi}{σ:St}{H:Hp}{s:Shared}{K:W.Frag}
def Rep.reads(I:Inv X pins σ H s)(r:Rep X.K H v d)(q:RelV v u):∃as,Reads s.heap u d as:=
 Rep.rec (motive_1:=λv d _=>∀u,RelV v u->∃as,Reads s.heap u d as) (motive_2:=λvs ds _=>∀us,Vals vs us->∃as,ReadsAll s.heap us ds as)
  (λu r=>by cases r;exact⟨_,.none⟩) (λb u r=>by cases r;exact⟨_,.bool b⟩) (λi u r=>by obtain⟨t,rfl⟩:=r;exact⟨_,.int i t⟩) (λx u r=>by obtain⟨t,rfl⟩:=r;exact⟨_,.str x t⟩)
  (λh _ ih u r=>by cases r;obtain⟨its,rv,⟨o,e,c,n,d⟩,_⟩:=I.tuple h;obtain⟨as,q⟩:=ih _ rv;exact⟨as,.tuple e c d (by simpa using q)⟩)
  (λh _ ih u r=>by cases r;obtain⟨its,rv,⟨o,n,e,c,_,d⟩,_⟩:=I.list h;obtain⟨as,q⟩:=ih _ rv;exact⟨_,.list e c d (by simpa using q)⟩)
  (λus r=>by cases r;exact⟨_,.nil⟩)
  (λ_ _ a b us q=>by
   cases q with
   |cons q1 q2=>obtain⟨as,h1⟩:=a _ q1;obtain⟨bs,h2⟩:=b _ q2;exact⟨_,.cons h1 h2⟩) r u q
end
section
variable{X:Cx}
noncomputable def shp(d:PyData):Bool:=d.canLay0&&decide (d.depth<=160)
def fE(h:shp d=true):d.canLay0=true:=(Bool.and_eq_true_iff.mp h).1
def kW{A:Around}{d e:PyData}(h:shp d=true)(hu:A.units+180<cLine):A.units+min d.depth e.depth<cLine:=by have h1:d.depth<=160:=of_decide_eq_true (Bool.and_eq_true_iff.mp h).2;have h2:min d.depth e.depth<=d.depth:=Nat.min_le_left _ _;omega
def vp(K:W.Frag):R2:=λx y H Q=>∃dx dy,Rep K H x dx/\Rep K H y dy/\shp dx=true/\shp dy=true/\Q (.bl (PyData.eqv dx dy)) H
def vX(K:W.Frag):R2:=λx y H Q=>∃dx dy,Rep K H x dx/\Rep K H y dy/\shp dx=true/\shp dy=true/\Q (.bl (!PyData.eqv dx dy)) H
def F4(hu:X.A.units+180<cLine):OpR X (compareOp .Eq) (vp X.K):=by intro pins s σ H x y v u Q I rx ry h;obtain⟨dx,dy,r1,r2,h1,h2,q⟩:=h;obtain⟨as,q1⟩:=r1.reads I rx;obtain⟨bs,q2⟩:=r2.reads I ry;exact SeqAt.compareEq_reads q1 q2 (fE h1) (fE h2) (kW h1 hu) (nj I q rfl)
def KL(hu:X.A.units+180<cLine):OpR X (compareOp .NotEq) (vX X.K):=by intro pins s σ H x y v u Q I rx ry h;obtain⟨dx,dy,r1,r2,h1,h2,q⟩:=h;obtain⟨as,q1⟩:=r1.reads I rx;obtain⟨bs,q2⟩:=r2.reads I ry;exact SeqAt.compareNe_reads q1 q2 (fE h1) (fE h2) (kW h1 hu) (nj I q rfl)
open PySem.Builtin.Int (intBits)
def CDivB(i j:Int):Prop:=j≠0/\intBits j<=8000
def CK(i j:Int):Prop:=intBits i<=100000/\intBits j<=100000
def zW:OpR X (binaryOp .FloorDiv) (rI CDivB λi j=>.int (i.fdiv j)):=opI λi j _ _ _ _ _ hc q=>floordiv_int hc.1 q (.inl (PyProof.noPylong_of_log2 (by
 have h:=hc.2;have h0:=hc.1;unfold intBits at h;have hb:(j==0)=false:=by simpa using h0
 rw[hb] at h;simp only[OG,Pg] at h;omega)))
def D8:OpR X (binaryOp .Mult) (rI CK λi j=>.int (i*j)):=opI λi j _ _ _ _ _ hc q=>mul_int q (PySem.IntMulOk.of_le hc.1 hc.2 (by decide))
def xD(bs:List Bool):((List.range bs.length).all λi=>bs.getD i false)=bs.all id:=by
 rw[Bool.eq_iff_iff,NY,NY];constructor
 .intro h x hx;obtain⟨i,hi,rfl⟩:=List.mem_iff_getElem.mp hx
  have:=h i (Pd.mpr hi)
  simpa [Ou,hi] using this
 .intro h i hi;have hi':=Pd.mp hi
  have:=h bs[i] (List.getElem_mem hi')
  simpa [Ou,hi'] using this
def Cn(hc:X.calm=true):CallR X (.builtin "all") (λxs H Q=>∃(a:Addr) (bs:List Bool),xs=[.ref a]/\SqL X.K H a (bs.map V.bl)/\Q (.bl (bs.all id)) H):=by
 intro pins s σ H xs us Q I r h;obtain⟨a,bs,rfl,hq,q⟩:=h;obtain⟨u,rfl,ru⟩:=fZ r;cases ru;obtain⟨its,rv,p,hz⟩:=I.list hq;have hl:=rv.length;rw[w_] at hl;have hlt:a<s.heap.objs.size:=by obtain⟨o,n,e,_⟩:=p;exact Em e
 refine call_all_walk (wpAny_pyIter_list p.isList ?_);refine⟨s.heap.objs.size,_,_,_,_,_,λi=>bs.getD i false,rfl,Walks.list (A:=X.A.in1) (I.ok.hd hc) s.heap.objs.size a (N2 hlt) its.toArray,⟨⟨_,NW _ rfl,rfl,rfl⟩,(p.keeps λb o e=>B_ _ e).isList⟩,λi v s' Q' E' hP hQ=>?_,λh' tk hk=>?_⟩
 .have hP':its[i]?=some v:=by simpa using hP
  have hi:i<bs.length:=by rw[hl];exact (x_.mp hP').1
  have hb:(bs.map V.bl)[i]?=some (V.bl bs[i]):=by simp [hi]
  obtain⟨u,hu,ru⟩:=rv.get hb;rw[hP'] at hu;cases hu;cases ru;refine O2 ?_;have e:bs.getD i false=bs[i]:=by simp [Ou,hi]
  show Q' bs[i] s';rw[<- e];exact hQ
 .have e1:its.toArray.size=bs.length:=by rw[H_,hl]
  rw[e1,xD];have hn:H s.heap.objs.size=none:=I.fresh;have I1:Inv X pins σ H { s with heap:=s.heap.push { cls:=.type "list_iterator",dict:=none,data:=.fields #[.ref a,rawInt 0] } }:=I.kept (t':=s.toks) λb o e=>B_ _ e;refine⟨.bl _,H,?_,rfl,q⟩;refine I.kept (t':=tk) λb o e=>?_;have hne:b≠s.heap.objs.size:=N2 (Em e);exact hk b o (by simpa using hne) (B_ _ e)
end
structure Def(K:W.Frag)(mg:Qh)(x:Str)(st:Stmt):Prop where
 ex:∃f fd,Fun K x x st f fd/\mg x=some (.ref f)
def yK{K:W.Frag}{h:Heap}{mg:Qh}{x:Str}{st:Stmt}{f:Addr}{oc:Value}{od an:Option Addr}{osl:Array (Option Value)}{kV doc pm cdv ct:Value}(X:K.In h)(G:h.Ns mainGlobals mg)
 (a:W.nsIn K mainGlobals x=some (some (.ref f))) (l:K.lookup f=some ⟨oc,od,.func (W.fnOf x x (bj st) (aG st) (ak st) .none kV doc pm an cdv ct),osl⟩)
 (c:W.codeIn K cdv x=true) (k:W.keepIn K (.ref f)=true):Def K mg x st:=⟨f,_,KN l c k,W.mg_of X G a⟩
def Fun.look{K:W.Frag}{x qual:Str}{st:Stmt}{f:Addr}{fd:FuncData}(F:Fun K x qual st f fd):∃oc od osl,K.lookup f=some ⟨oc,od,.func fd,osl⟩:=by obtain⟨oc,od,kV,doc,pm,an,cdv,ct,osl,rfl,lk,s_⟩:=F.ex;exact⟨oc,od,osl,lk⟩
structure Callee(P:Program)(w:World)(K:W.Frag)(mg:Qh)(base:Heap)(x:Str)(k:Nat)(ps:List Str)(sp:Sp):Prop where
 ex:∃f fd,FnOk P w K mg base (CX1 P w) k f fd ps sp/\mg x=some (.ref f)/\W.keepIn K (.ref f)=true/\Binds K fd ps []/\∃oc od osl,K.lookup f=some ⟨oc,od,.func fd,osl⟩
section
variable{P:Program}{w:World}{K:W.Frag}{mg:Qh}{base:Heap}{x:Str}{st:Stmt}{k:Nat}{ps N:List Str}{sp:Sp}
def Callee.imp(C:Callee P w K mg base x k ps sp)(h:∀vs H Q E,sp' vs H Q E->sp vs H Q E):Callee P w K mg base x k ps sp':=by obtain⟨f,fd,F,r⟩:=C.ex;exact⟨f,fd,F.imp h,r⟩
def Def.okR(D:Def K mg x st)(S:FnScope N ps (ak st))
 (hb:∀(kV doc pm:Value) (an:Option Addr) (cdv ct:Value) (us:List Value),us.length=ps.length->bindArgs (W.fnOf x x (bj st) (aG st) (ak st) .none kV doc pm an cdv ct) ⟨us,[]⟩=pure (ps.zip us))
 (len:∀vs H Q E,sp vs H Q E->vs.length=ps.length)
 (e_:∀(f:Addr) (cdv:Value) (A:Around) (outer:List Env) (s:Shared) (H:Hp) (vs:List V) (Q:VK) (E:XK),Room k (A.deeper (envOfC x (ak st) s.heap.objs.size f cdv))->sp vs H Q E->
  ∃t,PSs (df (CX1 P w) P w K mg base N x (ak st) f cdv A outer s H E) (aG st) t/\t { nx:=λ_ H'=>Q .non H',rt:=Q } (cI N vs) H):Callee P w K mg base x (k+1) ps sp:=by
 obtain⟨f,fd,F,m⟩:=D.ex;exact⟨f,fd,F.okR S len (e_ f),m,F.kp,F.binds hb,F.look⟩
end
section
variable{X:Cx}{K:W.Frag}
def allK(h:X.K=K)(hc:X.calm=true):CallR X (.builtin "all") (λxs H Q=>∃(a:Addr) (bs:List Bool),xs=[.ref a]/\SqL K H a (bs.map V.bl)/\Q (.bl (bs.all id)) H):=by subst h;exact Cn hc
def Room.u180(r:Room k A):A.units+180<cLine:=by have:=r.un;omega
def eqDK(h:X.K=K)(hu:X.A.units+180<cLine):OpR X (compareOp .Eq) (vp K):=by subst h;exact F4 hu
def neDK(h:X.K=K)(hu:X.A.units+180<cLine):OpR X (compareOp .NotEq) (vX K):=by subst h;exact KL hu
def inK(h:X.K=K):OpR X (compareOp .In) (rIn K false):=by subst h;exact yJ
def J6(h:X.K=K):OpR X (compareOp .NotIn) (rIn K true):=by subst h;exact qz
end
section
variable{X:Cx}
def Kd{k_ a_ tg:Expr}{ifs:List Expr}{scope:Scope}{pos:Pos}{wi:TI}{g:TG}{tc:TT}{te:TE}{N:List Str}{sub:Qk}{iT:Nat}{xT:Str}{px spos:Pos}
 (hc:X.calm=true) (hN:X.N.Nodup) (hix:X.N[iT]?=some xT) (hxl:Loc X.env.scope xT) (hi:PI X tg a_ wi)
 (hk:scope.kind=.function) (t_:∀x∈scope.names,x.2 ≠ .cell) (b_:∀x∈scope.names,x.2=.local->scope.names.lookup x.1=some .local)
 (p_:∀x∈scope.names,x.2=.free->X.env.kindOf x.1=some .cell\/X.env.kindOf x.1=some .free)
 (u_:sub.length=N.length) (f_:∀(j i:Nat) (x:Str),sub[j]?=some (some i)->N[j]?=some x->X.N[i]?=some x/\scope.names.lookup x=some .free)
 (hg:∀cl C s₂ H fp,PG (aC X N scope cl C s₂ H fp) tg g) (ht:∀cl C s₂ H fp,PTs (aC X N scope cl C s₂ H fp) ifs tc) (he:∀cl C s₂ H fp,PE (aC X N scope cl C s₂ H fp) k_ te)
 (hsw:swapsWith (.ListComp k_ [⟨tg,a_,ifs,0⟩] scope pos) (some (.Name xT px)) spos.line X.env=pure true)
 (hs:∀x,foldedSetIterable a_ X.env x=pure x) (hf:X.fn xT=true\/X.env.scope.names.lookup xT=some .local):
 PS X (.Assign [.Name xT px] (.ListComp k_ [⟨tg,a_,ifs,0⟩] scope pos) spos) (tf (hE wi sub g tc te) (mO iT)):=by
 intro pins s σ H D0 I h;rw[exec_Assign_Name_used _ _ _ _ hsw];refine v_ (PU (v_ ?_));show wpAny _ X.A (do let _ <- comprehension (.ListComp k_ [⟨tg,a_,ifs,0⟩] scope pos) scope X.env _ (newList []) false (eval a_ X.env) (some (assign (.Name xT px) X.env))) _ _ s;refine v_ (N_ (uH (use:=some (assign (.Name xT px) X.env)) (R:=λ_ s'=>SP X pins D0 .next s') hc hi hk t_ b_ p_ u_ f_ hg ht he hs I h λD C s4 e=>?_) (λ_ s' hq=>D_ (D_ hq)) λ_ _ e=>e);obtain⟨m,hm⟩:=e.ns;obtain⟨H',hC,q,i⟩:=e.inv;have dc:=e.dc;have fr:=e.fr;refine wpAny_assign_Name (o9 (v:=.ref D) (i s4.heap ⟨rfl,λ_ _=>rfl⟩) hN hix hxl rfl (λs7 I7 ⟨a7,sb7,ha7⟩=>?_) hf);have ha:a7<D:=by
  rcases ha7 with z |z
  .rw[z];exact fr
  .exact e.cell xT a7 z
 refine⟨m,hm.sameBut sb7 (Pz (P6 ha dc)),λh8 hs8=>⟨_,_,I7.turned (it:=C) (t':=s7.toks) (λb o hb e=>hs8.extBut b o hb e) hC (Pz (P6 fr dc)) (.inr (J_ e.sz (Nat.le_of_lt dc))) (λx c q=>N2 (P6 (e.cell x c q) dc)) (λp hp=>N2 (P6 (e.pin p hp) dc)),q⟩⟩
def Lc{k_ a_ tg:Expr}{scope:Scope}{pos px spos:Pos}{wi:TI}{g:TG}{te:TE}{iT:Nat}{xT:Str}(M:List Str)(kn:List (Str×NameKind))(N:List Str)(sub:Qk)
 (hc:X.calm=true) (hN:X.N.Nodup) (hix:X.N[iT]?=some xT) (hxl:Loc X.env.scope xT) (hi:PI X tg a_ wi)
 (hg:∀cl C s₂ H fp,PG (aC X N scope cl C s₂ H fp) tg g) (he:∀cl C s₂ H fp,PE (aC X N scope cl C s₂ H fp) k_ te)
 (hsw:swapsWith (.ListComp k_ [⟨tg,a_,[],0⟩] scope pos) (some (.Name xT px)) spos.line X.env=pure true)
 (hM:X.N=M) (hkn:X.env.scope.names=kn) (f_:dE M scope.names sub N=true)
 (hk:scope.kind=.function) (t_:∀x∈scope.names,x.2 ≠ .cell) (b_:∀x∈scope.names,x.2=.local->scope.names.lookup x.1=some .local)
 (p_:fb kn scope.names=true)
 (u_:sub.length=N.length) (hs:∀x,foldedSetIterable a_ X.env x=pure x) (hf:X.fn xT=true\/X.env.scope.names.lookup xT=some .local):
 PS X (.Assign [.Name xT px] (.ListComp k_ [⟨tg,a_,[],0⟩] scope pos) spos) (tf (hE wi sub g zZ te) (mO iT)):=
 Kd hc hN hix hxl hi hk t_ b_ (by subst hkn;exact nR p_) u_ (by subst hM;exact lT f_) hg (λcl C s₂ H fp=>uW) he hsw hs hf
end
theorem uS:∀{ns:List Int}{its:List Value},Vals (ns.map V.int) its->IntsAre its ns
 | [],_,h=>by cases h;exact .nil
 |
  i::r,_,h=>by
  cases h with
  |cons h1 h2=>obtain⟨t,rfl⟩:=h1;exact .cons i t (uS h2)
def oH{X:Cx}{K:W.Frag}(hK:X.K=K)(hc:X.calm=true):CallR X (.builtin "sum") (λxs H Q=>∃(a:Addr) (ns:List Int),xs=[.ref a]/\SqL K H a (ns.map V.int)/\Q (.int ns.sum) H):=by
 subst hK;intro pins s σ H xs us Q I r h;obtain⟨a,ns,rfl,hq,q⟩:=h;obtain⟨u,rfl,ru⟩:=fZ r;cases ru;obtain⟨its,rv,p,hz⟩:=I.list hq;have hi:=uS rv;obtain⟨ys,hy⟩:=hi.allInts.items;have hn:numsOf its.toArray.toList=ns:=by rw[show its.toArray.toList=its from rfl,hi.numsOf]
 have pl:=p.isList;rw[hy] at pl hn;rw[nums_intItems] at hn;refine sum_intListG (I.ok.hd hc) pl λh' tk t' hk=>?_;rw[preSum_eq,OS (by simp),hn];exact⟨.int ns.sum,H,I.kept (t':=tk) hk,⟨_,rfl⟩,q⟩
end L2
namespace Fr
noncomputable def dv(a b:Int):Int:=if b<0 then -((Int.gcd a b:Nat):Int) else ((Int.gcd a b:Nat):Int)
def T(a b:Int):Int:=a.fdiv (dv a b)
def B(a b:Int):Int:=b.fdiv (dv a b)
def qX(hb:b≠0):0<Int.gcd a b:=Int.gcd_pos_of_ne_zero_right a hb
def dv_ne(hb:b≠0):dv a b≠0:=by
 have:=qX (a:=a) hb
 unfold dv;split <;> omega
def A2(a b:Int):dv a b ∣ a:=by
 have h:((Int.gcd a b:Nat):Int) ∣ a:=Int.gcd_dvd_left a b;unfold dv;split
 .exact Int.neg_dvd.mpr h
 .exact h
def Ck(a b:Int):dv a b ∣ b:=by
 have h:((Int.gcd a b:Nat):Int) ∣ b:=Int.gcd_dvd_right a b;unfold dv;split
 .exact Int.neg_dvd.mpr h
 .exact h
def u7{a d q:Int}(hd:d≠0)(h:a=d*q):a.fdiv d=q:=by rw[h,Pw];exact Int.mul_fdiv_cancel q hd
def T_mul(hb:b≠0):T a b*dv a b=a:=by obtain⟨q,h⟩:=A2 a b;have:T a b=q:=u7 (dv_ne hb) h;rw[this,Pw];exact h.symm
def B_mul(hb:b≠0):B a b*dv a b=b:=by obtain⟨q,h⟩:=Ck a b;have:B a b=q:=u7 (dv_ne hb) h;rw[this,Pw];exact h.symm
def B_pos(hb:b≠0):0<B a b:=by
 have h:=B_mul (a:=a) hb;have hg:=qX (a:=a) hb;generalize hx:B a b=x at h ⊢;unfold dv at h;split at h
 .rename_i hneg;have h2:x*((Int.gcd a b:Nat):Int)=-b:=by rw[Int.mul_neg] at h;omega
  rcases Int.lt_or_le 0 x with z |z
  .exact z
  .have:x*((Int.gcd a b:Nat):Int)<=0:=Int.mul_nonpos_of_nonpos_of_nonneg z (by omega);omega
 .rename_i hpos;rcases Int.lt_or_le 0 x with z |z
  .exact z
  .have:x*((Int.gcd a b:Nat):Int)<=0:=Int.mul_nonpos_of_nonpos_of_nonneg z (by omega);omega
def cross(hb:b≠0):T a b*b=a*B a b:=by have h1:=T_mul (a:=a) hb;have h2:=B_mul (a:=a) hb;generalize T a b=x at *;generalize B a b=y at *;generalize dv a b=d at *;rw[<- h2,<- h1];rw[<- OM,Px]
def dv_abs(a b:Int):(dv a b).natAbs=Int.gcd a b:=by unfold dv;split <;> simp
def low(hb:b≠0):Int.gcd (T a b) (B a b)=1:=by
 have h1:=T_mul (a:=a) hb;have h2:=B_mul (a:=a) hb;have hg:=qX (a:=a) hb;have e1:a.natAbs=(T a b).natAbs*Int.gcd a b:=by rw[<- dv_abs a b,<- O5,h1]
 have e2:b.natAbs=(B a b).natAbs*Int.gcd a b:=by rw[<- dv_abs a b,<- O5,h2]
 have e3:Int.gcd a b=Nat.gcd ((T a b).natAbs*Int.gcd a b) ((B a b).natAbs*Int.gcd a b):=by rw[<- e1,<- e2];rfl
 rw[Nat.gcd_mul_right] at e3;show Nat.gcd (T a b).natAbs (B a b).natAbs=1;generalize Nat.gcd (T a b).natAbs (B a b).natAbs=k at *;generalize Int.gcd a b=g at *;have:(1:Nat)*g=k*g:=by omega
 exact (Nat.eq_of_mul_eq_mul_right hg this).symm
def uniq(hy:0<y)(hy':0<y')(h:Int.gcd x y=1)(h':Int.gcd x' y'=1)(e:x*y'=x'*y):x=x'/\y=y':=by
 have c1:Nat.Coprime y.natAbs x.natAbs:=by rw[Nat.coprime_comm];exact h
 have c2:Nat.Coprime y'.natAbs x'.natAbs:=by rw[Nat.coprime_comm];exact h'
 have e1:x.natAbs*y'.natAbs=x'.natAbs*y.natAbs:=by rw[<- O5,<- O5,e]
 have d1:y.natAbs ∣ y'.natAbs:=c1.dvd_of_dvd_mul_left (by rw[e1];exact Nat.dvd_mul_left _ _);have d2:y'.natAbs ∣ y.natAbs:=c2.dvd_of_dvd_mul_left (by rw[<- e1];exact Nat.dvd_mul_left _ _);have ey:y.natAbs=y'.natAbs:=Nat.dvd_antisymm d1 d2;have ey':y=y':=by omega
 subst ey';exact⟨Pk (by omega) e,rfl⟩
def same(hb:b≠0)(hd:d≠0)(e:a*d=c*b):T a b=T c d/\B a b=B c d:=by
 refine uniq (B_pos hb) (B_pos hd) (low hb) (low hd) ?_;have h1:=cross (a:=a) hb;have h2:=cross (a:=c) hd;have hbd:b*d≠0:=OW hb hd;refine Pk hbd ?_
 calc T a b*B c d*(b*d)=(T a b*b)*(B c d*d):=by rw[OM,O_ (B c d) b d,<- OM]
  _=(a*B a b)*(B c d*d):=by rw[h1]
  _=(a*d)*(B c d*B a b):=by rw[OM a,OM a,O_ (B a b),O_ d,Pw (B a b) d]
  _=(c*b)*(B c d*B a b):=by rw[e]
  _=(c*B c d)*(B a b*b):=by rw[OM c,OM c,O_ b,Pw b (B a b)]
  _=(T c d*d)*(B a b*b):=by rw[<- h2]
  _=T c d*B a b*(b*d):=by rw[OM,OM,O_ d,Pw d b]
def self(hb:0<b)(h:Int.gcd a b=1):T a b=a/\B a b=b:=
 uniq (B_pos (by omega)) hb (low (by omega)) h (cross (by omega))
def euc(m n:Nat):Nat.gcd n (m % n)=Nat.gcd m n:=by rw[Nat.gcd_comm,<- Nat.gcd_rec,Nat.gcd_comm]
end Fr
set_option maxHeartbeats 1000000
namespace L2
open PySem PySem.Spec PyProof.Rows
def Inv.turnedL{X:Cx}{pins:Qi}{σ:St}{H:Hp}{s:Shared}{h':Heap}{t':Nat}{ch:List Addr}(I:Inv X pins σ H s)(k:∀b o,b∉ch->s.heap.get? b=some o->h'.get? b=some o)(hf:∀b∈ch,FpOk X pins H b):Inv X pins σ H { s with heap:=h',toks:=t' }:=by
 have away:∀b u,H b=some u->b∉ch:=λb u e z=>by have:=(hf b z).1;rw[e] at this;cases this
 refine I.step (g':=s.gens) (d':=s.drawn) (ch:=ch) (λb hb=>⟨(hf b hb).2.2.2.1,(hf b hb).2.1,(hf b hb).2.2.2.2.1,(hf b hb).2.2.2.2.2⟩) (λb o _ _ hc e _=>k b o hc e) (λb o _ _ hc e _=>⟨o.slots,k b o hc e⟩) (λ_ _ _ _ n=>n)
  (λb o hc e=>⟨o,k b o hc e⟩) (λ_ _ e=>e) (λ_ _ _ e=>e) (λb ps e=>⟨#[],by rw[e];simp⟩) (λm hm=>?_) (λb u e=>?_) I.bare
 .obtain⟨o,es,ep,ho,r⟩:=hm;exact⟨o,es,ep,k _ o (λz=>(hf _ z).2.1 rfl) ho,r⟩
 .refine (I.hok b u e).stay (λc v hc q=>k c v ?_ q) (λ_ q=>q) λ_ _ q=>q;rcases hc with z |z
  .rw[z];exact away b u e
  .exact away c _ z
def FpOk.up(f:FpOk X pins H b)(hn:b≠p):FpOk X pins (upd H p o) b:=⟨by rw[aD hn];exact f.1,f.2⟩
def mC(hj:s.heap.IsTupleIter j t n)(ht:s.heap.IsTuple t its)(hv:its[n]?=some v)
 (k:∀h',h'.IsTupleIter j t (n+1)->Heap.SameBut j s.heap h'->Q v { s with heap:=h' }):wpAny (model prog w) A (Builtin.SmallTypes.nextOf (.ref j)) Q E s:=by
 obtain⟨oj,ej,cj,dj⟩:=id hj;obtain⟨ot,et,_,m,dt⟩:=ht;unfold Builtin.SmallTypes.nextOf;refine v_ (OO (name:=Str.ofString "__next__") hj.typeIs O1 (Ph O1 hj.typeIs F.entry_tuple_iterator_next ?_ (F.args_tuple_iterator_next_1 _)));show wpAny _ _ (field (.ref j) 0 >>= _) _ _ s;refine v_ (Oq ej dj (x:=.ref t) rfl ?_);show wpAny _ _ (if (Value.ref t==Value.none)=true then _ else _) _ _ s;rw[if_neg (show ¬ ((Value.ref t==Value.none)=true) from y_)];show wpAny _ _ (field (.ref j) 1 >>= _) _ _ s;refine v_ (Oq ej dj (x:=.int n 0) rfl ?_);show wpAny _ _ (seqItems? (.ref t) >>= _) _ _ s;refine v_ (OR et dt ?_);simp only[PL,hv];refine v_ (wpAny_setField ej dj (by simp) (D_ ⟨v,rfl,D_ (k _ ?_ (Heap.SameBut.update ..))⟩));exact⟨_,Heap.get?_update_self _ ej (Obj.isFreed_of_fields (Obj.data_mapFields dj _)),(Obj.cls_mapFields ..).trans cj,by rw[Obj.data_mapFields dj];simp [rawInt]⟩
def iX(hh:A.handled=none)(hj:s.heap.IsTupleIter j t n)(ht:s.heap.IsTuple t its)(hv:its[n]?=none)
 (k:∀h' e,Heap.ExtBut j s.heap h'->(∃o,h'.get? e=some o/\o.cls=.type "StopIteration")->E (.ref e) { s with heap:=h' }):wpAny (model prog w) A (Builtin.SmallTypes.nextOf (.ref j)) Q E s:=by
 obtain⟨oj,ej,cj,dj⟩:=id hj;obtain⟨ot,et,_,m,dt⟩:=ht;unfold Builtin.SmallTypes.nextOf;refine v_ (OO (name:=Str.ofString "__next__") hj.typeIs O1 (Ph O1 hj.typeIs F.entry_tuple_iterator_next ?_ (F.args_tuple_iterator_next_1 _)));show wpAny _ _ (field (.ref j) 0 >>= _) _ _ s;refine v_ (Oq ej dj (x:=.ref t) rfl ?_);show wpAny _ _ (if (Value.ref t==Value.none)=true then _ else _) _ _ s;rw[if_neg (show ¬ ((Value.ref t==Value.none)=true) from y_)];show wpAny _ _ (field (.ref j) 1 >>= _) _ _ s;refine v_ (Oq ej dj (x:=.int n 0) rfl ?_);show wpAny _ _ (seqItems? (.ref t) >>= _) _ _ s;refine v_ (OR et dt ?_);simp only[PL,hv];refine v_ (wpAny_rule (v_ (wpAny_setField ej dj (by simp) ?_)));show wpAny _ _ (newExc (.type "StopIteration") [] >>= _) _ _ _;refine v_ ?_;simp only[newExc,newTuple];refine v_ (OC ?_ (by size_fits));refine v_ (m:=firstArgMember _ _) (wpAny_of_eq (a:=Value.none) (by first |rfl |(simp only[firstArgMember];rfl)) ?_);refine OC ?_ (by size_fits);simp only[raiseNew];refine v_ (wpAny_handled ?_);first |rw[show A.in1.handled=none from hh] |rw[hh]
 refine v_ (D_ (wpAny_throw ?_));exact k _ _ (((Heap.SameBut.update ..).extBut.push _).push _) ⟨_,NW _ rfl,rfl⟩
def GB(hh:A.handled=none)(j t:Addr)(ne:t≠j)(its:Array Value):Draws prog w A j [j,t] its.size (λi v=>its[i]?=some v) (λi h=>h.IsTupleIter j t i/\h.IsTuple t its) where
 live:=λ_ _ z=>let ⟨o,e,_⟩:=z.1;⟨o,e⟩
 frame:=λ_ _ _ z k=>⟨z.1.at λo e=>k j (by simp) o e,let ⟨o,e,r⟩:=z.2;⟨o,k t (by simp) o e,r⟩⟩
 item:=λi s Q E hi z k=>mC z.1 z.2 (v:=its[i]) (by simp [hi]) λh' z' sb=>k _ h' s.toks (by simp [hi]) ⟨z',let ⟨o,e,r⟩:=z.2;⟨o,(sb.2 t ne).trans e,r⟩⟩ sb
 done:=λs Q E z k=>iX hh z.1 z.2 (by simp) k
def zk(l:Addr)(its:Array Value)(n:Nat)(dc:Option Addr)(sl:Array (Option Value)):
 Meets (Builtin.«enumerate.__new__» ⟨[.type "enumerate",.ref l],[]⟩) (λ_ R s=>s.heap.get? l=some { cls:=.type "tuple",dict:=dc,data:=.seq its n,slots:=sl }/\
  R
   (.ok (.ret (.ref (s.heap.push { cls:=.type "tuple_iterator",data:=.fields #[.ref l,.int 0 0] }).objs.size)))
   { s with heap:=(s.heap.push { cls:=.type "tuple_iterator",data:=.fields #[.ref l,.int 0 0] }).push { cls:=.type "enumerate",data:=.fields #[.none,.bool false,.ref s.heap.objs.size,rawInt 0,.none,.none] } }):=
 .of_wp λprog w A R s h=>by
  obtain⟨hp,g,d,tk,os⟩:=s;obtain⟨hl,h⟩:=h;have f_:=sub_enumerate;have hT:Heap.IsTuple (Shared.heap ⟨hp,g,d,tk,os⟩) l its:=⟨_,hl,rfl,n,rfl⟩
  wp_walk using Pu hl
  refine wpAny_stack_any λst=>D_ ?_;split
  .rename_i c _ _ _ _ _;cases (c==Value.type "enumerate") <;> (wp_walk using Pu hl,PH hT;exact⟨_,rfl,h⟩)
  .wp_walk using Pu hl,PH hT;exact⟨_,rfl,h⟩
def xf(hT:s.heap.IsTuple l its)
 (k:∀h',IsEnum h' (s.heap.objs.size+1) s.heap.objs.size 0 .none->h'.IsTupleIter s.heap.objs.size l 0->h'.objs.size=s.heap.objs.size+2->(∀b o,s.heap.get? b=some o->h'.get? b=some o)->Q (.ref (s.heap.objs.size+1)) { s with heap:=h' }):
 wpAny (model prog w) A (call (.type "enumerate") [.ref l]) Q E s:=by
 obtain⟨⟨c,dc,dt,sl⟩,hl,hc,n,hd⟩:=hT;have hc':c=.type "tuple":=hc;have hd':dt=.seq its n:=hd;subst hc' hd';refine callType_new F.called_enumerate (by decide) (F.typeCall_enumerate_1 _) (F.newCall_enumerate_1 _) (λobj=>F.args_object_init_2 obj _) F.entry_enumerate_new (zk l its n dc sl) ⟨hl,?_⟩;have z1:(s.heap.push { cls:=.type "tuple_iterator",data:=.fields #[.ref l,.int 0 0] }).objs.size=s.heap.objs.size+1:=O4 ..;show _/\_;rw[z1];have he:IsEnum ((s.heap.push { cls:=.type "tuple_iterator",data:=.fields #[.ref l,.int 0 0] }).push { cls:=.type "enumerate",data:=.fields #[.none,.bool false,.ref s.heap.objs.size,rawInt 0,.none,.none] }) (s.heap.objs.size+1) s.heap.objs.size 0 .none:=by have z2:=NW (s.heap.push { cls:=.type "tuple_iterator",data:=.fields #[.ref l,.int 0 0] }) (o:={ cls:=.type "enumerate",data:=.fields #[.none,.bool false,.ref s.heap.objs.size,rawInt 0,.none,.none] }) rfl;rw[z1] at z2;exact z2
 exact⟨⟨_,he,rfl⟩,k _ he ⟨_,B_ _ (NW _ rfl),rfl,rfl⟩ (by rw[O4,z1]) λb o x=>B_ _ (B_ _ x)⟩
def SqB(K:W.Frag)(b:Bool)(H:Hp)(a:Addr)(xs:List V):Prop:=match b with
 |true=>SqL K H a xs
 |false=>SqT K H a xs
def ItB(b:Bool)(h:Heap)(j a:Addr)(i:Nat):Prop:=match b with
 |true=>h.IsListIter j a i
 |false=>h.IsTupleIter j a i
def SqB.inj(I:Inv X pins σ H s)(x:SqB X.K b H a xs)(y:SqB X.K b H a ys):xs=ys:=by
 cases b with
 |true=>exact I.list_inj x y
 |false=>exact I.tuple_inj x y
noncomputable def A9(K:W.Frag)(b:Bool)(a:Addr):It:=
 ⟨λi H=>∃xs x,SqB K b H a xs/\xs[i]?=some x,λi H x H'=>∃p u,x=.ref p/\H p=none/\H'=upd H p (.tup [.int (i:Nat),u])/\∀xs,SqB K b H a xs->xs[i]?=some u,λi H=>∃xs,SqB K b H a xs/\xs.length=i⟩
def uZ(I:Inv X pins σ H s)(hh:X.A.handled=none)(hq:SqB X.K b H a xs)(hj:ItB b s.heap j a i):
 ∃(its:List Value) (St:Nat->Heap->Prop),Vals xs its/\Draws X.prog X.w X.A.in1 j [j,a] its.length (λi v=>its[i]?=some v) St/\St i s.heap/\(∀i h,St i h->ItB b h j a i)/\∃o n,s.heap.get? a=some o/\o.cls=.type (if b then "list" else "tuple")/\o.data=.seq its.toArray n:=by
 cases b with
 |
  true=>
  obtain⟨its,rv,p,hz⟩:=I.list hq;obtain⟨o,n,e,c,d,ds⟩:=p;have hL:s.heap.IsList a its.toArray:=⟨o,e,c,n,ds⟩;have hj':s.heap.IsListIter j a i:=hj;have ne:a≠j:=λz=>by subst z;obtain⟨o',e',c',_⟩:=hj';rw[e] at e';cases e';rw[c] at c';exact absurd (Value.type.inj c') (by decide)
  have D:=Draws.list (prog:=X.prog) (w:=X.w) (A:=X.A.in1) hh j a ne its.toArray;refine⟨its,λi h=>h.IsListIter j a i/\h.IsList a its.toArray,rv,?_,⟨hj',hL⟩,λ_ _ z=>z.1,o,n,e,c,ds⟩;have e1:its.toArray.size=its.length:=by simp
  have e2:(λ(i:Nat) (v:Value)=>its.toArray[i]?=some v)=λi v=>its[i]?=some v:=by funext i v;simp
  rw[e1,e2] at D;exact D
 |
  false=>
  obtain⟨its,rv,p,hz⟩:=I.tuple hq;have hT:s.heap.IsTuple a its.toArray:=p;obtain⟨o,e,c,n,ds⟩:=id hT;have hj':s.heap.IsTupleIter j a i:=hj;have ne:a≠j:=λz=>by subst z;obtain⟨o',e',c',_⟩:=hj';rw[e] at e';cases e';rw[c] at c';exact absurd (Value.type.inj c') (by decide)
  have D:=GB (prog:=X.prog) (w:=X.w) (A:=X.A.in1) hh j a ne its.toArray;refine⟨its,λi h=>h.IsTupleIter j a i/\h.IsTuple a its.toArray,rv,?_,⟨hj',hT⟩,λ_ _ z=>z.1,o,n,e,c,ds⟩;have e1:its.toArray.size=its.length:=by simp
  have e2:(λ(i:Nat) (v:Value)=>its.toArray[i]?=some v)=λi v=>its[i]?=some v:=by funext i v;simp
  rw[e1,e2] at D;exact D
def gm(z:ItB b h j a i):∃o,h.get? j=some o/\(∀v,o.data ≠ .cell v)/\o.cls=.type (if b then "list_iterator" else "tuple_iterator"):=by
 cases b with
 |true=>obtain⟨o,e,c,d⟩:=z;exact⟨o,e,(λv y=>by rw[d] at y;cases y),c⟩
 |false=>obtain⟨o,e,c,d⟩:=z;exact⟨o,e,(λv y=>by rw[d] at y;cases y),c⟩
def bh(z:ItB b h j a i)(k:∀o,h.get? j=some o->h'.get? j=some o):ItB b h' j a i:=by
 cases b with
 |true=>obtain⟨o,e,r⟩:=z;exact⟨o,k o e,r⟩
 |false=>obtain⟨o,e,r⟩:=z;exact⟨o,k o e,r⟩
def zB{P:Program}{w:World}{K:W.Frag}{elts:List Expr}{x1:Nat}{tp:Pos}(b:Bool)(a e j:Addr)(hej:e≠j):Turn P w K (.Tuple elts x1 tp) (A9 K b a) [e,j] e (λi h=>(∃old,IsEnum h e j ((i:Nat):Int) old)/\ItB b h j a i) where
 mem:=by simp
 obj
  := λi h st c hc=>by
  rcases NZ.mp hc with rfl |hc
  .obtain⟨old,he⟩:=st.1;exact⟨_,he,λv z=>by cases z⟩
  .have:c=j:=by simpa using hc
   subst this;obtain⟨o,q1,q2,_⟩:=gm st.2;exact⟨o,q1,q2⟩
 keep:=λi h h' st k=>⟨let ⟨old,he⟩:=st.1;⟨old,k e (by simp) _ he⟩,bh st.2 λo q=>k j (by simp) o q⟩
 item:=
  by
  intro X hP hw hK hc i pins s σ H E I hf st hg;subst hP hw hK;obtain⟨xs,x,hq,hx⟩:=hg;obtain⟨⟨old,he⟩,hj⟩:=st;obtain⟨its,St,rv,D,hst,hSt,oa,na,ea,ca,da⟩:=uZ I (I.ok.hd hc) hq hj;obtain⟨u,hu,ru⟩:=rv.get hx;have hlt:i<its.length:=(x_.mp hu).1;have hea:e≠a:=λz=>by subst z;rw[he] at ea;cases ea;cases b <;> exact absurd (Value.type.inj ca) (by decide)
  refine wpAny_pyNext_enum_itemD D he hst hlt hej (by simp [hej,hea]) λy h' tk hy heo hst' ht hsz hk=>?_;have:y=u:=by rw[hu] at hy;exact (NV hy).symm
  subst this;refine⟨_,rfl,wpAny_letOwnedTupleGo_enum (s:={ s with heap:=h',toks:=tk+1 }) heo λh2 he2 sb=>?_⟩;have hT:H s.heap.objs.size=none:=I.hok.fresh (z_ _);have hef:=Em he;obtain⟨oj,q1,_,_⟩:=gm hj;have hjf:=Em q1;have I1:Inv X pins σ (upd H s.heap.objs.size (.tup [.int (i:Nat),x])) { s with heap:=s.heap.push { cls:=.type "tuple",data:=.seq #[.int (i:Nat) tk,y] },toks:=s.toks }:=
   I.laid (t':=s.toks) (λc o q=>B_ _ q) (z_ _) ⟨by show 2<=sizeLine;decide,[.int (i:Nat) tk,y],.cons ⟨tk,rfl⟩ (.cons ru .nil),⟨_,NW _ rfl,rfl,_,rfl⟩⟩
  have sb':Heap.SameBut e h' h2:=sb;have I2:Inv X pins σ (upd H s.heap.objs.size (.tup [.int (i:Nat),x])) { s with heap:=h2,toks:=tk+1 }:=
   Inv.turnedL (s:={ s with heap:=s.heap.push { cls:=.type "tuple",data:=.seq #[.int (i:Nat) tk,y] },toks:=s.toks }) (ch:=[e,j]) (t':=tk+1) I1 (λc o hc' q=>by
    have c1:c≠e:=λz=>hc' (by simp [z]);have c2:c≠j:=λz=>hc' (by simp [z]);rw[sb'.2 c c1];by_cases z:c=s.heap.objs.size
    .subst z;have q':(s.heap.push { cls:=.type "tuple",data:=.seq #[.int (i:Nat) tk,y] }).get? s.heap.objs.size=some o:=q;rw[NW _ rfl] at q';cases q';exact ht
    .refine hk c o c1 c2 ?_;have q':(s.heap.push { cls:=.type "tuple",data:=.seq #[.int (i:Nat) tk,y] }).get? c=some o:=q;rw[Heap.get?_push_ne _ _ _ z] at q';exact q') λc hc'=>by
    rcases NZ.mp hc' with rfl |hc'
    .exact (hf c (by simp)).up (N2 hef)
    .have:c=j:=by simpa using hc'
     subst this;exact (hf c (by simp)).up (N2 hjf)
  refine⟨.ref s.heap.objs.size,_,I2,rfl,⟨_,x,rfl,hT,rfl,λys hy'=>by rw[SqB.inj I hy' hq];exact hx⟩,⟨⟨y,he2⟩,bh (hSt _ _ hst') λo q=>(sb'.2 j (Ne.symm hej)).trans q⟩,λc hc'=>?_⟩;rcases NZ.mp hc' with rfl |hc'
  .exact ((hf c (by simp)).up (N2 hef)).1
  .have:c=j:=by simpa using hc'
   subst this;exact ((hf c (by simp)).up (N2 hjf)).1
 done:=by
  intro X hP hw hK hc i pins s σ H E I hf st hg;subst hP hw hK;obtain⟨xs,hq,hx⟩:=hg;obtain⟨⟨old,he⟩,hj⟩:=st;obtain⟨its,St,rv,D,hst,hSt,oa,na,ea,ca,da⟩:=uZ I (I.ok.hd hc) hq hj;have hl:=rv.length;subst hx;rw[hl] at hst;refine wpAny_pyNext_enum_endD D he hst λh' eb=>⟨rfl,Inv.turnedL (ch:=[j]) (t':=s.toks) I (λc o hc' q=>eb c o (λz=>hc' (by simp [z])) q) λc hc'=>?_⟩;have:c=j:=by simpa using hc'
  subst this;exact hf c (by simp)
 self:=λ_ _ _ _ _ st h=>let ⟨_,he⟩:=st.1;wpAny_pyIter_enum he h
def Dt(hg:Gl X "enumerate")(hm:X.mg "enumerate"=none)(ha:PA X [l] tl)(hs:starEach [l] X.env=[(false,eval l X.env)]):
 PI X (.Tuple elts x1 tp) (.Call (.Name "enumerate" p) [l] [] pos) (λσ H R=>tl σ H λvs H1=>∃(b:Bool) (a:Addr) (xs:List V),vs=[.ref a]/\SqB X.K b H1 a xs/\R (A9 X.K b a) H1):=by
 intro pins s σ H R I h;refine Call_ (eZ I hg hm boot_enumerate (Ol (thn (ha pos pins s σ H _ I h) λus s1 ⟨vs,H1,I1,r1,q1⟩=>?_) hs rfl));obtain⟨b,a,xs,e,hq,q⟩:=q1;subst e;cases r1 with
 |
  cons r rr=>
  cases rr;cases r;have l_:∀h',IsEnum h' (s1.heap.objs.size+1) s1.heap.objs.size 0 .none->ItB b h' s1.heap.objs.size a 0->(∀c o,s1.heap.get? c=some o->h'.get? c=some o)->
   wpAny (model X.prog X.w) X.A (pyIter (.ref (s1.heap.objs.size+1))) (PIE X pins σ (.Tuple elts x1 tp) R) X.xe { s1 with heap:=h' }:=λh' he hj hk=>by
   refine wpAny_pyIter_enum he ⟨s1.heap.objs.size+1,[s1.heap.objs.size+1,s1.heap.objs.size],_,_,H1,rfl,I1.kept (t':=s1.toks) λc o z=>hk c o z,zB b a _ _ (Nat.succ_ne_self _),⟨⟨.none,he⟩,hj⟩,λc hc=>?_,q⟩;rcases NZ.mp hc with rfl |hc
   .exact I1.fpOk (Nat.le_succ _) (I1.hok.fresh (Nat.le_succ _))
   .have:c=s1.heap.objs.size:=by simpa using hc
    subst this;exact I1.fpOk (z_ _) (I1.hok.fresh (z_ _))
  cases b with
  |true=>obtain⟨its,rv,pp,hz⟩:=I1.list hq;exact call_enumerate_list pp.isList λh' he hit _ hk=>l_ h' he hit hk
  |false=>obtain⟨its,rv,pp,hz⟩:=I1.tuple hq;exact xf (show s1.heap.IsTuple a its.toArray from pp) λh' he hit _ hk=>l_ h' he hit hk
def LsB(b:Bool)(h:Heap)(a:Addr)(its:Array Value):Prop:=match b with
 |true=>h.IsList a its
 |false=>h.IsTuple a its
def LsB.keep(z:LsB b h a its)(k:∀o,h.get? a=some o->h'.get? a=some o):LsB b h' a its:=by cases b <;> (obtain⟨o,e,r⟩:=z;exact⟨o,k o e,r⟩)
def wB(hj:ItB b s.heap j a n)(ht:LsB b s.heap a its)(hv:its[n]?=some v)
 (k:∀h',ItB b h' j a (n+1)->Heap.SameBut j s.heap h'->Q v { s with heap:=h' }):wpAny (model prog w) A (Builtin.SmallTypes.nextOf (.ref j)) Q E s:=by
 cases b with
 |true=>exact wpAny_nextOf_list_item hj ht hv k
 |false=>exact mC hj ht hv k
def oE(hh:A.handled=none)(hj:ItB b s.heap j a n)(ht:LsB b s.heap a its)(hv:its[n]?=none)
 (k:∀h' e,Heap.ExtBut j s.heap h'->(∃o,h'.get? e=some o/\o.cls=.type "StopIteration")->E (.ref e) { s with heap:=h' }):wpAny (model prog w) A (Builtin.SmallTypes.nextOf (.ref j)) Q E s:=by
 cases b with
 |true=>exact wpAny_nextOf_list_end hh hj ht hv k
 |false=>exact iX hh hj ht hv k
section
variable{prog:Program}{w:World}{A:Around}{E:Qj}{s:Shared}{b1 b2:Bool}{z p q j1 j2 a1 a2:Addr}{n:Nat}{xs ys:Array Value}{x y u v:Value}
def zipN{Q:Qj}(D:ZipApart z p q j1 j2 a1 a2)(hz:IsZip s.heap z p q .none)(hp:IsPair s.heap p (.ref j1) (.ref j2))(hq:IsPair s.heap q u v)
 (i1:ItB b1 s.heap j1 a1 n) (i2:ItB b2 s.heap j2 a2 n) (l1:LsB b1 s.heap a1 xs) (l2:LsB b2 s.heap a2 ys) (ex:xs[n]?=some x) (ey:ys[n]?=some y)
 (k:∀h',IsZip h' z p q (rawInt s.heap.objs.size)->IsPair h' q x y->ItB b1 h' j1 a1 (n+1)->ItB b2 h' j2 a2 (n+1)->IsPair h' s.heap.objs.size x y->(∀c o,c≠z->c≠q->c≠j1->c≠j2->s.heap.get? c=some o->h'.get? c=some o)->Q (.ref s.heap.objs.size) { s with heap:=h' }):
 wpAny (model prog w) A (Builtin.«zip.__next__» ⟨[.ref z],[]⟩) (λl_ s'=>∃v,l_=.done (.ret v)/\Q v s') E s:=by
 show wpAny _ _ (field (.ref z) 2 >>= _) _ _ _;refine v_ (Oq hz rfl (x:=.bool false) rfl ?_);show wpAny _ _ (field (.ref z) 3 >>= _) _ _ _;refine v_ (Oq hz rfl (x:=.ref p) rfl ?_);refine v_ (OR hp rfl ?_);show wpAny _ _ (Builtin.SmallTypes.ownedTupleIsFree (.ref z) >>= _) _ _ _;refine v_ ?_;unfold Builtin.SmallTypes.ownedTupleIsFree;refine v_ (Oq hz rfl (x:=.none) rfl (D_ ?_));simp only[OL];refine v_ (wpAny_rule ?_);refine v_ (Oq hz rfl (x:=.ref q) rfl ?_);refine v_ (OV hz (by simp) λg1 (y1:IsZip g1 z p q .ellipsis) t1=>?_);refine v_ ?_;simp only[List.zipIdx_cons,List.zipIdx_nil,O9,PJ];refine v_ (v_ (Qg ?_));show wpAny _ _ (Builtin.SmallTypes.nextOf (.ref j1) >>= _) _ _ _;refine v_ (wB (bh i1 λo e=>t1.extBut _ _ D.i1z e) (l1.keep λo e=>t1.extBut _ _ D.l1z e) ex λg2 m1 t2=>D_ ?_);have q2:IsPair g2 q u v:=t2.extBut _ _ D.TOi1 (t1.extBut _ _ D.TOz hq);refine v_ (OR q2 rfl ?_);refine v_ (Qa q2 λg3 (q3:IsPair g3 q x v) t3=>?_);refine v_ (wpAny_letGo (D_ ?_));refine v_ (v_ (Qg ?_));show wpAny _ _ (Builtin.SmallTypes.nextOf (.ref j2) >>= _) _ _ _;refine v_ (wB (bh i2 λo e=>t3.extBut _ _ D.TOi2.symm (t2.extBut _ _ D.i12.symm (t1.extBut _ _ D.i2z e))) (l2.keep λo e=>t3.extBut _ _ D.l2TO (t2.extBut _ _ D.l2i1 (t1.extBut _ _ D.l2z e))) ey λg4 m2 t4=>D_ ?_);have q4:IsPair g4 q x v:=t4.extBut _ _ D.TOi2 q3;refine v_ (OR q4 rfl ?_);refine v_ (Qa q4 λg5 (q5:IsPair g5 q x y) t5=>?_);refine v_ (wpAny_letGo (D_ (D_ ?_)));refine v_ (OR q5 rfl ?_);refine v_ (wpAny_newTuple ?_);have sz:g5.objs.size=s.heap.objs.size:=by rw[t5.1,t4.1,t3.1,t2.1,t1.1]
 have y5:IsZip g5 z p q .ellipsis:=t5.extBut _ _ D.TOz.symm (t4.extBut _ _ D.i2z.symm (t3.extBut _ _ D.TOz.symm (t2.extBut _ _ D.i1z.symm y1)));have all5:∀c o,c≠z->c≠q->c≠j1->c≠j2->s.heap.get? c=some o->g5.get? c=some o:=λc o c1 c2 c3 c4 e=>t5.extBut _ _ c2 (t4.extBut _ _ c4 (t3.extBut _ _ c2 (t2.extBut _ _ c3 (t1.extBut _ _ c1 e))));have n1:ItB b1 g5 j1 a1 (n+1):=bh m1 λo e=>t5.extBut _ _ D.TOi1.symm (t4.extBut _ _ D.i12 (t3.extBut _ _ D.TOi1.symm e));have n2:ItB b2 g5 j2 a2 (n+1):=bh m2 λo e=>t5.extBut _ _ D.TOi2.symm e;have zl:z<g5.objs.size:=Em y5;show wpAny _ _ (Builtin.SmallTypes.ownedTupleHandOut (.ref z) (.ref g5.objs.size) >>= _) _ _ _;refine v_ ?_;unfold Builtin.SmallTypes.ownedTupleHandOut;have y6:IsZip (g5.push { cls:=.type "tuple",data:=.seq #[x,y] }) z p q .ellipsis:=B_ _ y5;refine v_ (OV y6 (by simp) λg7 (y7:IsZip g7 z p q (rawInt g5.objs.size)) t7=>?_);refine OV y7 (by simp) λg8 (y8:IsZip g8 z p q (rawInt g5.objs.size)) t8=>?_;have up:∀c o,c≠z->g5.get? c=some o->g8.get? c=some o:=λc o c1 e=>t8.extBut _ _ c1 (t7.extBut _ _ c1 (B_ _ e));have w8:IsPair g8 g5.objs.size x y:=t8.extBut _ _ (Pz zl) (t7.extBut _ _ (Pz zl) (NW _ rfl));rw[sz] at y8 w8;refine D_ ⟨_,rfl,?_⟩;show Q (.ref g5.objs.size) _;rw[sz];exact k g8 y8 (up _ _ D.TOz q5) (bh n1 λo e=>up _ o D.i1z e) (bh n2 λo e=>up _ o D.i2z e) w8 λc o c1 c2 c3 c4 e=>up c o c1 (all5 c o c1 c2 c3 c4 e)
def Br(hh:A.handled=none)(D:ZipApart z p q j1 j2 a1 a2)(hz:IsZip s.heap z p q .none)(hp:IsPair s.heap p (.ref j1) (.ref j2))(hq:IsPair s.heap q u v)
 (i1:ItB b1 s.heap j1 a1 n) (i2:ItB b2 s.heap j2 a2 n) (l1:LsB b1 s.heap a1 xs) (l2:LsB b2 s.heap a2 ys) (en:xs[n]?=none\/ys[n]?=none)
 (k:∀h' e,(∀c o,c≠z->c≠q->c≠j1->c≠j2->s.heap.get? c=some o->h'.get? c=some o)->(∃o,h'.get? e=some o/\o.cls=.type "StopIteration")->E (.ref e) { s with heap:=h' }):wpAny (model prog w) A (Builtin.«zip.__next__» ⟨[.ref z],[]⟩) Q E s:=by
 show wpAny _ _ (field (.ref z) 2 >>= _) _ _ _;refine v_ (Oq hz rfl (x:=.bool false) rfl ?_);show wpAny _ _ (field (.ref z) 3 >>= _) _ _ _;refine v_ (Oq hz rfl (x:=.ref p) rfl ?_);refine v_ (OR hp rfl ?_);show wpAny _ _ (Builtin.SmallTypes.ownedTupleIsFree (.ref z) >>= _) _ _ _;refine v_ ?_;unfold Builtin.SmallTypes.ownedTupleIsFree;refine v_ (Oq hz rfl (x:=.none) rfl (D_ ?_));simp only[OL];refine v_ (wpAny_rule ?_);refine v_ (Oq hz rfl (x:=.ref q) rfl ?_);refine v_ (OV hz (by simp) λg1 (y1:IsZip g1 z p q .ellipsis) t1=>?_);refine v_ ?_;simp only[List.zipIdx_cons,List.zipIdx_nil,O9,PJ];refine v_ (v_ (Qg ?_));show wpAny _ _ (Builtin.SmallTypes.nextOf (.ref j1) >>= _) _ _ _;cases ex:xs[n]? with
 |
  none=>
  refine v_ (oE hh (bh i1 λo e=>t1.extBut _ _ D.i1z e) (l1.keep λo e=>t1.extBut _ _ D.l1z e) ex λg2 e t2 ⟨oe,he,ce⟩=>?_);have y2:IsZip g2 z p q .ellipsis:=t2 _ _ D.i1z.symm y1;have ez:e≠z:=λw=>by subst w;rw[y2] at he;cases he;simp at ce
  exact OV y2 (by simp) λg3 _ t3=>k g3 e (λc o c1 _ c3 _ w=>t3.extBut _ _ c1 (t2 _ _ c3 (t1.extBut _ _ c1 w))) ⟨oe,t3.extBut _ _ ez he,ce⟩
 |
  some x=>
  have ey:ys[n]?=none:=en.resolve_left λw=>by rw[ex] at w;cases w
  refine v_ (wB (bh i1 λo e=>t1.extBut _ _ D.i1z e) (l1.keep λo e=>t1.extBut _ _ D.l1z e) ex λg2 m1 t2=>D_ ?_);have q2:IsPair g2 q u v:=t2.extBut _ _ D.TOi1 (t1.extBut _ _ D.TOz hq);refine v_ (OR q2 rfl ?_);refine v_ (Qa q2 λg3 q3 t3=>?_);refine v_ (wpAny_letGo (D_ ?_));refine v_ (v_ (Qg ?_));show wpAny _ _ (Builtin.SmallTypes.nextOf (.ref j2) >>= _) _ _ _;refine v_ (oE hh (bh i2 λo e=>t3.extBut _ _ D.TOi2.symm (t2.extBut _ _ D.i12.symm (t1.extBut _ _ D.i2z e))) (l2.keep λo e=>t3.extBut _ _ D.l2TO (t2.extBut _ _ D.l2i1 (t1.extBut _ _ D.l2z e))) ey λg4 e t4 ⟨oe,he,ce⟩=>?_);have y4:IsZip g4 z p q .ellipsis:=t4 _ _ D.i2z.symm (t3.extBut _ _ D.TOz.symm (t2.extBut _ _ D.i1z.symm y1));have ez:e≠z:=λw=>by subst w;rw[y4] at he;cases he;simp at ce
  exact OV y4 (by simp) λg5 _ t5=>k g5 e (λc o c1 c2 c3 c4 w=>t5.extBut _ _ c1 (t4 _ _ c4 (t3.extBut _ _ c2 (t2.extBut _ _ c3 (t1.extBut _ _ c1 w))))) ⟨oe,t5.extBut _ _ ez he,ce⟩
end
noncomputable def zO(b:Bool):String:=if b then "list_iterator" else "tuple_iterator"
def uG(h:LsB b s.heap a its)(k:Q (.ref s.heap.objs.size) { s with heap:=s.heap.push { cls:=.type (zO b),data:=.fields #[.ref a,.int 0 0] } }):wpAny (model prog w) A (pyIter (.ref a)) Q E s:=by
 cases b with
 |true=>exact wpAny_pyIter_list h k
 |false=>exact PH h k
abbrev zp1(h:Heap)(b:Bool)(a:Addr):Heap:=h.push { cls:=.type (zO b),data:=.fields #[.ref a,.int 0 0] }
abbrev zp2(h:Heap)(b c:Bool)(a d:Addr):Heap:=zp1 (zp1 h b a) c d
abbrev zp3(h:Heap)(b c:Bool)(a d:Addr):Heap:=(zp2 h b c a d).push { cls:=.type "tuple",data:=.seq #[.ref h.objs.size,.ref (zp1 h b a).objs.size] }
abbrev zp4(h:Heap)(b c:Bool)(a d:Addr):Heap:=(zp3 h b c a d).push { cls:=.type "tuple",data:=.seq #[.none,.none] }
abbrev zp5(h:Heap)(b c:Bool)(a d:Addr):Heap:=(zp4 h b c a d).push { cls:=.type "zip",data:=.fields #[.none,.bool false,.bool false,.ref (zp2 h b c a d).objs.size,.ref (zp3 h b c a d).objs.size] }
def Cd(b c:Bool)(a d:Addr)(xs ys:Array Value):Meets (Builtin.«zip.__new__» ⟨[.type "zip",.ref a,.ref d],[]⟩) (λ_ R s=>LsB b s.heap a xs/\LsB c s.heap d ys/\R (.ok (.ret (.ref (zp4 s.heap b c a d).objs.size))) { s with heap:=zp5 s.heap b c a d }):=
 .of_wp λprog w A R s h=>by
  obtain⟨hp,g,dr,tk,os⟩:=s;obtain⟨la,ld,h⟩:=h;have f_:=sub_zip;have L1:LsB b (Shared.heap ⟨hp,g,dr,tk,os⟩) a xs:=la;have L2':LsB c (Shared.heap ⟨hp.push { cls:=.type (zO b),data:=.fields #[.ref a,.int 0 0] },g,dr,tk,os⟩) d ys:=ld.keep λo e=>B_ _ e
  wp_walk using uG L1,uG L2'
  exact⟨_,rfl,h⟩
def yh(la:LsB b s.heap a xs)(ld:LsB c s.heap d ys)
 (k:∀h',IsZip h' (s.heap.objs.size+4) (s.heap.objs.size+2) (s.heap.objs.size+3) .none->IsPair h' (s.heap.objs.size+2) (.ref s.heap.objs.size) (.ref (s.heap.objs.size+1))->IsPair h' (s.heap.objs.size+3) .none .none->
  ItB b h' s.heap.objs.size a 0->ItB c h' (s.heap.objs.size+1) d 0->(∀c o,s.heap.get? c=some o->h'.get? c=some o)->Q (.ref (s.heap.objs.size+4)) { s with heap:=h' }):wpAny (model prog w) A (call (.type "zip") [.ref a,.ref d]) Q E s:=by
 refine callType_new F.called_zip (by decide) (F.typeCall_zip_2 _ _) (F.newCall_zip_2 _ _) (λobj=>F.args_object_init_3 obj _ _) F.entry_zip_new (Cd b c a d xs ys) ⟨la,ld,?_⟩;have n1:(zp1 s.heap b a).objs.size=s.heap.objs.size+1:=O4 ..;have n2:(zp2 s.heap b c a d).objs.size=s.heap.objs.size+2:=by rw[O4,n1]
 have n3:(zp3 s.heap b c a d).objs.size=s.heap.objs.size+3:=by rw[O4,n2]
 have n4:(zp4 s.heap b c a d).objs.size=s.heap.objs.size+4:=by rw[O4,n3]
 have up:=λ{h:Heap}{x:Addr}{o:Obj} (o':Obj) (e:h.get? x=some o)=>B_ o' e;have e5:(zp5 s.heap b c a d).get? (zp4 s.heap b c a d).objs.size=some _:=NW _ rfl;have e4:(zp5 s.heap b c a d).get? (zp3 s.heap b c a d).objs.size=some _:=up _ (NW _ rfl);have e3:(zp5 s.heap b c a d).get? (zp2 s.heap b c a d).objs.size=some _:=up _ (up _ (NW _ rfl));have e2:(zp5 s.heap b c a d).get? (zp1 s.heap b a).objs.size=some _:=up _ (up _ (up _ (NW _ rfl)));have e1:(zp5 s.heap b c a d).get? s.heap.objs.size=some _:=up _ (up _ (up _ (up _ (NW _ rfl))));show _/\_;rw[n2,n3,n4] at e5;rw[n1,n2] at e3;rw[n3] at e4;rw[n1] at e2;rw[n4];have i1:ItB b (zp5 s.heap b c a d) s.heap.objs.size a 0:=by cases b <;> exact⟨_,e1,rfl,rfl⟩
 have i2:ItB c (zp5 s.heap b c a d) (s.heap.objs.size+1) d 0:=by cases c <;> exact⟨_,e2,rfl,rfl⟩
 exact⟨⟨_,e5,rfl⟩,k _ e5 e3 e4 i1 i2 λx o e=>up _ (up _ (up _ (up _ (up _ e))))⟩
noncomputable def ItZ(K:W.Frag)(b c:Bool)(a d:Addr):It:=
 ⟨λi H=>∃xs ys x y,SqB K b H a xs/\SqB K c H d ys/\xs[i]?=some x/\ys[i]?=some y,
  λi H x H'=>∃p u v,x=.ref p/\H p=none/\H'=upd H p (.tup [u,v])/\(∀xs,SqB K b H a xs->xs[i]?=some u)/\∀ys,SqB K c H d ys->ys[i]?=some v,
  λi H=>∃xs ys,SqB K b H a xs/\SqB K c H d ys/\(xs[i]?=none\/ys[i]?=none)⟩
def iE(I:Inv X pins σ H s)(hq:SqB X.K b H a xs):∃its:List Value,Vals xs its/\LsB b s.heap a its.toArray:=by
 cases b with
 |true=>obtain⟨its,rv,p,_⟩:=I.list hq;exact⟨its,rv,p.isList⟩
 |false=>obtain⟨its,rv,p,_⟩:=I.tuple hq;exact⟨its,rv,p⟩
def Bl{P:Program}{w:World}{K:W.Frag}{elts:List Expr}{x1:Nat}{tp:Pos}(b c:Bool)(a d z p q j1 j2:Addr)(D:ZipApart z p q j1 j2 a d):
 Turn P w K (.Tuple elts x1 tp) (ItZ K b c a d) [z,p,q,j1,j2] z (λi h=>IsZip h z p q .none/\IsPair h p (.ref j1) (.ref j2)/\(∃u v,IsPair h q u v)/\ItB b h j1 a i/\ItB c h j2 d i) where
 mem:=by simp
 obj:=λi h st e he=>by
  obtain⟨s1,s2,⟨u,v,s3⟩,s4,s5⟩:=st;obtain⟨o4,k4,l4,_⟩:=gm s4;obtain⟨o5,k5,l5,_⟩:=gm s5;simp only[NZ,List.not_mem_nil,or_false] at he;rcases he with rfl |rfl |rfl |rfl |rfl
  .exact⟨_,s1,λv y=>by cases y⟩
  .exact⟨_,s2,λv y=>by cases y⟩
  .exact⟨_,s3,λv y=>by cases y⟩
  .exact⟨o4,k4,l4⟩
  .exact⟨o5,k5,l5⟩
 keep:=λi h h' st k=>by obtain⟨s1,s2,⟨u,v,s3⟩,s4,s5⟩:=st;exact⟨k z (by simp) _ s1,k p (by simp) _ s2,⟨u,v,k q (by simp) _ s3⟩,bh s4 λo e=>k j1 (by simp) o e,bh s5 λo e=>k j2 (by simp) o e⟩
 item:=
  by
  intro X hP hw hK hc i pins s σ H E I hf st hg;subst hP hw hK;obtain⟨xs,ys,x,y,qx,qy,ex,ey⟩:=hg;obtain⟨s1,s2,⟨u,v,s3⟩,s4,s5⟩:=st;obtain⟨ix,rx,lx⟩:=iE I qx;obtain⟨iy,ry,ly⟩:=iE I qy;obtain⟨ux,hux,rux⟩:=rx.get ex;obtain⟨uy,huy,ruy⟩:=ry.get ey;have hTy:s.TypeIs (.ref z) "zip":=⟨_,s1,rfl⟩;have zl:=Em s1;have pl:=Em s2;have ql:=Em s3;obtain⟨o4,k4,_,_⟩:=gm s4;obtain⟨o5,k5,_,_⟩:=gm s5;have j1l:=Em k4;have j2l:=Em k5;unfold pyNext;refine v_ (Qf (OO (name:=Str.ofString "__next__") hTy PZ (Ph PZ hTy F.entry_zip_next (zipN D s1 s2 s3 s4 s5 lx ly (by simpa using hux) (by simpa using huy) λh' y1 y3 y4 y5 yT hk=>D_ ?_) (F.args_zip_next_1 _))));refine⟨_,rfl,wpAny_letOwnedTupleGo_zip (s:={ s with heap:=h' }) y1 λh2 z2 sb=>?_⟩;have sb':Heap.SameBut z h' h2:=sb;have hT:H s.heap.objs.size=none:=I.hok.fresh (z_ _);have I1:Inv X pins σ (upd H s.heap.objs.size (.tup [x,y])) { s with heap:=s.heap.push { cls:=.type "tuple",data:=.seq #[ux,uy] },toks:=s.toks }:=
   I.laid (t':=s.toks) (λc o q=>B_ _ q) (z_ _) ⟨by show 2<=sizeLine;decide,[ux,uy],.cons rux (.cons ruy .nil),⟨_,NW _ rfl,rfl,_,rfl⟩⟩
  have fp':∀e∈[z,p,q,j1,j2],FpOk X pins (upd H s.heap.objs.size (.tup [x,y])) e:=λe he=>by
   have:=hf e he
   simp only[NZ,List.not_mem_nil,or_false] at he;rcases he with rfl |rfl |rfl |rfl |rfl
   .exact this.up (N2 zl)
   .exact this.up (N2 pl)
   .exact this.up (N2 ql)
   .exact this.up (N2 j1l)
   .exact this.up (N2 j2l)
  have I2:Inv X pins σ (upd H s.heap.objs.size (.tup [x,y])) { s with heap:=h2,toks:=s.toks }:=
   Inv.turnedL (s:={ s with heap:=s.heap.push { cls:=.type "tuple",data:=.seq #[ux,uy] },toks:=s.toks }) (ch:=[z,p,q,j1,j2]) (t':=s.toks) I1 (λe o he qe=>by
    have c1:e≠z:=λw=>he (by simp [w]);have c2:e≠q:=λw=>he (by simp [w]);have c3:e≠j1:=λw=>he (by simp [w]);have c4:e≠j2:=λw=>he (by simp [w]);rw[sb'.2 e c1];have q':(s.heap.push { cls:=.type "tuple",data:=.seq #[ux,uy] }).get? e=some o:=qe;by_cases w:e=s.heap.objs.size
    .subst w;rw[NW _ rfl] at q';cases q';exact yT
    .rw[Heap.get?_push_ne _ _ _ w] at q';exact hk e o c1 c2 c3 c4 q') fp'
  refine⟨.ref s.heap.objs.size,_,I2,rfl,⟨_,x,y,rfl,hT,rfl,λzs hz=>by rw[SqB.inj I hz qx];exact ex,λzs hz=>by rw[SqB.inj I hz qy];exact ey⟩,⟨z2,?_,⟨ux,uy,?_⟩,bh y4 λo e=>(sb'.2 j1 D.i1z).trans e,bh y5 λo e=>(sb'.2 j2 D.i2z).trans e⟩,λe he=>(fp' e he).1⟩
  .exact (sb'.2 p D.TIz).trans (hk p _ D.TIz D.TITO D.TIi1 D.TIi2 s2)
  .exact (sb'.2 q D.TOz).trans y3
 done:=by
  intro X hP hw hK hc i pins s σ H E I hf st hg;subst hP hw hK;obtain⟨xs,ys,qx,qy,en⟩:=hg;obtain⟨s1,s2,⟨u,v,s3⟩,s4,s5⟩:=st;obtain⟨ix,rx,lx⟩:=iE I qx;obtain⟨iy,ry,ly⟩:=iE I qy;have hTy:s.TypeIs (.ref z) "zip":=⟨_,s1,rfl⟩;have en':ix.toArray[i]?=none\/iy.toArray[i]?=none:=by
   rcases en with e |e
   .left;rw[OH] at e;simp;rw[<- rx.length];exact e
   .right;rw[OH] at e;simp;rw[<- ry.length];exact e
  unfold pyNext;refine v_ (Qf (OO (name:=Str.ofString "__next__") hTy PZ (Ph PZ hTy F.entry_zip_next (Br (I.ok.hd hc) D s1 s2 s3 s4 s5 lx ly en' λh' e hk ⟨o,ho,co⟩=>?_) (F.args_zip_next_1 _))));refine v_ (wpAny_isInstance (T:="StopIteration") (b:=true) ⟨o,ho,co⟩ isSubtype_stop (D_ ⟨rfl,?_⟩));exact Inv.turnedL (ch:=[z,p,q,j1,j2]) (t':=s.toks) I (λe o he qe=>hk e o (λw=>he (by simp [w])) (λw=>he (by simp [w])) (λw=>he (by simp [w])) (λw=>he (by simp [w])) qe) hf
 self:=λ_ _ _ _ _ st h=>wpAny_pyIter_zip st.1 h
def zu:bootBuiltins "zip"=some (.type "zip"):=by decide
def Kz(hg:Gl X "zip")(hm:X.mg "zip"=none)(ha:PA X [l,m] tl)(hs:starEach [l,m] X.env=[(false,eval l X.env),(false,eval m X.env)])(hs2:starEach [m] X.env=[(false,eval m X.env)]):
 PI X (.Tuple elts x1 tp) (.Call (.Name "zip" p) [l,m] [] pos) (λσ H R=>tl σ H λvs H1=>∃(b c:Bool) (a d:Addr) (xs ys:List V),vs=[.ref a,.ref d]/\SqB X.K b H1 a xs/\SqB X.K c H1 d ys/\R (ItZ X.K b c a d) H1):=by
 intro pins s σ H R I h;refine Call_ (eZ I hg hm zu (Ol (thn (ha pos pins s σ H _ I h) λus s1 ⟨vs,H1,I1,r1,q1⟩=>?_) (by rw[hs,hs2]) (by rw[hs2];rfl)));obtain⟨b,c,a,d,xs,ys,e,qx,qy,q⟩:=q1;subst e;cases r1 with
 |
  cons r rr=>
  cases rr with
  |
   cons r' rr=>
   cases rr;cases r;cases r';obtain⟨ix,rx,lx⟩:=iE I1 qx;obtain⟨iy,ry,ly⟩:=iE I1 qy;have la:a<s1.heap.objs.size:=by cases b <;> (obtain⟨o,e,_⟩:=lx;exact Em e)
   have ld:d<s1.heap.objs.size:=by cases c <;> (obtain⟨o,e,_⟩:=ly;exact Em e)
   refine yh lx ly λh' y1 y2 y3 y4 y5 hk=>wpAny_pyIter_zip y1 ⟨s1.heap.objs.size+4,[s1.heap.objs.size+4,s1.heap.objs.size+2,s1.heap.objs.size+3,s1.heap.objs.size,s1.heap.objs.size+1],_,_,H1,rfl,I1.kept (t':=s1.toks) λc o z=>hk c o z,Bl b c a d _ _ _ _ _ (W.ktu_apart _ _ _ la ld),⟨y1,y2,⟨_,_,y3⟩,y4,y5⟩,λe he=>?_,q⟩;have hge:s1.heap.objs.size<=e:=by
    simp only[NZ,List.not_mem_nil,or_false] at he;rcases he with rfl |rfl |rfl |rfl |rfl
    .exact PV _ _
    .exact PV _ _
    .exact PV _ _
    .exact z_ _
    .exact PV _ _
   exact I1.fpOk hge (I1.hok.fresh hge)
inductive D where
 |non |bl (b:Bool) |int (i:Int) |str (x:Str) |ty (n:String) |glb (x:Str) |exc (x:Str) |tup (xs:List D) |ref (n:Nat) |kl (xs:List D)
 deriving Inhabited
inductive Ob where
 |lst (xs:List D) |fz (xs:List D) |set (xs:List Int) |dct (kvs:List (Key×D)) |any
 deriving Inhabited
abbrev AH:=List Ob
abbrev AE:=List (Option D)
inductive R(α:Type) where
 |ok (a:α) (h:AH) |exc (c:Str) (h:AH) |stuck
inductive SR where
 |nx (ae:AE) (h:AH) |rt (d:D) (h:AH) |bk (ae:AE) (h:AH) |ct (ae:AE) (h:AH) |exc (c:Str) (ae:AE) (h:AH) |stuck
abbrev ME:=AE->AH->R D
abbrev MT:=AE->AH->R Bool
abbrev MA:=AE->AH->R (List D)
abbrev MS:=AE->AH->SR
abbrev Fn:=List D->AH->R D
noncomputable def R.bind{α β:Type}(r:R α)(f:α->AH->R β):R β:=match r with
 |.ok a h=>f a h
 |.exc c h=>.exc c h
 |.stuck=>.stuck
section
variable(K:W.Frag)(mg:Qh)
mutual
inductive RelD(ρ:List Addr)(H:Hp):D->V->Prop where
 |non:RelD ρ H .non .non
 |bl (b:Bool):RelD ρ H (.bl b) (.bl b)
 |int (i:Int):RelD ρ H (.int i) (.int i)
 |str (x:Str):RelD ρ H (.str x) (.str x)
 |ty (n:String):RelD ρ H (.ty n) (.ty n)
 |glb {x:Str}{a:Addr} (m:mg x=some (.ref a)):RelD ρ H (.glb x) (.ref a)
 |exc {x:Str}{a C:Addr} (m:mg x=some (.ref C)) (e:H a=some (.ext (oi a C))):RelD ρ H (.exc x) (.ref a)
 |tup {p:Addr}{vs:List V}{ds:List D} (h:SqT K H p vs) (r:RelDs ρ H ds vs):RelD ρ H (.tup ds) (.ref p)
 |ref {n:Nat}{a:Addr} (e:ρ[n]?=some a):RelD ρ H (.ref n) (.ref a)
 |kl {a:Addr}{vs:List V}{ds:List D} (h:∃(o:Obj) (its:Array Value) (n:Nat),K.lookup a=some o/\o.cls=.type "list" /\ o.dict=none/\o.data=.seq its n/\its.size<=sizeLine/\Vals vs its.toList) (r:RelDs ρ H ds vs):RelD ρ H (.kl ds) (.ref a)
inductive RelDs(ρ:List Addr)(H:Hp):List D->List V->Prop where
 |nil:RelDs ρ H [] []
 |cons {d:D}{v:V}{ds:List D}{vs:List V} (r:RelD ρ H d v) (rr:RelDs ρ H ds vs):RelDs ρ H (d::ds) (v::vs)
end
structure Le(ρ:List Addr)(H:Hp)(ρ':List Addr)(H':Hp):Prop where
 pre:∀(n:Nat) (a:Addr),ρ[n]?=some a->ρ'[n]?=some a
 tup:∀b xs,H b=some (.tup xs)->H' b=some (.tup xs)
 frz:∀b o u,H b=some (.frz o u)->H' b=some (.frz o u)
 ext:∀b φ,H b=some (.ext φ)->H' b=some (.ext φ)
def ObR(ρ:List Addr)(H:Hp)(a:Addr):Ob->Prop
 |.lst ds=>∃vs,H a=some (.lst vs)/\RelDs K mg ρ H ds vs
 |.fz ds=>∃o vs,H a=some (.frz o (.lst vs))/\RelDs K mg ρ H ds vs
 |.set xs=>xs.Nodup/\H a=some (.set (λi=>decide (i∈xs)) xs.length)
 |.dct kvs=>∃ws,H a=some (.dK ws)/\ws.map (·.1)=kvs.map (·.1)/\RelDs K mg ρ H (kvs.map (·.2)) (ws.map (·.2))
 |.any=>∃o,H a=some o
def codO(c:Addr)(q:Str):Heap->Prop:=λh=>h.CodeRec (.ref c) q
noncomputable def BR:List Str:=["by_falling_weights", "least_around"]
def BV(P:Addr)(q:Str):Prop:=∃(x:Str) (f:Addr) (oc:Value) (od:Option Addr) (fd:FuncData) (sl:Array (Option Value)) (c:Addr),x∈BR/\(∀y∈BR,y≠x->mg y=none)/\mg x=some (.ref f)/\K.lookup f=some ⟨oc,od,.func fd,sl⟩/\fd.code=.ref c/\W.codeHdIn K c P=true/\q=fd.qualname ++ ".<locals>." ++ "<lambda>"
def TbP(ρ:List Addr)(H:Hp)(P:Addr)(q:Str):Prop:=P∉ρ/\∃ps:Array Value,H P=some (.tbl ps)/\TriplesOk ps.toList/\∀pos cv,codeAmong pos ps.toList=some cv->∃c,cv=.ref c/\H c=some (.ext (codO c q))
def bmP(o:Obj):Prop:=o.cls=.type "module" /\ o.dict=some builtinsNs/\o.data=.plain
def BMok(H:Hp):Prop:=∃b o,mg "__builtins__"=some (.ref b)/\b≠builtinsNs/\b≠mainGlobals/\bmP o/\(K.lookup b=some o\/∃u,H b=some (.frz o u))
structure Wd(ρ:List Addr)(h:AH)(H:Hp):Prop where
 len:ρ.length=h.length
 nd:ρ.Nodup
 tb:∀P q,BV K mg P q->TbP ρ H P q/\BMok K mg H
 ob:∀(n:Nat) (a:Addr) (o:Ob),ρ[n]?=some a->h[n]?=some o->ObR K mg ρ H a o
structure RelE(ρ:List Addr)(H:Hp)(ae:AE)(σ:St):Prop where
 len:ae.length=σ.length
 at_:∀(i:Nat) (d:D),ae[i]?=some (some d)->∃v,σ[i]?=some (some v)/\RelD K mg ρ H d v
def PostG{α:Type}(ρ:List Addr)(H:Hp)(E:XK)(k:α->AH->List Addr->Hp->Prop):R α->Prop
 |.ok a h=>∀ρ' H',Le ρ H ρ' H'->Wd K mg ρ' h H'->k a h ρ' H'
 |.exc c h=>∀ρ' H' C,Le ρ H ρ' H'->Wd K mg ρ' h H'->mg c=some (.ref C)->E (.ref C) none H'
 |.stuck=>False
abbrev dC(ρ:List Addr)(H:Hp)(Q:VK)(E:XK)(r:R D):Prop:=PostG K mg ρ H E (λd _ ρ' H'=>∀v,RelD K mg ρ' H' d v->Q v H') r
abbrev CU(ρ:List Addr)(H:Hp)(Q:Bool->Hp->Prop)(E:XK)(r:R Bool):Prop:=PostG K mg ρ H E (λb _ ρ' H'=>Q b H') r
abbrev CI(ρ:List Addr)(H:Hp)(Q:List V->Hp->Prop)(E:XK)(r:R (List D)):Prop:=PostG K mg ρ H E (λd _ ρ' H'=>∀vs,RelDs K mg ρ' H' d vs->Q vs H') r
def PostS(ρ:List Addr)(H:Hp)(D:Ends)(ES:St->XK):SR->Prop
 |.nx ae h=>∀ρ' H' σ',Le ρ H ρ' H'->Wd K mg ρ' h H'->RelE K mg ρ' H' ae σ'->D.nx σ' H'
 |.bk ae h=>∀ρ' H' σ',Le ρ H ρ' H'->Wd K mg ρ' h H'->RelE K mg ρ' H' ae σ'->D.bk σ' H'
 |.ct ae h=>∀ρ' H' σ',Le ρ H ρ' H'->Wd K mg ρ' h H'->RelE K mg ρ' H' ae σ'->D.ct σ' H'
 |.rt d h=>∀ρ' H' v,Le ρ H ρ' H'->Wd K mg ρ' h H'->RelD K mg ρ' H' d v->D.rt v H'
 |.exc c ae h=>∀ρ' H' σ' C,Le ρ H ρ' H'->Wd K mg ρ' h H'->RelE K mg ρ' H' ae σ'->mg c=some (.ref C)->ES σ' (.ref C) none H'
 |.stuck=>False
def rdE(ES:St->XK)(F:ME):TE:=λσ H Q=>∃ρ h ae,Wd K mg ρ h H/\RelE K mg ρ H ae σ/\dC K mg ρ H Q (ES σ) (F ae h)
def rdT(ES:St->XK)(F:MT):TT:=λσ H Q=>∃ρ h ae,Wd K mg ρ h H/\RelE K mg ρ H ae σ/\CU K mg ρ H Q (ES σ) (F ae h)
def rdA(ES:St->XK)(F:MA):TA:=λσ H Q=>∃ρ h ae,Wd K mg ρ h H/\RelE K mg ρ H ae σ/\CI K mg ρ H Q (ES σ) (F ae h)
def rdS(ES:St->XK)(F:MS):TS:=λD σ H=>∃ρ h ae,Wd K mg ρ h H/\RelE K mg ρ H ae σ/\PostS K mg ρ H D ES (F ae h)
def spD(n:Nat)(S:Fn):Sp:=λvs H Q E=>∃ρ h ds,Wd K mg ρ h H/\RelDs K mg ρ H ds vs/\ds.length=n/\dC K mg ρ H Q E (S ds h)
end
def rdE.el{K:W.Frag}{mg:Qh}{ES:St->XK}{F:ME}{σ:St}{H:Hp}{Q:VK}{C:Prop}(q:rdE K mg ES F σ H Q)(k:∀ρ h ae,Wd K mg ρ h H->RelE K mg ρ H ae σ->dC K mg ρ H Q (ES σ) (F ae h)->C):C:=by obtain⟨ρ,h,ae,w,re,p⟩:=q;exact k ρ h ae w re p
def rdT.el{K:W.Frag}{mg:Qh}{ES:St->XK}{F:MT}{σ:St}{H:Hp}{Q:Bool->Hp->Prop}{C:Prop}(q:rdT K mg ES F σ H Q)(k:∀ρ h ae,Wd K mg ρ h H->RelE K mg ρ H ae σ->CU K mg ρ H Q (ES σ) (F ae h)->C):C:=by obtain⟨ρ,h,ae,w,re,p⟩:=q;exact k ρ h ae w re p
def rdA.el{K:W.Frag}{mg:Qh}{ES:St->XK}{F:MA}{σ:St}{H:Hp}{Q:List V->Hp->Prop}{C:Prop}(q:rdA K mg ES F σ H Q)(k:∀ρ h ae,Wd K mg ρ h H->RelE K mg ρ H ae σ->CI K mg ρ H Q (ES σ) (F ae h)->C):C:=by obtain⟨ρ,h,ae,w,re,p⟩:=q;exact k ρ h ae w re p
def rdS.el{K:W.Frag}{mg:Qh}{ES:St->XK}{F:MS}{σ:St}{H:Hp}{De:Ends}{C:Prop}(q:rdS K mg ES F De σ H)(k:∀ρ h ae,Wd K mg ρ h H->RelE K mg ρ H ae σ->PostS K mg ρ H De ES (F ae h)->C):C:=by obtain⟨ρ,h,ae,w,re,p⟩:=q;exact k ρ h ae w re p
section
variable{K:W.Frag}{mg:Qh}{ρ ρ' ρ1:List Addr}{H H' H1:Hp}{h:AH}{ae:AE}{σ:St}
def Le.refl:Le ρ H ρ H:=⟨λ_ _ e=>e,λ_ _ e=>e,λ_ _ _ e=>e,λ_ _ e=>e⟩
def Le.trans(a:Le ρ H ρ1 H1)(b:Le ρ1 H1 ρ' H'):Le ρ H ρ' H':=
 ⟨λn x e=>b.pre n x (a.pre n x e),λx y e=>b.tup x y (a.tup x y e),λx y z e=>b.frz x y z (a.frz x y z e),λx y e=>b.ext x y (a.ext x y e)⟩
def Le.sqT(l:Le ρ H ρ' H')(q:SqT K H a xs):SqT K H' a xs:=by
 rcases q with (q |⟨o,q⟩) |q
 .exact .inl (.inl (l.tup _ _ q))
 .exact .inl (.inr ⟨o,l.frz _ _ _ q⟩)
 .exact .inr q
def RelD.mono(l:Le ρ H ρ' H')(r:RelD K mg ρ H d v):RelD K mg ρ' H' d v:=
 RelD.rec (motive_1:=λd v _=>RelD K mg ρ' H' d v) (motive_2:=λds vs _=>RelDs K mg ρ' H' ds vs) .non (λb=>.bl b) (λi=>.int i) (λx=>.str x) (λn=>.ty n) (λm=>.glb m) (λm e=>.exc m (l.ext _ _ e)) (λh _ ih=>.tup (l.sqT h) ih) (λe=>.ref (l.pre _ _ e)) (λh _ ih=>.kl h ih) .nil (λ_ _ a b=>.cons a b) r
def RelDs.ind{M:List D->List V->Prop}(h0:M [] [])(h1:∀{d v ds vs},RelD K mg ρ H d v->RelDs K mg ρ H ds vs->M ds vs->M (d::ds) (v::vs)){ds:List D}{vs:List V}(r:RelDs K mg ρ H ds vs):M ds vs:=by
 induction ds generalizing vs with
 |nil=>cases r;exact h0
 |
  cons d ds ih=>
  cases r with
  |cons r rr=>exact h1 r rr (ih rr)
def RelDs.mono(l:Le ρ H ρ' H'){ds:List D}{vs:List V}(r:RelDs K mg ρ H ds vs):RelDs K mg ρ' H' ds vs:=r.ind .nil λr _ ih=>.cons (r.mono l) ih
def RelDs.len{ds:List D}{vs:List V}(r:RelDs K mg ρ H ds vs):ds.length=vs.length:=r.ind (M:=λds vs=>ds.length=vs.length) rfl λ_ _ ih=>Og (· + 1) ih
def RelDs.getD{ds:List D}{vs:List V}{i:Nat}{d:D}(r:RelDs K mg ρ H ds vs)(e:ds[i]?=some d):∃v,vs[i]?=some v/\RelD K mg ρ H d v:=
 r.ind (M:=λds vs=>∀i,ds[i]?=some d->∃v,vs[i]?=some v/\RelD K mg ρ H d v) (λ_ e=>by rw[List.getElem?_nil] at e;cases e) (λr _ ih i e=>match i,e with
  |0,e=>by cases e;exact⟨_,rfl,r⟩
  |i+1,e=>ih i e) i e
def RelDs.append{ds es:List D}{vs ws:List V}(r:RelDs K mg ρ H ds vs)(q:RelDs K mg ρ H es ws):RelDs K mg ρ H (ds++es) (vs++ws):=r.ind (M:=λds vs=>RelDs K mg ρ H (ds++es) (vs++ws)) q λr _ ih=>.cons r ih
def RelDs.take{ds:List D}{vs:List V}(n:Nat)(r:RelDs K mg ρ H ds vs):RelDs K mg ρ H (ds.take n) (vs.take n):=
 r.ind (M:=λds vs=>∀n:Nat,RelDs K mg ρ H (ds.take n) (vs.take n)) (λn=>by rw[O7,O7];exact .nil) (λr _ ih n=>by cases n with |zero=>exact .nil |succ n=>exact .cons r (ih n)) n
def RelDs.drop{ds:List D}{vs:List V}(n:Nat)(r:RelDs K mg ρ H ds vs):RelDs K mg ρ H (ds.drop n) (vs.drop n):=
 r.ind (M:=λds vs=>∀n:Nat,RelDs K mg ρ H (ds.drop n) (vs.drop n)) (λn=>by rw[Pm,Pm];exact .nil) (λr rr ih n=>by cases n with |zero=>exact .cons r rr |succ n=>exact ih n) n
def RelDs.set{d:D}{v:V}(r:RelD K mg ρ H d v){ds:List D}{vs:List V}(i:Nat)(q:RelDs K mg ρ H ds vs):RelDs K mg ρ H (ds.set i d) (vs.set i v):=
 q.ind (M:=λds vs=>∀i:Nat,RelDs K mg ρ H (ds.set i d) (vs.set i v)) (λ_=>.nil) (λq qq ih i=>by cases i with |zero=>exact .cons r qq |succ i=>exact .cons q (ih i)) i
def RelDs.ints:∀{ns:List Int}{vs:List V},RelDs K mg ρ H (ns.map D.int) vs->vs=ns.map V.int:=by
 intro ns;induction ns with
 |nil=>intro vs r;cases r;rfl
 |
  cons n ns ih=>
  intro vs r;cases r with
  |cons r rr=>cases r;rw[ih rr];rfl
def RelDs.bls:∀{ns:List Bool}{vs:List V},RelDs K mg ρ H (ns.map D.bl) vs->vs=ns.map V.bl:=by
 intro ns;induction ns with
 |nil=>intro vs r;cases r;rfl
 |
  cons n ns ih=>
  intro vs r;cases r with
  |cons r rr=>cases r;rw[ih rr];rfl
def RelE.mono(l:Le ρ H ρ' H')(r:RelE K mg ρ H ae σ):RelE K mg ρ' H' ae σ:=⟨r.len,λi d e=>by obtain⟨v,h1,h2⟩:=r.at_ i d e;exact⟨v,h1,h2.mono l⟩⟩
def RelE.set(i:Nat)(r:RelE K mg ρ H ae σ)(q:RelD K mg ρ H d v):RelE K mg ρ H (ae.set i (some d)) (σ.set i (some v)):=⟨by rw[NU,NU];exact r.len,λj d' e=>by
 rw[Pa] at e ⊢;by_cases hij:i=j
 .rw[if_pos hij] at e ⊢;by_cases hi:i<ae.length
  .rw[if_pos hi] at e;cases e;rw[if_pos (by rw[<- r.len];exact hi)];exact⟨v,rfl,q⟩
  .rw[if_neg hi] at e;cases e
 .rw[if_neg hij] at e ⊢;exact r.at_ j d' e⟩
def RelE.unset(i:Nat)(r:RelE K mg ρ H ae σ):RelE K mg ρ H (ae.set i none) (σ.set i v):=⟨by rw[NU,NU];exact r.len,λj d' e=>by
 rw[Pa] at e ⊢;by_cases hij:i=j
 .rw[if_pos hij] at e;by_cases hi:i<ae.length
  .rw[if_pos hi] at e;cases e
  .rw[if_neg hi] at e;cases e
 .rw[if_neg hij] at e ⊢;exact r.at_ j d' e⟩
def ObR.mono(l:Le ρ H ρ' H')(e:H' a=H a)(q:ObR K mg ρ H a o):ObR K mg ρ' H' a o:=by
 cases o with
 |lst ds=>obtain⟨vs,h1,h2⟩:=q;exact⟨vs,e.trans h1,h2.mono l⟩
 |fz ds=>obtain⟨o,vs,h1,h2⟩:=q;exact⟨o,vs,e.trans h1,h2.mono l⟩
 |set xs=>exact⟨q.1,e.trans q.2⟩
 |dct kvs=>obtain⟨ws,h1,h2,h3⟩:=q;exact⟨ws,e.trans h1,h2,h3.mono l⟩
 |any=>obtain⟨o,h1⟩:=q;exact⟨o,e.trans h1⟩
def ObR.there(q:ObR K mg ρ H a o):∃u,H a=some u:=by
 cases o with
 |lst ds=>obtain⟨vs,h1,_⟩:=q;exact⟨_,h1⟩
 |fz ds=>obtain⟨o,vs,h1,_⟩:=q;exact⟨_,h1⟩
 |set xs=>exact⟨_,q.2⟩
 |dct kvs=>obtain⟨ws,h1,_⟩:=q;exact⟨_,h1⟩
 |any=>exact q
def Wd.fresh(w:Wd K mg ρ h H)(hp:H p=none):p∉ρ:=λhm=>by
 obtain⟨n,hn⟩:=List.getElem?_of_mem hm;have hl:n<h.length:=by rw[<- w.len];exact (x_.mp hn).1
 obtain⟨u,hu⟩:=(w.ob n p h[n] hn (M_ hl)).there;rw[hp] at hu;cases hu
def TbP.up{P:Addr}{q:Str}(t:TbP ρ H P q)(hp:H p=none):TbP ρ (upd H p u) P q:=by obtain⟨a,ps,b,c,d⟩:=t;refine⟨a,ps,by rw[aD (ba b hp)];exact b,c,λpos cv e=>?_⟩;obtain⟨x,e1,e2⟩:=d pos cv e;exact⟨x,e1,by rw[aD (ba e2 hp)];exact e2⟩
def TbP.rho{P:Addr}{q:Str}(t:TbP ρ H P q)(h:P∉ρ'):TbP ρ' H P q:=⟨h,t.2⟩
def TbP.more{P:Addr}{q:Str}(t:TbP ρ H P q)(hp:H p=none):TbP (ρ++[p]) (upd H p u) P q:=by
 obtain⟨ps,b,_⟩:=t.2;refine (t.up hp).rho λz=>?_;rcases OY.mp z with z |z
 .exact t.1 z
 .rw[OT] at z;subst z;rw[hp] at b;cases b
def TbP.wr{P:Addr}{q:Str}{a:Addr}{o u:HO}(t:TbP ρ H P q)(ha:a∈ρ)(e:H a=some u)(hu:∀φ,u ≠ .ext φ):TbP ρ (upd H a o) P q:=by
 obtain⟨z,ps,b,c,d⟩:=t;refine⟨z,ps,by rw[aD (λw=>z (by rw[w];exact ha))];exact b,c,λpos cv y=>?_⟩;obtain⟨x,e1,e2⟩:=d pos cv y;refine⟨x,e1,?_⟩;rw[aD]
 .exact e2
 .intro w;subst w;rw[e] at e2;exact hu _ (NV e2)
def bT(hp:H p=none):Le ρ H ρ (upd H p o):=
 ⟨λ_ _ e=>e,λb xs e=>by rw[aD (ba e hp)];exact e,λb xs u e=>by rw[aD (ba e hp)];exact e,λb xs e=>by rw[aD (ba e hp)];exact e⟩
def BMok.le(b:BMok K mg H)(l:Le ρ H ρ' H'):BMok K mg H':=by
 obtain⟨x,o,h1,h2,h3,h4,h5⟩:=b;refine⟨x,o,h1,h2,h3,h4,?_⟩;rcases h5 with z |⟨u,z⟩
 .exact .inl z
 .exact .inr ⟨u,l.frz _ _ _ z⟩
def j8:Le ρ H (ρ++m) H:=
 ⟨λn a e=>by rw[N1 (x_.mp e).1];exact e,λ_ _ e=>e,λ_ _ _ e=>e,λ_ _ e=>e⟩
def Wd.alloc(w:Wd K mg ρ h H)(hp:H p=none)(hn:ObR K mg (ρ++[p]) (upd H p u) p o):Wd K mg (ρ++[p]) (h++[o]) (upd H p u):=by
 refine⟨by rw[F_,F_,w.len];rfl,?_,λP q l=>⟨(w.tb P q l).1.more hp,(w.tb P q l).2.le (ρ:=ρ) (bT hp)⟩,λn a ob e1 e2=>?_⟩
 .rw[List.nodup_append];exact⟨w.nd,by simp,λa ha b hb=>by rw[OT] at hb;subst hb;intro z;subst z;exact w.fresh hp ha⟩
 .by_cases hl:n<ρ.length
  .rw[N1 hl] at e1;rw[N1 (by rw[<- w.len];exact hl)] at e2;have q:=w.ob n a ob e1 e2;obtain⟨v,hv⟩:=q.there;exact q.mono ((bT hp).trans j8) (aD (ba hv hp))
  .have h1:n=ρ.length:=by
    have:=(x_.mp e1).1
    rw[F_] at this;simp at this;omega
   subst h1;rw[N6 (z_ _),PB] at e1;rw[w.len,N6 (z_ _),PB] at e2;simp at e1 e2;subst e1 e2;exact hn
def Wd.tuple(w:Wd K mg ρ h H)(hp:H p=none):Wd K mg ρ h (upd H p u):=
 ⟨w.len,w.nd,λP q l=>⟨(w.tb P q l).1.up hp,(w.tb P q l).2.le (ρ:=ρ) (bT hp)⟩,λn a ob e1 e2=>by have q:=w.ob n a ob e1 e2;obtain⟨v,hv⟩:=q.there;exact q.mono (bT hp) (aD (ba hv hp))⟩
def ku(e:H a=some u)(hu:(∀xs,u ≠ .tup xs)/\(∀x y,u ≠ .frz x y)/\∀φ,u ≠ .ext φ):Le ρ H ρ (upd H a o):=by refine⟨λ_ _ e=>e,λb xs q=>?_,λb x y q=>?_,λb φ q=>?_⟩ <;> rw[aD] <;> (try exact q) <;> (intro z;subst z;rw[e] at q;have:=NV q;first |exact hu.1 _ this |exact hu.2.1 _ _ this |exact hu.2.2 _ this)
def Wd.write{n:Nat}{a:Addr}{o u:HO}{ob:Ob}(w:Wd K mg ρ h H)(ea:ρ[n]?=some a)(e:H a=some u)(hu:(∀xs,u ≠ .tup xs)/\(∀x y,u ≠ .frz x y)/\∀φ,u ≠ .ext φ)
 (hn:ObR K mg ρ (upd H a o) a ob):Wd K mg ρ (h.set n ob) (upd H a o):=by
 refine⟨by rw[NU];exact w.len,w.nd,λP q l=>⟨(w.tb P q l).1.wr (O3 ea) e hu.2.2,(w.tb P q l).2.le (ρ:=ρ) (ku e hu)⟩,λm b ob' e1 e2=>?_⟩;rw[Pa] at e2;by_cases hm:n=m
 .subst hm;rw[ea] at e1;cases e1;rw[if_pos rfl] at e2;split at e2
  .cases e2;exact hn
  .cases e2
 .rw[if_neg hm] at e2;have q:=w.ob m b ob' e1 e2;refine q.mono (ku e hu) (aD λz=>hm ?_);subst z;have h1:=(x_.mp e1);have h2:=(x_.mp ea);exact (List.getElem_inj (h₀:=h2.1) (h₁:=h1.1) w.nd).mp (h2.2.trans h1.2.symm)
def qa:(∀xs,HO.lst vs ≠ .tup xs)/\(∀x y,HO.lst vs ≠ .frz x y)/\∀φ,HO.lst vs ≠ .ext φ:=⟨λ_ z=>(nomatch z),λ_ _ z=>(nomatch z),λ_ z=>(nomatch z)⟩
def wX:(∀xs,HO.dK ws ≠ .tup xs)/\(∀x y,HO.dK ws ≠ .frz x y)/\∀φ,HO.dK ws ≠ .ext φ:=⟨λ_ z=>(nomatch z),λ_ _ z=>(nomatch z),λ_ z=>(nomatch z)⟩
def PostG.mono(l:Le ρ H ρ' H')(p:PostG K mg ρ H E k r):PostG K mg ρ' H' E k r:=by
 cases r with
 |ok d h=>exact λρ2 H2 l2=>p ρ2 H2 (l.trans l2)
 |exc c h=>exact λρ2 H2 C l2=>p ρ2 H2 C (l.trans l2)
 |stuck=>exact p
def PostG.imp(p:PostG K mg ρ H E k r)(i:∀a h1 ρ' H',Le ρ H ρ' H'->Wd K mg ρ' h1 H'->k a h1 ρ' H'->k' a h1 ρ' H'):PostG K mg ρ H E k' r:=by
 cases r with
 |ok d h=>exact λρ2 H2 l2 w2=>i _ _ _ _ l2 w2 (p ρ2 H2 l2 w2)
 |exc c h=>exact p
 |stuck=>exact p
def PostG.bind(p:PostG K mg ρ H E k (r.bind f)):PostG K mg ρ H E (λa h1 ρ' H'=>PostG K mg ρ' H' E k (f a h1)) r:=by
 cases r with
 |ok d h=>exact λρ2 H2 l2 w2=>PostG.mono l2 p
 |exc c h=>exact p
 |stuck=>exact p
def PostS.mono(l:Le ρ H ρ' H')(p:PostS K mg ρ H De ES r):PostS K mg ρ' H' De ES r:=by
 cases r with
 |nx ae h=>exact λρ2 H2 σ l2=>p ρ2 H2 σ (l.trans l2)
 |bk ae h=>exact λρ2 H2 σ l2=>p ρ2 H2 σ (l.trans l2)
 |ct ae h=>exact λρ2 H2 σ l2=>p ρ2 H2 σ (l.trans l2)
 |rt d h=>exact λρ2 H2 v l2=>p ρ2 H2 v (l.trans l2)
 |exc c ae h=>exact λρ2 H2 σ C l2=>p ρ2 H2 σ C (l.trans l2)
 |stuck=>exact p
end
section
variable{X:Cx}{e:Expr}{es:List Expr}{st:Stmt}{sts:List Stmt}
def PE.imp(h:PE X e t)(k:∀σ H Q,t' σ H Q->t σ H Q):PE X e t':=λpins s σ H Q I w=>h pins s σ H Q I (k σ H Q w)
def PT.imp(h:PT X e t)(k:∀σ H Q,t' σ H Q->t σ H Q):PT X e t':=λpins s σ H Q I w=>h pins s σ H Q I (k σ H Q w)
def PW.imp(h:PW X e t)(k:∀σ H Q,t' σ H Q->t σ H Q):PW X e t':=λwh pins s σ H Q I w=>h wh pins s σ H Q I (k σ H Q w)
def PA.imp(h:PA X es t)(k:∀σ H Q,t' σ H Q->t σ H Q):PA X es t':=λpos pins s σ H Q I w=>h pos pins s σ H Q I (k σ H Q w)
def PS.imp(h:PS X st t)(k:∀D σ H,t' D σ H->t D σ H):PS X st t':=λpins s σ H D I w=>h pins s σ H D I (k D σ H w)
def PSs.imp(h:PSs X sts t)(k:∀D σ H,t' D σ H->t D σ H):PSs X sts t':=λpins s σ H D I w=>h pins s σ H D I (k D σ H w)
def PG.imp(h:PG X e t)(k:∀v σ H Q,t' v σ H Q->t v σ H Q):PG X e t':=λpins s σ H v u Q I r w=>h pins s σ H v u Q I r (k v σ H Q w)
def PGs.imp(h:PGs X es t)(k:∀v σ H Q,t' v σ H Q->t v σ H Q):PGs X es t':=λpins s σ H v u Q I r w=>h pins s σ H v u Q I r (k v σ H Q w)
def PO.imp(h:PO X o t)(k:∀σ H Q,t' σ H Q->t σ H Q):PO X o t':=λpins s σ H Q I w=>h pins s σ H Q I (k σ H Q w)
end
section
variable(K:W.Frag)(mg:Qh)(X:Cx)(ES:St->XK)
def DE(e:Expr)(F:ME):Prop:=PE X e (rdE K mg ES F)
def DT(e:Expr)(F:MT):Prop:=PT X e (rdT K mg ES F)
def DW(e:Expr)(F:MT):Prop:=PW X e (rdT K mg ES F)
def DA(es:List Expr)(F:MA):Prop:=PA X es (rdA K mg ES F)
def DS(st:Stmt)(F:MS):Prop:=PS X st (rdS K mg ES F)
def DSs(st:List Stmt)(F:MS):Prop:=PSs X st (rdS K mg ES F)
end
def OpD(K:W.Frag)(mg:Qh)(r:R2)(g:D->D->AH->R D):Prop:=∀ρ h H dx dy x y Q E,Wd K mg ρ h H->RelD K mg ρ H dx x->RelD K mg ρ H dy y->dC K mg ρ H Q E (g dx dy h)->r x y H Q
def UnD(K:W.Frag)(mg:Qh)(r:V->Hp->VK->Prop)(g:D->AH->R D):Prop:=∀ρ h H dx x Q E,Wd K mg ρ h H->RelD K mg ρ H dx x->dC K mg ρ H Q E (g dx h)->r x H Q
def bq(K:W.Frag)(mg:Qh)(r:List V->Hp->VK->Prop)(g:Fn):Prop:=∀ρ h H ds vs Q E,Wd K mg ρ h H->RelDs K mg ρ H ds vs->dC K mg ρ H Q E (g ds h)->r vs H Q
noncomputable def dM(i:Nat):ME:=λae h=>match ae[i]? with
 |some (some d)=>.ok d h
 |_=>.stuck
noncomputable def eC(d:D):ME:=λ_ h=>.ok d h
noncomputable def eOp(g:D->D->AH->R D)(F G:ME):ME:=λae h=>(F ae h).bind λx h1=>(G ae h1).bind λy h2=>g x y h2
noncomputable def eUn(g:D->AH->R D)(F:ME):ME:=λae h=>(F ae h).bind g
noncomputable def kS:MA:=λ_ h=>.ok [] h
noncomputable def jb(F:ME)(G:MA):MA:=λae h=>(F ae h).bind λx h1=>(G ae h1).bind λxs h2=>.ok (x::xs) h2
noncomputable def eFn(g:Fn)(A:MA):ME:=λae h=>(A ae h).bind g
noncomputable def mR(ds:List D)(h:AH):R D:=if ds.length<=16777216 then .ok (.tup ds) h else .stuck
noncomputable def cQ(ds:List D)(h:AH):R D:=if ds.length<=16777216 then .ok (.ref h.length) (h++[.lst ds]) else .stuck
noncomputable def asB(d:D)(h:AH):R Bool:=match d with
 |.bl b=>.ok b h
 |_=>.stuck
noncomputable def Ah(F G:ME):ME:=λae h=>(F ae h).bind λx h1=>(asB x h1).bind λb h2=>if b=true then G ae h2 else .ok (.bl false) h2
noncomputable def Ba(F:ME):ME:=λae h=>(F ae h).bind λx h1=>(asB x h1).bind λb h2=>.ok (.bl (!b)) h2
def eIf(c:MT)(F G:ME):ME:=λae h=>(c ae h).bind λb h1=>if b=true then F ae h1 else G ae h1
noncomputable def tOf(F:ME):MT:=λae h=>(F ae h).bind asB
noncomputable def tAn(c d:MT):MT:=λae h=>(c ae h).bind λb h1=>if b=true then d ae h1 else .ok false h1
noncomputable def tO(c d:MT):MT:=λae h=>(c ae h).bind λb h1=>if b=true then .ok true h1 else d ae h1
noncomputable def tNo(c:MT):MT:=λae h=>(c ae h).bind λb h1=>.ok (!b) h1
section
variable{K:W.Frag}{mg:Qh}{ρ:List Addr}{H:Hp}{h:AH}
def dJ(w:Wd K mg ρ h H)(rs:RelDs K mg ρ H ds vs)(hp:H p=none)(q:dC K mg ρ H Q E (.ok (.ref h.length) (h++[.lst ds]))):Q (.ref p) (upd H p (.lst vs)):=by have l:Le ρ H (ρ++[p]) (upd H p (.lst vs)):=(bT hp).trans j8;refine q (ρ++[p]) _ l (w.alloc hp ⟨vs,bD,rs.mono l⟩) _ (.ref ?_);rw[<- w.len,N6 (z_ _),PB];rfl
def jo(w:Wd K mg ρ h H)(rs:RelDs K mg ρ H ds vs)(hp:H p=none)(q:dC K mg ρ H Q E (.ok (.tup ds) h)):Q (.ref p) (upd H p (.tup vs)):=
 q ρ _ (bT hp) (w.tuple hp) _ (.tup (SqT.of bD) (rs.mono (bT hp)))
def az(w:Wd K mg ρ h H)(r:RelD K mg ρ H d v)(q:dC K mg ρ H Q E (.ok d h)):Q v H:=q ρ H Le.refl w v r
end
section
variable{K:W.Frag}{mg:Qh}{X:Cx}{ES:St->XK}{e a b c:Expr}{es:List Expr}{F G:ME}{A:MA}{cf cg:MT}{pos:Pos}
def HN(i:Nat)(hN:X.N[i]?=some x)(hv:Vis X.env.scope x)(hd:(x==("__debug__" : Str))=false)
 (s_:(x==("__classdict__" : Str))=false):DE K mg X ES (.Name x pos) (dM i):=PE.imp (Ho hN hv hd s_) λσ H Q q_=>q_.el λρ h ae w re p=>by
 unfold dM at p;split at p
 .rename_i d ed;obtain⟨v,e1,r⟩:=re.at_ i d ed;exact⟨v,e1,az w r p⟩
 .exact p.elim
def lQ(hp:PE X e (tC v))(r:∀ρ H,RelD K mg ρ H d v):DE K mg X ES e (eC d):=PE.imp hp λσ H Q q_=>q_.el λρ h ae w re p=>az w (r ρ H) p
def Kj:DE K mg X ES (.Constant (.int i) j pos) (eC (.int i)):=lQ J7 λ_ _=>.int i
def LA:DE K mg X ES (.Constant (.bool i) j pos) (eC (.bl i)):=lQ Ll λ_ _=>.bl i
def FY:DE K mg X ES (.Constant .none j pos) (eC .non):=lQ IV λ_ _=>.non
def Kb:DE K mg X ES (.Constant (.str x) j pos) (eC (.str x)):=lQ zG λ_ _=>.str x
def Kh(hg:Gl X x)(ha:∃a,mg x=some (.ref a))(hm:X.mg=mg)(hd:(x==("__debug__" : Str))=false):DE K mg X ES (.Name x pos) (eC (.glb x)):=by subst hm;obtain⟨a,ha⟩:=ha;exact lQ (uP hg ha (v:=.ref a) rfl hd) λ_ _=>.glb ha
structure GC(K:W.Frag)(mg:Qh)(x:Str)(d:D):Prop where
 ex:∃u v,mg x=some u/\RelV v u/\∀ρ H,RelD K mg ρ H d v
def MP(hg:Gl X x)(ha:GC K mg x d)(hm:X.mg=mg)(hd:(x==("__debug__" : Str))=false):DE K mg X ES (.Name x pos) (eC d):=by subst hm;obtain⟨u,v,h1,h2,h3⟩:=ha.ex;exact lQ (uP hg h1 h2 hd) h3
def LK(hg:Gl X x)(hm:mg x=none)(hv:bootBuiltins x=some (.type n))(he:X.mg=mg)(hn:x ≠ "__name__")(hd:(x==("__debug__" : Str))=false):DE K mg X ES (.Name x pos) (eC (.ty n)):=by subst he;exact lQ (EH hg hm hv (v:=.ty n) rfl hn hd) λ_ _=>.ty n
def pZ(hd:OpD K mg r g)(σ:St)(H:Hp)(Q:VK)(q:rdE K mg ES (eOp g F G) σ H Q):tOp r (rdE K mg ES F) (rdE K mg ES G) σ H Q:=by obtain⟨ρ,h,ae,w,re,p⟩:=q;exact⟨ρ,h,ae,w,re,p.bind.imp λdx h1 ρ1 H1 l1 w1 p1 x rx=>⟨ρ1,h1,ae,w1,re.mono l1,p1.bind.imp λdy h2 ρ2 H2 l2 w2 p2 y ry=>hd ρ2 h2 H2 dx dy x y Q _ w2 (rx.mono l2) ry p2⟩⟩
def M8(ho:OpR X (binaryOp op) r)(hd:OpD K mg r g)(ha:DE K mg X ES a F)(hb:DE K mg X ES b G):DE K mg X ES (.BinOp a op b pos) (eOp g F G):=PE.imp (Md ho ha hb) (pZ hd)
def LD(hr:IxR X r)(hd:OpD K mg r g)(ha:DE K mg X ES a F)(hb:DE K mg X ES b G)(hs:oh b):DE K mg X ES (.Subscript a b pos) (eOp g F G):=PE.imp (Ls hr ha hb hs) (pZ hd)
def GY(ho:OpR X (compareOp op) r)(hd:OpD K mg r g)(ha:DE K mg X ES a F)(hb:DE K mg X ES b G)(hm:behindInMarks op b=false):DE K mg X ES (.Compare a [op] [b] pos) (eOp g F G):=PE.imp (EY ho ha hb hm) (pZ hd)
def uz(σ:St)(H:Hp)(Q:Bool->Hp->Prop)(q:rdT K mg ES (tOf F) σ H Q):rdE K mg ES F σ H λx H'=>∃k,x=.bl k/\Q k H':=by
 obtain⟨ρ,h,ae,w,re,p⟩:=q;refine⟨ρ,h,ae,w,re,p.bind.imp λd h1 ρ1 H1 l1 w1 p1 x rx=>?_⟩;unfold asB at p1;split at p1
 .cases rx;exact⟨_,rfl,p1 ρ1 H1 Le.refl w1⟩
 .exact p1.elim
def HH(ho:OpR X (compareOp op) r)(hd:OpD K mg r g)(ha:DE K mg X ES a F)(hb:DE K mg X ES b G)(hm:behindInMarks op b=false):DT K mg X ES (.Compare a [op] [b] pos) (tOf (eOp g F G)):=
 PT.imp (E6 ho ha hb hm) λσ H Q q=>pZ hd σ H _ (uz σ H Q q)
def JI(ha:DE K mg X ES a F)(he:∀g_,isTrue a X.env g_=(do let v <- g_;standAt a.pos;holding [v] (truthy v))):DT K mg X ES a (tOf F):=
 PT.imp (JK ha he) λσ H Q q=>uz σ H Q q
def J3(ha:DT K mg X ES a cf):DT K mg X ES (.UnaryOp .Not a pos) (tNo cf):=PT.imp (HY ha) λσ H Q q_=>q_.el λρ h ae w re p=>
 ⟨ρ,h,ae,w,re,p.bind.imp λb h1 ρ1 H1 l1 w1 p1=>p1 ρ1 H1 Le.refl w1⟩
def Ed(ha:DT K mg X ES a cf):DW K mg X ES (.BoolOp .And [a] pos) cf:=EA ha
def Ij(ha:DT K mg X ES a cf):DW K mg X ES (.BoolOp .Or [a] pos) cf:=ID ha
def JN(ha:DT K mg X ES a cf)(hb:DW K mg X ES (.BoolOp .And (b::es) pos) cg):DW K mg X ES (.BoolOp .And (a::b::es) pos) (tAn cf cg):=PW.imp (Gg ha hb) λσ H Q q_=>q_.el λρ h ae w re p=>
 ⟨ρ,h,ae,w,re,p.bind.imp λb h1 ρ1 H1 l1 w1 p1=>by
  cases b with
  |true=>exact⟨ρ1,h1,ae,w1,re.mono l1,p1⟩
  |false=>exact p1 ρ1 H1 Le.refl w1⟩
def MH(ha:DT K mg X ES a cf)(hb:DW K mg X ES (.BoolOp .Or (b::es) pos) cg):DW K mg X ES (.BoolOp .Or (a::b::es) pos) (tO cf cg):=PW.imp (Mb ha hb) λσ H Q q_=>q_.el λρ h ae w re p=>
 ⟨ρ,h,ae,w,re,p.bind.imp λb h1 ρ1 H1 l1 w1 p1=>by
  cases b with
  |true=>exact p1 ρ1 H1 Le.refl w1
  |false=>exact⟨ρ1,h1,ae,w1,re.mono l1,p1⟩⟩
def DW.dt(h:DW K mg X ES a cf):DT K mg X ES a cf:=PW.pt h
def Kl{op}(h:DE K mg X ES a F):DE K mg X ES (.BoolOp op [a] pos) F:=HC h
def GU(ha:DE K mg X ES a F)(hb:DE K mg X ES (.BoolOp .And (b::es) pos) G):DE K mg X ES (.BoolOp .And (a::b::es) pos) (Ah F G):=PE.imp (JM ha hb) λσ H Q q_=>q_.el λρ h ae w re p=>by
 refine⟨ρ,h,ae,w,re,p.bind.imp λd h1 ρ1 H1 l1 w1 p1 x rx=>?_⟩;unfold asB at p1;split at p1
 .rename_i b';cases rx;refine⟨b',rfl,?_⟩;cases b' with
  |true=>exact⟨ρ1,h1,ae,w1,re.mono l1,p1⟩
  |false=>exact p1 ρ1 H1 Le.refl w1 _ (.bl false)
 .exact p1.elim
def JZ(ha:DE K mg X ES a F):DE K mg X ES (.UnaryOp .Not a pos) (Ba F):=PE.imp (Jn ha) λσ H Q q_=>q_.el λρ h ae w re p=>by
 refine⟨ρ,h,ae,w,re,p.bind.imp λd h1 ρ1 H1 l1 w1 p1 x rx=>?_⟩;unfold asB at p1;split at p1
 .cases rx;exact⟨_,rfl,p1 ρ1 H1 Le.refl w1 _ (.bl _)⟩
 .exact p1.elim
def NS(hc:DT K mg X ES c cf)(ha:DE K mg X ES a F)(hb:DE K mg X ES b G):DE K mg X ES (.IfExp c a b pos) (eIf cf F G):=PE.imp (B6 hc ha hb) λσ H Q q_=>q_.el λρ h ae w re p=>
 ⟨ρ,h,ae,w,re,p.bind.imp λb h1 ρ1 H1 l1 w1 p1=>by
  cases b with
  |true=>exact⟨ρ1,h1,ae,w1,re.mono l1,p1⟩
  |false=>exact⟨ρ1,h1,ae,w1,re.mono l1,p1⟩⟩
def Nj(ho:UnR X (unaryOp op) r)(hd:UnD K mg r g)(ha:DE K mg X ES a F):DE K mg X ES (.UnaryOp op a pos) (eUn g F):=PE.imp (LB ho ha) λσ H Q q_=>q_.el λρ h ae w re p=>
 ⟨ρ,h,ae,w,re,p.bind.imp λd h1 ρ1 H1 l1 w1 p1 x rx=>hd ρ1 h1 H1 d x Q _ w1 rx p1⟩
def IH:DA K mg X ES [] kS:=PA.imp F9 λσ H Q q_=>q_.el λρ h ae w re p=>p ρ H Le.refl w _ .nil
def Fy(ha:DE K mg X ES e F)(hr:DA K mg X ES es A)(hs:starEach (e::es) X.env=(false,eval e X.env)::starEach es X.env):DA K mg X ES (e::es) (jb F A):=PA.imp (Dv ha hr hs) λσ H Q q_=>q_.el λρ h ae w re p=>
 ⟨ρ,h,ae,w,re,p.bind.imp λd h1 ρ1 H1 l1 w1 p1 x rx=>⟨ρ1,h1,ae,w1,re.mono l1,p1.bind.imp λds h2 ρ2 H2 l2 w2 p2 vs rs=>p2 ρ2 H2 Le.refl w2 _ (.cons (rx.mono l2) rs)⟩⟩
def JO{x1}(h:DA K mg X ES es A):DE K mg X ES (.Tuple es x1 pos) (eFn mR A):=PE.imp (JR h) λσ H Q q_=>q_.el λρ h ae w re p=>
 ⟨ρ,
  h,ae,w,re,p.bind.imp λds h1 ρ1 H1 l1 w1 p1 vs rs=>by
  unfold mR at p1;split at p1
  .rename_i hl;exact⟨by rw[<- rs.len];exact hl,λq hq=>jo w1 rs hq p1⟩
  .exact p1.elim⟩
def Kt(h:DA K mg X ES es A):DE K mg X ES (.List es pos) (eFn cQ A):=PE.imp (JP h) λσ H Q q_=>q_.el λρ h ae w re p=>
 ⟨ρ,
  h,ae,w,re,p.bind.imp λds h1 ρ1 H1 l1 w1 p1 vs rs=>by
  unfold cQ at p1;split at p1
  .rename_i hl;exact⟨by rw[<- rs.len];exact hl,λq hq=>dJ w1 rs hq p1⟩
  .exact p1.elim⟩
def wc(hd:bq K mg r g)(σ:St)(H:Hp)(Q:VK)(q:rdE K mg ES (eFn g A) σ H Q):tCB r (rdA K mg ES A) σ H Q:=by obtain⟨ρ,h,ae,w,re,p⟩:=q;exact⟨ρ,h,ae,w,re,p.bind.imp λds h1 ρ1 H1 l1 w1 p1 vs rs=>hd ρ1 h1 H1 ds vs Q _ w1 rs p1⟩
def Bg{id:String}{r:List V->Hp->VK->Prop}{g:Fn}{x:Str}{p:Pos}(hc:CallR X (.builtin id) r)(hd:bq K mg r g)(hg:Gl X x)(hm:mg x=none)(hv:bootBuiltins x=some (.builtin id))(ha:DA K mg X ES (e::es) A)(hk:X.mg=mg)(hn:x ≠ "__name__")(hdb:(x==("__debug__" : Str))=false)
 (he:starEach (e::es) X.env=(false,eval e X.env)::starEach es X.env) (hpl:(backTo pos (starEach es X.env)).any (·.1)=false):DE K mg X ES (.Call (.Name x p) (e::es) [] pos) (eFn g A):=by
 subst hk;exact PE.imp (Ap hc hg hm hv ha hn hdb he hpl) (wc hd)
def yE(hc:CallR X (.type T) r)(hd:bq K mg r g)(hg:Gl X x)(hm:mg x=none)(hv:bootBuiltins x=some (.type T))(ha:DA K mg X ES (e::es) A)(hk:X.mg=mg)(hn:x ≠ "__name__")(hdb:(x==("__debug__" : Str))=false)
 (he:starEach (e::es) X.env=(false,eval e X.env)::starEach es X.env) (hpl:(backTo pos (starEach es X.env)).any (·.1)=false):DE K mg X ES (.Call (.Name x p) (e::es) [] pos) (eFn g A):=by
 subst hk;exact PE.imp (xZ hc hg hm hv ha hn hdb he hpl) (wc hd)
end
noncomputable def SR.then(r:SR)(f:AE->AH->SR):SR:=match r with
 |.nx ae h=>f ae h
 |.rt d h=>.rt d h
 |.bk ae h=>.bk ae h
 |.ct ae h=>.ct ae h
 |.exc c ae h=>.exc c ae h
 |.stuck=>.stuck
noncomputable def R.toS{α:Type}(r:R α)(ae:AE)(f:α->AH->SR):SR:=match r with
 |.ok a h=>f a h
 |.exc c h=>.exc c ae h
 |.stuck=>.stuck
noncomputable def sNx:MS:=λae h=>.nx ae h
def sCt:MS:=λae h=>.ct ae h
noncomputable def Ac(F G:MS):MS:=λae h=>(F ae h).then G
noncomputable def Ca(F:ME):MS:=λae h=>(F ae h).toS ae λd h1=>.rt d h1
noncomputable def wA(F:ME):MS:=λae h=>(F ae h).toS ae λ_ h1=>.nx ae h1
noncomputable def sIf(c:MT)(F G:MS):MS:=λae h=>(c ae h).toS ae λb h1=>if b=true then F ae h1 else G ae h1
abbrev MG:=D->AE->AH->R AE
abbrev MGs:=List D->AE->AH->R AE
noncomputable def fk(F:ME)(g:MG):MS:=λae h=>(F ae h).toS ae λd h1=>(g d ae h1).toS ae λc_ h2=>.nx c_ h2
noncomputable def gN(i:Nat):MG:=λd ae h=>.ok (ae.set i (some d)) h
noncomputable def gsN:MGs:=λds ae h=>match ds with
 | []=>.ok ae h
 |_=>.stuck
noncomputable def gsC(g:MG)(u:MGs):MGs:=λds ae h=>match ds with
 |d::r=>(g d ae h).bind λc_ h'=>u r c_ h'
 | []=>.stuck
noncomputable def gT(u:MGs):MG:=λd ae h=>match d with
 |.tup ds=>u ds ae h
 |_=>.stuck
noncomputable def gS(F G:ME)(w:D->D->D->AH->R Unit):MG:=λv ae h=>(F ae h).bind λo h1=>(G ae h1).bind λi h2=>(w o i v h2).bind λ_ h3=>.ok ae h3
noncomputable def tI(i j:Nat)(A:MA):MS:=λae h=>(A ae h).toS ae λds h1=>match ds with
 | [d,e]=>.nx ((ae.set i (some d)).set j (some e)) h1
 |_=>.stuck
noncomputable def sf(i:Nat)(g:D->D->AH->R D)(F:ME):MS:=λae h=>match ae[i]? with
 |some (some x)=>(F ae h).toS ae λy h1=>(g x y h1).toS ae λz h2=>.nx (ae.set i (some z)) h2
 |_=>.stuck
noncomputable def qM(c:Str)(A:MA):MS:=λae h=>(A ae h).toS ae λds h1=>if ds.length<=16777216 then .exc c ae h1 else .stuck
section
variable(K:W.Frag)(mg:Qh)
def rdG(ES:St->XK)(g:MG):TG:=λv σ H Q=>∃ρ h ae d,Wd K mg ρ h H/\RelE K mg ρ H ae σ/\RelD K mg ρ H d v/\PostG K mg ρ H (ES σ) (λc_ _ ρ' H'=>∀σ',RelE K mg ρ' H' c_ σ'->Q σ' H') (g d ae h)
def rdGs(ES:St->XK)(g:MGs):TGs:=λvs σ H Q=>∃ρ h ae ds,Wd K mg ρ h H/\RelE K mg ρ H ae σ/\RelDs K mg ρ H ds vs/\PostG K mg ρ H (ES σ) (λc_ _ ρ' H'=>∀σ',RelE K mg ρ' H' c_ σ'->Q σ' H') (g ds ae h)
def DG(X:Cx)(ES:St->XK)(e:Expr)(g:MG):Prop:=PG X e (rdG K mg ES g)
def DGs(X:Cx)(ES:St->XK)(es:List Expr)(g:MGs):Prop:=PGs X es (rdGs K mg ES g)
def eu(X:Cx)(ES:St->XK):Prop:=∀(pins:Qi) (σ:St) (H:Hp) (s:Shared) (e:Value) (s':Shared),Inv X pins σ H s->CX1 X.prog X.w X.stack H s (ES σ) e s'->X.xe e s'
end
def rdG.el{K:W.Frag}{mg:Qh}{ES:St->XK}{g:MG}{v:V}{σ:St}{H:Hp}{Q:St->Hp->Prop}{C:Prop}(q:rdG K mg ES g v σ H Q)(k:∀ρ h ae d,Wd K mg ρ h H->RelE K mg ρ H ae σ->RelD K mg ρ H d v->PostG K mg ρ H (ES σ) (λc_ _ ρ' H'=>∀σ',RelE K mg ρ' H' c_ σ'->Q σ' H') (g d ae h)->C):C:=by obtain⟨ρ,h,ae,d,w,re,rd,p⟩:=q;exact k ρ h ae d w re rd p
def rdGs.el{K:W.Frag}{mg:Qh}{ES:St->XK}{g:MGs}{v:List V}{σ:St}{H:Hp}{Q:St->Hp->Prop}{C:Prop}(q:rdGs K mg ES g v σ H Q)(k:∀ρ h ae d,Wd K mg ρ h H->RelE K mg ρ H ae σ->RelDs K mg ρ H d v->PostG K mg ρ H (ES σ) (λc_ _ ρ' H'=>∀σ',RelE K mg ρ' H' c_ σ'->Q σ' H') (g d ae h)->C):C:=by obtain⟨ρ,h,ae,d,w,re,rd,p⟩:=q;exact k ρ h ae d w re rd p
section
variable{K:W.Frag}{mg:Qh}{ES:St->XK}{ρ:List Addr}{H:Hp}{h:AH}{ae:AE}{σ:St}{De:Ends}
def bO(p:PostS K mg ρ H De ES (r.toS ae f))(re:RelE K mg ρ H ae σ)
 (i:∀a h1 ρ1 H1,Le ρ H ρ1 H1->Wd K mg ρ1 h1 H1->RelE K mg ρ1 H1 ae σ->PostS K mg ρ1 H1 De ES (f a h1)->k a h1 ρ1 H1):PostG K mg ρ H (ES σ) k r:=by
 cases r with
 |ok a h1=>exact λρ1 H1 l1 w1=>i a h1 ρ1 H1 l1 w1 (re.mono l1) (PostS.mono l1 p)
 |exc c h1=>exact λρ1 H1 C l1 w1 m=>p ρ1 H1 σ C l1 w1 (re.mono l1) m
 |stuck=>exact p
def gb(p:PostS K mg ρ H De ES (.nx c_ h))(w:Wd K mg ρ h H)(re:RelE K mg ρ H c_ σ):De.nx σ H:=p ρ H σ Le.refl w re
def Aw(p:PostS K mg ρ H De ES (r.then f))(i:∀ae1 h1 ρ1 H1 σ1,Le ρ H ρ1 H1->Wd K mg ρ1 h1 H1->RelE K mg ρ1 H1 ae1 σ1->PostS K mg ρ1 H1 De ES (f ae1 h1)->N σ1 H1):PostS K mg ρ H { De with nx:=N } ES r:=by
 cases r with
 |nx ae1 h1=>exact λρ1 H1 σ1 l1 w1 re1=>i ae1 h1 ρ1 H1 σ1 l1 w1 re1 (PostS.mono l1 p)
 |rt d h1=>exact p
 |bk ae1 h1=>exact p
 |ct ae1 h1=>exact p
 |exc c ae1 h1=>exact p
 |stuck=>exact p
end
section
variable{K:W.Frag}{mg:Qh}{X:Cx}{ES:St->XK}{e a b c o i:Expr}{es:List Expr}{st:Stmt}{sts sts':List Stmt}{F:ME}{A:MA}{cf:MT}{U V':MS}{g:MG}{gs:MGs}{pos:Pos}
def Ep:DSs K mg X ES [] sNx:=PSs.imp Eh λD σ H q_=>q_.el λρ h ae w re p=>gb p w re
def FH(h1:DS K mg X ES st U):DSs K mg X ES [st] U:=DN h1
def z9(h1:DS K mg X ES st U)(h2:DSs K mg X ES sts V'):DSs K mg X ES (st::sts) (Ac U V'):=PSs.imp (BK h1 h2) λD σ H q_=>q_.el λρ h ae w re p=>
 ⟨ρ,h,ae,w,re,Aw p λae1 h1 ρ1 H1 σ1 l1 w1 re1 p1=>⟨ρ1,h1,ae1,w1,re1,p1⟩⟩
def tX:DS K mg X ES (.Continue pos) sCt:=PS.imp t9 λD σ H q_=>q_.el λρ h ae w re p=>p ρ H σ Le.refl w re
def IG(he:DE K mg X ES e F):DS K mg X ES (.Return (some e) pos) (Ca F):=PS.imp (IU he) λD σ H q_=>q_.el λρ h ae w re p=>
 ⟨ρ,h,ae,w,re,bO p re λd h1 ρ1 H1 l1 w1 re1 p1 v rv=>p1 ρ1 H1 v Le.refl w1 rv⟩
def EU(he:DE K mg X ES e F)(hs:swapsWith e none pos.line X.env=pure false):DS K mg X ES (.Expr e pos) (wA F):=PS.imp (DV he hs) λD σ H q_=>q_.el λρ h ae w re p=>
 ⟨ρ,h,ae,w,re,bO p re λd h1 ρ1 H1 l1 w1 re1 p1 v rv=>gb p1 w1 re1⟩
def Lq(hc:DT K mg X ES c cf)(ha:DSs K mg X ES sts U)(hb:DSs K mg X ES sts' V'):DS K mg X ES (.If c sts sts' pos) (sIf cf U V'):=PS.imp (ND hc ha hb) λD σ H q_=>q_.el λρ h ae w re p=>
 ⟨ρ,h,ae,w,re,bO p re λb h1 ρ1 H1 l1 w1 re1 p1=>by
  cases b with
  |true=>exact⟨ρ1,h1,ae,w1,re1,p1⟩
  |false=>exact⟨ρ1,h1,ae,w1,re1,p1⟩⟩
def Fs{i:Nat}{x:Str}(hN:X.N.Nodup)(hi:X.N[i]?=some x)(hx:Loc X.env.scope x)(hf:X.fn x=true\/X.env.scope.names.lookup x=some .local):DG K mg X ES (.Name x pos) (gN i):=
 PG.imp (Dn hN hi hx hf) λv σ H Q q_=>q_.el λρ h ae d w re rd p=>p ρ H Le.refl w _ (re.set i rd)
def Dp:DGs K mg X ES [] gsN:=PGs.imp D6 λvs σ H Q q_=>q_.el λρ h ae ds w re rd p=>by
 cases rd with
 |nil=>exact⟨rfl,p ρ H Le.refl w _ re⟩
 |cons r rr=>exact p.elim
def BO(h1:DG K mg X (λ_=>E0) e g)(h2:DGs K mg X (λ_=>E0) es gs)
 (hs:(assignEach (e::es) X.env).map (·.2)=assign e X.env::(assignEach es X.env).map (·.2)):DGs K mg X (λ_=>E0) (e::es) (gsC g gs):=PGs.imp (Bc h1 h2 hs) λvs σ H Q q_=>q_.el λρ h ae ds w re rd p=>by
 cases rd with
 |nil=>exact p.elim
 |cons r rr=>exact⟨_,_,rfl,ρ,h,ae,_,w,re,r,p.bind.imp λae1 h1 ρ1 H1 l1 w1 p1 σ1 re1=>⟨ρ1,h1,ae1,_,w1,re1,rr.mono l1,p1⟩⟩
def Ha{k n:Nat}(hK:X.K=K)(hc:X.calm=true)(h:DGs K mg X (λ_=>E0) es gs)
 (hn:(assignEach es X.env).length=n) (hst:(assignEach es X.env).findIdx? (·.1)=none):DG K mg X (λ_=>E0) (.Tuple es k pos) (gT λds ae h=>if ds.length=n then gs ds ae h else .stuck):=by
 subst hK;refine PG.imp (xV hc h hn hst) λv σ H Q q_=>q_.el λρ h ae d w re rd p=>?_;unfold gT at p;cases rd with
 |
  tup q rs=>
  dsimp only at p;split at p
  .rename_i hl;exact⟨_,_,rfl,q,by rw[<- rs.len];exact hl,ρ,h,ae,_,w,re,rs,p⟩
  .exact p.elim
 |_=>exact p.elim
noncomputable def noX{α:Type}(r:R α):R α:=match r with
 |.exc _ _=>.stuck
 |.ok a h=>.ok a h
 |.stuck=>.stuck
def DG.weak(hg:DG K mg X (λ_=>E0) e g):DG K mg X ES e (λd ae h=>noX (g d ae h)):=PG.imp hg λv σ H Q q_=>q_.el λρ h ae d w re rd p=>by
 refine⟨ρ,h,ae,d,w,re,rd,?_⟩;try dsimp only at p
 cases q:g d ae h with
 |ok a h1=>rw[q] at p;exact p
 |exc c h1=>rw[q] at p;exact p.elim
 |stuck=>rw[q] at p;exact p.elim
def nX(K:W.Frag)(mg:Qh)(r:w9)(f:D->D->D->AH->R Unit):Prop:=∀ρ h H do_ di dv o i v (Q:Hp->Prop) E,Wd K mg ρ h H->RelD K mg ρ H do_ o->RelD K mg ρ H di i->RelD K mg ρ H dv v->PostG K mg ρ H E (λ_ _ _ H'=>Q H') (f do_ di dv h)->r o i v H Q
def yW(he:DE K mg X ES e F)(hg:DG K mg X ES a g)(hs:swapsWithSole [a] e pos.line X.env=pure false)(hw:swappedStores [a] e X.env=pure none)
 (h1:(assignEach [a] X.env).map (·.2)=[assign a X.env]):DS K mg X ES (.Assign [a] e pos) (fk F g):=PS.imp (Hg he hg hs hw h1) λD σ H q_=>q_.el λρ h ae w re p=>
 ⟨ρ,h,ae,w,re,bO p re λd h1 ρ1 H1 l1 w1 re1 p1 v rv=>⟨ρ1,h1,ae,d,w1,re1,rv,bO p1 re1 λae2 h2 ρ2 H2 l2 w2 re2 p2 σ' re'=>gb p2 w2 re'⟩⟩
def Jd{i:Nat}{x:Str}{r_:Pos}(hN:X.N.Nodup)(hi:X.N[i]?=some x)(hx:Loc X.env.scope x)(he:DE K mg X ES e F)(hs:swapsWith e (some (.Name x r_)) pos.line X.env=pure false)(hf:X.fn x=true\/X.env.scope.names.lookup x=some .local):
 DS K mg X ES (.Assign [.Name x r_] e pos) (fk F (gN i)):=PS.imp (Hx hN hi hx he hs hf) λD σ H q_=>q_.el λρ h ae w re p=>
 ⟨ρ,h,ae,w,re,bO p re λd h1 ρ1 H1 l1 w1 re1 p1 v rv=>gb p1 w1 (re1.set i rv)⟩
def Hk{i j:Nat}{x y:Str}{px py pt:Pos}{kt k2 pt2}(hc:X.calm=true)(hN:X.N.Nodup)(hi:X.N[i]?=some x)(hj:X.N[j]?=some y)(hij:i≠j)
 (hx:X.env.scope.names.lookup x=some .local) (hy:X.env.scope.names.lookup y=some .local) (ha:DA K mg X ES [a,b] A)
 (hw:swappedStores [.Tuple [.Name x px,.Name y py] kt pt] (.Tuple [a,b] k2 pt2) X.env=pure (some [x,y]))
 (hs:swapsWithSole [.Tuple [.Name x px,.Name y py] kt pt] (.Tuple [a,b] k2 pt2) pos.line X.env=pure false):
 DS K mg X ES (.Assign [.Tuple [.Name x px,.Name y py] kt pt] (.Tuple [a,b] k2 pt2) pos) (tI i j A):=PS.imp (Gw hc hN hi hj hij hx hy ha hw hs) λD σ H q_=>q_.el λρ h ae w re p=>
 ⟨ρ,h,ae,w,re,bO p re λds h1 ρ1 H1 l1 w1 re1 p1 vs rs=>by
  split at p1
  .cases rs with
   |
    cons r1 rs=>
    cases rs with
    |cons r2 rs=>cases rs;exact⟨_,_,rfl,gb p1 w1 ((re1.set i r1).set j r2)⟩
  .exact p1.elim⟩
def IpD(K:W.Frag)(mg:Qh)(r:TIp)(g:D->D->AH->R D):Prop:=∀ρ h H dx dy x y Q E,Wd K mg ρ h H->RelD K mg ρ H dx x->RelD K mg ρ H dy y->dC K mg ρ H Q E (g dx dy h)->r x y H Q
def HR{i:Nat}{x:Str}{op:Operator}{ti:TIp}{r_:Pos}{gg:D->D->AH->R D}(hN:X.N.Nodup)(hi:X.N[i]?=some x)(hx:Loc X.env.scope x)(he:DE K mg X ES e F)(ho:PIp X op ti)(hd:IpD K mg ti gg)(hf:X.fn x=true\/X.env.scope.names.lookup x=some .local):
 DS K mg X ES (.AugAssign (.Name x r_) op e pos) (sf i gg F):=PS.imp (HM hN hi hx he ho hf) λD σ H q_=>q_.el λρ h ae w re p=>by
 unfold sf at p;split at p
 .rename_i d ed;obtain⟨v,e1,r⟩:=re.at_ i d ed;exact⟨v,e1,ρ,h,ae,w,re,bO p re λdy h1 ρ1 H1 l1 w1 re1 p1 y ry=>hd ρ1 h1 H1 d dy v y _ _ w1 (r.mono l1) ry (bO p1 re1 λdz h2 ρ2 H2 l2 w2 re2 p2 z rz=>gb p2 w2 (re2.set i rz))⟩
 .exact p.elim
def A7(hc:X.calm=true)(hR:Rz X E)(hg:Gl X x)(hm:mg x=some (.ref C))(hq:W.excIn X.K C kR "ValueError.__new__"=true)(ha:DA K mg X (λ_=>E) (e::es) A)(hk:X.mg=mg)
 (he:starEach (e::es) X.env=(false,eval e X.env)::starEach es X.env) (i_:(backTo cpos (starEach es X.env)).any (·.1)=false) (hd:(x==("__debug__" : Str))=false):
 DS K mg X (λ_=>E) (.Raise (some (.Call (.Name x np) (e::es) [] cpos)) none pos) (qM x A):=by
 subst hk;exact
  PS.imp (Am hc hR hg hm hq ha he i_ hd) λD σ H q_=>q_.el λρ h ae w re p=>
  ⟨ρ,
   h,ae,w,re,bO p re λds h1 ρ1 H1 l1 w1 re1 p1 vs rs=>by
   split at p1
   .rename_i hl;exact⟨by rw[<- rs.len];exact hl,p1 ρ1 H1 σ C Le.refl w1 re1 hm⟩
   .exact p1.elim⟩
def EC(C:Callee X.prog X.w X.K X.mg X.base x k ps (spD K mg n S))(hr:Room k X.A)(hg:Gl X x)(hx:eu X ES)(ha:DA K mg X ES (e::es) A)
 (hdb:(x==("__debug__" : Str))=false) (he:starEach (e::es) X.env=(false,eval e X.env)::starEach es X.env) (hpl:(backTo pos (starEach es X.env)).any (·.1)=false):
 DE K mg X ES (.Call (.Name x p) (e::es) [] pos) (eFn (λds h=>if ds.length=n then S ds h else .stuck) A):=by
 obtain⟨f,fd,F',m,kp,bb,_⟩:=C.ex;intro pins s σ H Q I hh;refine OU (j7 I hg m ?_ hdb);have rd:rdA K mg ES A σ H (λvs H1=>spD K mg n S vs H1 Q (ES σ)):=by
  obtain⟨ρ,h,ae,w,re,p⟩:=hh;refine⟨ρ,h,ae,w,re,p.bind.imp λds h1 ρ1 H1 l1 w1 p1 vs rs=>?_⟩;split at p1
  .rename_i hl;exact⟨ρ1,h1,ds,w1,rs,hl,p1⟩
  .exact p1.elim
 refine W.callWith_K (h₀:=X.base) I.ok.mod.kin kp (N_ (ha pos pins s σ H _ I rd) (λus s1 ⟨vs,H1,I1,r,q⟩=>⟨I1.kIn,?_⟩) λ_ _ z=>z) he hpl;have hl:(us++[]).length=ps.length:=by rw[Oh,<- r.length];exact F'.len _ _ _ _ q
 refine wpAny_call (codeAny_mono (F'.run X.A X.stack s1 H1 ⟨us,[]⟩ us vs Q (ES σ) hr I1.env0 (by simpa using bb s1 us I1.kIn hl) r q) λr s' hq=>?_);cases r with
 |error ex=>exact hx pins σ H1 s1 ex s' I1 hq
 |
  ok fl=>
  cases fl with
  |ret u=>exact I1.after hq
  |next=>exact False.elim hq
  |brk=>exact False.elim hq
  |cont=>exact False.elim hq
noncomputable def fnD(n:Nat)(F:MS):Fn:=λds h=>match F (ds.map some++List.replicate (n-ds.length) none) h with
 |.nx _ h'=>.ok .non h'
 |.rt d h'=>.ok d h'
 |.exc c _ h'=>.exc c h'
 |_=>.stuck
def tV(hp:qU (CX1 X.prog X.w) X E):eu X (λ_=>E):=λpins σ H s e s' I h=>hp pins σ H s e s' I h
def lj:eu X (λ_=>E0):=λpins σ H s e s' I h=>MV pins σ H s e s' I h
end
section
variable{P:Program}{w:World}{K:W.Frag}{mg:Qh}{base:Heap}{x:Str}{st:Stmt}{k:Nat}{ps N:List Str}{F:MS}
def mV(rs:RelDs K mg ρ H ds vs):RelE K mg ρ H (ds.map some++List.replicate (N.length-ds.length) none) (cI N vs):=by
 unfold cI;refine⟨by rw[F_,F_,w_,w_,Oy,Oy,rs.len],λi d e=>?_⟩;by_cases hi:i<ds.length
 .rw[N1 (by rw[w_];exact hi),N4] at e;have e':ds[i]?=some d:=by
   cases q:ds[i]? with
   |none=>rw[q] at e;cases e
   |some z=>rw[q] at e;cases e;rfl
  obtain⟨v,h1,h2⟩:=rs.getD e';refine⟨v,?_,h2⟩;rw[N1 (by rw[w_,<- rs.len];exact hi),N4,h1];rfl
 .rw[N6 (by rw[w_];omega),Ot] at e;split at e <;> cases e
def Def.okD(D:Def K mg x st)(S:FnScope N ps (ak st))
 (hb:∀(kV doc pm:Value) (an:Option Addr) (cdv ct:Value) (us:List Value),us.length=ps.length->bindArgs (W.fnOf x x (bj st) (aG st) (ak st) .none kV doc pm an cdv ct) ⟨us,[]⟩=pure (ps.zip us))
 (e_:∀(f:Addr) (cdv:Value) (A:Around) (outer:List Env) (s:Shared) (H:Hp) (E:XK),Room k (A.deeper (envOfC x (ak st) s.heap.objs.size f cdv))->
  DSs K mg (df (CX1 P w) P w K mg base N x (ak st) f cdv A outer s H E) (λ_=>E) (aG st) F):Callee P w K mg base x (k+1) ps (spD K mg ps.length (fnD N.length F)):=by
 refine D.okR S hb (λvs H Q E ⟨ρ,h,ds,w,rs,hl,p⟩=>by rw[<- rs.len];exact hl) λf cdv A outer s H vs Q E hr ⟨ρ,h,ds,w',rs,hl,p⟩=>?_;refine⟨_,e_ f cdv A outer s H E hr,ρ,h,_,w',mV rs,?_⟩;unfold fnD at p;split at p
 .rename_i e;rw[e];exact λρ1 H1 σ1 l1 w1 re1=>p ρ1 H1 l1 w1 _ .non
 .rename_i e;rw[e];exact λρ1 H1 v l1 w1 rv=>p ρ1 H1 l1 w1 v rv
 .rename_i e;rw[e];exact λρ1 H1 σ1 C l1 w1 re1 m=>p ρ1 H1 C l1 w1 m
 .exact p.elim
end
noncomputable def aR(h:AH)(n:Nat):Option (List D):=match h[n]? with
 |some (.lst xs)=>some xs
 |some (.fz xs)=>some xs
 |_=>none
noncomputable def cV(h:AH):D->Option (List D)
 |.tup xs=>some xs
 |.ref n=>aR h n
 |.kl xs=>some xs
 |_=>none
section
variable{K:W.Frag}{mg:Qh}{ρ:List Addr}{H:Hp}{h:AH}
def bo(w:Wd K mg ρ h H)(ea:ρ[n]?=some a)(e:aR h n=some xs):∃vs,SqL K H a vs/\RelDs K mg ρ H xs vs:=by
 unfold aR at e;split at e
 .rename_i ys eo;cases e;obtain⟨vs,h1,h2⟩:=w.ob n a _ ea eo;exact⟨vs,SqL.of h1,h2⟩
 .rename_i ys eo;cases e;obtain⟨o,vs,h1,h2⟩:=w.ob n a _ ea eo;exact⟨vs,.inl (.inr ⟨o,h1⟩),h2⟩
 .cases e
def du(w:Wd K mg ρ h H)(r:RelD K mg ρ H d v)(e:cV h d=some xs):∃p vs,v=.ref p/\(SqL K H p vs\/SqT K H p vs)/\RelDs K mg ρ H xs vs:=by
 cases r with
 |tup q rs=>have e':some _=some xs:=e;cases e';exact⟨_,_,rfl,.inr q,rs⟩
 |ref ea=>obtain⟨vs,h1,h2⟩:=bo w ea e;exact⟨_,vs,rfl,.inl h1,h2⟩
 |kl q rs=>have e':some _=some xs:=e;cases e';exact⟨_,_,rfl,.inl (.inr q),rs⟩
 |_=>cases e
end
noncomputable def g2(f:Int->Int->R D)(x y:D):R D:=match x,y with
 |.int i,.int j=>f i j
 |_,_=>.stuck
noncomputable def gI(f:Int->Int->D):D->D->AH->R D:=λx y h=>match x,y with
 |.int i,.int j=>.ok (f i j) h
 |_,_=>.stuck
open Classical in
def gIc(C:Int->Int->Prop)(f:Int->Int->D):D->D->AH->R D:=λx y h=>match x,y with
 |.int i,.int j=>if C i j then .ok (f i j) h else .stuck
 |_,_=>.stuck
section
variable{K:W.Frag}{mg:Qh}
def mE(hr:∀i j ρ H,RelD K mg ρ H (g i j) (f i j)):OpD K mg (rI0 f) (gI g):=λρ h H dx dy x y Q E w rx ry p=>by
 unfold gI at p;split at p
 .cases rx;cases ry;exact⟨_,_,rfl,rfl,az w (hr _ _ ρ H) p⟩
 .exact p.elim
def pW(hr:∀i j ρ H,RelD K mg ρ H (g i j) (f i j)):OpD K mg (rI C f) (gIc C g):=λρ h H dx dy x y Q E w rx ry p=>by
 unfold gIc at p;split at p
 .cases rx;cases ry;split at p
  .rename_i hc;exact⟨_,_,rfl,rfl,hc,az w (hr _ _ ρ H) p⟩
  .exact p.elim
 .exact p.elim
noncomputable def gOr(g g':D->D->AH->R D):D->D->AH->R D:=λx y h=>match g x y h with
 |.stuck=>g' x y h
 |r=>r
def OpD.or(a:OpD K mg r g)(b:OpD K mg r' g'):OpD K mg (λx y H Q=>r x y H Q\/r' x y H Q) (gOr g g'):=λρ h H dx dy x y Q E w rx ry p=>by
 unfold gOr at p;split at p
 .exact .inr (b ρ h H dx dy x y Q E w rx ry p)
 .exact .inl (a ρ h H dx dy x y Q E w rx ry p)
end
noncomputable def lU:D->D->AH->R D:=λx y h=>match x,y with
 |.ref n,.ref m=>match h[n]?,h[m]? with
  |some (.lst xs),some (.lst ys)=>if xs.length+ys.length<=16777216 then .ok (.ref h.length) (h++[.lst (xs++ys)]) else .stuck
  |_,_=>.stuck
 |.tup xs,.tup ys=>if xs.length+ys.length<=16777216 then .ok (.tup (xs++ys)) h else .stuck
 |_,_=>.stuck
def rB:D->D->AH->R D:=λx y h=>match x,y with
 |.ref n,.int k=>match h[n]? with
  |some (.lst xs)=>if -(2^63)<=k/\k<2^63/\xs.length*k.toNat<=16777216 then .ok (.ref h.length) (h++[.lst (List.replicate k.toNat xs).flatten]) else .stuck
  |_=>.stuck
 |_,_=>.stuck
noncomputable def gIx:D->D->AH->R D:=λx y h=>match cV h x,y with
 |some xs,.int i=>match atI xs i with
  |some d=>.ok d h
  |none=>.stuck
 |_,_=>.stuck
section
variable{K:W.Frag}{mg:Qh}{X:Cx}
def kx(K:W.Frag):R2:=λx y H Q=>∃a b ys,x=.ref a/\y=.ref b/\SqT K H a []/\SqT K H b ys/\Q (.ref b) H
def Fl:OpR X (binaryOp .Add) (kx X.K):=by
 intro pins s σ H x y v u Q I rx ry h;obtain⟨a,b,ys,rfl,rfl,ha,hb,q⟩:=h;cases rx;cases ry;obtain⟨its,r1,p1,_⟩:=I.tuple ha;obtain⟨its2,r2,p2,_⟩:=I.tuple hb;have e:its=[]:=r1.nil_iff.mpr rfl;subst e;obtain⟨⟨cls,dd,data,sl⟩,ho,hc,n,hd⟩:=id p1;obtain⟨⟨cls2,dd2,data2,sl2⟩,ho2,hc2,n2,hd2⟩:=id p2;simp only at hc hd hc2 hd2;subst hc hd hc2 hd2;exact concat_meets ⟨_,ho,rfl⟩ ⟨_,ho2,rfl⟩ noFill_tuple_add seq_tuple_add PQ PK (PC _ _)
  (tuple_addW0 _ _ _ _ n n2 dd dd2 sl sl2 rfl) ⟨ho,ho2,⟨.ref b,H,I,rfl,q⟩⟩
def FQ:OpD K mg (λx y H Q=>oB x y H Q\/(kE K x y H Q\/kx K x y H Q)) lU:=λρ h H dx dy x y Q E w rx ry p=>by
 unfold lU at p;split at p
 .cases
   rx with
  |
   ref ea=>
   cases ry with
   |
    ref eb=>
    split at p
    .rename_i xs ys e1 e2;split at p
     .rename_i hl;obtain⟨vs,q1,r1⟩:=w.ob _ _ _ ea e1;obtain⟨ws,q2,r2⟩:=w.ob _ _ _ eb e2;exact .inl ⟨_,_,vs,ws,rfl,rfl,q1,q2,by rw[<- r1.len,<- r2.len];exact hl,λp' hp=>dJ w (r1.append r2) hp p⟩
     .exact p.elim
    .exact p.elim
 .cases
   rx with
  |
   tup q1 r1=>
   cases ry with
   |
    tup q2 r2=>
    split at p
    .rename_i hl;cases r1 with
     |nil=>exact .inr (.inr ⟨_,_,_,rfl,rfl,q1,q2,az w (.tup q2 r2) p⟩)
     |cons r0 r1=>refine .inr (.inl ⟨_,_,_,_,rfl,rfl,q1,q2,(λz=>nomatch z),by rw[<- (RelDs.cons r0 r1).len,<- r2.len];exact hl,λz=>?_,λ_ p' hp=>jo w ((RelDs.cons r0 r1).append r2) hp p⟩);subst z;cases r2;rw[Oh] at p;exact az w (.tup q1 (.cons r0 r1)) p
    .exact p.elim
 .exact p.elim
def Ef(r:RelDs K mg ρ H xs vs)(e:atI xs i=some d):∃v,atI vs i=some v/\RelD K mg ρ H d v:=by
 unfold atI at e ⊢;rw[<- r.len];cases q:ixN xs.length i with
 |none=>rw[q] at e;cases e
 |some j=>rw[q] at e;exact r.getD e
def F2:OpD K mg (λx y H Q=>vo K x y H Q\/vj K x y H Q) gIx:=λρ h H dx dy x y Q E w rx ry p=>by
 unfold gIx at p;split at p
 .rename_i xs i e1;split at p
  .rename_i d e2;cases ry;obtain⟨pa,vs,rfl,hq,rs⟩:=du w rx e1;obtain⟨v,e3,rv⟩:=Ef rs e2;rcases hq with hq |hq
   .exact .inl ⟨_,_,_,_,rfl,rfl,hq,e3,az w rv p⟩
   .exact .inr ⟨_,_,_,_,rfl,rfl,hq,e3,az w rv p⟩
  .exact p.elim
 .exact p.elim
def ixK(h:X.K=K):IxR X (λx y H Q=>vo K x y H Q\/vj K x y H Q):=by subst h;exact FD.or Jg
def catK(h:X.K=K):OpR X (binaryOp .Add) (λx y H Q=>oB x y H Q\/(kE K x y H Q\/kx K x y H Q)):=by subst h;exact HW.or (EJ.or Fl)
end
noncomputable def cA:Nat->AH->D->Option PyData
 |0,_,_=>none
 |_+1,_,.non=>some .none
 |_+1,_,.bl b=>some (.bool b)
 |_+1,_,.int i=>some (.int i)
 |_+1,_,.str x=>some (.str x)
 |k+1,h,.tup xs=>(xs.mapM (cA k h)).map .tuple
 |k+1,h,.ref n=>match aR h n with
  |some xs=>(xs.mapM (cA k h)).map .list
  |none=>none
 |_+1,_,_=>none
def o8{K:W.Frag}{mg:Qh}{ρ:List Addr}{H:Hp}{f:D->Option PyData}(hf:∀d v pd,RelD K mg ρ H d v->f d=some pd->Rep K H v pd):∀{xs:List D}{vs:List V}{ps:List PyData},RelDs K mg ρ H xs vs->xs.mapM f=some ps->Reps K H vs ps:=by
 intro xs;induction xs with
 |nil=>intro vs ps r e;cases r;have e':some []=some _:=e;cases e';exact .nil
 |
  cons x xs ih=>
  intro vs ps r e;cases r with
  |
   cons r rr=>
   rw[Pc] at e;cases q:f x with
   |none=>rw[q] at e;cases e
   |
    some pd=>
    rw[q] at e;cases q2:xs.mapM f with
    |none=>rw[q2] at e;cases e
    |some pds=>rw[q2] at e;have e':some (pd::pds)=some ps:=e;cases e';exact .cons (hf _ _ _ r q) (ih rr q2)
theorem eF{K:W.Frag}{mg:Qh}{ρ:List Addr}{H:Hp}{h:AH}(w:Wd K mg ρ h H):∀(k:Nat) {d:D}{v:V}{pd:PyData},RelD K mg ρ H d v->cA k h d=some pd->Rep K H v pd
 |0,_,_,_,_,e=>by cases e
 |
  k+1,d,v,pd,r,e=>by
  cases r with
  |non=>have e':some _=some pd:=e;cases e';exact .non
  |bl b=>have e':some _=some pd:=e;cases e';exact .bl b
  |int b=>have e':some _=some pd:=e;cases e';exact .int b
  |str b=>have e':some _=some pd:=e;cases e';exact .str b
  |
   tup q rs=>
   rename_i ds;have e':(ds.mapM (cA k h)).map PyData.tuple=some pd:=e;cases q2:ds.mapM (cA k h) with
   |none=>rw[q2] at e';cases e'
   |some ps=>rw[q2] at e';cases e';exact .tup q (o8 (λd v pd r e=>eF w k r e) rs q2)
  |
   ref ea=>
   rename_i n a;unfold cA at e;split at e
   .rename_i xs e1;obtain⟨vs,h1,h2⟩:=bo w ea e1;cases q2:xs.mapM (cA k h) with
    |none=>rw[q2] at e;cases e
    |some ps=>rw[q2] at e;cases e;exact .lst h1 (o8 (λd v pd r e=>eF w k r e) h2 q2)
   .cases e
  |_=>cases e
noncomputable def jN(h:AH)(x y:D):Option Bool:=match cA 164 h x,cA 164 h y with
 |some a,some b=>if shp a=true/\shp b=true then some (PyData.eqv a b) else none
 |_,_=>none
def gEq(o_:Bool):D->D->AH->R D:=λx y h=>match jN h x y with
 |some b=>.ok (.bl (if o_ then !b else b)) h
 |none=>.stuck
section
variable{K:W.Frag}{mg:Qh}
def vh(w:Wd K mg ρ h H)(rx:RelD K mg ρ H dx x)(ry:RelD K mg ρ H dy y)(e:jN h dx dy=some b):
 ∃a c,Rep K H x a/\Rep K H y c/\shp a=true/\shp c=true/\PyData.eqv a c=b:=by
 unfold jN at e;split at e
 .rename_i a c e1 e2;split at e
  .rename_i hs;cases e;exact⟨a,c,eF w 164 rx e1,eF w 164 ry e2,hs.1,hs.2,rfl⟩
  .cases e
 .cases e
def GF:OpD K mg (vp K) (gEq false):=λρ h H dx dy x y Q E w rx ry p=>by
 unfold gEq at p;split at p
 .rename_i b e;obtain⟨a,c,h1,h2,h3,h4,rfl⟩:=vh w rx ry e;exact⟨a,c,h1,h2,h3,h4,az w (.bl _) p⟩
 .exact p.elim
def GQ:OpD K mg (vX K) (gEq true):=λρ h H dx dy x y Q E w rx ry p=>by
 unfold gEq at p;split at p
 .rename_i b e;obtain⟨a,c,h1,h2,h3,h4,rfl⟩:=vh w rx ry e;exact⟨a,c,h1,h2,h3,h4,az w (.bl _) p⟩
 .exact p.elim
end
noncomputable def kF:D->Bool
 |.non=>true
 |.bl _=>true
 |.int _=>true
 |.str _=>true
 |_=>false
noncomputable def toV:D->V
 |.bl b=>.bl b
 |.int i=>.int i
 |.str x=>.str x
 |_=>.non
noncomputable def eqF(x y:D):Bool:=eqV (toV x) (toV y)
def gIn(o_:Bool):D->D->AH->R D:=λx y h=>match cV h y with
 |some xs=>if kF x=true/\xs.all kF=true then .ok (.bl (if o_ then !(xs.any λd=>eqF d x) else xs.any λd=>eqF d x)) h else .stuck
 |none=>.stuck
section
variable{K:W.Frag}{mg:Qh}{ρ:List Addr}{H:Hp}
def tq(r:RelD K mg ρ H d v)(f:kF d=true):v=toV d/\flatV v=true:=by
 cases r with
 |non=>exact⟨rfl,rfl⟩
 |bl=>exact⟨rfl,rfl⟩
 |int=>exact⟨rfl,rfl⟩
 |str=>exact⟨rfl,rfl⟩
 |_=>cases f
def zr:∀{ds:List D}{vs:List V},RelDs K mg ρ H ds vs->ds.all kF=true->vs=ds.map toV/\vs.all flatV=true:=by
 intro ds;induction ds with
 |nil=>intro vs r f;cases r;exact⟨rfl,rfl⟩
 |
  cons d0 ds ih=>
  intro vs r f;cases r with
  |cons r rr=>rw[ON,C_] at f;obtain⟨rfl,h1⟩:=tq r f.1;obtain⟨rfl,h2⟩:=ih rr f.2;exact⟨rfl,by rw[ON,h1,h2];rfl⟩
def xu(o_:Bool):OpD K mg (rIn K o_) (gIn o_):=λρ h H dx dy x y Q E w rx ry p=>by
 unfold gIn at p;split at p
 .rename_i xs e;split at p
  .rename_i hf;obtain⟨pa,vs,rfl,hq,rs⟩:=du w ry e;obtain⟨rfl,f1⟩:=tq rx hf.1;obtain⟨rfl,f2⟩:=zr rs hf.2;refine⟨pa,_,rfl,hq,f1,f2,?_⟩;have e2:inV (toV dx) (xs.map toV)=xs.any λd=>eqF d dx:=by unfold inV eqF;rw[List.any_map];rfl
   rw[e2];exact az w (.bl _) p
  .exact p.elim
 .exact p.elim
def jS(o_:Bool):D->D->AH->R D:=λx y h=>match x,y with
 |.non,.non=>.ok (.bl (!o_)) h
 |_,.non=>.ok (.bl o_) h
 |_,_=>.stuck
def EF:OpD K mg (λx y H Q=>y=.non/\Q (.bl (decide (x=.non))) H) (jS false):=λρ h H dx dy x y Q E w rx ry p=>by
 unfold jS at p;split at p
 .cases rx;cases ry;exact⟨rfl,az w (.bl _) p⟩
 .rename_i hne;cases ry;refine⟨rfl,?_⟩;have e:decide (x=V.non)=false:=by rw[decide_eq_false_iff_not];rintro rfl;cases rx;exact hne rfl
  rw[e];exact az w (.bl _) p
 .exact p.elim
def Ab:OpD K mg (λx y H Q=>y=.non/\Q (.bl (!decide (x=.non))) H) (jS true):=λρ h H dx dy x y Q E w rx ry p=>by
 unfold jS at p;split at p
 .cases rx;cases ry;exact⟨rfl,az w (.bl _) p⟩
 .rename_i hne;cases ry;refine⟨rfl,?_⟩;have e:decide (x=V.non)=false:=by rw[decide_eq_false_iff_not];rintro rfl;cases rx;exact hne rfl
  rw[e];exact az w (.bl _) p
 .exact p.elim
end
noncomputable def Itd(lo:Int)(n:Nat):It:=⟨λj _=>j<n,λj G v G'=>G'=G/\v=.int (lo-j),λj _=>n<=j⟩
inductive AIt where
 |lst (n:Nat) (xs:List D) |tup (xs:List D) |rng (lo:Int) (k:Nat) |rgd (lo:Int) (k:Nat) |enm (s:AIt) |zip (s t:AIt)
noncomputable def fT:Nat->List D->List D
 |_,[]=>[]
 |i,d::ds=>.tup [.int (i:Nat),d]::fT (i+1) ds
noncomputable def AIt.items:AIt->List D
 |.lst _ xs=>xs
 |.tup xs=>xs
 |.rng lo k=>(List.range k).map λi=>D.int (lo+(i:Nat))
 |.rgd lo k=>(List.range k).map λi=>D.int (lo-(i:Nat))
 |.enm s=>fT 0 s.items
 |.zip s t=>List.zipWith (λx y=>.tup [x,y]) s.items t.items
def AIt.guard:AIt->AH->Prop
 |.lst n xs,h=>aR h n=some xs
 |.enm s,h=>s.guard h
 |.zip s t,h=>s.guard h/\t.guard h
 |_,_=>True
def SrcR(K:W.Frag)(mg:Qh)(ρ:List Addr)(H:Hp):AIt->Bool->Addr->Prop
 |.lst n _,true,a=>ρ[n]?=some a
 |.tup xs,false,p=>∃vs,SqT K H p vs/\RelDs K mg ρ H xs vs
 |_,_,_=>False
def ItR(K:W.Frag)(mg:Qh)(ρ:List Addr)(H:Hp):AIt->It->Prop
 |.lst n _,J=>∃a,ρ[n]?=some a/\J=Itl K a
 |.tup xs,J=>∃p vs,SqT K H p vs/\RelDs K mg ρ H xs vs/\J=Itt K p
 |.rng lo k,J=>J=Itr lo k
 |.rgd lo k,J=>J=Itd lo k
 |.enm s,J=>∃b a,SrcR K mg ρ H s b a/\J=A9 K b a
 |.zip s t,J=>∃b c a d,SrcR K mg ρ H s b a/\SrcR K mg ρ H t c d/\J=ItZ K b c a d
theorem rY:∀{ds:List D}{k i:Nat}{e:D},(fT k ds)[i]?=some e->∃d,ds[i]?=some d/\e=.tup [.int ((k+i:Nat):Int),d]
 | [],_,_,_,q=>by simp [fT] at q
 |d::ds,k,0,e,q=>⟨d,rfl,by simpa [fT] using q.symm⟩
 |
  d::ds,k,i+1,e,q=>by
  obtain⟨d',q1,q2⟩:=rY (ds:=ds) (k:=k+1) (i:=i) (e:=e) (by simpa [fT] using q);refine⟨d',by simpa using q1,?_⟩;rw[q2];congr 4;omega
theorem rN:∀(ds:List D) (k:Nat),(fT k ds).length=ds.length
 | [],_=>rfl
 |_::ds,k=>by show (fT (k+1) ds).length+1=ds.length+1;rw[rN ds]
section
variable{K:W.Frag}{mg:Qh}{ρ ρ1:List Addr}{H H1:Hp}{h1:AH}
def SrcR.at_(r:SrcR K mg ρ H s b a)(l:Le ρ H ρ1 H1)(w:Wd K mg ρ1 h1 H1)(g:s.guard h1):∃vs,SqB K b H1 a vs/\RelDs K mg ρ1 H1 s.items vs:=by
 cases s with
 |
  lst n xs=>
  cases b with
  |true=>exact bo w (l.pre _ _ r) g
  |false=>exact r.elim
 |
  tup xs=>
  cases b with
  |true=>exact r.elim
  |false=>obtain⟨vs,q,rs⟩:=r;exact⟨vs,l.sqT q,rs.mono l⟩
 |rng _ _=>cases b <;> exact r.elim
 |rgd _ _=>cases b <;> exact r.elim
 |enm _=>cases b <;> exact r.elim
 |zip _ _=>cases b <;> exact r.elim
def ItR.nums{f:Nat->Int}{k:Nat}(w:Wd K mg ρ1 h1 H1):(∀(i:Nat) (d:D),((List.range k).map λi=>D.int (f i))[i]?=some d->i<k/\∀x H',(H'=H1/\x=V.int (f i))->Le ρ1 H1 ρ1 H'/\Wd K mg ρ1 h1 H'/\RelD K mg ρ1 H' d x)/\k<=((List.range k).map λi=>D.int (f i)).length:=by
 refine⟨λi d e=>?_,by simp⟩;rw[N4] at e;cases q:(List.range k)[i]? with
 |none=>rw[q] at e;cases e
 |some j=>rw[q] at e;have hj:=x_.mp q;have e2:=hj.2;rw[List.getElem_range] at e2;subst e2;cases e;refine⟨by simpa using hj.1,λx H' ⟨e1,e2⟩=>?_⟩;subst e1 e2;exact⟨Le.refl,w,.int _⟩
def ItR.step(hJ:ItR K mg ρ H it J)(l:Le ρ H ρ1 H1)(w:Wd K mg ρ1 h1 H1)(g:it.guard h1):
 (∀(i:Nat) (d:D),it.items[i]?=some d->J.go i H1/\∀x H',J.yld i H1 x H'->Le ρ1 H1 ρ1 H'/\Wd K mg ρ1 h1 H'/\RelD K mg ρ1 H' d x)/\J.stop it.items.length H1:=by
 cases it with
 |
  lst n xs=>
  obtain⟨a,ea,rfl⟩:=hJ;obtain⟨vs,q,rs⟩:=bo w (l.pre _ _ ea) g;refine⟨λi d e=>?_,vs,q,by rw[<- rs.len];exact z_ _⟩;obtain⟨v,ev,rv⟩:=rs.getD e;refine⟨⟨vs,v,q,ev⟩,λx H' ⟨e1,y⟩=>?_⟩;subst e1
  have:=(y vs q).symm.trans ev
  cases this;exact⟨Le.refl,w,rv⟩
 |
  tup xs=>
  obtain⟨p,vs,q,rs,rfl⟩:=hJ;have q1:=l.sqT q;have rs1:=rs.mono l;refine⟨λi d e=>?_,vs,q1,by rw[<- rs1.len];exact z_ _⟩;obtain⟨v,ev,rv⟩:=rs1.getD e;refine⟨⟨vs,v,q1,ev⟩,λx H' ⟨e1,y⟩=>?_⟩;subst e1
  have:=(y vs q1).symm.trans ev
  cases this;exact⟨Le.refl,w,rv⟩
 |rng lo k=>cases hJ;exact ItR.nums w
 |rgd lo k=>cases hJ;exact ItR.nums w
 |
  enm s=>
  obtain⟨b,a,r,rfl⟩:=hJ;obtain⟨vs,q,rs⟩:=r.at_ l w g;refine⟨λi d e=>?_,vs,q,by show vs.length=(fT 0 s.items).length;rw[rN,rs.len]⟩;obtain⟨d',q1,rfl⟩:=rY (show (fT 0 s.items)[i]?=some d from e);obtain⟨v,ev,rv⟩:=rs.getD q1;refine⟨⟨vs,v,q,ev⟩,λx H' ⟨p,u,e1,hp,e2,hu⟩=>?_⟩;subst e1 e2
  have:=(hu vs q).symm.trans ev
  cases this;rw[Nat.zero_add];exact⟨bT hp,w.tuple hp,.tup (SqT.of bD) (.cons (.int _) (.cons (rv.mono (bT hp)) .nil))⟩
 |
  zip s t=>
  obtain⟨b,c,a,d,r1,r2,rfl⟩:=hJ;obtain⟨vs,q,rs⟩:=r1.at_ l w g.1;obtain⟨us,q',rs'⟩:=r2.at_ l w g.2;refine⟨λi e ei=>?_,vs,us,q,q',?_⟩
  .have ei':(List.zipWith (λx y=>D.tup [x,y]) s.items t.items)[i]?=some e:=ei;rw[OX] at ei';cases k1:s.items[i]? with
   |none=>rw[k1] at ei';cases ei'
   |
    some d1=>
    cases k2:t.items[i]? with
    |none=>rw[k1,k2] at ei';cases ei'
    |
     some d2=>
     rw[k1,k2] at ei';cases ei';obtain⟨v,ev,rv⟩:=rs.getD k1;obtain⟨v',ev',rv'⟩:=rs'.getD k2;refine⟨⟨vs,us,v,v',q,q',ev,ev'⟩,λx H' ⟨p,u,u',e1,hp,e2,hu,hu'⟩=>?_⟩;subst e1 e2
     have:=(hu vs q).symm.trans ev
     cases this
     have:=(hu' us q').symm.trans ev'
     cases this;exact⟨bT hp,w.tuple hp,.tup (SqT.of bD) (.cons (rv.mono (bT hp)) (.cons (rv'.mono (bT hp)) .nil))⟩
  .have hl:(AIt.zip s t).items.length=min s.items.length t.items.length:=O6 ..;rw[hl,rs.len,rs'.len];rcases Nat.le_total vs.length us.length with z |z
   .left;rw[Nat.min_eq_left z];exact List.getElem?_eq_none (z_ _)
   .right;rw[Nat.min_eq_right z];exact List.getElem?_eq_none (z_ _)
end
noncomputable def SR.loop(r:SR)(f:AE->AH->SR):SR:=match r with
 |.nx ae h=>f ae h
 |.ct ae h=>f ae h
 |.bk ae h=>.nx ae h
 |.rt d h=>.rt d h
 |.exc c ae h=>.exc c ae h
 |.stuck=>.stuck
open Classical in
def jx(G:AH->Prop)(g:MG)(B:MS):List D->MS
 | [],ae,h=>if G h then .nx ae h else .stuck
 |d::ds,ae,h=>if G h then (g d ae h).toS ae λae1 h1=>(B ae1 h1).loop (jx G g B ds) else .stuck
abbrev MI:=AE->AH->R AIt
def As(I:MI)(g:MG)(B:MS):MS:=λae h=>(I ae h).toS ae λit h1=>jx it.guard g B it.items ae h1
open Classical in
def lcL(G:AH->Prop)(g:MG)(c:MT)(F:ME):List D->List D->AE->AH->R (List D)
 | [],acc,_,h=>if G h then .ok acc h else .stuck
 |d::ds,acc,ae,h=>if G h/\acc.length<16777216 then (g d ae h).bind λae1 h1=>(c ae1 h1).bind λb h2=>if b=true then (F ae1 h2).bind λy h3=>lcL G g c F ds (acc++[y]) ae1 h3 else lcL G g c F ds acc ae1 h2 else .stuck
noncomputable def jv(sub:Qk)(ae:AE):AE:=sub.map λo=>o.bind λi=>(ae[i]?).bind id
def eLC(I:MI)(sub:Qk)(g:MG)(c:MT)(F:ME):ME:=λae h=>(I ae h).bind λit h1=>(noX (lcL it.guard g c F it.items [] (jv sub ae) h1)).bind cQ
noncomputable def tY:MT:=λ_ h=>.ok true h
section
variable(K:W.Frag)(mg:Qh)
def rdI(ES:St->XK)(F:MI):TI:=λσ H R'=>∃ρ h ae,Wd K mg ρ h H/\RelE K mg ρ H ae σ/\PostG K mg ρ H (ES σ) (λit _ ρ' H'=>∀J,ItR K mg ρ' H' it J->R' J H') (F ae h)
def DI(X:Cx)(ES:St->XK)(tg a_:Expr)(F:MI):Prop:=PI X tg a_ (rdI K mg ES F)
end
noncomputable def Bm(F:ME):MI:=λae h=>(F ae h).bind λd h1=>match d with
 |.tup xs=>.ok (.tup xs) h1
 |.ref n=>match aR h1 n with
  |some xs=>.ok (.lst n xs) h1
  |none=>.stuck
 |_=>.stuck
noncomputable def BQ(A:MA):MI:=λae h=>(A ae h).bind λds h1=>match ds with
 | [.int j]=>if -(2^62)<=j/\j<2^62 then .ok (.rng 0 j.toNat) h1 else .stuck
 |_=>.stuck
noncomputable def AR(A:MA):MI:=λae h=>(A ae h).bind λds h1=>match ds with
 | [.int i,.int j]=>if -(2^62)<=i/\i<2^62/\-(2^62)<=j/\j<2^62 then .ok (.rng i (j-i).toNat) h1 else .stuck
 |_=>.stuck
noncomputable def fL(d:D)(h:AH):Option AIt:=match d with
 |.tup xs=>some (.tup xs)
 |.ref n=>(aR h n).map (.lst n)
 |_=>none
def Bq(A:MA):MI:=λae h=>(A ae h).bind λds h1=>match ds with
 | [d]=>(match fL d h1 with
  |some s=>.ok (.enm s) h1
  |none=>.stuck)
 |_=>.stuck
noncomputable def BU(A:MA):MI:=λae h=>(A ae h).bind λds h1=>match ds with
 | [d,e]=>(match fL d h1,fL e h1 with
  |some s,some t=>.ok (.zip s t) h1
  |_,_=>.stuck)
 |_=>.stuck
section
variable{K:W.Frag}{mg:Qh}{X:Cx}{ES:St->XK}{tg a_ e a b c k_:Expr}{F:ME}{A:MA}{I:MI}{g:MG}{cf:MT}{U:MS}{sts:List Stmt}{pos:Pos}
def PI.imp(h:PI X tg a_ t)(k:∀σ H Q,t' σ H Q->t σ H Q):PI X tg a_ t':=λpins s σ H Q I w=>h pins s σ H Q I (k σ H Q w)
def GL(hl:PE X l tl):PI X tg l (λσ H R=>tl σ H λx H1=>(∃a,x=.ref a/\(∃xs,SqL X.K H1 a xs)/\R (Itl X.K a) H1)\/(∃a,x=.ref a/\(∃xs,SqT X.K H1 a xs)/\R (Itt X.K a) H1)):=by
 intro pins s σ H R I h;refine thn (hl pins s σ H _ I h) λv s1 ⟨x,H1,I1,r1,q1⟩=>?_;rcases q1 with ⟨a,e,⟨xs,hq⟩,q⟩ |⟨a,e,⟨xs,hq⟩,q⟩
 .subst e;cases r1;obtain⟨its,rv,p,hz⟩:=I1.list hq;refine wpAny_pyIter_list p.isList ?_;refine⟨s1.heap.objs.size,[s1.heap.objs.size],_,_,H1,rfl,I1.kept (t':=s1.toks) λb o e=>B_ _ e,yB a _,⟨_,NW _ rfl,rfl,rfl⟩,λb hb=>?_,q⟩;have e:b=s1.heap.objs.size:=by simpa using hb
  subst e;exact I1.fpOk (z_ _) (I1.hok.fresh (z_ _))
 .subst e;cases r1;obtain⟨its,rv,p,hz⟩:=I1.tuple hq;refine PH (show s1.heap.IsTuple a its.toArray from p) ?_;refine⟨s1.heap.objs.size,[s1.heap.objs.size],_,_,H1,rfl,I1.kept (t':=s1.toks) λb o e=>B_ _ e,vn a _,⟨_,NW _ rfl,rfl,rfl⟩,λb hb=>?_,q⟩;have e:b=s1.heap.objs.size:=by simpa using hb
  subst e;exact I1.fpOk (z_ _) (I1.hok.fresh (z_ _))
def J8(hK:X.K=K)(he:DE K mg X ES e F):DI K mg X ES tg e (Bm F):=by
 subst hK;refine PI.imp (GL he) λσ H R ⟨ρ,h,ae,w,re,p⟩=>⟨ρ,h,ae,w,re,p.bind.imp λd h1 ρ1 H1 l1 w1 p1 v rv=>?_⟩;cases rv with
 |tup q rs=>exact .inr ⟨_,rfl,⟨_,q⟩,p1 ρ1 H1 Le.refl w1 _ ⟨_,_,q,rs,rfl⟩⟩
 |
  ref ea=>
  dsimp only at p1;split at p1
  .rename_i xs e1;obtain⟨vs,q,rs⟩:=bo w1 ea e1;exact .inl ⟨_,rfl,⟨_,q⟩,p1 ρ1 H1 Le.refl w1 _ ⟨_,ea,rfl⟩⟩
  .exact p1.elim
 |_=>exact p1.elim
def xQ(hg:Gl X "range")(hm:mg "range"=none)(ha:DA K mg X ES [a] A)(hk:X.mg=mg)(hs:starEach [a] X.env=[(false,eval a X.env)]):DI K mg X ES tg (.Call (.Name "range" p) [a] [] pos) (BQ A):=by
 subst hk;refine PI.imp (zE hg hm ha hs) λσ H R ⟨ρ,h,ae,w,re,p⟩=>⟨ρ,h,ae,w,re,p.bind.imp λds h1 ρ1 H1 l1 w1 p1 vs rs=>?_⟩;split at p1
 .cases rs with
  |
   cons r rs=>
   cases r;cases rs;split at p1
   .rename_i hb;exact⟨_,rfl,hb.1,hb.2,p1 ρ1 H1 Le.refl w1 _ rfl⟩
   .exact p1.elim
 .exact p1.elim
def yd(hg:Gl X "range")(hm:mg "range"=none)(ha:DA K mg X ES [a,b] A)(hk:X.mg=mg)(hs:starEach [a,b] X.env=[(false,eval a X.env),(false,eval b X.env)])(hs2:starEach [b] X.env=[(false,eval b X.env)]):DI K mg X ES tg (.Call (.Name "range" p) [a,b] [] pos) (AR A):=by
 subst hk;refine PI.imp (ym hg hm ha hs hs2) λσ H R ⟨ρ,h,ae,w,re,p⟩=>⟨ρ,h,ae,w,re,p.bind.imp λds h1 ρ1 H1 l1 w1 p1 vs rs=>?_⟩;split at p1
 .cases
   rs with
  |
   cons r rs=>
   cases rs with
   |
    cons r2 rs=>
    cases r;cases r2;cases rs;split at p1
    .rename_i hb;exact⟨_,_,rfl,hb,p1 ρ1 H1 Le.refl w1 _ rfl⟩
    .exact p1.elim
 .exact p1.elim
def jQ(w:Wd K mg ρ h H)(r:RelD K mg ρ H d v)(q:fL d h=some s):∃b p,v=.ref p/\SrcR K mg ρ H s b p/\∃vs,SqB K b H p vs:=by
 cases r with
 |tup hq rs=>cases q;exact⟨false,_,rfl,⟨_,hq,rs⟩,_,hq⟩
 |ref ea=>obtain⟨xs,q1,rfl⟩:=N0.mp q;obtain⟨vs,h1,h2⟩:=bo w ea q1;exact⟨true,_,rfl,ea,vs,h1⟩
 |_=>cases q
def DY(hK:X.K=K)(hg:Gl X "enumerate")(hm:mg "enumerate"=none)(ha:DA K mg X ES [a] A)(hk:X.mg=mg)(hs:starEach [a] X.env=[(false,eval a X.env)]):DI K mg X ES (.Tuple elts x1 tp) (.Call (.Name "enumerate" p) [a] [] pos) (Bq A):=by
 subst hk hK;refine PI.imp (Dt hg hm ha hs) λσ H R ⟨ρ,h,ae,w,re,p⟩=>⟨ρ,h,ae,w,re,p.bind.imp λds h1 ρ1 H1 l1 w1 p1 vs rs=>?_⟩;split at p1
 .cases rs with
  |
   cons r rs=>
   cases rs;split at p1
   .rename_i s q;obtain⟨b,pa,rfl,sr,xs,hx⟩:=jQ w1 r q;exact⟨b,pa,xs,rfl,hx,p1 ρ1 H1 Le.refl w1 _ ⟨b,pa,sr,rfl⟩⟩
   .exact p1.elim
 .exact p1.elim
def Kq(hK:X.K=K)(hg:Gl X "zip")(hm:mg "zip"=none)(ha:DA K mg X ES [a,b] A)(hk:X.mg=mg)(hs:starEach [a,b] X.env=[(false,eval a X.env),(false,eval b X.env)])(hs2:starEach [b] X.env=[(false,eval b X.env)]):DI K mg X ES (.Tuple elts x1 tp) (.Call (.Name "zip" p) [a,b] [] pos) (BU A):=by
 subst hk hK;refine PI.imp (Kz hg hm ha hs hs2) λσ H R ⟨ρ,h,ae,w,re,p⟩=>⟨ρ,h,ae,w,re,p.bind.imp λds h1 ρ1 H1 l1 w1 p1 vs rs=>?_⟩;split at p1
 .cases
   rs with
  |
   cons r rs=>
   cases rs with
   |
    cons r' rs=>
    cases rs;split at p1
    .rename_i s t q q';obtain⟨b,pa,rfl,sr,xs,hx⟩:=jQ w1 r q;obtain⟨c,pd,rfl,sr',ys,hy⟩:=jQ w1 r' q';exact⟨b,c,pa,pd,xs,ys,rfl,hx,hy,p1 ρ1 H1 Le.refl w1 _ ⟨b,c,pa,pd,sr,sr',rfl⟩⟩
    .exact p1.elim
 .exact p1.elim
def qZ(p:PostS K mg ρ H De ES (r.loop f))(i:∀ae1 h1 ρ1 H1 σ1,Le ρ H ρ1 H1->Wd K mg ρ1 h1 H1->RelE K mg ρ1 H1 ae1 σ1->PostS K mg ρ1 H1 De ES (f ae1 h1)->N σ1 H1):
 PostS K mg ρ H { De with nx:=N,ct:=N,bk:=De.nx } ES r:=by
 cases r with
 |nx ae1 h1=>exact λρ1 H1 σ1 l1 w1 re1=>i ae1 h1 ρ1 H1 σ1 l1 w1 re1 (PostS.mono l1 p)
 |rt d h1=>exact p
 |bk ae1 h1=>exact p
 |ct ae1 h1=>exact λρ1 H1 σ1 l1 w1 re1=>i ae1 h1 ρ1 H1 σ1 l1 w1 re1 (PostS.mono l1 p)
 |exc c ae1 h1=>exact p
 |stuck=>exact p
def IM(hp:PassesOwn (model X.prog X.w) X.A X.env X.xe)(hc:X.calm=true)(hi:DI K mg X ES tg a_ I)(hg:DG K mg X ES tg g)(hb:DSs K mg X ES sts U)
 (hs:∀x,foldedSetIterable a_ X.env x=pure x):DS K mg X ES (.For tg a_ sts [] pos) (As I g U):=by
 refine PS.imp (Hn hp hc hi hg hb hs) λDe σ H q_=>q_.el λρ h ae w re p=>⟨ρ,h,ae,w,re,bO p re λit h1 ρ1 H1 l1 w1 re1 p1 J hJ=>?_⟩;refine⟨λi m σ2 H2=>m=it.items.length-i/\i<=it.items.length/\∃ρ2 h2 ae2,Le ρ1 H1 ρ2 H2/\Wd K mg ρ2 h2 H2/\RelE K mg ρ2 H2 ae2 σ2/\PostS K mg ρ2 H2 De ES (jx it.guard g U (it.items.drop i) ae2 h2),⟨_,rfl,Oa _,ρ1,h1,ae,Le.refl,w1,re1,p1⟩,?_⟩;rintro i m σ2 H2 ⟨rfl,hi',ρ2,h2,ae2,l2,w2,re2,p2⟩;by_cases hlt:i<it.items.length
 .have hd:it.items.drop i=it.items[i]::it.items.drop (i+1):=List.drop_eq_getElem_cons hlt;rw[hd] at p2;unfold jx at p2;split at p2
  .rename_i hG;obtain⟨st,_⟩:=hJ.step l2 w2 hG;obtain⟨go,yl⟩:=st i it.items[i] (M_ hlt);refine .inr ⟨go,λσ' H'=>∃ρ3 h3 ae3,Le ρ1 H1 ρ3 H'/\Wd K mg ρ3 h3 H'/\RelE K mg ρ3 H' ae3 σ'/\PostS K mg ρ3 H' De ES (jx it.guard g U (it.items.drop (i+1)) ae3 h3),
    λσ' H' ⟨ρ3,h3,ae3,q⟩=>⟨_,by omega,rfl,hlt,ρ3,h3,ae3,q⟩,λx H' hy=>?_⟩
   obtain⟨ly,wy,rx⟩:=yl x H' hy;refine⟨ρ2,h2,ae2,_,wy,re2.mono ly,rx,bO (PostS.mono ly p2) (re2.mono ly) λae3 h3 ρ3 H3 l3 w3 re3 p3 σ' re'=>⟨ρ3,h3,ae3,w3,re',qZ p3 λae4 h4 ρ4 H4 σ4 l4 w4 re4 p4=>⟨ρ4,h4,ae4,((l2.trans ly).trans l3).trans l4,w4,re4,p4⟩⟩⟩
  .exact p2.elim
 .have hi2:i=it.items.length:=by omega
  subst hi2;rw[List.drop_length] at p2;unfold jx at p2;split at p2
  .rename_i hG;exact .inl ⟨(hJ.step l2 w2 hG).2,gb p2 w2 re2⟩
  .exact p2.elim
def Bo(re:RelE K mg ρ H ae σ)(sub:Qk):RelE K mg ρ H (jv sub ae) (fM sub σ):=by
 unfold jv fM;refine⟨by rw[w_,w_],λj d e=>?_⟩;rw[N4] at e ⊢;cases q:sub[j]? with
 |none=>rw[q] at e;cases e
 |
  some o=>
  rw[q] at e;cases o with
  |none=>cases e
  |
   some i=>
   have e':(ae[i]?).bind id=some d:=NV e;cases q2:ae[i]? with
   |none=>rw[q2] at e';cases e'
   |some z=>rw[q2] at e';have e3:z=some d:=e';subst e3;obtain⟨v,h1,h2⟩:=re.at_ i d q2;refine⟨v,?_,h2⟩;show some ((σ[i]?).bind id)=some (some v);rw[h1];rfl
def lB(p:PostG K mg ρ H E k ((noX (r.bind f)).bind m)):
 PostG K mg ρ H E0 (λa h1 ρ' H'=>PostG K mg ρ' H' E k ((noX (f a h1)).bind m)) r:=by
 cases r with
 |ok a h1=>exact λρ1 H1 l1 w1=>PostG.mono l1 p
 |exc c h1=>exact p.elim
 |stuck=>exact p.elim
def vL(σ:St)(H:Hp)(Q:VK)(q:rdE K mg ES (eLC I sub g cf F) σ H Q):hE (rdI K mg ES I) sub (rdG K mg (λ_=>E0) g) (rdT K mg (λ_=>E0) cf) (rdE K mg (λ_=>E0) F) σ H Q:=by
 obtain⟨ρ,h,ae,w,re,p⟩:=q;refine⟨ρ,h,ae,w,re,p.bind.imp λit h1 ρ1 H1 l1 w1 p1 J hJ=>?_⟩;have re1:=Bo (re.mono l1) sub;refine⟨λi m ys σ2 H2=>m=it.items.length-i/\i<=it.items.length/\∃ρ2 h2 ae2 acc,Le ρ1 H1 ρ2 H2/\Wd K mg ρ2 h2 H2/\RelE K mg ρ2 H2 ae2 σ2/\RelDs K mg ρ2 H2 acc ys/\
  PostG K mg ρ2 H2 (ES σ) (λd _ ρ' H'=>∀v,RelD K mg ρ' H' d v->Q v H') ((noX (lcL it.guard g cf F (it.items.drop i) acc ae2 h2)).bind cQ),
  ⟨_,rfl,Oa _,ρ1,h1,jv sub ae,[],Le.refl,w1,re1,.nil,p1⟩,?_⟩
 rintro i m ys σ2 H2 ⟨rfl,hi',ρ2,h2,ae2,acc,l2,w2,re2,rs,p2⟩;by_cases hlt:i<it.items.length
 .have hd:it.items.drop i=it.items[i]::it.items.drop (i+1):=List.drop_eq_getElem_cons hlt;rw[hd] at p2;unfold lcL at p2;split at p2
  .rename_i hG;obtain⟨st,_⟩:=hJ.step l2 w2 hG.1;obtain⟨go,yl⟩:=st i it.items[i] (M_ hlt);refine .inr ⟨go,by rw[<- rs.len];exact hG.2,λys' σ' H'=>∃ρ3 h3 ae3 acc3,Le ρ1 H1 ρ3 H'/\Wd K mg ρ3 h3 H'/\RelE K mg ρ3 H' ae3 σ'/\RelDs K mg ρ3 H' acc3 ys'/\
    PostG K mg ρ3 H' (ES σ) (λd _ ρ' H'=>∀v,RelD K mg ρ' H' d v->Q v H') ((noX (lcL it.guard g cf F (it.items.drop (i+1)) acc3 ae3 h3)).bind cQ),
    λys' σ' H' ⟨ρ3,h3,ae3,acc3,q⟩=>⟨_,by omega,rfl,hlt,ρ3,h3,ae3,acc3,q⟩,λx H' hy=>?_⟩
   obtain⟨ly,wy,rx⟩:=yl x H' hy;refine⟨ρ2,h2,ae2,_,wy,re2.mono ly,rx,(lB (PostG.mono ly p2)).imp λae3 h3 ρ3 H3 l3 w3 p3 σ3 re3=>⟨ρ3,h3,ae3,w3,re3,(lB p3).imp λb h4 ρ4 H4 l4 w4 p4=>?_⟩⟩;cases b with
   |true=>exact⟨ρ4,h4,ae3,w4,re3.mono l4,(lB p4).imp λy h5 ρ5 H5 l5 w5 p5 v rv=>⟨ρ5,h5,ae3,acc++[y],(((l2.trans ly).trans l3).trans l4).trans l5,w5,(re3.mono l4).mono l5,((((rs.mono ly).mono l3).mono l4).mono l5).append (.cons rv .nil),p5⟩⟩
   |false=>exact⟨ρ4,h4,ae3,acc,((l2.trans ly).trans l3).trans l4,w4,re3.mono l4,((rs.mono ly).mono l3).mono l4,p4⟩
  .exact p2.elim
 .have hi2:i=it.items.length:=by omega
  subst hi2;rw[List.drop_length] at p2;unfold lcL at p2;split at p2
  .rename_i hG;refine .inl ⟨(hJ.step l2 w2 hG).2,?_⟩;have p3:PostG K mg ρ2 H2 (ES σ) (λd _ ρ' H'=>∀v,RelD K mg ρ' H' d v->Q v H') (cQ acc h2):=p2;unfold cQ at p3;split at p3
   .rename_i hl;exact⟨by rw[<- rs.len];exact hl,λq hq=>dJ w2 rs hq p3⟩
   .exact p3.elim
  .exact p2.elim
def Nk(M:List Str)(kn:List (Str×NameKind))(N:List Str)(sub:Qk)
 (hc:X.calm=true) (hi:DI K mg X ES tg a_ I)
 (hg:∀cl C s₂ H fp,DG K mg (aC X N scope cl C s₂ H fp) (λ_=>E0) tg g) (he:∀cl C s₂ H fp,DE K mg (aC X N scope cl C s₂ H fp) (λ_=>E0) k_ F)
 (hM:X.N=M) (hkn:X.env.scope.names=kn) (f_:dE M scope.names sub N=true)
 (hk:scope.kind=.function) (t_:∀x∈scope.names,x.2 ≠ .cell) (b_:∀x∈scope.names,x.2=.local->scope.names.lookup x.1=some .local)
 (p_:fb kn scope.names=true)
 (u_:sub.length=N.length) (hs:∀x,foldedSetIterable a_ X.env x=pure x):
 DE K mg X ES (.ListComp k_ [⟨tg,a_,[],0⟩] scope pos) (eLC I sub g tY F):=
 PE.imp (Mh M kn N sub hc hi hg he hM hkn f_ hk t_ b_ p_ u_ hs) λσ H Q q=>by
  have:=vL (cf:=tY) σ H Q q
  obtain⟨ρ,h,ae,w,re,p⟩:=this;refine⟨ρ,h,ae,w,re,p.imp λit h1 ρ1 H1 l1 w1 k J hJ=>?_⟩;obtain⟨W,w0,tn⟩:=k J hJ;refine⟨W,w0,λi m ys σ2 H2 hW=>?_⟩;rcases tn i m ys σ2 H2 hW with z |⟨go,hl,Nx,hN,st⟩
  .exact .inl z
  .refine .inr ⟨go,hl,Nx,hN,λx H' hy=>?_⟩;obtain⟨ρ3,h3,ae3,d3,w3,re3,rd3,p3⟩:=st x H' hy;refine⟨ρ3,h3,ae3,d3,w3,re3,rd3,p3.imp λae4 h4 ρ4 H4 l4 w4 k4 σ4 re4=>?_⟩;obtain⟨ρ5,h5,ae5,w5,re5,p5⟩:=k4 σ4 re4;exact p5 ρ5 _ Le.refl w5
def FO(M:List Str)(kn:List (Str×NameKind))(N:List Str)(sub:Qk)
 (hc:X.calm=true) (hi:DI K mg X ES tg a_ I)
 (hg:∀cl C s₂ H fp,DG K mg (aC X N scope cl C s₂ H fp) (λ_=>E0) tg g) (ht:∀cl C s₂ H fp,DT K mg (aC X N scope cl C s₂ H fp) (λ_=>E0) c cf) (he:∀cl C s₂ H fp,DE K mg (aC X N scope cl C s₂ H fp) (λ_=>E0) k_ F)
 (hM:X.N=M) (hkn:X.env.scope.names=kn) (f_:dE M scope.names sub N=true)
 (hk:scope.kind=.function) (t_:∀x∈scope.names,x.2 ≠ .cell) (b_:∀x∈scope.names,x.2=.local->scope.names.lookup x.1=some .local)
 (p_:fb kn scope.names=true)
 (u_:sub.length=N.length) (hs:∀x,foldedSetIterable a_ X.env x=pure x):
 DE K mg X ES (.ListComp k_ [⟨tg,a_,[c],0⟩] scope pos) (eLC I sub g cf F):=
 PE.imp (DJ M kn N sub hc hi hg ht he hM hkn f_ hk t_ b_ p_ u_ hs) λσ H Q q=>vL σ H Q q
def Ie(σ:St)(H:Hp)(Q:VK)(q:rdE K mg ES (eLC I sub g tY F) σ H Q):hE (rdI K mg ES I) sub (rdG K mg (λ_=>E0) g) zZ (rdE K mg (λ_=>E0) F) σ H Q:=by
 have:=vL (cf:=tY) σ H Q q
 obtain⟨ρ,h,ae,w,re,p⟩:=this;refine⟨ρ,h,ae,w,re,p.imp λit h1 ρ1 H1 l1 w1 k J hJ=>?_⟩;obtain⟨W,w0,tn⟩:=k J hJ;refine⟨W,w0,λi m ys σ2 H2 hW=>?_⟩;rcases tn i m ys σ2 H2 hW with z |⟨go,hl,Nx,hN,st⟩
 .exact .inl z
 .refine .inr ⟨go,hl,Nx,hN,λx H' hy=>?_⟩;obtain⟨ρ3,h3,ae3,d3,w3,re3,rd3,p3⟩:=st x H' hy;refine⟨ρ3,h3,ae3,d3,w3,re3,rd3,p3.imp λae4 h4 ρ4 H4 l4 w4 k4 σ4 re4=>?_⟩;obtain⟨ρ5,h5,ae5,w5,re5,p5⟩:=k4 σ4 re4;exact p5 ρ5 _ Le.refl w5
def Fi(ht:∀σ H Q,rdE K mg ES F σ H Q->t σ H Q)(De:Ends)(σ:St)(H:Hp)(q:rdS K mg ES (fk F (gN i)) De σ H):tf t (mO i) De σ H:=by obtain⟨ρ,h,ae,w,re,p⟩:=q;exact ht σ H _ ⟨ρ,h,ae,w,re,bO p re λd h1 ρ1 H1 l1 w1 re1 p1 v rv=>gb p1 w1 (re1.set i rv)⟩
def Nn(M:List Str)(kn:List (Str×NameKind))(N:List Str)(sub:Qk)
 (hc:X.calm=true) (hN:X.N.Nodup) (hix:X.N[iT]?=some xT) (hxl:Loc X.env.scope xT) (hi:DI K mg X ES tg a_ I)
 (hg:∀cl C s₂ H fp,DG K mg (aC X N scope cl C s₂ H fp) (λ_=>E0) tg g) (he:∀cl C s₂ H fp,DE K mg (aC X N scope cl C s₂ H fp) (λ_=>E0) k_ F)
 (hsw:swapsWith (.ListComp k_ [⟨tg,a_,[],0⟩] scope pos) (some (.Name xT px)) spos.line X.env=pure true)
 (hM:X.N=M) (hkn:X.env.scope.names=kn) (f_:dE M scope.names sub N=true)
 (hk:scope.kind=.function) (t_:∀x∈scope.names,x.2 ≠ .cell) (b_:∀x∈scope.names,x.2=.local->scope.names.lookup x.1=some .local)
 (p_:fb kn scope.names=true)
 (u_:sub.length=N.length) (hs:∀x,foldedSetIterable a_ X.env x=pure x) (hf:X.fn xT=true\/X.env.scope.names.lookup xT=some .local):
 DS K mg X ES (.Assign [.Name xT px] (.ListComp k_ [⟨tg,a_,[],0⟩] scope pos) spos) (fk (eLC I sub g tY F) (gN iT)):=
 PS.imp (Lc M kn N sub hc hN hix hxl hi hg he hsw hM hkn f_ hk t_ b_ p_ u_ hs hf) (Fi Ie)
end
noncomputable def whN(c:MT)(B:MS):Nat->MS
 |0,_,_=>.stuck
 |k+1,ae,h=>(c ae h).toS ae λb h1=>if b=true then (B ae h1).loop (whN c B k) else .nx ae h1
open Classical in
def sWh(c:MT)(B:MS):MS:=λae h=>if q:∃k,whN c B k ae h ≠ .stuck then whN c B q.choose ae h else .stuck
theorem lz:∀{k:Nat}{ae:AE}{h:AH},whN c B k ae h ≠ .stuck->whN c B (k+1) ae h=whN c B k ae h
 |0,_,_,q=>absurd rfl q
 |
  k+1,ae,h,q=>by
  have e1:whN c B (k+2) ae h=(c ae h).toS ae λb h1=>if b=true then (B ae h1).loop (whN c B (k+1)) else .nx ae h1:=rfl
  have e2:whN c B (k+1) ae h=(c ae h).toS ae λb h1=>if b=true then (B ae h1).loop (whN c B k) else .nx ae h1:=rfl
  rw[e2] at q;rw[e1,e2];cases r:c ae h with
  |exc _ _=>rfl
  |stuck=>rfl
  |
   ok b h1=>
   rw[r] at q;cases b with
   |false=>rfl
   |
    true=>
    have q':(B ae h1).loop (whN c B k) ≠ .stuck:=q;show (B ae h1).loop (whN c B (k+1))=(B ae h1).loop (whN c B k);cases s:B ae h1 with
    |nx a2 h2=>rw[s] at q';exact lz q'
    |ct a2 h2=>rw[s] at q';exact lz q'
    |_=>rfl
def ze(q:whN c B k ae h ≠ .stuck)(hj:k<=j):whN c B j ae h=whN c B k ae h:=by
 induction hj with
 |refl=>rfl
 |step _ ih=>rw[lz (by rw[ih];exact q),ih]
def zj(q:whN c B k ae h ≠ .stuck):sWh c B ae h=whN c B k ae h:=by
 have hq:∃k,whN c B k ae h ≠ .stuck:=⟨k,q⟩;unfold sWh;rw[dif_pos hq];rcases Nat.le_total hq.choose k with z |z
 .exact (ze hq.choose_spec z).symm
 .exact ze q z
section
variable{K:W.Frag}{mg:Qh}{X:Cx}{ES:St->XK}{c:Expr}{cf:MT}{U:MS}{sts:List Stmt}{pos:Pos}
def B8(hp:PassesOwn (model X.prog X.w) X.A X.env X.xe)(hc:DT K mg X ES c cf)(hb:DSs K mg X ES sts U):DS K mg X ES (.While c sts [] pos) (sWh cf U):=by
 refine PS.imp (Az hp hc hb) λDe σ H q_=>q_.el λρ h ae w re p=>?_;have hx:∃k,whN cf U k ae h ≠ .stuck:=Pp λz=>by unfold sWh at p;rw[dif_neg z] at p;exact p.elim
 obtain⟨k,hk⟩:=hx;rw[zj hk] at p;refine⟨λm σ2 H2=>∃ρ2 h2 ae2,Wd K mg ρ2 h2 H2/\RelE K mg ρ2 H2 ae2 σ2/\PostS K mg ρ2 H2 De ES (whN cf U m ae2 h2),⟨k,ρ,h,ae,w,re,p⟩,?_⟩;rintro m σ2 H2 ⟨ρ2,h2,ae2,w2,re2,p2⟩;cases m with
 |zero=>exact p2.elim
 |
  succ m=>
  refine⟨ρ2,h2,ae2,w2,re2,bO p2 re2 λb h3 ρ3 H3 l3 w3 re3 p3=>?_⟩;cases b with
  |true=>exact⟨λσ' H'=>∃ρ4 h4 ae4,Wd K mg ρ4 h4 H'/\RelE K mg ρ4 H' ae4 σ'/\PostS K mg ρ4 H' De ES (whN cf U m ae4 h4),λσ' H' q=>⟨m,Nat.lt_succ_self _,q⟩,ρ3,h3,ae2,w3,re3,qZ p3 λae4 h4 ρ4 H4 σ4 l4 w4 re4 p4=>⟨ρ4,h4,ae4,w4,re4,p4⟩⟩
  |false=>exact gb p3 w3 re3
end
noncomputable def rP:Fn:=λds h=>match ds with
 | [d]=>match cV h d with
  |some xs=>.ok (.int xs.length) h
  |none=>match d with
   |.str z=>if z.length<=16777216 then .ok (.int z.length) h else .stuck
   |_=>.stuck
 |_=>.stuck
noncomputable def wZ:Fn:=λds h=>match ds with
 | [.int i]=>.ok (.int (if i<0 then -i else i)) h
 |_=>.stuck
noncomputable def p9:Fn:=λds h=>match ds with
 | [.int i,.int j]=>.ok (.int (if j<i then j else i)) h
 |_=>.stuck
noncomputable def gZ:List D->Option (List Bool)
 | []=>some []
 |.bl b::r=>(gZ r).map (b :: ·)
 |_=>none
noncomputable def fQ:List D->Option (List Int)
 | []=>some []
 |.int b::r=>(fQ r).map (b :: ·)
 |_=>none
theorem sQ:∀{ds:List D}{bs:List Bool},gZ ds=some bs->ds=bs.map D.bl
 | [],bs,e=>by cases e;rfl
 |
  .bl b::r,bs,e=>by
  have e':(gZ r).map (b :: ·)=some bs:=e;cases q:gZ r with
  |none=>rw[q] at e';cases e'
  |some z=>rw[q] at e';cases e';rw[sQ q];rfl
theorem pw:∀{ds:List D}{bs:List Int},fQ ds=some bs->ds=bs.map D.int
 | [],bs,e=>by cases e;rfl
 |
  .int b::r,bs,e=>by
  have e':(fQ r).map (b :: ·)=some bs:=e;cases q:fQ r with
  |none=>rw[q] at e';cases e'
  |some z=>rw[q] at e';cases e';rw[pw q];rfl
noncomputable def rA:Fn:=λds h=>match ds with
 | [.ref n]=>match (aR h n).bind gZ with
  |some bs=>.ok (.bl (bs.all id)) h
  |none=>.stuck
 |_=>.stuck
noncomputable def rH:Fn:=λds h=>match ds with
 | [.ref n]=>match (aR h n).bind fQ with
  |some ns=>.ok (.int ns.sum) h
  |none=>.stuck
 |_=>.stuck
noncomputable def mZ:Fn:=λds h=>match ds with
 | [d]=>match cV h d with
  |some xs=>.ok (.ref h.length) (h++[.lst xs])
  |none=>.stuck
 |_=>.stuck
def j0:Fn:=λds h=>match ds with
 | [d]=>match cV h d with
  |some xs=>.ok (.tup xs) h
  |none=>.stuck
 |_=>.stuck
noncomputable def wm:Fn:=λds h=>match ds with
 | [.int i]=>.ok (.int i) h
 | [.bl b]=>.ok (.int (if b then 1 else 0)) h
 |_=>.stuck
section
variable{K:W.Frag}{mg:Qh}{X:Cx}
def Hq:bq K mg (λxs H Q=>(∃p ys,xs=[.ref p]/\(SqL K H p ys\/SqT K H p ys)/\Q (.int ys.length) H)\/(∃z,xs=[.str z]/\z.length<=sizeLine/\Q (.int z.length) H)) rP:=λρ h H ds vs Q E w rs p=>by
 unfold rP at p;split at p
 .cases
   rs with
  |
   cons r rs=>
   cases rs;split at p
   .rename_i xs e;obtain⟨pa,vs,rfl,hq,rs⟩:=du w r e;exact .inl ⟨_,_,rfl,hq,by rw[<- rs.len];exact az w (.int _) p⟩
   .split at p
    .cases r;split at p
     .rename_i hl;exact .inr ⟨_,rfl,hl,az w (.int _) p⟩
     .exact p.elim
    .exact p.elim
 .exact p.elim
def Ng(h:X.K=K):CallR X (.builtin "len") (λxs H Q=>(∃p ys,xs=[.ref p]/\(SqL K H p ys\/SqT K H p ys)/\Q (.int ys.length) H)\/(∃z,xs=[.str z]/\z.length<=sizeLine/\Q (.int z.length) H)):=by subst h;exact qK.or qF
def GH:bq K mg (λxs H Q=>∃i,xs=[.int i]/\Q (.int (if i<0 then -i else i)) H) wZ:=λρ h H ds vs Q E w rs p=>by
 unfold wZ at p;split at p
 .cases rs with
  |cons r rs=>cases r;cases rs;exact⟨_,rfl,az w (.int _) p⟩
 .exact p.elim
def EO:bq K mg (λxs H Q=>∃i j,xs=[.int i,.int j]/\Q (.int (if j<i then j else i)) H) p9:=λρ h H ds vs Q E w rs p=>by
 unfold p9 at p;split at p
 .cases rs with
  |cons r rs=>cases rs with |cons r2 rs=>cases r;cases r2;cases rs;exact⟨_,_,rfl,az w (.int _) p⟩
 .exact p.elim
def Iv:bq K mg (λxs H Q=>∃(a:Addr) (bs:List Bool),xs=[.ref a]/\SqL K H a (bs.map V.bl)/\Q (.bl (bs.all id)) H) rA:=λρ h H ds vs Q E w rs p=>by
 unfold rA at p;split at p
 .cases
   rs with
  |
   cons r rs=>
   cases r with
   |
    ref ea=>
    cases rs;split at p
    .rename_i bs e;obtain⟨xs,q,e2⟩:=N8.mp e
     .obtain⟨vs,h1,h2⟩:=bo w ea q;rw[sQ e2] at h2;rw[h2.bls] at h1;exact⟨_,bs,rfl,h1,az w (.bl _) p⟩
    .exact p.elim
 .exact p.elim
def Kw:bq K mg (λxs H Q=>∃(a:Addr) (ns:List Int),xs=[.ref a]/\SqL K H a (ns.map V.int)/\Q (.int ns.sum) H) rH:=λρ h H ds vs Q E w rs p=>by
 unfold rH at p;split at p
 .cases
   rs with
  |
   cons r rs=>
   cases r with
   |
    ref ea=>
    cases rs;split at p
    .rename_i bs e;obtain⟨xs,q,e2⟩:=N8.mp e
     .obtain⟨vs,h1,h2⟩:=bo w ea q;rw[pw e2] at h2;rw[h2.ints] at h1;exact⟨_,bs,rfl,h1,az w (.int _) p⟩
    .exact p.elim
 .exact p.elim
def E9:bq K mg (λxs H Q=>∃p ys,xs=[.ref p]/\(SqL K H p ys\/SqT K H p ys)/\∀l,H l=none->Q (.ref l) (upd H l (.lst ys))) mZ:=λρ h H ds vs Q E w rs p=>by
 unfold mZ at p;split at p
 .cases rs with
  |
   cons r rs=>
   cases rs;split at p
   .rename_i xs e;obtain⟨pa,vs,rfl,hq,rs⟩:=du w r e;exact⟨_,_,rfl,hq,λl hl=>dJ w rs hl p⟩
   .exact p.elim
 .exact p.elim
def AM:bq K mg (λxs H Q=>∃p ys,xs=[.ref p]/\((SqL K H p ys/\∀l,H l=none->Q (.ref l) (upd H l (.tup ys)))\/(SqT K H p ys/\Q (.ref p) H))) j0:=λρ h H ds vs Q E w rs p=>by
 unfold j0 at p;split at p
 .cases rs with
  |
   cons r rs=>
   cases rs;split at p
   .rename_i xs e;obtain⟨pa,vs,rfl,hq,rs⟩:=du w r e;rcases hq with hq |hq
    .exact⟨_,_,rfl,.inl ⟨hq,λl hl=>jo w rs hl p⟩⟩
    .exact⟨_,_,rfl,.inr ⟨hq,az w (.tup hq rs) p⟩⟩
   .exact p.elim
 .exact p.elim
def JT:bq K mg (λxs H Q=>(∃i,xs=[.int i]/\Q (.int i) H)\/∃k,xs=[.bl k]/\Q (.int (if k then 1 else 0)) H) wm:=λρ h H ds vs Q E w rs p=>by
 unfold wm at p;split at p
 .cases rs with
  |cons r rs=>cases r;cases rs;exact .inl ⟨_,rfl,az w (.int _) p⟩
 .cases rs with
  |cons r rs=>cases r;cases rs;exact .inr ⟨_,rfl,az w (.int _) p⟩
 .exact p.elim
def yQ(h:X.K=K):CallR X (.type "list") (λxs H Q=>∃p ys,xs=[.ref p]/\(SqL K H p ys\/SqT K H p ys)/\∀l,H l=none->Q (.ref l) (upd H l (.lst ys))):=by subst h;exact qQ
def E2(h:X.K=K):CallR X (.type "tuple") (λxs H Q=>∃p ys,xs=[.ref p]/\((SqL K H p ys/\∀l,H l=none->Q (.ref l) (upd H l (.tup ys)))\/(SqT K H p ys/\Q (.ref p) H))):=by subst h;exact pI
end
inductive Cl where
 |b (n:String) |o (x:Str)
 deriving DecidableEq
noncomputable def tyD(h:AH):D->Option Cl
 |.non=>some (.b "NoneType")
 |.bl _=>some (.b "bool")
 |.int _=>some (.b "int")
 |.str _=>some (.b "str")
 |.tup _=>some (.b "tuple")
 |.exc x=>some (.o x)
 |.ref n=>match h[n]? with
  |some (.lst _)=>some (.b "list")
  |some (.fz _)=>some (.b "list")
  |some (.dct _)=>some (.b "dict")
  |_=>none
 |_=>none
noncomputable def clD:D->Option Cl
 |.ty n=>some (.b n)
 |.glb x=>some (.o x)
 |_=>none
def ClV(mg:Qh):Cl->Value->Prop
 |.b n,v=>v=.type n
 |.o x,v=>∃a,v=.ref a/\mg x=some (.ref a)
abbrev jh:=List (Cl×Cl×Bool)
structure KitsOk(K:W.Frag)(mg:Qh)(kt:jh):Prop where
 one:∀p∈kt,∀t v,ClV mg p.1 t->ClV mg p.2.1 v->W.kitOne K t v=some p.2.2
 xc:∀p∈kt,∀x C,p.1=.o x->mg x=some (.ref C)->XCls K C
noncomputable def kit(kt:jh)(t c:Cl):Option Bool:=(kt.find? λp=>decide (p.1=t)&&decide (p.2.1=c)).map (·.2.2)
noncomputable def fj(kt:jh)(t:Cl):List Cl->Option Bool
 | []=>some false
 |c::r=>match kit kt t c with
  |some true=>some true
  |some false=>fj kt t r
  |none=>none
noncomputable def rD(kt:jh):Fn:=λds h=>match ds with
 | [d,c]=>match tyD h d with
  |some t=>match c with
   |.tup cs=>match cs.mapM clD with
    |some (c0::cr)=>match fj kt t (c0::cr),kit kt t c0 with
     |some b,some _=>.ok (.bl b) h
     |_,_=>.stuck
    |_=>.stuck
   |c=>match clD c with
    |some cl=>match kit kt t cl with
     |some b=>.ok (.bl b) h
     |none=>.stuck
    |none=>.stuck
  |none=>.stuck
 |_=>.stuck
def nQ(e:kit kt t c=some b):(t,c,b)∈kt:=by
 unfold kit at e;cases q:kt.find? (λp=>decide (p.1=t)&&decide (p.2.1=c)) with
 |none=>rw[q] at e;cases e
 |some p=>rw[q] at e;have h1:=List.find?_some q;have h2:=Pq q;simp only[C_,Pb] at h1;obtain⟨p1,p2,p3⟩:=p;have e3:p3=b:=NV e;obtain⟨rfl,rfl⟩:=h1;subst e3;exact h2
section
variable{K:W.Frag}{mg:Qh}{X:Cx}{ρ:List Addr}{H:Hp}{h:AH}
def uY(ok:KitsOk K mg kt)(w:Wd K mg ρ h H)(r:RelD K mg ρ H d v)(e:tyD h d=some t)(k:kit kt t c=some b):∃tv,TyX K H v tv/\ClV mg t tv:=by
 cases r with
 |non=>cases e;exact⟨_,.of .non,rfl⟩
 |bl=>cases e;exact⟨_,.of (.bl _),rfl⟩
 |int=>cases e;exact⟨_,.of (.int _),rfl⟩
 |str=>cases e;exact⟨_,.of (.str _),rfl⟩
 |tup q rs=>cases e;exact⟨_,.sqT q,rfl⟩
 |exc m ex=>cases e;exact⟨_,.exc ex (ok.xc _ (nQ k) _ _ rfl m),_,rfl,m⟩
 |
  ref ea=>
  unfold tyD at e;dsimp only at e;split at e
  .rename_i e1;cases e;obtain⟨vs,h1,h2⟩:=w.ob _ _ _ ea e1;exact⟨_,.of (.lst h1),rfl⟩
  .rename_i e1;cases e;obtain⟨o,vs,h1,h2⟩:=w.ob _ _ _ ea e1;exact⟨_,.of (.frz h1),rfl⟩
  .rename_i e1;cases e;obtain⟨ws,h1,_⟩:=w.ob _ _ _ ea e1;exact⟨_,.of (.dK h1),rfl⟩
  .cases e
 |_=>cases e
def uI(r:RelD K mg ρ H d v)(e:clD d=some c):∃cv,eO v=some cv/\ClV mg c cv:=by
 cases r with
 |ty n=>cases e;exact⟨_,rfl,rfl⟩
 |glb m=>cases e;exact⟨_,rfl,_,rfl,m⟩
 |_=>cases e
def Bu:∀{ds:List D}{vs:List V}{cs:List Cl},RelDs K mg ρ H ds vs->ds.mapM clD=some cs->∃cvs,vs.mapM eO=some cvs/\Paired (ClV mg) cs cvs:=by
 intro ds;induction ds with
 |nil=>intro vs cs r e;cases r;have e':some ([]:List Cl)=some cs:=e;cases e';exact⟨[],rfl,.nil⟩
 |
  cons d ds ih=>
  intro vs cs r e;cases r with
  |
   cons r rr=>
   rw[Pc] at e;cases q:clD d with
   |none=>rw[q] at e;cases e
   |
    some c=>
    rw[q] at e;cases q2:ds.mapM clD with
    |none=>rw[q2] at e;cases e
    |some cs'=>rw[q2] at e;have e':some (c::cs')=some cs:=e;cases e';obtain⟨cv,h1,h2⟩:=uI r q;obtain⟨cvs,h3,h4⟩:=ih rr q2;refine⟨cv::cvs,?_,.cons h2 h4⟩;rw[Pc,h1,h3];rfl
def yf(ok:KitsOk K mg kt)(ht:ClV mg t tv):∀{cs:List Cl}{cvs:List Value}{b:Bool},Paired (ClV mg) cs cvs->fj kt t cs=some b->W.kitAny K tv cvs=some b:=by
 intro cs;induction cs with
 |nil=>intro cvs b r e;cases r;cases e;rfl
 |
  cons c cs ih=>
  intro cvs b r e;cases r with
  |
   cons r rr=>
   unfold fj at e;unfold W.kitAny;cases q:kit kt t c with
   |none=>rw[q] at e;cases e
   |
    some z=>
    rw[q] at e;rw[ok.one _ (nQ q) _ _ ht r];cases z with
    |true=>exact e
    |false=>exact ih rr e
def yt:CallR X (.builtin "isinstance") (λxs H Q=>∃x tp cs t vs b,xs=[x,.ref tp]/\SqT X.K H tp cs/\TyX X.K H x t/\cs.mapM eO=some vs/\W.kitAny X.K t vs=some b/\Q (.bl b) H):=by intro pins s σ H xs us Q I r h;obtain⟨x,tp,cs,t,vs,b,rfl,ht,ty,hc,hk,q⟩:=h;obtain⟨u,w',rfl,rx,rc⟩:=xj r;cases rc;obtain⟨its,rv,⟨o,e,c,n,d⟩,_⟩:=I.tuple ht;obtain rfl:=oK hc rv;obtain⟨Hh,Z,p,hne⟩:=uQ I rx ty;obtain⟨oc,od,odt,osl⟩:=o;have c':oc=.type "tuple":=c;have d':odt=.seq its.toArray n:=d;subst c' d';exact W.kia_tup Z I.kIn p e hk hne λtk=>⟨.bl b,H,I.tok _,rfl,q⟩
def NA(hK:X.K=K):CallR X (.builtin "isinstance") (λxs H Q=>(∃x c t v b,xs=[x,c]/\TyX K H x t/\eO c=some v/\W.kitOne K t v=some b/\Q (.bl b) H)\/
 (∃x tp cs t vs b,xs=[x,.ref tp]/\SqT K H tp cs/\TyX K H x t/\cs.mapM eO=some vs/\W.kitAny K t vs=some b/\Q (.bl b) H)):=by subst hK;exact A8.or yt
def GR(ok:KitsOk K mg kt):bq K mg (λxs H Q=>(∃x c t v b,xs=[x,c]/\TyX K H x t/\eO c=some v/\W.kitOne K t v=some b/\Q (.bl b) H)\/
 (∃x tp cs t vs b,xs=[x,.ref tp]/\SqT K H tp cs/\TyX K H x t/\cs.mapM eO=some vs/\W.kitAny K t vs=some b/\Q (.bl b) H)) (rD kt):=λρ h H ds vs Q E w rs p=>by
 unfold rD at p;split at p
 .cases
   rs with
  |
   cons r rs=>
   cases rs with
   |
    cons r2 rs=>
    cases rs;split at p
    .rename_i t e1;split at p
     .split
       at p
      .rename_i cs c0 cr e2;split at p
       .rename_i b b' e3 e4;cases r2 with
        |tup q rs2=>obtain⟨tv,h1,h2⟩:=uY ok w r e1 e4;obtain⟨cvs,h3,h4⟩:=Bu rs2 e2;exact .inr ⟨_,_,_,tv,cvs,b,rfl,q,h1,h3,yf ok h2 h4 e3,az w (.bl _) p⟩
       .exact p.elim
      .exact p.elim
     .split at p
      .rename_i cl e2;split at p
       .rename_i b e3;obtain⟨tv,h1,h2⟩:=uY ok w r e1 e3;obtain⟨cv,h3,h4⟩:=uI r2 e2;exact .inl ⟨_,_,tv,cv,b,rfl,h1,h3,ok.one _ (nQ e3) _ _ h2 h4,az w (.bl _) p⟩
       .exact p.elim
      .exact p.elim
    .exact p.elim
 .exact p.elim
end
def MtD(K:W.Frag)(mg:Qh)(r:V->List V->Hp->VK->Prop)(g:D->List D->AH->R D):Prop:=∀ρ h H dx ds x vs Q E,Wd K mg ρ h H->RelD K mg ρ H dx x->RelDs K mg ρ H ds vs->dC K mg ρ H Q E (g dx ds h)->r x vs H Q
noncomputable def kD(h:AH):D->Bool
 |.ref n=>(aR h n).isSome
 |_=>false
def eM(g:D->List D->AH->R D)(F:ME)(A:MA):ME:=λae h=>(F ae h).bind λx h1=>if kD h1 x=true then (A ae h1).bind λds h2=>g x ds h2 else .stuck
section
variable{K:W.Frag}{mg:Qh}{X:Cx}{ES:St->XK}{o e:Expr}{es:List Expr}{F:ME}{A:MA}
def yj(w:Wd K mg ρ h H)(r:RelD K mg ρ H d v)(q:kD h d=true):tyV K "list" v H:=by
 cases r with
 |ref ea=>obtain⟨xs,e⟩:=Oi.mp q;obtain⟨vs,h1,_⟩:=bo w ea e;exact .inl ⟨rfl,vs,h1⟩
 |_=>cases q
def de_m{name:Str}{id:String}{apos cpos:Pos}{r:V->List V->Hp->VK->Prop}{g:D->List D->AH->R D}(hK:X.K=K)(slot:Slot "list" name id)(hty:typeOf (.builtin id)=pure (.type "method_descriptor"))(hm:MtM X id r)(hd:MtD K mg r g)(ho:DE K mg X ES o F)(ha:DA K mg X ES (e::es) A)
 (hbase:attributeBase o name X.env (eval o X.env)=eval o X.env)
 (hfew:((backTo cpos (starEach (e::es) X.env)).all (λx=>!x.1)&&(backToKw cpos (keywordEach [] X.env)).all (λx=>x.1.isSome)
  && decide ((e::es).length+([]:List Keyword).length+(if ([]:List Keyword).isEmpty then 0 else 1)<30))=true)
 (hline:(apos.endLine==cpos.line)=true) (hs:starEach (e::es) X.env=(false,eval e X.env)::starEach es X.env) (i_:(backTo cpos (starEach es X.env)).any (·.1)=false):
 DE K mg X ES (.Call (.Attribute o name apos) (e::es) [] cpos) (eM g F A):=by
 subst hK;refine PE.imp (LP PySem.F.plainAttrs_list slot hty hm ho ha hbase hfew hline hs i_) λσ H Q q_=>q_.el λρ h ae w re p=>⟨ρ,h,ae,w,re,p.bind.imp λdx h1 ρ1 H1 l1 w1 p1 x rx=>?_⟩;split at p1
 .rename_i hl;exact⟨yj w1 rx hl,ρ1,h1,ae,w1,re.mono l1,p1.bind.imp λds h2 ρ2 H2 l2 w2 p2 vs rs=>hd ρ2 h2 H2 dx ds x vs Q _ w2 (rx.mono l2) rs p2⟩
 .exact p1.elim
end
noncomputable def lX(h:AH)(d:D)(f:Nat->List D->R D):R D:=match d with
 |.ref n=>match h[n]? with
  |some (.lst xs)=>f n xs
  |_=>.stuck
 |_=>.stuck
noncomputable def j5:D->List D->AH->R D:=λx ds h=>lX h x λn xs=>match ds with
 | [d]=>if xs.length<16777216 then .ok .non (h.set n (.lst (xs++[d]))) else .stuck
 |_=>.stuck
noncomputable def eN(h:AH)(d:D):List D->Option (List Bool)
 | []=>some []
 |x::r=>match jN h x d,eN h d r with
  |some b,some bs=>some (b::bs)
  |_,_=>none
def jU:D->List D->AH->R D:=λx ds h=>match x,ds with
 |.ref n,[d]=>match (aR h n).bind (eN h d) with
  |some bs=>if bs.idxOf true<bs.length then .ok (.int (bs.idxOf true:Nat)) h else .stuck
  |none=>.stuck
 |_,_=>.stuck
def m9:D->List D->AH->R D:=λx ds h=>match x,ds with
 |.ref n,[d]=>match (aR h n).bind (eN h d) with
  |some bs=>.ok (.int (bs.count true:Nat)) h
  |none=>.stuck
 |_,_=>.stuck
section
variable{K:W.Frag}{mg:Qh}{X:Cx}{ρ:List Addr}{H:Hp}{h:AH}
def xK(w:Wd K mg ρ h H)(r:RelD K mg ρ H d v)(p:dC K mg ρ H Q E (lX h d f)):
 ∃n xs a vs,d=.ref n/\h[n]?=some (.lst xs)/\ρ[n]?=some a/\v=.ref a/\H a=some (.lst vs)/\RelDs K mg ρ H xs vs/\dC K mg ρ H Q E (f n xs):=by
 unfold lX at p;split at p
 .cases r with
  |
   ref ea=>
   split at p
   .rename_i n xs e;obtain⟨vs,h1,h2⟩:=w.ob _ _ _ ea e;exact⟨_,_,_,vs,rfl,e,ea,rfl,h1,h2,p⟩
   .exact p.elim
 .exact p.elim
def Av(w:Wd K mg ρ h H)(ea:ρ[n]?=some a)(e:H a=some (.lst vs))(rs:RelDs K mg ρ H ys ws)(rd:RelD K mg ρ H d v)(p:dC K mg ρ H Q E (.ok d (h.set n (.lst ys)))):Q v (upd H a (.lst ws)):=by have l:Le ρ H ρ (upd H a (.lst ws)):=ku e qa;exact p ρ _ l (w.write ea e qa ⟨ws,bD,rs.mono l⟩) v (rd.mono l)
def xr:MtD K mg nV j5:=λρ h H dx ds x vs Q E w rx rs p=>by
 obtain⟨n,xs,a,us,rfl,e,ea,rfl,h1,h2,p⟩:=xK w rx p;split at p
 .cases rs with
  |
   cons r rs=>
   cases rs;split at p
   .rename_i hl;exact⟨a,us,_,rfl,rfl,h1,by rw[<- h2.len];exact hl,Av w ea h1 (h2.append (.cons r .nil)) .non p⟩
   .exact p.elim
 .exact p.elim
inductive EqsR(K:W.Frag)(H:Hp)(y:V)(pd:PyData):List V->List Bool->Prop where
 |nil:EqsR K H y pd [] []
 |cons {x:V}{px:PyData}{xs:List V}{bs:List Bool} (rx:Rep K H x px) (hx:shp px=true) (r:EqsR K H y pd xs bs):EqsR K H y pd (x::xs) (PyData.eqv px pd::bs)
def rEqs(K:W.Frag)(H:Hp)(l:Addr)(y:V)(bs:List Bool):Prop:=∃xs pd,SqL K H l xs/\Rep K H y pd/\shp pd=true/\EqsR K H y pd xs bs
def uB(w:Wd K mg ρ h H)(ry:RelD K mg ρ H d y)(es:cA 164 h d=some pd):∀{xs:List D}{vs:List V}{bs:List Bool},RelDs K mg ρ H xs vs->eN h d xs=some bs->EqsR K H y pd vs bs:=by
 intro xs;induction xs with
 |nil=>intro vs bs r e;cases r;have e':some ([]:List Bool)=some bs:=e;cases e';exact .nil
 |
  cons x xs ih=>
  intro vs bs r e;cases r with
  |
   cons r rr=>
   unfold eN at e;split at e
   .rename_i b bs' e1 e2;cases e;unfold jN at e1;rw[es] at e1;split at e1
    .rename_i a c e3 e4;cases e4;split at e1
     .rename_i hs;cases e1;exact .cons (eF w 164 r e3) hs.1 (ih rr e2)
     .cases e1
    .cases e1
   .cases e
theorem BW:∀{xs:List D}{bs:List Bool},eN h d xs=some bs->xs=[]\/∃pd,cA 164 h d=some pd/\shp pd=true
 | [],_,_=>.inl rfl
 |
  x::xs,bs,e=>by
  right;unfold eN at e;split at e
  .rename_i b bs' e1 e2;unfold jN at e1;split at e1
   .rename_i a c e3 e4;split at e1
    .rename_i hs;exact⟨c,e4,hs.2⟩
    .cases e1
   .cases e1
  .cases e
def sZ(I:Inv X pins σ H s)(hu:X.A.units+190<cLine)(ry:Rep X.K H y pd)(rv:RelV y v)(hy:shp pd=true):∃e:Value->Bool,∀{xs:List V}{bs:List Bool}{its:List Value},EqsR X.K H y pd xs bs->Vals xs its->its.map e=bs/\∀u∈its,SeqAt.EqAt X.A.in1 s u v (e u):=by
 classical
 obtain⟨as,q1⟩:=ry.reads I rv;refine⟨λu=>if q:∃d as,Reads s.heap u d as/\shp d=true then PyData.eqv q.choose pd else false,λ{xs bs its} r rr=>?_⟩;induction r generalizing its with
 |nil=>cases rr;exact⟨rfl,λu hu=>nomatch hu⟩
 |
  cons rx hx r ih=>
  rename_i x px xs bs;cases rr with
  |
   cons r1 rr=>
   rename_i u us;obtain⟨ih1,ih2⟩:=ih rr;obtain⟨as1,q2⟩:=rx.reads I r1;have hq:∃d as,Reads s.heap u d as/\shp d=true:=⟨px,as1,q2,hx⟩;have e1:(if q:∃d as,Reads s.heap u d as/\shp d=true then PyData.eqv q.choose pd else false)=PyData.eqv px pd:=by
    rw[dif_pos hq];obtain⟨as2,q3,hs3⟩:=hq.choose_spec
    have:=SeqAt.Reads.unique px hq.choose u _ _ (fE hx) q2 q3
    rw[<- this]
   refine⟨by rw[E_,ih1,e1],λw hw=>?_⟩;rcases NZ.mp hw with rfl |hw
   .dsimp only;rw[e1];exact SeqAt.eqAt_reads px pd X.A.in1 s _ _ _ _ q2 q1 (fE hx) (fE hy) (kW hx (by have:X.A.in1.units=X.A.units+1:=rfl;rw[this];omega))
   .exact ih2 w hw
def kB(K:W.Frag):V->List V->Hp->VK->Prop:=λx vs H Q=>∃l y bs,x=.ref l/\vs=[y]/\rEqs K H l y bs/\bs.idxOf true<bs.length/\Q (.int (bs.idxOf true:Nat)) H
def iN(K:W.Frag):V->List V->Hp->VK->Prop:=λx vs H Q=>∃l y bs,x=.ref l/\vs=[y]/\rEqs K H l y bs/\Q (.int (bs.count true:Nat)) H
def EqsR.len(r:EqsR K H y pd xs bs):xs.length=bs.length:=by
 induction r with
 |nil=>rfl
 |cons _ _ _ ih=>rw[I_,I_,ih]
def zM(hu:X.A.units+190<cLine):MtM X "list.index" (kB X.K):=by
 intro pins s σ H x vs v us Q I rx rv h;obtain⟨l,y,bs,rfl,rfl,⟨xs,pd,hq,ry,hy,re⟩,hi,q⟩:=h;cases rx;obtain⟨u,rfl,ru⟩:=rv.one;obtain⟨e,he⟩:=sZ I hu ry ru hy;obtain⟨its,r,⟨o,n,eo,hc,hd,hs⟩,hz⟩:=I.list hq;obtain⟨m1,m2⟩:=he re r;have d_:=r.length;have hbl:=re.len;have hn:=gx;have hj:bs.idxOf true<its.toArray.size:=by rw[H_];omega
 have eo':s.heap.get? l=some { cls:=.type "list",dict:=o.dict,data:=.seq its.toArray n,slots:=o.slots }:=by rw[eo];obtain⟨oc,od,odt,osl⟩:=o;have h1:oc=.type "list":=hc;have h2:odt=.seq its.toArray n:=hs;subst h1 h2;rfl
 have em:∀(m:Nat) (hm:m<its.toArray.size),bs[m]?=some (e its.toArray[m]):=λm hm=>by
  rw[<- m1,N4];have:its[m]?=some its.toArray[m]:=by rw[M_ (by simpa using hm)];rfl
  rw[this];rfl
 refine P_ PySem.F.slot_list_index ⟨_,eo',rfl⟩ PySem.F.entry_list_index (PySem.F.args_list_index_2 _ _)
  (SeqAt.list_indexAt l its.toArray n o.dict o.slots u e (bs.idxOf true) hj (by omega) ?_ ?_) ⟨eo',λw hw=>m2 w (by simpa using hw),?_⟩
 .have:=em _ hj
  rw[M_ hi,List.getElem_idxOf] at this;exact (NV this).symm
 .intro m
   hm hlt
  have:=em m hm
  have hb:m<bs.length:=by omega
  rw[M_ hb] at this;have h3
   : bs[m]≠true:=λz=>by
   have h4:bs.idxOf true<=m:=by
    have:=List.idxOf_lt_length_iff (l:=bs) (a:=true)
    rcases Nat.lt_or_ge m (bs.idxOf true) with z' |z'
    .exact absurd z (by have h5:=List.not_of_lt_findIdx (xs:=bs) (p:=(· == true)) (i:=m) z';simpa using h5)
    .exact z'
   omega
  have h4:e its.toArray[m]=bs[m]:=(NV this).symm;rw[h4];exact Bool.eq_false_iff.mpr h3
 .exact⟨.int _,H,I.tok _,⟨_,rfl⟩,q⟩
def AL(hu:X.A.units+190<cLine):MtM X "list.count" (iN X.K):=by
 intro pins s σ H x vs v us Q I rx rv h;obtain⟨l,y,bs,rfl,rfl,⟨xs,pd,hq,ry,hy,re⟩,q⟩:=h;cases rx;obtain⟨u,rfl,ru⟩:=rv.one;obtain⟨e,he⟩:=sZ I hu ry ru hy;obtain⟨its,r,⟨o,n,eo,hc,hd,hs⟩,hz⟩:=I.list hq;obtain⟨m1,m2⟩:=he re r;have eo':s.heap.get? l=some { cls:=.type "list",dict:=o.dict,data:=.seq its.toArray n,slots:=o.slots }:=by rw[eo];obtain⟨oc,od,odt,osl⟩:=o;have h1:oc=.type "list":=hc;have h2:odt=.seq its.toArray n:=hs;subst h1 h2;rfl
 refine P_ PySem.F.slot_list_count ⟨_,eo',rfl⟩ PySem.F.entry_list_count (PySem.F.args_list_count_2 _ _)
  (SeqAt.list_countAt l its.toArray n o.dict o.slots u e) ⟨eo',λw hw=>m2 w (by simpa using hw),?_⟩
 have ec:its.countP e=bs.count true:=by rw[<- m1,List.count,List.countP_map];congr 1;funext w;simp
 have ec':its.toArray.toList.countP e=bs.count true:=ec;rw[ec'];exact⟨.int _,H,I.tok _,⟨_,rfl⟩,q⟩
def BP:MtD K mg (kB K) jU:=λρ h H dx ds x vs Q E w rx rs p=>by
 unfold jU at p;split at p
 .cases
   rx with
  |
   ref ea=>
   cases rs with
   |
    cons r rs=>
    cases rs;split at p
    .rename_i bs e;split at p
     .rename_i hl;obtain⟨xs,q,e2⟩:=N8.mp e;obtain⟨vs,h1,h2⟩:=bo w ea q;rcases BW e2 with rfl |⟨pd,h3,h4⟩
      .have e3:some ([]:List Bool)=some bs:=e2;cases e3;exact absurd hl (by simp)
      .exact⟨_,_,bs,rfl,rfl,⟨vs,pd,h1,eF w 164 r h3,h4,uB w r h3 h2 e2⟩,hl,az w (.int _) p⟩
     .exact p.elim
    .exact p.elim
 .exact p.elim
def Cf:MtD K mg (iN K) (λx ds h=>match ds with | [d]=>if (cA 164 h d).isSome=true/\((cA 164 h d).map shp)=some true then m9 x ds h else .stuck |_=>.stuck):=λρ h H dx ds x vs Q E w rx rs p=>by
 dsimp only at p;split at p
 .split
   at p
  .rename_i d hs;obtain⟨pd,h3⟩:=Oi.mp hs.1;have h4:shp pd=true:=by
    have:=hs.2
    rw[h3] at this;exact NV this
   unfold m9 at p;split at p
   .rename_i ed;cases ed;cases rx with
    |
     ref ea=>
     cases rs with
     |
      cons r rs=>
      cases rs;split at p
      .rename_i bs e;obtain⟨xs,q,e2⟩:=N8.mp e;obtain⟨vs,h1,h2⟩:=bo w ea q;exact⟨_,_,bs,rfl,rfl,⟨vs,pd,h1,eF w 164 r h3,h4,uB w r h3 h2 e2⟩,az w (.int _) p⟩
      .exact p.elim
   .exact p.elim
  .exact p.elim
 .exact p.elim
def Gu(h:X.K=K)(hu:X.A.units+190<cLine):MtM X "list.index" (kB K):=by subst h;exact zM hu
def Im(h:X.K=K)(hu:X.A.units+190<cLine):MtM X "list.count" (iN K):=by subst h;exact AL hu
end
noncomputable def wL(o i v:D)(h:AH):R Unit:=match o,i with
 |.ref n,.int k=>match h[n]? with
  |some (.lst xs)=>match ixN xs.length k with
   |some j=>.ok () (h.set n (.lst (xs.set j v)))
   |none=>.stuck
  |_=>.stuck
 |_,_=>.stuck
section
variable{K:W.Frag}{mg:Qh}{X:Cx}{ES:St->XK}{o i:Expr}{F G:ME}{pos:Pos}
def Fx:nX K mg vS wL:=λρ h H do_ di dv o i v Q E w ro ri rv p=>by
 unfold wL at p;split at p
 .cases
   ro with
  |
   ref ea=>
   cases ri;split at p
   .rename_i n k xs e;split at p
    .rename_i j ej;obtain⟨vs,h1,h2⟩:=w.ob _ _ _ ea e;have l:Le ρ H ρ (upd H _ (.lst (vs.set j v))):=ku h1 qa;exact⟨_,vs,_,j,rfl,rfl,h1,by rw[<- h2.len];exact ej,p ρ _ l (w.write ea h1 qa ⟨_,bD,(h2.set rv j).mono l⟩)⟩
    .exact p.elim
   .exact p.elim
 .exact p.elim
def Jt(ho:DE K mg X ES o F)(hi:DE K mg X ES i G)(hs:rm X t)(hd:nX K mg t f)
 (ha:∀v,assign (.Subscript o i pos) X.env v=(do
  let ov <- holding [v] (eval o X.env)
  let iv <- holding [v,ov] (eval i X.env)
  standAt pos
  holding [v,ov,iv] (setItem ov iv v)
  release [v,ov,iv] [])):DG K mg X ES (.Subscript o i pos) (gS F G f):=
 PG.imp (Gj ho hi hs ha) λv σ H Q q_=>q_.el λρ h ae d w re rd p=>
  ⟨ρ,h,ae,w,re,p.bind.imp λdo_ h1 ρ1 H1 l1 w1 p1 o' ro=>⟨ρ1,h1,ae,w1,re.mono l1,p1.bind.imp λdi h2 ρ2 H2 l2 w2 p2 i' ri=>
   hd ρ2 h2 H2 do_ di d o' i' v _ _ w2 (ro.mono l2) ri ((rd.mono l1).mono l2) (p2.bind.imp λ_ h3 ρ3 H3 l3 w3 p3=>p3 ρ3 H3 Le.refl w3 σ (((re.mono l1).mono l2).mono l3))⟩⟩
end
noncomputable def cutD(xs:List D)(lo hi:Option Int):List D:=(xs.drop (HT.sIx xs.length 0 lo)).take (HT.sIx xs.length xs.length hi-HT.sIx xs.length 0 lo)
abbrev MO:=AE->AH->R (Option Int)
noncomputable def wq:MO:=λ_ h=>.ok none h
noncomputable def xp(F:ME):MO:=λae h=>(F ae h).bind λd h1=>match d with
 |.int i=>.ok (some i) h1
 |_=>.stuck
noncomputable def gSl(x:D)(lo hi:Option Int)(h:AH):R D:=match x with
 |.tup xs=>if HT.sIx xs.length 0 lo=0/\HT.sIx xs.length xs.length hi=xs.length then .stuck else .ok (.tup (cutD xs lo hi)) h
 |.ref n=>match aR h n with
  |some xs=>.ok (.ref h.length) (h++[.lst (cutD xs lo hi)])
  |none=>.stuck
 |.kl xs=>.ok (.ref h.length) (h++[.lst (cutD xs lo hi)])
 |_=>.stuck
noncomputable def eSl(F:ME)(L U:MO):ME:=λae h=>(F ae h).bind λx h1=>(L ae h1).bind λlo h2=>(U ae h2).bind λhi h3=>gSl x lo hi h3
section
variable{K:W.Frag}{mg:Qh}{X:Cx}{ES:St->XK}{e:Expr}{F:ME}{L U:MO}{lo hi:Option Expr}{pos p2:Pos}
def rdO(K:W.Frag)(mg:Qh)(ES:St->XK)(F:MO):TO:=λσ H Q=>∃ρ h ae,Wd K mg ρ h H/\RelE K mg ρ H ae σ/\PostG K mg ρ H (ES σ) (λo _ ρ' H'=>Q o H') (F ae h)
def DO(K:W.Frag)(mg:Qh)(X:Cx)(ES:St->XK)(e:Option Expr)(F:MO):Prop:=PO X e (rdO K mg ES F)
def E4:DO K mg X ES none wq:=PO.imp Fq λσ H Q ⟨ρ,h,ae,w,re,p⟩=>p ρ H Le.refl w
def Ek(he:DE K mg X ES e F):DO K mg X ES (some e) (xp F):=PO.imp (Er he) λσ H Q ⟨ρ,h,ae,w,re,p⟩=>⟨ρ,h,ae,w,re,p.bind.imp λd h1 ρ1 H1 l1 w1 p1 v rv=>by
 split at p1
 .cases rv;exact⟨_,rfl,p1 ρ1 H1 Le.refl w1⟩
 .exact p1.elim⟩
def nF(r:RelDs K mg ρ H xs vs)(lo hi:Option Int):RelDs K mg ρ H (cutD xs lo hi) (jM vs lo hi):=by unfold cutD jM;rw[<- r.len];exact (r.drop _).take _
def slK(h:X.K=K):SlR X (λx lo hi H Q=>rSlL K x lo hi H Q\/rSlT K x lo hi H Q):=by subst h;exact FT.or GA
def Cp(hK:X.K=K)(he:DE K mg X ES e F)(hl:DO K mg X ES lo L)(hu:DO K mg X ES hi U):DE K mg X ES (.Subscript e (.Slice lo hi none p2) pos) (eSl F L U):=
 PE.imp (
  AQ (slK hK) he hl hu) λσ H Q q_=>q_.el λρ h ae w re p=>⟨ρ,h,ae,w,re,p.bind.imp λd h1 ρ1 H1 l1 w1 p1 x rx=>⟨ρ1,h1,ae,w1,re.mono l1,p1.bind.imp λlo h2 ρ2 H2 l2 w2 p2=>⟨ρ2,h2,ae,w2,(re.mono l1).mono l2,p2.bind.imp λhi h3 ρ3 H3 l3 w3 p3=>by
  have rx3:=(rx.mono l2).mono l3;unfold gSl at p3;split at p3
  .split at p3
   .exact p3.elim
   .rename_i hn;cases rx3 with
    |tup q rs=>exact .inr ⟨_,_,rfl,q,by rw[<- rs.len];exact hn,λl hl=>jo w3 (nF rs lo hi) hl p3⟩
  .split at p3
   .rename_i xs e1;cases rx3 with
    |ref ea=>obtain⟨vs,q,rs⟩:=bo w3 ea e1;exact .inl ⟨_,_,rfl,q,λl hl=>dJ w3 (nF rs lo hi) hl p3⟩
   .exact p3.elim
  .cases rx3 with
   |kl q rs=>exact .inl ⟨_,_,rfl,.inr q,λl hl=>dJ w3 (nF rs lo hi) hl p3⟩
  .exact p3.elim⟩⟩⟩
end
noncomputable def rS(d:D)(h:AH):R Bool:=match d with
 |.non=>.ok false h
 |.bl b=>.ok b h
 |.int i=>.ok (i != 0) h
 |d=>match cV h d with
  |some xs=>.ok (!xs.isEmpty) h
  |none=>.stuck
noncomputable def tTr(F:ME):MT:=λae h=>(F ae h).bind rS
section
variable{K:W.Frag}{mg:Qh}{X:Cx}{ES:St->XK}{a:Expr}{F:ME}
def Be(hK:X.K=K)(ha:DE K mg X ES a F)(he:∀g_,isTrue a X.env g_=(do let v <- g_;standAt a.pos;holding [v] (truthy v))):DT K mg X ES a (tTr F):=by
 subst hK;refine PT.imp (Ae ha he) λσ H Q q_=>q_.el λρ h ae w re p=>⟨ρ,h,ae,w,re,p.bind.imp λd h1 ρ1 H1 l1 w1 p1 x rx=>?_⟩;have items:∀{xs:List D},cV h1 d=some xs->Q (!xs.isEmpty) H1->∃k,zQ X.K x H1 k/\Q k H1:=λ{xs} e q=>by
  obtain⟨pa,vs,rfl,hq,rs⟩:=du w1 rx e;have ee:xs.isEmpty=vs.isEmpty:=by cases rs <;> rfl
  rw[ee] at q;rcases hq with hq |hq
  .exact⟨_,.inl ⟨vs,hq,rfl⟩,q⟩
  .exact⟨_,.inr (.inl ⟨vs,hq,rfl⟩),q⟩
 unfold rS at p1;split at p1
 .cases rx;exact⟨_,rfl,p1 ρ1 H1 Le.refl w1⟩
 .cases rx;exact⟨_,rfl,p1 ρ1 H1 Le.refl w1⟩
 .cases rx;exact⟨_,rfl,p1 ρ1 H1 Le.refl w1⟩
 .split at p1
  .rename_i xs e1;exact items e1 (p1 ρ1 H1 Le.refl w1)
  .exact p1.elim
end
abbrev cxT(X:Cx)(pn:Qi)(xe:Qj):Cx:={ X with pn:=pn,xe:=xe }
section
variable{X:Cx}{pins pins2 pn:Qi}{σ:St}{H:Hp}{s:Shared}{xe:Qj}
def Inv.toT(I:Inv X pins σ H s):Inv (cxT X (X.pn++pins) xe) [] σ H s:=
 ⟨⟨I.ok.mod,I.ok.kind,I.ok.glob,I.ok.blt,I.ok.above,I.ok.inj,I.ok.has,I.ok.cab,I.ok.hd,I.ok.frames,I.ok.stk,I.ok.exf,I.ok.bs,I.ok.bsz,I.ok.noex,I.ok.exfs,I.ok.funs,I.ok.frf⟩,I.os,I.bare,I.base,I.loc,I.cell,I.free,I.freeC,λp hp=>I.pin p (by simpa using hp),I.hok,I.len⟩
def Inv.ofT(I:Inv (cxT X (X.pn++pins) xe) pins2 σ H s):Inv X pins σ H s:=
 ⟨⟨I.ok.mod,I.ok.kind,I.ok.glob,I.ok.blt,I.ok.above,I.ok.inj,I.ok.has,I.ok.cab,I.ok.hd,I.ok.frames,I.ok.stk,I.ok.exf,I.ok.bs,I.ok.bsz,I.ok.noex,I.ok.exfs,I.ok.funs,I.ok.frf⟩,I.os,I.bare,I.base,I.loc,I.cell,I.free,I.freeC,λp hp=>I.pin p (P4 _ hp),I.hok,I.len⟩
end
def sG(mro:List Str)(i:Nat)(B U:MS):MS:=λae h=>match B ae h with
 |
  .exc c ae1 h1=>if c∈mro then match U (ae1.set i (some (.exc c))) h1 with
   |.nx ae2 h2=>.nx (ae2.set i none) h2
   |.bk ae2 h2=>.bk (ae2.set i none) h2
   |.ct ae2 h2=>.ct (ae2.set i none) h2
   |.rt d h2=>.rt d h2
   |_=>.stuck
  else .stuck
 |r=>r
section
variable{K:W.Frag}{mg:Qh}{X:Cx}{ES:St->XK}{x n:Str}{C:Addr}{i:Nat}{body suite:List Stmt}{b₀:Stmt}{B U:MS}{np hpos pos:Pos}{mro:List Str}
def Eb(hb:∀(pn:Qi) (xe:Qj) (ES':St->XK),eu (cxT X pn xe) ES'->DSs K mg (cxT X pn xe) ES' body B):PSsx X body (λDe E σ H=>∃ρ h ae,Wd K mg ρ h H/\RelE K mg ρ H ae σ/\PostS K mg ρ H De E (B ae h)):=by
 intro pins s σ H De E I hh
 let xe:Value->Shared->Prop:=λe s'=>∃pins2 σ1 H1 s1,Inv (cxT X (X.pn++pins) (λ_ _=>False)) pins2 σ1 H1 s1/\CX1 X.prog X.w X.stack H1 s1 (E σ1) e s'
 have hx:eu (cxT X (X.pn++pins) xe) E:=λpins2 σ1 H1 s1 e s' I1 q=>⟨pins2,σ1,H1,s1,⟨⟨I1.ok.mod,I1.ok.kind,I1.ok.glob,I1.ok.blt,I1.ok.above,I1.ok.inj,I1.ok.has,I1.ok.cab,I1.ok.hd,I1.ok.frames,I1.ok.stk,I1.ok.exf,I1.ok.bs,I1.ok.bsz,I1.ok.noex,I1.ok.exfs,I1.ok.funs,I1.ok.frf⟩,I1.os,I1.bare,I1.base,I1.loc,I1.cell,I1.free,I1.freeC,I1.pin,I1.hok,I1.len⟩,q⟩;refine N_ (hb (X.pn++pins) xe E hx [] s σ H De I.toT hh) (λf s' q=>?_) λe s' q=>?_
 .cases f with
  |next=>obtain⟨σ1,H1,I1,q1⟩:=q;exact⟨σ1,H1,I1.ofT,q1⟩
  |brk=>obtain⟨σ1,H1,I1,q1⟩:=q;exact⟨σ1,H1,I1.ofT,q1⟩
  |cont=>obtain⟨σ1,H1,I1,q1⟩:=q;exact⟨σ1,H1,I1.ofT,q1⟩
  |ret u=>obtain⟨v,σ1,H1,I1,r1,q1⟩:=q;exact⟨v,σ1,H1,I1.ofT,r1,q1⟩
 .obtain⟨pins2,σ1,H1,s1,I1,q1⟩:=q;exact⟨σ1,H1,s1,I1.ofT,q1⟩
def Jc(T:X.Top)(hN:X.N.Nodup)(hi:X.N[i]?=some n)(hl:X.env.kindOf n=some .local)(hg:Gl X x)(hm:mg x=some (.ref C))(hh:XHand K C)(hmro:∀c∈mro,∀Ce,mg c=some (.ref Ce)->W.mroIn K Ce (.ref C)=some true)
 (hb:∀(pn:Qi) (xe:Qj) (ES':St->XK),eu (cxT X pn xe) ES'->DSs K mg (cxT X pn xe) ES' body B) (hs:∀ea,DSs K mg (gi X ea) (λ_=>E0) (b₀::suite) U)
 (hK:X.K=K) (hk:X.mg=mg) (hd:(x==("__debug__" : Str))=false):DS K mg X ES (.Try body [.ExceptHandler (some (.Name x np)) (some n) (b₀::suite) hpos] [] [] pos) (sG mro i B U):=by
 subst hK hk;refine PS.imp (J1 T hN hi hl hg hm hh (Eb hb) hs hd) λDe σ H q_=>q_.el λρ h ae w re p=>⟨ρ,h,ae,w,re,?_⟩;unfold sG at p;cases q:B ae h with
 |nx a1 h1=>rw[q] at p;exact p
 |rt a1 h1=>rw[q] at p;exact p
 |bk a1 h1=>rw[q] at p;exact p
 |ct a1 h1=>rw[q] at p;exact p
 |stuck=>rw[q] at p;exact p
 |
  exc c ae1 h1=>
  rw[q] at p;dsimp only at p;split at p
  .rename_i hc;intro ρ1 H1 σ1 Ce l1 w1 re1 mc;refine⟨Ce,rfl,hmro c hc Ce mc,λea hn=>⟨ρ1,h1,ae1.set i (some (.exc c)),w1.tuple hn,(re1.mono (bT hn)).set i (.exc mc bD),?_⟩⟩;have p':=PostS.mono (l1.trans (bT (o:=.ext (oi ea Ce)) hn)) p;cases q2:U (ae1.set i (some (.exc c))) h1 with
   |nx a2 h2=>rw[q2] at p';exact λρ2 H2 σ2 l2 w2 re2=>p' ρ2 H2 _ l2 w2 (re2.unset i)
   |bk a2 h2=>rw[q2] at p';exact λρ2 H2 σ2 l2 w2 re2=>p' ρ2 H2 _ l2 w2 (re2.unset i)
   |ct a2 h2=>rw[q2] at p';exact λρ2 H2 σ2 l2 w2 re2=>p' ρ2 H2 _ l2 w2 (re2.unset i)
   |rt d h2=>rw[q2] at p';exact p'
   |exc c2 a2 h2=>rw[q2] at p';exact p'.elim
   |stuck=>rw[q2] at p';exact p'.elim
  .exact p.elim
end
structure Script(h:AH)(d:D)(ns:List Int):Prop where
 form:(∃n,d=.ref n/\h[n]?=some (.fz (ns.map D.int)))\/d=.kl (ns.map D.int)
theorem ju{K:W.Frag}{mg:Qh}{ρ:List Addr}{H:Hp}:∀(ns:List Int),RelDs K mg ρ H (ns.map D.int) (ns.map V.int)
 | []=>.nil
 |_::r=>.cons (.int _) (ju r)
def AB{P:Program}{w:World}{K:W.Frag}{mg:Qh}{base:Heap}{x y:Str}{k:Nat}{S:Fn}(C:Callee P w K mg base x k [y] (spD K mg 1 S))(hT:∀P q,¬ BV K mg P q)
 (hS:∀(d:D) (h:AH) (ns:List Int),ns.length<=63->Script h d ns->∃h',S [d] h=.ok (.bl true) h'):Callee P w K mg base x k [y] (λvs H Q _=>∃(a:Addr) (ns:List Int),vs=[.ref a]/\nC H/\SqL K H a (ns.map V.int)/\ns.length<=63/\∀H',Q (.bl true) H'):=by
 refine C.imp λvs H Q E ⟨a,ns,e,hO,hq,hl,q⟩=>?_;subst e;rcases hq with (hq |⟨o,hq⟩) |hq
 .rcases hO a with z |⟨o,xs,z⟩ <;> rw[hq] at z <;> cases z
 .obtain⟨h',e⟩:=hS (.ref 0) [.fz (ns.map D.int)] ns hl ⟨.inl ⟨0,rfl,rfl⟩⟩;refine⟨[a],[.fz (ns.map D.int)],[.ref 0],⟨rfl,by simp,λP q l=>(hT P q l).elim,λn b ob e1 e2=>?_⟩,.cons (.ref rfl) .nil,rfl,?_⟩
  .cases n with
   |zero=>cases e1;cases e2;exact⟨o,_,hq,ju ns⟩
   |succ n=>simp at e1
  .rw[e];exact λρ' H' l' w' v rv=>by cases rv;exact q H'
 .obtain⟨h',e⟩:=hS (.kl (ns.map D.int)) [] ns hl ⟨.inr rfl⟩;refine⟨[],[],[.kl (ns.map D.int)],⟨rfl,by simp,λP q l=>(hT P q l).elim,λn b ob e1 e2=>by simp at e1⟩,.cons (.kl hq (ju ns)) .nil,rfl,?_⟩;rw[e];exact λρ' H' l' w' v rv=>by cases rv;exact q H'
def walk_lawD{l:W.OpenLaw}{q:Program}{loose:List Str}{XP:(Str->Option Value)->Heap->Prop}{YP:World->Heap->Prop}{d:DefRec}{K:Params->W.Frag}{x:Str}{k:Nat}(hn:l.most=some 63)(hdf:d.params.defaults=[])(hr:Room k callerA)
 (hY:∀(w:World) (h:Heap),YP w h->(K w.params).In h)
 (F:∀(w:World) (mg:Qh) (h:Heap),(K w.params).In h->h.Ns mainGlobals mg->∀base:Heap,(K w.params).In base->base.Ns mainGlobals mg->Callee l.prog w (K w.params) mg base d.name k [x] (λvs H Q _=>∃(a:Addr) (ns:List Int),vs=[.ref a]/\nC H/\SqL (K w.params) H a (ns.map V.int)/\ns.length<=63/\∀H',Q (.bl true) H'))
 (D:∀(w:World) (mg:Qh) (h:Heap),(K w.params).In h->h.Ns mainGlobals mg->∃st,Def (K w.params) mg d.name st/\∀(kV doc pm:Value) (an:Option Addr) (cdv ct:Value) (us:List Value),us.length=1->bindArgs (W.fnOf d.name d.name (bj st) (aG st) (ak st) .none kV doc pm an cdv ct) ⟨us,[]⟩=pure ([x].zip us)):
 W.WalkO q loose XP YP l.row.toRowW d [] (λf vs=>PySem.call f vs):=by
 refine L2.walk_of (n:=63) (k:=k) (x:=x) (CX:=λw=>CX1 l.prog w) (sp:=λw=>λvs H Q _=>∃(a:Addr) (ns:List Int),vs=[.ref a]/\nC H/\SqL (K w.params) H a (ns.map V.int)/\ns.length<=63/\∀H',Q (.bl true) H') hn (by decide) hdf hr hY (λw mg fa h KX G hmg=>?_) (λ_ _ a ns hl hO hS=>⟨a,ns,rfl,hO,hS,hl,λ_=>rfl⟩) λ_ _ _ _ _ ⟨_,_,_,_,_,_,_,_,_,z⟩=>z;obtain⟨st,Dd,hbind⟩:=D w mg h KX G;obtain⟨f,fd,Ff,m⟩:=Dd.ex;have e:=hmg.symm.trans m;cases e;obtain⟨oc,od,kV,doc,pm,an,cdv,ct,osl,rfl,lk,s_⟩:=Ff.ex;refine⟨_,λs u=>.of_eq (hbind kV doc pm an cdv ct [u] rfl),λbase kb nb=>?_⟩;obtain⟨f',fd',F',m',kp',b',oc',od',osl',lk'⟩:=(F w mg h KX G base kb nb).ex;rw[m] at m';cases m';rw[lk] at lk';cases lk';exact F'
noncomputable def wR:D->D->AH->R D:=gOr (gI λi j=>.int (i+j)) lU
def CMulA(i j:Int):Prop:=CK i j\/CMul i j
def BS:D->D->AH->R D:=gIc CMulA λi j=>.int (i*j)
def Cc:D->D->AH->R D:=gIc CDivB λi j=>.int (i.fdiv j)
def AX:D->D->AH->R D:=gIc (λ_ j=>j≠0) λi j=>.int (i.fmod j)
def B0:D->D->AH->R D:=gIc nU λi j=>.int (i^j.toNat)
noncomputable def gLt:D->D->AH->R D:=gI λi j=>.bl (decide (i<j))
noncomputable def gGt:D->D->AH->R D:=gI λi j=>.bl (decide (j<i))
noncomputable def gGe:D->D->AH->R D:=gI λi j=>.bl (decide (j<=i))
noncomputable def wj:D->AH->R D:=λx h=>match x with
 |.int i=>.ok (.int (-i)) h
 |_=>.stuck
def wV(n:Nat)(S:Fn)(A:MA):ME:=eFn (λds h=>if ds.length=n then S ds h else .stuck) A
def kA:D->List D->AH->R D:=λx ds h=>match ds with
 | [d]=>if (cA 164 h d).isSome=true/\((cA 164 h d).map shp)=some true then m9 x ds h else .stuck
 |_=>.stuck
section
variable{K:W.Frag}{mg:Qh}{X:Cx}
def xJ(h:X.K=K):OpR X (binaryOp .Add) (λx y H Q=>rI0 (λi j=>.int (i+j)) x y H Q\/(oB x y H Q\/(kE K x y H Q\/kx K x y H Q))):=Gq.or (catK h)
def Hi:OpD K mg (λx y H Q=>rI0 (λi j=>.int (i+j)) x y H Q\/(oB x y H Q\/(kE K x y H Q\/kx K x y H Q))) wR:=(mE λ_ _ _ _=>.int _).or FQ
def Ia:OpR X (binaryOp .Mult) (rI CMulA λi j=>.int (i*j)):=by
 intro pins s σ H x y v u Q I rx ry h;obtain⟨i,j,e1,e2,hc,q⟩:=h;rcases hc with hc |hc
 .exact D8 pins s σ H x y v u Q I rx ry ⟨i,j,e1,e2,hc,q⟩
 .exact Hj pins s σ H x y v u Q I rx ry ⟨i,j,e1,e2,hc,q⟩
def GN:OpD K mg (rI CMulA λi j=>.int (i*j)) BS:=pW λ_ _ _ _=>.int _
def Hu:OpD K mg (rI CDivB λi j=>.int (i.fdiv j)) Cc:=pW λ_ _ _ _=>.int _
def IQ:OpD K mg (rI (λ_ j=>j≠0) λi j=>.int (i.fmod j)) AX:=pW λ_ _ _ _=>.int _
def Iy:OpD K mg (rI nU λi j=>.int (i^j.toNat)) B0:=pW λ_ _ _ _=>.int _
def LN:OpD K mg (rI0 λi j=>.bl (decide (i<j))) gLt:=mE λ_ _ _ _=>.bl _
def MZ:OpD K mg (rI0 λi j=>.bl (decide (j<i))) gGt:=mE λ_ _ _ _=>.bl _
def NI:OpD K mg (rI0 λi j=>.bl (decide (j<=i))) gGe:=mE λ_ _ _ _=>.bl _
def Jp:UnD K mg (rU λi=>.int (-i)) wj:=λρ h H dx x Q E w rx p=>by
 unfold wj at p;split at p
 .cases rx;exact⟨_,rfl,az w (.int _) p⟩
 .exact p.elim
def FV:IpD K mg (ipI λi j=>i+j) (gI λi j=>.int (i+j)):=λρ h H dx dy x y Q E w rx ry p=>by
 unfold gI at p;split at p
 .cases rx;cases ry;exact⟨_,_,rfl,rfl,az w (.int _) p⟩
 .exact p.elim
def yy:MtD K mg (iN K) kA:=Cf
variable{ES:St->XK}{e:Expr}{es:List Expr}{A:MA}{pos:Pos}
def AY(C:Callee X.prog X.w X.K X.mg X.base x k ps (spD K mg n S))(hr:Room k X.A)(hg:Gl X x)(hx:eu X ES)(ha:DA K mg X ES (e::es) A)
 (hdb:(x==("__debug__" : Str))=false) (he:starEach (e::es) X.env=(false,eval e X.env)::starEach es X.env) (hpl:(backTo pos (starEach es X.env)).any (·.1)=false):
 DE K mg X ES (.Call (.Name x p) (e::es) [] pos) (wV n S A):=EC C hr hg hx ha hdb he hpl
end
section
variable{h:AH}
@[simp] theorem gk(a:α)(h:AH)(f:α->AH->R β):(R.ok a h).bind f=f a h:=rfl
end
def gW(h1:pd.canLay0=true)(h2:pd.depth<=160):shp pd=true:=by unfold shp;rw[h1,NX h2];rfl
def Sm(n:Nat)(x:Int):Prop:=x.natAbs<2^n
def Sm.mono(h:Sm n x)(l:n<=m):Sm m x:=K_ h (Oz (by omega) l)
def Sm.mul(h:Sm n x)(k:Sm m y):Sm (n+m) (x*y):=by unfold Sm at *;rw[O5,Nat.pow_add];exact Nat.mul_lt_mul'' h k
def Sm.add'(h:Sm n x)(k:Sm n y):Sm (n+1) (x+y):=by
 unfold Sm at *;have h3:2^(n+1)=2^n+2^n:=by rw[Nat.pow_succ];omega
 have h4:(x+y).natAbs<=x.natAbs+y.natAbs:=Int.natAbs_add_le x y;omega
def Sm.bits(h:Sm n x):Builtin.Int.intBits x<=n:=intBits_le_iff.mpr h
def Sm.of_le(h:Sm n y)(l:x.natAbs<=y.natAbs):Sm n x:=Nat.lt_of_le_of_lt l h
def CMulA.of(h:Sm n x)(k:Sm m y)(hn:n<=100000)(hm:m<=100000):CMulA x y:=.inl ⟨J_ h.bits hn,J_ k.bits hm⟩
def CMulA.left(h:-(2^64)<x)(k:x<2^64):CMulA x y:=.inr (.inl ⟨h,k⟩)
def CMulA.right(h:-(2^64)<y)(k:y<2^64):CMulA x y:=.inr (.inr ⟨h,k⟩)
def CDivB.of(h0:y≠0)(h:Sm 8000 y):CDivB x y:=⟨h0,h.bits⟩
structure Sz(n:Nat)(q:Rat):Prop where
 top:Sm n q.num
 bot:Sm n (q.den:Int)
def Sz.mono(h:Sz n q)(l:n<=m):Sz m q:=⟨h.top.mono l,h.bot.mono l⟩
def yx{a b:Int}(hb:b≠0):((a:Rat)/(b:Rat)).num*b=a*((a:Rat)/(b:Rat)).den:=by
 have h2:=Rat.num_divInt_den ((a:Rat)/(b:Rat));have h3:Rat.divInt ((a:Rat)/(b:Rat)).num (((a:Rat)/(b:Rat)).den:Int)=Rat.divInt a b:=by rw[h2,Rat.divInt_eq_div]
 exact (Rat.divInt_eq_divInt_iff (by have:=((a:Rat)/(b:Rat)).den_nz;omega) hb).mp h3
def uJ(q:Rat):Int.gcd q.num q.den=1:=by
 have:=q.reduced
 exact this
def qt(hb:b≠0):Fr.T a b=((a:Rat)/(b:Rat)).num/\Fr.B a b=(((a:Rat)/(b:Rat)).den:Int):=by
 refine Fr.uniq (Fr.B_pos hb) (by have:=((a:Rat)/(b:Rat)).den_pos;omega) (Fr.low hb) (uJ _) ?_;have h1:=Fr.cross (a:=a) hb;have h2:=yx (a:=a) hb;generalize ((a:Rat)/(b:Rat)).num=n at *;generalize (((a:Rat)/(b:Rat)).den:Int)=d at *;generalize Fr.T a b=x at *;generalize Fr.B a b=y at *;have h3:(x*d)*b=(n*y)*b:=by
  calc x*d*b=(x*b)*d:=by rw[Px]
   _=a*y*d:=by rw[h1]
   _=(a*d)*y:=by rw[Px]
   _=n*b*y:=by rw[h2]
   _=n*y*b:=by rw[Px]
 exact Pk hb h3
def vH{a b:Int}(hb:b≠0):((a:Rat)/(b:Rat)).num.natAbs<=a.natAbs:=by
 have h:=(qt (a:=a) hb).1;rw[<- h];have h1:=Fr.T_mul (a:=a) hb;have h2:=Fr.dv_ne (a:=a) hb;have h3:(Fr.T a b).natAbs*(Fr.dv a b).natAbs=a.natAbs:=by rw[<- O5,h1]
 have h4:1<=(Fr.dv a b).natAbs:=by omega
 calc (Fr.T a b).natAbs=(Fr.T a b).natAbs*1:=by omega
  _<=(Fr.T a b).natAbs*(Fr.dv a b).natAbs:=Pn _ h4
  _=a.natAbs:=h3
def vQ{a b:Int}(hb:b≠0):((((a:Rat)/(b:Rat)).den:Int)).natAbs<=b.natAbs:=by
 have h:=(qt (a:=a) hb).2;rw[<- h];have h1:=Fr.B_mul (a:=a) hb;have h2:=Fr.dv_ne (a:=a) hb;have h3:(Fr.B a b).natAbs*(Fr.dv a b).natAbs=b.natAbs:=by rw[<- O5,h1]
 have h4:1<=(Fr.dv a b).natAbs:=by omega
 calc (Fr.B a b).natAbs=(Fr.B a b).natAbs*1:=by omega
  _<=(Fr.B a b).natAbs*(Fr.dv a b).natAbs:=Pn _ h4
  _=b.natAbs:=h3
def Sz.div(hb:b≠0)(ha:Sm n a)(hb':Sm m b)(k:Nat)(h1:n<=k)(h2:m<=k):Sz k ((a:Rat)/(b:Rat)):=
 ⟨(ha.of_le (vH hb)).mono h1,(hb'.of_le (vQ hb)).mono h2⟩
def bS(q:Rat):(q.den:Int)≠0:=by have:=q.den_nz;omega
def gn(q:Rat):q=(q.num:Rat)/((q.den:Int):Rat):=by
 have:=Rat.num_divInt_den q
 rw[Rat.divInt_eq_div] at this;exact this.symm
def gF{b:Int}(h:b≠0):(b:Rat)≠0:=by intro z;exact h (by exact_mod_cast z)
def uN(p q:Rat):p+q=((p.num*q.den+q.num*p.den:Int):Rat)/((p.den*q.den:Int):Rat):=by
 have h1:=gF (bS p);have h2:=gF (bS q)
 conv=>lhs;rw[gn p,gn q]
 simp only[Rat.intCast_add,P7];grind
def u6(p q:Rat):p*q=((p.num*q.num:Int):Rat)/((p.den*q.den:Int):Rat):=by
 have h1:=gF (bS p);have h2:=gF (bS q)
 conv=>lhs;rw[gn p,gn q]
 simp only[P7];grind
def Sz.add(hp:Sz n p)(hq:Sz m q):Sz (n+m+1) (p+q):=by rw[uN];have h1:=(hp.top.mul hq.bot);have h2:=(hq.top.mul hp.bot);exact Sz.div (by have:=bS p;have:=bS q;exact OW ‹_› ‹_›) (h1.add' (by rw[Nat.add_comm n m];exact h2)) (hp.bot.mul hq.bot) _ (by omega) (by omega)
def Sz.mul(hp:Sz n p)(hq:Sz m q):Sz (n+m) (p*q):=by rw[u6];exact Sz.div (by have:=bS p;have:=bS q;exact OW ‹_› ‹_›) (hp.top.mul hq.top) (hp.bot.mul hq.bot) _ (by omega) (by omega)
def DR{q:Rat}:0<q.num ↔ 0<q:=by
 have h1:=Rat.num_nonneg (q:=q);have h2:=P9 (q:=q);constructor
 .intro h;refine Rat.lt_of_le_of_ne (h1.mp (by omega)) λz=>?_
  have:=h2.mpr z.symm
  omega
 .intro h;have h3:=h1.mpr (Rat.le_of_lt h);have h4:q.num≠0:=λz=>(Rat.ne_of_lt h) (h2.mp z).symm;omega
def Kf(p q:Rat):p<q ↔ p.num*q.den<q.num*p.den:=Rat.lt_iff p q
theorem iY:∀{ws:List Int},(∀w∈ws,0<=w)->0<=ws.sum
 | [],_=>Int.le_refl _
 |
  w::ws,h=>by
  have:=h w (G_ ..)
  have:=iY (ws:=ws) λv hv=>h v (A_ _ hv)
  rw[Of];omega
def Ge{K:W.Frag}{h:Heap}{mg:Qh}{x:Str}{a:Addr}{dd:Option Addr}{its:Array Value}{n:Nat}{sl:Array (Option Value)}{vs:List V}{ds:List D}(X:K.In h)(G:h.Ns mainGlobals mg)(e:W.nsIn K mainGlobals x=some (some (.ref a)))
 (l:K.lookup a=some ⟨.type "tuple",dd,.seq its n,sl⟩) (hs:its.size<=sizeLine) (hv:Vals vs its.toList) (hr:∀ρ H,RelDs K mg ρ H ds vs):GC K mg x (.tup ds):=
 ⟨_,.ref a,W.mg_of X G e,rfl,λρ H=>.tup (.inr ⟨_,its,n,l,rfl,rfl,hs,hv⟩) (hr ρ H)⟩
def rb{P:Program}{w:World}{H:Hp}(h:Heap)(hb:sysModules<h.objs.size):ObjOk P w H (h.push { cls:=.type "dict",data:=.dict #[] }) h.objs.size (.dK []):=
 ⟨Oa _,N3.mpr (Ne.symm (N2 hb)),[],.nil,Heap.DictOf.new h⟩
def Inv.big{X:Cx}{pins:Qi}{σ:St}{H:Hp}{s:Shared}(I:Inv X pins σ H s):sysModules<s.heap.objs.size:=by have h:mainGlobals<s.heap.objs.size:=(I.mod.glob.keeps I.bk).lt;exact P6 (by decide) h
def Ip:TE:=λ_ H Q=>∀p,H p=none->Q (.ref p) (upd H p (.dK []))
noncomputable def eD0:ME:=λ_ h=>.ok (.ref h.length) (h++[.dct []])
section
variable{K:W.Frag}{mg:Qh}{X:Cx}{ES:St->XK}{pos:Pos}
def Ad:PE X (.Dict [] [] pos) Ip:=λpins s σ H Q I h=>
 wpAny_Dict_empty ⟨.ref s.heap.objs.size,_,I.laid (a:=s.heap.objs.size) (o:=.dK []) (t':=s.toks) (λ_ _ q=>B_ _ q) (z_ _) (rb s.heap I.big),rfl,h _ (I.hok.fresh (z_ _))⟩
def Ln:DE K mg X ES (.Dict [] [] pos) eD0:=PE.imp Ad λσ H Q ⟨ρ,h,ae,w,re,q⟩ p hp=>by have l:Le ρ H (ρ++[p]) (upd H p (.dK [])):=(bT hp).trans j8;refine q (ρ++[p]) _ l (w.alloc hp ⟨[],bD,rfl,.nil⟩) _ (.ref ?_);rw[<- w.len,N6 (z_ _),PB];rfl
end
variable{K:W.Frag}{mg:Qh}
theorem sP{ρ:List Addr}{H:Hp}{xs:List D}{vs:List V}(r:RelDs K mg ρ H xs vs):∀n:Nat,RelDs K mg ρ H (List.replicate n xs).flatten (List.replicate n vs).flatten
 |0=>.nil
 |
  n+1=>by
  rw[Om,Om,OB,OB];exact r.append (sP r n)
def En:OpD K mg BN rB:=λρ h H dx dy x y Q E w rx ry p=>by
 unfold rB at p;split at p
 .cases
   rx with
  |
   ref ea=>
   cases ry with
   |
    int=>
    split at p
    .rename_i xs e1;split at p
     .rename_i hl;obtain⟨vs,q1,r1⟩:=w.ob _ _ _ ea e1;exact⟨_,_,vs,rfl,rfl,q1,hl.1,hl.2.1,by rw[<- r1.len];exact hl.2.2,λp' hp=>dJ w (sP r1 _) hp p⟩
     .exact p.elim
    .exact p.elim
 .exact p.elim
section
variable{κ:Type}[DecidableEq κ]
noncomputable def dY(kvs:List (κ×V))(k:κ):Option V:=(kvs.find? λkv=>decide (kv.1=k)).map (·.2)
noncomputable def cx(kvs:List (κ×V))(k:κ)(v:V):List (κ×V):=
 if (kvs.any λkv=>decide (kv.1=k))=true then kvs.map (λkv=>if kv.1=k then (kv.1,v) else kv) else kvs++[(k,v)]
def lJ{p:κ×V}{r:List (κ×V)}{k:κ}(e:p.1=k):dY (p::r) k=some p.2:=by simp [dY,OD,e]
def kY{p:κ×V}{r:List (κ×V)}{k:κ}(e:¬ p.1=k):dY (p::r) k=dY r k:=by simp [dY,OD,e]
theorem lG(k:κ):∀kvs:List (κ×V),(kvs.any λkv=>decide (kv.1=k))=(dY kvs k).isSome
 | []=>rfl
 |
  p::r=>by
  rw[OF];by_cases e:p.1=k
  .simp only[lJ e,NX e,Bool.true_or,Option.isSome_some]
  .rw[kY e,L_ e,Bool.false_or];exact lG k r
def ir(kvs:List (κ×V))(k:κ)(v:V):(cx kvs k v).length<=kvs.length+1:=by
 unfold cx;split
 .rw[w_];omega
 .rw[F_,I_,Od];omega
def Ax{kvs:List (κ×V)}{k:κ}(v:V)(h:dY kvs k=none):cx kvs k v=kvs++[(k,v)]:=by unfold cx;rw[lG,h];exact if_neg (by decide)
def RelO.isSome_eq(r:RelO o u):o.isSome=u.isSome:=by
 cases o with
 |none=>cases u with
  |none=>rfl
  |some _=>exact (show False from r).elim
 |some _=>cases u with
  |none=>exact (show False from r).elim
  |some _=>rfl
def KV.val(r:KV kvs vs)(k:κ):RelO (dY kvs k) (valueAt vs k):=by
 unfold KV at r;induction r with
 |nil=>exact True.intro
 |
  @cons p q ps qs h t ih=>
  obtain⟨h1,h2⟩:=h;by_cases e:p.1=k
  .have e':q.1=k:=h1.symm.trans e;have b:valueAt (q::qs) k=some q.2:=by simp [valueAt,OD,e']
   rw[lJ e,b];exact h2
  .have e':¬ q.1=k:=λz=>e (h1.trans z);have b:valueAt (q::qs) k=valueAt qs k:=by simp [valueAt,OD,e']
   rw[kY e,b];exact ih
def KV.any(r:KV kvs vs)(k:κ):(kvs.any λkv=>decide (kv.1=k))=vs.any λkv=>decide (kv.1=k):=by
 unfold KV at r;induction r with
 |nil=>rfl
 |cons h t ih=>rw[OF,OF,ih,h.1]
def KV.repl(r:KV kvs vs)(k:κ)(ry:RelV y u):
 KV (kvs.map λkv=>if kv.1=k then (kv.1,y) else kv) (vs.map λkv=>if kv.1=k then (kv.1,u) else kv):=by
 unfold KV at r ⊢;induction r with
 |nil=>exact .nil
 |
  @cons p q ps qs h t ih=>
  rw[E_,E_];refine .cons ?_ ih;obtain⟨h1,h2⟩:=h;by_cases e:p.1=k
  .rw[if_pos e,if_pos (h1.symm.trans e)];exact⟨h1,ry⟩
  .rw[if_neg e,if_neg (λz=>e (h1.trans z))];exact⟨h1,h2⟩
def KV.put(r:KV kvs vs)(k:κ)(ry:RelV y u):KV (cx kvs k y) (stored vs k u):=by
 unfold cx stored;rw[r.any k];by_cases e:(vs.any λkv=>decide (kv.1=k))=true
 .rw[if_pos e,if_pos e];exact r.repl k ry
 .rw[if_neg e,if_neg e];exact Paired.snoc r ⟨rfl,ry⟩
def KV.length(r:KV kvs vs):kvs.length=vs.length:=Qe r
end
def km(r:RelV (kV k) u):(aV P w).is k u=true:=by
 cases k with
 |inl i=>obtain⟨t,e⟩:=(show ∃t,u=Value.int i t from r);subst e;exact tK P w i t
 |inr x=>obtain⟨t,e⟩:=(show ∃t,u=Value.str x t from r);subst e;exact kL P w x t
theorem ph:∀{ks:List Key}{us:List Value},Vals (ks.map kV) us->ItemsAre (aV P w) ks us
 | [],_,r=>by rw[Ov] at r;cases r;exact .nil
 |
  k::ks,_,r=>by
  rw[E_] at r;cases r with
  |cons h t=>exact .cons (km h) (ph t)
abbrev KT(H:Hp):List (List Key×V)->List (List Key×Addr×Value)->Prop:=Paired λp q=>p.1=q.1/\H q.2.1=some (.tup (p.1.map kV))/\RelV p.2 q.2.2
def KT.val(r:KT H kvs xs)(k:List Key):RelO (dY kvs k) ((atKey xs k).map (·.2)):=by
 induction r with
 |nil=>exact True.intro
 |
  @cons p q ps qs h t ih=>
  obtain⟨h1,_,h2⟩:=h;by_cases e:p.1=k
  .have e':q.1=k:=h1.symm.trans e;have b:atKey (q::qs) k=some q.2:=by simp [atKey,OD,e']
   rw[lJ e,b];exact h2
  .have e':¬ q.1=k:=λz=>e (h1.trans z);have b:atKey (q::qs) k=atKey qs k:=by simp [atKey,OD,e']
   rw[kY e,b];exact ih
def KT.repl(r:KT H kvs xs)(k:List Key)(ry:RelV y u):
 KT H (kvs.map λkv=>if kv.1=k then (kv.1,y) else kv) (xs.map (putAt k u)):=by
 induction r with
 |nil=>exact .nil
 |
  @cons p q ps qs h t ih=>
  rw[E_,E_];refine .cons ?_ ih;obtain⟨h1,h2,h3⟩:=h;unfold putAt;by_cases e:p.1=k
  .rw[if_pos e,if_pos (h1.symm.trans e)];exact⟨h1,h2,ry⟩
  .rw[if_neg e,if_neg (λz=>e (h1.trans z))];exact⟨h1,h2,h3⟩
def KT.put(r:KT H kvs xs)(k:List Key)(hb:H b=some (.tup (k.map kV)))(ry:RelV y u):
 KT H (cx kvs k y) (storedH xs k b u):=by
 have e:(kvs.any λkv=>decide (kv.1=k))=(atKey xs k).isSome:=by rw[lG,(r.val k).isSome_eq,Option.isSome_map]
 unfold cx storedH;rw[e];by_cases q:(atKey xs k).isSome=true
 .rw[if_pos q,if_pos q];exact r.repl k ry
 .rw[if_neg q,if_neg q];exact Paired.snoc r ⟨rfl,hb,ry⟩
def KT.keeps(r:KT H kvs xs)(ht:∀b ys,H b=some (.tup ys)->H' b=some (.tup ys)):KT H' kvs xs:=
 Paired.mapP r λ_ _ z=>⟨z.1,ht _ _ z.2.1,z.2.2⟩
section
variable{P:Program}{w:World}{H:Hp}{h:Heap}{a:Addr}
def CA(ok:HOk P w H h)(e:Rd H a u):ObjOk P w H h a u:=e.ok ok
def vv(ok:HOk P w H h)(e:Rd H a (.dK kvs)):kvs.length<=sizeLine/\(a==sysModules)=false/\∃vs,KV kvs vs/\h.DictOf (aV P w) a vs:=
 show ObjOk P w H h a (.dK kvs) from CA ok e
def C7(ok:HOk P w H h)(e:H a=some (.dK kvs)):kvs.length<=sizeLine/\(a==sysModules)=false/\∃vs,KV kvs vs/\h.DictOf (aV P w) a vs:=vv ok (.inl e)
def tj(ok:HOk P w H h)(e:H a=some (.tup (ks.map kV))):(tupleKind (aV P w)).is h ks a:=by obtain⟨_,its,r,o,h1,h2,n,h3⟩:=(show ObjOk P w H h a (.tup (ks.map kV)) from ok a _ e);exact⟨o,its.toArray,n,h1,h2,h3,by simpa using ph r⟩
def vG(ok:HOk P w H h)(e:Rd H a (.dT kvs)):kvs.length<=sizeLine/\(a==sysModules)=false/\
 ∃xs,KT H kvs xs/\h.DictOfH (tupleKind (aV P w)) a xs:=by
 obtain⟨z,y,xs,r,o,es,ep,h1,h2,h3,h4,h5⟩:=(show ObjOk P w H h a (.dT kvs) from CA ok e);refine⟨z,y,xs,r,o,es,ep,h1,h2,h3,h4,λx hx=>?_,h5⟩;have all:∀{l:List (List Key×V)}{m:List (List Key×Addr×Value)},KT H l m->∀x∈m,(tupleKind (aV P w)).is h x.1 x.2.1:=by
  intro l m q;induction q with
  |nil=>intro x hx;exact nomatch hx
  |
   @cons p q ps qs hq t ih=>
   intro x hx;rcases NZ.mp hx with e |hx
   .subst e;exact tj ok (by rw[<- hq.1];exact hq.2.1)
   .exact ih x hx
 exact all r x hx
def My(ok:HOk P w H h)(e:H a=some (.dT kvs)):kvs.length<=sizeLine/\(a==sysModules)=false/\
 ∃xs,KT H kvs xs/\h.DictOfH (tupleKind (aV P w)) a xs:=vG ok (.inl e)
end
def DGet(H:Hp)(a:Addr)(y:V)(r:Option V):Prop:=
 (∃kvs k,Rd H a (.dK kvs)/\y=kV k/\r=dY kvs k)\/∃kvs k b,Rd H a (.dT kvs)/\y=.ref b/\H b=some (.tup (k.map kV))/\r=dY kvs k
def DPut(H:Hp)(a:Addr)(y v:V)(H':Hp):Prop:=
 (∃kvs k,H a=some (.dK kvs)/\y=kV k/\kvs.length<sizeLine/\H'=upd H a (.dK (cx kvs k v)))\/
 ∃kvs k b,H a=some (.dT kvs)/\y=.ref b/\H b=some (.tup (k.map kV))/\kvs.length<sizeLine/\H'=upd H a (.dT (cx kvs k v))
def DGet.k{H:Hp}{a:Addr}{kvs:List (Key×V)}{k:Key}(e:H a=some (.dK kvs)):DGet H a (kV k) (dY kvs k):=.inl ⟨kvs,k,.inl e,rfl,rfl⟩
def DPut.k{H:Hp}{a:Addr}{kvs:List (Key×V)}{k:Key}{v:V}(e:H a=some (.dK kvs))(hl:kvs.length<sizeLine):DPut H a (kV k) v (upd H a (.dK (cx kvs k v))):=.inl ⟨kvs,k,e,rfl,hl,rfl⟩
section
variable{X:Cx}{pins:Qi}{σ:St}{H:Hp}{s:Shared}{a:Addr}{y v:V}{u r:Value}{o:Option V}{A:Around}{E:Qj}
def yH(hu:A.units+1<cLine)(I:Inv X pins σ H s)(g:DGet H a y (some v))(ry:RelV y u)(h:∀w' s',Inv X pins σ H s'->RelV v w'->Q w' s'):
 wpAny (model X.prog X.w) A (getItem (.ref a) u) Q E s:=by
 rcases g with ⟨kvs,k,e,ey,l⟩ |⟨kvs,k,b,e,ey,eb,l⟩
 .subst ey;obtain⟨z,hd,vs,rel,dd⟩:=vv I.hok e;obtain⟨w',hw,rw'⟩:=RelO.some_of (v:=v) (o:=valueAt vs k) (by rw[l];exact rel.val k);exact wpAny_getItem_of (km ry) dd.mapOf hw (h w' _ (I.tok _) rw')
 .subst ey;cases (show u=Value.ref b from ry);obtain⟨z,hd,xs,rel,dd⟩:=vG I.hok e;obtain⟨w',hw,rw'⟩:=RelO.some_of (v:=v) (o:=(atKey xs k).map (·.2)) (by rw[l];exact rel.val k);obtain⟨p,hp,hp2⟩:=N0.mp hw;refine wpAny_getItem_heap (tupleKind_room_in1 hu) (tj I.hok eb) dd hp ?_;rw[hp2];exact h w' _ (I.tok _) rw'
def ou(I:Inv X pins σ H s)(mu:Mut (H a))(hs:Heap.SameBut a s.heap h')(he:∃q,h'.get? a=some q)(new:ObjOk X.prog X.w (upd H a ob) h' a ob):
 Inv X pins σ (upd H a ob) { s with heap:=h',toks:=t' }:=
 I.write (x:=a) (e:=a) mu (.inl rfl) (λb q hb z=>(hs.2 b hb).trans z) he new
def yY(z:kvs.length<=sizeLine)(hd:(a==sysModules)=false)(rel:KV kvs vs)(dd:h'.DictOf (aV P w) a vs):
 ObjOk P w H' h' a (.dK kvs):=⟨z,hd,vs,rel,dd⟩
def yn(hu:A.units+1<cLine)(I:Inv X pins σ H s)(g:DPut H a y v H')(ry:RelV y u)(rv:RelV v r)(h:∀s',Inv X pins σ H' s'->Q () s'):
 wpAny (model X.prog X.w) A (setItem (.ref a) u r) Q E s:=by
 rcases g with ⟨kvs,k,e,ey,l,eH⟩ |⟨kvs,k,b,e,ey,eb,l,eH⟩
 .subst ey eH;obtain⟨z,hd,vs,rel,dd⟩:=C7 I.hok e;have hz:vs.length<=sizeLine:=by rw[<- rel.length];exact z
  have hl:(cx kvs k v).length<=sizeLine:=by have:=ir kvs k v;omega
  refine wpAny_setItem_pairs (hsz:=hz) (km ry) dd λh' dd' hs=>h _ ?_;have he:∃q,h'.get? a=some q:=let ⟨q,_,_,hq,_⟩:=dd';⟨q,hq⟩;exact ou I (by rw[e];exact True.intro) hs he (yY hl hd (rel.put k rv) dd')
 .subst ey eH;cases (show u=Value.ref b from ry);obtain⟨z,hd,xs,rel,dd⟩:=My I.hok e;have hz:xs.length<=sizeLine:=by rw[<- Qe rel];exact z
  have hl:(cx kvs k v).length<=sizeLine:=by have:=ir kvs k v;omega
  refine wpAny_setItem_heap (hsz:=hz) (tupleKind_room_in1 hu) (tj I.hok eb) dd λh' dd' hs=>h _ ?_;obtain⟨q,es,ep,hq,h2,h3,h4,_,h5⟩:=dd';refine ou I (by rw[e];exact True.intro) hs ⟨q,hq⟩ ⟨hl,hd,_,(rel.put k eb rv).keeps λc ys ec=>?_,q,es,ep,hq,h2,h3,h4,h5⟩;rw[aD (K3 ec e (λz=>nomatch z))];exact ec
end
def wQ(i:Expr):Prop:=∀ov iv,subscripted i false ov iv=operate [ov,iv] (getItem ov iv)
def Dx{prog:Program}{w:World}{A:Around}{E:Qj}{s:Shared}{env:Env}{value m_:Expr}{pos:Pos}{T id:String}{Q:Qj}
 (hl:typeLookup (.type T) "__getitem__"=pure (some (.builtin id))) (hs:wQ m_)
 (h:wpAny (model prog w) A (eval value env) (λo s₁=>wpAny (model prog w) A (eval m_ env) (λi s₂=>s₂.TypeIs o T/\wpAny (model prog w) A (getItem o i) Q E s₂) E s₁) E s):
 wpAny (model prog w) A (eval (.Subscript value m_ pos) env) Q E s:=by
 refine Subscript_ (N_ h (λo s₁ h₁=>N_ h₁ (λi s₂ h₂=>?_) λ_ _ x=>x) λ_ _ x=>x);obtain⟨hT,h₂⟩:=h₂;unfold subscriptTail;refine v_ ?_;rw[getitemInPython_of_ne hT.not_modules];refine v_ (wpAny_specialOf hT hl ?_);have l_:wpAny (model prog w) A (subscripted m_ false o i) (λr s₃=>wpAny (model prog w) A (letTemporaryGo value o r >>= λ_=>pure r) Q E s₃) E s₂:=by rw[hs o i];exact wpAny_operating (N_ h₂ (λr s₃ h₃=>v_ (wpAny_letTemporaryGo (D_ h₃))) λ_ _ x=>x)
 first
  |exact D_ (v_ l_)
  |exact v_ (D_ (v_ l_))
  |exact v_ l_
def uc(I:Inv X pins σ H s)(g:DGet H a y o):s.TypeIs (.ref a) "dict":=by
 rcases g with ⟨kvs,k,e,_,_⟩ |⟨kvs,k,b,e,_,_,_⟩
 .obtain⟨_,_,vs,_,dd⟩:=vv I.hok e;exact dd.typeIs
 .obtain⟨_,_,xs,_,dd⟩:=vG I.hok e;exact dd.typeIs
def Nf(td ty:TE):TE:=λσ H Q=>td σ H λx H1=>ty σ H1 λy H2=>∃a v,x=.ref a/\DGet H2 a y (some v)/\Q v H2
section
variable{X:Cx}{o i:Expr}{pos:Pos}{td ty:TE}
def Ew(hu:X.A.units+1<cLine)(ho:PE X o td)(hi:PE X i ty)(hs:wQ i):PE X (.Subscript o i pos) (Nf td ty):=by intro pins s σ H Q I h;refine Dx PySem.F.slot_dict_getitem.lookup hs (thn (ho pins s σ H _ I h) λu s1 ⟨x,H1,I1,rx,q1⟩=>thn (hi pins s1 σ H1 _ I1 q1) λiv s2 ⟨y,H2,I2,ry,a,v,ex,g,q2⟩=>?_);subst ex;obtain rfl:u=Value.ref a:=rx;exact⟨uc I2 g,yH hu I2 g ry λw' s3 I3 rw'=>⟨v,H2,I3,rw',q2⟩⟩
end
def mn:List (TE×TE)->St->Hp->(List (V×V)->Hp->Prop)->Prop
 | [],_,H,Q=>Q [] H
 |(tk,tv)::r,σ,H,Q=>tk σ H λx H1=>tv σ H1 λy H2=>mn r σ H2 λps H3=>Q ((x,y)::ps) H3
abbrev VV:List (V×V)->List (Value×Value)->Prop:=Paired λp q=>RelV p.1 q.1/\RelV p.2 q.2
def PPs(X:Cx)(pos:Pos)(keys:List (Option Expr))(values:List Expr)(trs:List (TE×TE)):Prop:=
 ∀
  (pins:Qi) (s:Shared) (σ:St) (H:Hp) (Q:List (V×V)->Hp->Prop),Inv X pins σ H s->mn trs σ H Q->
  wpAny (model X.prog X.w) X.A (evalPairs (pairTrees keys values X.env pos)) (λvs s'=>∃ps H',Inv X pins σ H' s'/\VV ps vs/\Q ps H') X.xe s
def EM:PPs X pos [] [] []:=λpins s σ H Q I h=>pairTrees_nil_walk ⟨[],H,I,.nil,h⟩
def zK(hk:PE X k tk)(hv:PE X v tv)(hr:PPs X pos ks vs trs):
 PPs X pos (some k::ks) (v::vs) ((tk,tv)::trs):=λpins s σ H Q I h=>
 pairTrees_cons_walk (thn (hk pins s σ H _ I h) λu s1 ⟨x,H1,I1,rx,q1⟩=>thn (hv pins s1 σ H1 _ I1 q1) λw2 s2 ⟨y,H2,I2,ry,q2⟩=>
  thn (hr pins s2 σ H2 _ I2 q2) λws s3 ⟨ps,H3,I3,rel,q3⟩=>⟨(x,y)::ps,H3,I3,.cons ⟨rx,ry⟩ rel,q3⟩)
def gA(kvs more:List (Key×V)):List (Key×V):=more.foldl (λacc kv=>cx acc kv.1 kv.2) kvs
def KV.merge:∀{more:List (Key×V)}{rs:List (Key×Value)}{kvs:List (Key×V)}{vs:List (Key×Value)},KV more rs->KV kvs vs->KV (gA kvs more) (merged vs rs):=by
 intro more rs kvs vs r;unfold KV at r;induction r generalizing kvs vs with
 |nil=>intro q;exact q
 |
  @cons p q ps qs h t ih=>
  intro r0;have e:KV (cx kvs p.1 p.2) (stored vs q.1 q.2):=by
   have:=r0.put p.1 h.2
   rw[<- h.1];exact this
  exact ih e
theorem jz:∀(more kvs:List (Key×V)),(gA kvs more).length<=kvs.length+more.length
 | [],kvs=>by show kvs.length<=kvs.length+0;omega
 |
  p::r,kvs=>by
  have h1:=jz r (cx kvs p.1 p.2);have h2:=ir kvs p.1 p.2;show (gA (cx kvs p.1 p.2) r).length<=_;rw[I_];omega
theorem m8:∀{kvs:List (Key×V)}{ws:List (Value×Value)},VV (kvs.map λkv=>(kV kv.1,kv.2)) ws->∃rs,Carries (aV P w) ws rs/\KV kvs rs
 | [],_,r=>by rw[Ov] at r;cases r;exact⟨[],True.intro,.nil⟩
 |
  p::kvs,_,r=>by
  rw[E_] at r;cases r with
  |@cons a b as bs h t=>obtain⟨rs,c,q⟩:=m8 (P:=P) (w:=w) t;obtain⟨b1,b2⟩:=b;exact⟨(p.1,b2)::rs,⟨km h.1,rfl,c⟩,.cons ⟨rfl,h.2⟩ q⟩
def LQ(trs:List (TE×TE)):TE:=λσ H Q=>∀p,H p=none->mn trs σ (upd H p (.dK [])) λps H2=>H2 p=some (.dK [])/\∃kvs:List (Key×V),ps=kvs.map (λkv=>(kV kv.1,kv.2))/\kvs.length<=15/\Q (.ref p) (upd H2 p (.dK (gA [] kvs)))
def Ft(h:PPs X pos keys values trs)(hall:keys.all (·.isSome)=true)(hl:keys.length=values.length)(h0:keys≠[])
 (h15:keys.length<=15):PE X (.Dict keys values pos) (LQ trs):=by
 intro pins s σ H Q I q;have hn:=I.hok.fresh (z_ s.heap.objs.size);have I1:=I.laid (a:=s.heap.objs.size) (o:=.dK []) (h':=s.heap.push { cls:=.type "dict",data:=.dict #[] }) (t':=s.toks) (λ_ _ q=>B_ _ q) (z_ _) (rb s.heap I.big);refine wpAny_Dict_walk (knd:=aV X.prog X.w) hall hl h0 h15 (thn (h pins _ σ _ _ I1 (q _ hn)) λws s2 ⟨ps,H2,I2,rel,e,kvs,ep,lk,q2⟩=>?_);subst ep;obtain⟨rs,c,rk⟩:=m8 (P:=X.prog) (w:=X.w) rel;obtain⟨z,hd,vs0,r0,dd⟩:=C7 I2.hok e;cases r0;refine⟨rs,c,dd,λh' dd' hs=>⟨.ref s.heap.objs.size,_,?_,rfl,q2⟩⟩;have hz:(gA [] kvs).length<=sizeLine:=by have h1:=jz kvs [];rw[Od] at h1;rw[sizeLine_eq];omega
 have he:∃q,h'.get? s.heap.objs.size=some q:=let ⟨q,_,_,hq,_⟩:=dd';⟨q,hq⟩;exact ou I2 (by rw[e];exact True.intro) hs he (yY hz hd (rk.merge .nil) dd')
section
variable[DecidableEq κ]
noncomputable def lkD(kvs:List (κ×α))(k:κ):Option α:=(kvs.find? λkv=>decide (kv.1=k)).map (·.2)
noncomputable def jf(kvs:List (κ×α))(k:κ)(v:α):List (κ×α):=if (kvs.any λkv=>decide (kv.1=k))=true then kvs.map λkv=>if kv.1=k then (kv.1,v) else kv else kvs++[(k,v)]
end
section
variable{K:W.Frag}{mg:Qh}{ρ:List Addr}{H:Hp}
def EW:∀{kvs:List (Key×D)}{ws:List (Key×V)},ws.map (·.1)=kvs.map (·.1)->RelDs K mg ρ H (kvs.map (·.2)) (ws.map (·.2))->lkD kvs k=some d->∃v,dY ws k=some v/\RelD K mg ρ H d v:=by
 intro kvs;induction kvs with
 |nil=>intro ws e r q;cases q
 |
  cons p kvs ih=>
  intro ws e r q;cases ws with
  |nil=>cases e
  |
   cons w ws=>
   obtain⟨k1,d1⟩:=p;obtain⟨k2,v2⟩:=w;rw[E_,E_] at e;injection e with e1 e2;dsimp only at e1;subst e1;cases r with
   |
    cons r rr=>
    unfold lkD at q;unfold dY;rw[OD] at q ⊢;dsimp only at q ⊢;by_cases hk:k2=k
    .rw[NX hk] at q ⊢;cases q;exact⟨v2,rfl,r⟩
    .rw[L_ hk] at q ⊢;exact ih e2 rr q
def sN[DecidableEq κ]:∀{kvs:List (κ×α)}{ws:List (κ×β)},ws.map (·.1)=kvs.map (·.1)->(ws.any λkv=>decide (kv.1=k))=kvs.any λkv=>decide (kv.1=k):=by
 intro kvs;induction kvs with
 |
  nil=>
  intro ws e;cases ws with
  |nil=>rfl
  |cons _ _=>cases e
 |
  cons p kvs ih=>
  intro ws e;cases ws with
  |nil=>cases e
  |cons w ws=>rw[E_,E_] at e;injection e with e1 e2;rw[OF,OF,ih e2,e1]
def A0{k:Key}{d:D}{v:V}(rd:RelD K mg ρ H d v){kvs:List (Key×D)}{ws:List (Key×V)}(e:ws.map (·.1)=kvs.map (·.1))(r:RelDs K mg ρ H (kvs.map (·.2)) (ws.map (·.2))):(cx ws k v).map (·.1)=(jf kvs k d).map (·.1)/\RelDs K mg ρ H ((jf kvs k d).map (·.2)) ((cx ws k v).map (·.2)):=by
 unfold cx jf;rw[sN e];by_cases hc:(kvs.any λkv=>decide (kv.1=k))=true
 .rw[if_pos hc,if_pos hc];clear hc;induction kvs generalizing ws with
  |
   nil=>
   cases ws with
   |nil=>exact⟨rfl,.nil⟩
   |cons _ _=>cases e
  |
   cons p kvs ih=>
   cases ws with
   |nil=>cases e
   |
    cons w ws=>
    obtain⟨k1,d1⟩:=p;obtain⟨k2,v2⟩:=w;rw[E_,E_] at e;injection e with e1 e2;dsimp only at e1;subst e1;cases r with
    |
     cons r rr=>
     obtain⟨h1,h2⟩:=ih e2 rr;simp only[E_];by_cases hk:k2=k
     .rw[if_pos hk,if_pos hk];exact⟨by rw[h1],.cons rd h2⟩
     .rw[if_neg hk,if_neg hk];exact⟨by rw[h1],.cons r h2⟩
 .rw[if_neg hc,if_neg hc,Ox,Ox,Ox,Ox,e];exact⟨rfl,r.append (.cons rd .nil)⟩
def rh:D->D->AH->R D:=λx y h=>match x with
 |.ref n=>(match y with
  |.str k=>(match h[n]? with
   |some (.dct kvs)=>(match lkD kvs (.inr k) with
    |some d=>.ok d h
    |none=>.stuck)
   |_=>.stuck)
  |_=>.stuck)
 |_=>.stuck
def wD(o i v:D)(h:AH):R Unit:=match o with
 |.ref n=>(match i with
  |.str k=>(match h[n]? with
   |some (.dct kvs)=>if kvs.length<16777216 then .ok () (h.set n (.dct (jf kvs (.inr k) v))) else .stuck
   |_=>.stuck)
  |_=>.stuck)
 |_=>.stuck
def vJ:w9:=λo i v H Q=>∃a H4,o=.ref a/\DPut H a i v H4/\Q H4
variable{X:Cx}{ES:St->XK}{a b:Expr}{F G:ME}{pos:Pos}
def zN(hu:X.A.units+1<cLine):rm X vJ:=λpins s σ H o i v ov iv u Q I ro ri rv ⟨a,H4,eo,g,q⟩=>by subst eo;obtain rfl:ov=Value.ref a:=ro;exact yn hu I g ri rv λs4 I4=>⟨H4,I4,q⟩
def D5:nX K mg vJ wD:=λρ h H do_ di dv o i v Q E w ro ri rv p=>by
 unfold wD at p;split at p
 .split
   at p
  .split
    at p
   .rename_i n k _ kvs e;split at p
    .rename_i hl;cases ro with
     |
      ref ea=>
      cases ri;obtain⟨ws,h1,h2,h3⟩:=w.ob _ _ _ ea e;have d_:ws.length=kvs.length:=by have:=Og List.length h2;simpa using this
      have l:Le ρ H ρ (upd H _ (.dK (cx ws (.inr k) v))):=ku h1 wX;obtain⟨k1,k2⟩:=A0 (k:=.inr k) rv h2 h3;exact⟨_,_,rfl,DPut.k (k:=.inr k) h1 (by rw[d_];exact hl),p ρ _ l (w.write ea h1 wX ⟨_,bD,k1,k2.mono l⟩)⟩
    .exact p.elim
   .exact p.elim
  .exact p.elim
 .exact p.elim
def Eu(hu:X.A.units+1<cLine)(ha:DE K mg X ES a F)(hb:DE K mg X ES b G)(hs:wQ b):DE K mg X ES (.Subscript a b pos) (eOp rh F G):=PE.imp (Ew hu ha hb hs) λσ H Q q_=>q_.el λρ h ae w re p=>⟨ρ,h,ae,w,re,p.bind.imp λdx h1 ρ1 H1 l1 w1 p1 x rx=>⟨ρ1,h1,ae,w1,re.mono l1,p1.bind.imp λdy h2 ρ2 H2 l2 w2 p2 y ry=>by
 have rx2:=rx.mono l2;unfold rh at p2;split at p2
 .split
   at p2
  .split
    at p2
   .rename_i n k _ kvs e;split at p2
    .rename_i d q;cases rx2 with
     |ref ea=>cases ry;obtain⟨ws,k1,k2,k3⟩:=w2.ob _ _ _ ea e;obtain⟨v,q1,rv⟩:=EW k2 k3 q;refine⟨_,v,rfl,?_,az w2 rv p2⟩;rw[<- q1];exact DGet.k (k:=.inr k) k1
    .exact p2.elim
   .exact p2.elim
  .exact p2.elim
 .exact p2.elim⟩⟩
def mf(ks:List Str)(A:MA):ME:=λae h=>(A ae (h++[.dct []])).bind λds h2=>match h2[h.length]? with
 |some (.dct [])=>if ks.length=ds.length then .ok (.ref h.length) (h2.set h.length (.dct ((ks.map Sum.inr).zip ds))) else .stuck
 |_=>.stuck
def aL:List (Str×ME)->MA
 | []=>kS
 |p::r=>jb p.2 (aL r)
def tps(K:W.Frag)(mg:Qh)(ES:St->XK)(prs:List (Str×ME)):List (TE×TE):=prs.map λp=>(tC (.str p.1),rdE K mg ES p.2)
theorem se:∀(prs:List (Str×ME)) {ρ:List Addr}{h:AH}{ae:AE}{H:Hp}{Q:List (V×V)->Hp->Prop},Wd K mg ρ h H->RelE K mg ρ H ae σ->PostG K mg ρ H (ES σ) (λds _ ρ' H'=>∀vs,RelDs K mg ρ' H' ds vs->Q ((prs.map λp=>V.str p.1).zip vs) H') (aL prs ae h)->mn (tps K mg ES prs) σ H Q
 | [],ρ,h,ae,H,Q,w,re,p=>p ρ H Le.refl w [] .nil
 |pr::r,ρ,h,ae,H,Q,w,re,p=>⟨ρ,h,ae,w,re,(PostG.bind p).imp λd h1 ρ1 H1 l1 w1 p1 y ry=>se r w1 (re.mono l1) ((PostG.bind p1).imp λds h2 ρ2 H2 l2 w2 p2 vs rs=>p2 ρ2 H2 Le.refl w2 (y::vs) (.cons (ry.mono l2) rs))⟩
theorem rT:∀(more acc:List (Key×V)),((acc++more).map (·.1)).Nodup->gA acc more=acc++more
 | [],acc,_=>(Oh _).symm
 |
  (k,v)::more,acc,h=>by
  show gA (cx acc k v) more=_;have hk:dY acc k=none:=by unfold dY;rw[Option.map_eq_none_iff,List.find?_eq_none];intro p hp z;have z:=of_decide_eq_true z;rw[Ox,List.nodup_append] at h;exact h.2.2 p.1 (Qc hp) k (G_ ..) z
  rw[Ax v hk,rT more (acc++[(k,v)]) (by rw[OA];exact h),OA];rfl
def ve:PPs X pos [] [] (tps K mg ES []):=EM
def AA(hv:DE K mg X ES v F)(hr:PPs X pos ks vs (tps K mg ES prs)):PPs X pos (some (.Constant (.str k) j kp)::ks) (v::vs) (tps K mg ES ((k,F)::prs)):=zK zG hv hr
theorem sk:∀(ks:List Str) (vs:List V),(ks.map V.str).zip vs=((ks.map Sum.inr).zip vs).map λkv:Key×V=>(kV kv.1,kv.2)
 | [],_=>rfl
 |_::_,[]=>rfl
 |
  k::ks,v::vs=>by
  show (V.str k,v)::(ks.map V.str).zip vs=_;rw[sk ks vs];rfl
def Ee(hp:PPs X pos keys values (tps K mg ES prs))(hall:keys.all (·.isSome)=true)(hl:keys.length=values.length)(h0:keys≠[])(h15:keys.length<=15)(hn:(prs.map (·.1)).Nodup)(hp15:prs.length<=15):DE K mg X ES (.Dict keys values pos) (mf (prs.map (·.1)) (aL prs)):=PE.imp (Ft hp hall hl h0 h15) λσ H Q q_=>q_.el λρ h ae w re p=>λpp hpp=>by
 have l:Le ρ H (ρ++[pp]) (upd H pp (.dK [])):=(bT hpp).trans j8;have w1:=w.alloc hpp (o:=.dct []) (u:=.dK []) ⟨[],bD,rfl,.nil⟩;refine se prs w1 (re.mono l) ((PostG.mono l (PostG.bind p)).imp λds h2 ρ2 H2 l2 w2 p2 vs rs=>?_);split at p2
 .rename_i e;split at p2
  .rename_i d_;have ea:ρ2[h.length]?=some pp:=l2.pre _ _ (by rw[<- w.len,N6 (z_ _),PB];rfl);obtain⟨ws,k1,k2,_⟩:=w2.ob _ _ _ ea e;have:ws=[]:=by cases ws with |nil=>rfl |cons _ _=>cases k2
   subst this;have hlv:vs.length=prs.length:=by rw[<- rs.len,<- d_,w_]
   refine⟨k1,((prs.map (·.1)).map Sum.inr).zip vs,?_,?_,?_⟩
   .rw[<- sk,OI];rfl
   .rw[List.length_zip,w_,w_];omega
   .have hz:(((prs.map (·.1)).map Sum.inr).zip vs:List (Key×V)).map (·.1)=(prs.map (·.1)).map Sum.inr:=List.map_fst_zip (by rw[w_,w_];omega);rw[rT _ [] (by rw[N7,hz];exact List.Pairwise.map _ (λa b hab z=>hab (Sum.inr.inj z)) hn),N7];have l3:Le ρ2 H2 ρ2 (upd H2 pp (.dK (((prs.map (·.1)).map Sum.inr).zip vs))):=ku k1 wX;refine p2 ρ2 _ l3 (w2.write ea k1 wX ⟨_,bD,?_,?_⟩) _ (.ref ea)
    .rw[hz,List.map_fst_zip (by rw[w_];omega)]
    .rw[List.map_snd_zip (by rw[w_];omega),List.map_snd_zip (by rw[w_,w_];omega)];exact rs.mono l3
  .exact p2.elim
 .exact p2.elim
end
open PySem PySem.Spec PySem.Calls PyProof.Rows
section
variable{X:Cx}{K:W.Frag}{mg:Qh}{es:List Expr}{gs:MGs}{pos:Pos}
def gUnp(K:W.Frag)(n:Nat)(t:TGs):TG:=λv σ H Q=>∃a xs,v=.ref a/\(SqT K H a xs\/SqL K H a xs)/\xs.length=n/\t xs σ H Q
def JL{k:Nat}{t:TGs}{n:Nat}(hc:X.calm=true)(h:PGs X es t)
 (hn:(assignEach es X.env).length=n) (hst:(assignEach es X.env).findIdx? (·.1)=none):PG X (.Tuple es k pos) (gUnp X.K n t):=by
 intro pins s σ H v u Q I r hw;obtain⟨a,xs,e1,hq,hl,hw⟩:=hw;rcases hq with hq |hq
 .exact xV hc h hn hst pins s σ H v u Q I r ⟨a,xs,e1,hq,hl,hw⟩
 .subst e1;cases r;obtain⟨its,rv,⟨o,m,ho,oc,od,os⟩,hz⟩:=I.list hq;have ht:s.heap.IsList a its.toArray:=⟨o,ho,oc,m,os⟩;rw[assign_Tuple];refine v_ (PU ?_);unfold unpack;rw[hst,hn,show n=its.toArray.size by simp [<- hl,rv.length]];refine v_ (O8 (W.kun_itemsOf (I.ok.hd hc) ht λh' hx=>?_));have I1:Inv X pins σ H { s with heap:=h' }:=I.kept (t':=s.toks) λb o e=>hx b o (N2 (Em e)) e;exact h pins _ σ H xs _ Q I1 (by simpa using rv) hw
noncomputable def gU(u:MGs):MG:=λd ae h=>match d with
 |.tup ds=>u ds ae h
 |.ref p=>match aR h p with
  |some ds=>u ds ae h
  |none=>.stuck
 |_=>.stuck
def IX{k n:Nat}(hK:X.K=K)(hc:X.calm=true)(h:DGs K mg X (λ_=>E0) es gs)
 (hn:(assignEach es X.env).length=n) (hst:(assignEach es X.env).findIdx? (·.1)=none):DG K mg X (λ_=>E0) (.Tuple es k pos) (gU λds ae h=>if ds.length=n then gs ds ae h else .stuck):=by
 subst hK;refine PG.imp (JL hc h hn hst) λv σ H Q q_=>q_.el λρ h ae d w re rd p=>?_;unfold gU at p;cases rd with
 |
  tup q rs=>
  dsimp only at p;split at p
  .rename_i hl;exact⟨_,_,rfl,.inl q,by rw[<- rs.len];exact hl,ρ,h,ae,_,w,re,rs,p⟩
  .exact p.elim
 |
  ref ea=>
  dsimp only at p;split at p
  .rename_i ds q;obtain⟨vs,h1,h2⟩:=bo w ea q;split at p
   .rename_i hl;exact⟨_,_,rfl,.inr h1,by rw[<- h2.len];exact hl,ρ,h,ae,_,w,re,h2,p⟩
   .exact p.elim
  .exact p.elim
 |_=>exact p.elim
end
section
variable{X:Cx}{K:W.Frag}{mg:Qh}{ES:St->XK}{a:Expr}{A:MA}{pos q2 p1 p2:Pos}
def qE(j:Int):List V:=(List.range j.toNat).map λi=>V.int ((i:Nat):Int)
def rLrg:List V->Hp->VK->Prop:=λxs H Q=>∃j:Int,xs=[.int j]/\-(2^62)<=j/\j<=16777216/\∀l,H l=none->Q (.ref l) (upd H l (.lst (qE j)))
theorem um:∀(n:Nat) (f:Nat->Int) (is:List Nat) (ys:List Value),CarriedAll ys (is.map λi=>PyData.int (f i))->Vals (is.map λi=>V.int (f i)) ys
 |n,f,[],ys,h=>by cases h;exact .nil
 |
  n,f,i::is,ys,h=>by
  cases h with
  |cons c r=>cases c;exact .cons ⟨_,rfl⟩ (um n f is _ r)
def Gb(hc:X.calm=true)(hl:Gl X "list")(hml:X.mg "list"=none)(hg:Gl X "range")(hm:X.mg "range"=none)(ha:PA X [a] ta)(hs:starEach [a] X.env=[(false,eval a X.env)])
 (hs1:starEach [.Call (.Name "range" p2) [a] [] q2] X.env=[(false,eval (.Call (.Name "range" p2) [a] [] q2) X.env)]):
 PE X (.Call (.Name "list" p1) [.Call (.Name "range" p2) [a] [] q2] [] pos) (tCB rLrg ta):=by
 intro pins s σ H Q I h;refine OU (eZ I hl hml (show bootBuiltins "list"=some (.type "list") from rfl) ?_ (by decide) (by decide));refine Ol ?_ hs1 rfl;rw[hs1];show wpAny _ _ (spliced ((false,eval (.Call (.Name "range" p2) [a] [] q2) X.env)::[])) _ _ s;refine Calls.spliced_cons ?_;refine OU (eZ I hg hm (show bootBuiltins "range"=some (.type "range") from rfl) ?_ (by decide) (by decide));refine Ol (thn (ha q2 pins s σ H _ I h) λus s1 ⟨vs,H1,I1,r1,q1⟩=>?_) hs rfl;obtain⟨j,e,h1,h2,q⟩:=q1;subst e;cases r1 with
 |
  cons r rr=>
  cases rr;obtain⟨t,rfl⟩:=r;refine call_range_1 (Calls.spliced_nil ?_);have I2:Inv X pins σ H1 { s1 with heap:=s1.heap.push { cls:=.type "range",data:=.fields #[.int 0 s1.toks,.int j t,.int 1 (s1.toks+1)] },toks:=s1.toks+1+1 }:=I1.kept λb o e=>B_ _ e;obtain⟨m,hns,_⟩:=I2.loc;refine list_rangeD (I.ok.hd hc) (Att.fr_all hns) (news:=[]) (λp hp=>nomatch hp) (IsRange.new ..) (small_one (by omega) (by omega) (by omega) (by omega)) (n:=j.toNat) (by rw[rangeSize_one];split <;> omega) (by omega) ?_;intro h' tk ys hf hn hk _ _ ⟨⟨c,hpl⟩,_⟩ hcar;have rv:Vals (qE j) ys:=um 0 (λi=>((i:Nat):Int)) (List.range j.toNat) ys (by
   unfold rangeInts at hcar;rw[OI] at hcar;have e:((λi=>PyData.int i) ∘ λ(i:Nat)=>(0:Int)+(i:Int)*1)=λi:Nat=>PyData.int (i:Int):=by funext i;simp
   rw[show (PyData.int ∘ λ(i:Nat)=>(0:Int)+(i:Int)*1)=λi:Nat=>PyData.int (i:Int) from e] at hcar;exact hcar)
  have hz:(qE j).length<=sizeLine:=by unfold qE;rw[w_,OK];have:sizeLine=16777216:=rfl;omega
  exact⟨.ref _,_,I2.laid (t':=tk) hk (z_ _) (show ObjOk X.prog X.w _ h' _ (.lst (qE j)) from ⟨hz,ys,c,rv,hpl⟩),rfl,q _ (I2.hok.fresh (z_ _))⟩
def zY(j:Int):List D:=(List.range j.toNat).map λi=>D.int ((i:Nat):Int)
def nW:Fn:=λds h=>match ds with
 | [.int j]=>if -(2^62)<=j/\j<=16777216 then .ok (.ref h.length) (h++[.lst (zY j)]) else .stuck
 |_=>.stuck
theorem yN(ρ:List Addr)(H:Hp):∀is:List Nat,RelDs K mg ρ H (is.map λi=>D.int ((i:Nat):Int)) (is.map λi=>V.int ((i:Nat):Int))
 | []=>.nil
 |i::is=>.cons (.int _) (yN ρ H is)
def JS:bq K mg rLrg nW:=λρ h H ds vs Q E w rs p=>by
 unfold nW at p;split at p
 .split at p
  .rename_i hb;cases rs with
   |cons r rs=>cases r;cases rs;exact⟨_,rfl,hb.1,hb.2,λl hl=>dJ w (yN ρ H _) hl p⟩
  .exact p.elim
 .exact p.elim
def Gm(hc:X.calm=true)(hl:Gl X "list")(hml:mg "list"=none)(hg:Gl X "range")(hm:mg "range"=none)(ha:DA K mg X ES [a] A)(hk:X.mg=mg)(hs:starEach [a] X.env=[(false,eval a X.env)])
 (hs1:starEach [.Call (.Name "range" p2) [a] [] q2] X.env=[(false,eval (.Call (.Name "range" p2) [a] [] q2) X.env)]):
 DE K mg X ES (.Call (.Name "list" p1) [.Call (.Name "range" p2) [a] [] q2] [] pos) (eFn nW A):=by
 subst hk;exact PE.imp (Gb hc hl hml hg hm ha hs hs1) (wc JS)
end
inductive EntOk(w:World):List DictEntry->List (Str×Int)->Prop
 |nil:EntOk w [] []
 |cons {e:DictEntry}{es:List DictEntry}{k:Str}{i:Int}{t t':Tok}{kvs:List (Str×Int)} (h:e.hash=hashStr w k) (hk:e.key=.str k t) (hv:e.val=.int i t') (r:EntOk w es kvs):EntOk w (e::es) ((k,i)::kvs)
def lkS(kvs:List (Str×Int))(k:Str):Option Int:=(kvs.find? λp=>decide (p.1=k)).map (·.2)
def KDict(w:World)(K:W.Frag)(mg:Qh)(n:Str)(kvs:List (Str×Int)):Prop:=
 ∃a o es ep,mg n=some (.ref a)/\(a==sysModules)=false/\List.lookup a K=some o/\o.ExactDict/\o.data=.dict es ep/\EntOk w es.toList kvs/\(kvs.map (·.1)).Nodup
theorem oX:∀{es:List DictEntry}{kvs:List (Str×Int)},EntOk w es kvs->(∀e∈es,∃k,(aV P w).is k e.key=true/\e.hash=(aV P w).hash k)/\∃vs:List (Key×Value),Pairs (aV P w) es vs/\vs.map (·.1)=kvs.map (λp=>.inr p.1)/\∀k:Str,(lkS kvs k=none/\valueAt vs (.inr k)=none)\/∃i t,lkS kvs k=some i/\valueAt vs (.inr k)=some (.int i t)
 |_,_,.nil=>⟨(λe h=>nomatch h),[],.nil,rfl,λk=>.inl ⟨rfl,rfl⟩⟩
 |
  _,_,.cons (e:=e) (es:=es) (k:=k) (i:=i) (t:=t) (t':=t') (kvs:=kvs) h hk hv r=>by
  obtain⟨h1,vs,h2,h3,h4⟩:=oX (P:=P) r;have is:(aV P w).is (.inr k) e.key=true:=by rw[hk];exact kL P w k t
  refine⟨λe' he=>?_,(.inr k,.int i t')::vs,.cons is hv h2,by simp [h3],λk'=>?_⟩
  .rcases NZ.mp he with rfl |he
   .exact⟨.inr k,is,h⟩
   .exact h1 e' he
  .by_cases e:k=k'
   .subst e;exact .inr ⟨i,t',by simp [lkS],by simp [valueAt]⟩
   .have n1:¬ (Sum.inr k:Key)=.inr k':=λz=>e (Sum.inr.inj z);have a1:lkS ((k,i)::kvs) k'=lkS kvs k':=by simp [lkS,e]
    have a2:valueAt ((Sum.inr k,Value.int i t')::vs) (.inr k':Key)=valueAt vs (.inr k'):=by simp [valueAt,n1]
    rw[a1,a2];exact h4 k'
theorem oM:∀{l:List (Str×Int)},(l.map (·.1)).Nodup->(l.map (λp=>(Sum.inr p.1:Key))).Nodup
 | [],_=>.nil
 |
  p::l,h=>by
  rw[E_,OJ] at h;rw[E_,OJ];refine⟨λz=>h.1 ?_,oM h.2⟩;obtain⟨q,hq,e⟩:=Oe.mp z;exact Oe.mpr ⟨q,hq,Sum.inr.inj e⟩
section
variable{X:Cx}{K:W.Frag}{mg:Qh}{w:World}{n:Str}{kvs:List (Str×Int)}
def Dg(I:Inv X pins σ H s)(g:KDict X.w X.K X.mg n kvs):∃a vs,X.mg n=some (.ref a)/\(a==sysModules)=false/\s.heap.DictOf (aV X.prog X.w) a vs/\∀k:Str,(lkS kvs k=none/\valueAt vs (.inr k)=none)\/∃i t,lkS kvs k=some i/\valueAt vs (.inr k)=some (.int i t):=by obtain⟨a,o,es,ep,h1,h2,h3,h4,h5,h6,h7⟩:=g;obtain⟨q1,vs,q2,q3,q4⟩:=oX (P:=X.prog) h6;refine⟨a,vs,h1,h2,⟨o,es,ep,I.kIn a o h3,h4,h5,λe he=>q1 e (by simpa using he),q2,?_⟩,q4⟩;rw[q3];exact oM h7
def Co(o_:Bool)(mg:Qh)(n:Str)(kvs:List (Str×Int)):R2:=λx y H Q=>∃k a,x=.str k/\y=.ref a/\mg n=some (.ref a)/\Q (.bl (o_ ^^ (lkS kvs k).isSome)) H
def wg(mg:Qh)(n:Str)(kvs:List (Str×Int)):R2:=λx y H Q=>∃k a i,y=.str k/\x=.ref a/\mg n=some (.ref a)/\lkS kvs k=some i/\Q (.int i) H
def DU(hw:X.w=w)(hK:X.K=K)(hm:X.mg=mg)(g:KDict w K mg n kvs):OpR X (compareOp .NotIn) (Co true mg n kvs):=by
 subst hw hK hm;intro pins s σ H x y v u Q I rx ry ⟨k,a,ex,ey,e1,q⟩;subst ex ey;cases ry;obtain⟨a',vs,h1,h2,dd,h4⟩:=Dg I g;have:a'=a:=by rw[h1] at e1;cases e1;rfl
 subst this;refine wpAny_notIn_of (km (k:=.inr k) rx) h2 dd.mapOf ⟨.bl (!(valueAt vs (.inr k)).isSome),H,I.tok _,rfl,?_⟩;rcases h4 k with ⟨z1,z2⟩ |⟨i,t,z1,z2⟩
 .rw[z2];rw[z1] at q;exact q
 .rw[z2];rw[z1] at q;exact q
def Di(hw:X.w=w)(hK:X.K=K)(hm:X.mg=mg)(g:KDict w K mg n kvs):IxR X (wg mg n kvs):=by
 subst hw hK hm;intro value m_ pins s σ H x y v u Q I rx ry ⟨k,a,i,ey,ex,e1,e2,q⟩ hs;subst ex ey;cases rx;obtain⟨a',vs,h1,h2,dd,h4⟩:=Dg I g;have:a'=a:=by rw[h1] at e1;cases e1;rfl
 subst this;rcases h4 k with ⟨z1,z2⟩ |⟨i',t,z1,z2⟩
 .rw[e2] at z1;cases z1
 .rw[e2] at z1;cases z1;exact PR (x:=.int i t) dd.typeIs PySem.F.slot_dict_getitem.lookup (wpAny_getItem_of (km (k:=.inr k) ry) dd.mapOf z2 ⟨rfl,.int i,H,I.tok _,⟨t,rfl⟩,q⟩) hs
def qW(o_:Bool)(n:Str)(kvs:List (Str×Int)):D->D->AH->R D:=λx y h=>match x,y with
 |.str k,.glb m=>if m=n then .ok (.bl (o_ ^^ (lkS kvs k).isSome)) h else .stuck
 |_,_=>.stuck
def ng(n:Str)(kvs:List (Str×Int)):D->D->AH->R D:=λx y h=>match x,y with
 |.glb m,.str k=>(match lkS kvs k with
  |some i=>if m=n then .ok (.int i) h else .stuck
  |none=>.stuck)
 |_,_=>.stuck
def Ey(o_:Bool):OpD K mg (Co o_ mg n kvs) (qW o_ n kvs):=λρ h H dx dy x y Q E w rx ry p=>by
 unfold qW at p;split at p
 .split at p
  .rename_i hm;subst hm;cases rx;cases ry with
   |glb m=>exact⟨_,_,rfl,rfl,m,az w (.bl _) p⟩
  .exact p.elim
 .exact p.elim
def Bk:OpD K mg (wg mg n kvs) (ng n kvs):=λρ h H dx dy x y Q E w rx ry p=>by
 unfold ng at p;split at p
 .split at p
  .rename_i i e;split at p
   .rename_i hm;subst hm;cases ry;cases rx with
    |glb m=>exact⟨_,_,_,rfl,rfl,m,e,az w (.int _) p⟩
   .exact p.elim
  .exact p.elim
 .exact p.elim
end
def B7{K:W.Frag}{h:Heap}{mg:Qh}{w:World}{n:Str}{kvs:List (Str×Int)}{a:Addr}{es:Array DictEntry}{ep:Nat}(X:K.In h)(G:h.Ns mainGlobals mg)(e1:W.nsIn K mainGlobals n=some (some (.ref a)))(e2:List.lookup a K=some { cls:=.type "dict",data:=.dict es ep })(hs:(a==sysModules)=false)(he:EntOk w es.toList kvs)(hn:(kvs.map (·.1)).Nodup):KDict w K mg n kvs:=
 ⟨a,_,es,ep,W.mg_of X G e1,hs,e2,⟨rfl,rfl,rfl⟩,rfl,he,hn⟩
def KDict.ex(g:KDict w K mg n kvs):∃a,mg n=some (.ref a):=let ⟨a,_,_,_,e,_⟩:=g;⟨a,e⟩
structure RoomU(k:Nat)(A:Around):Prop where
 dp:A.depth+3*k+5<recursionLimit
 un:A.units+16*k+200<cLine
def RoomU.deeper(r:RoomU (k+1) A)(env:Env):RoomU k (A.deeper env):=
 ⟨by have:=r.dp;show A.depth+1+3*k+5<_;omega,by have:=r.un;show A.units+3+16*k+200<_;omega⟩
def RoomU.depth(r:RoomU k A):A.depth<recursionLimit:=by have:=r.dp;omega
def RoomU.u180(r:RoomU k A):A.units+180<cLine:=by have:=r.un;omega
def RoomU.u100(r:RoomU k A):A.units+190<cLine:=by have:=r.un;omega
def Room.toU(r:Room k A)(e:Option Value)(h:j<=k):RoomU j (A.mark e):=⟨by have:=r.dp;show A.depth+3*j+5<_;omega,by have:=r.un;show A.units+16*j+200<_;omega⟩
def fY(CX:CXT)(P:Program)(w:World)(K:W.Frag)(mg:Qh)(base:Heap)(N:List Str)(qual:Str)(scope:Scope)(f:Addr)(cd:Value)(A:Around)(outer:List Env)(s:Shared)(H:Hp)(E:XK):Cx:={ df CX P w K mg base N qual scope f cd A outer s H E with calm:=false }
structure FnOkU(P:Program)(w:World)(K:W.Frag)(mg:Qh)(base:Heap)(CX:CXT)(k:Nat)(f:Addr)(fd:FuncData)(ps:List Str)(sp:Sp):Prop where
 len:∀vs H Q E,sp vs H Q E->vs.length=ps.length
 run:∀(A:Around) (outer:List Env) (s:Shared) (H:Hp) (args:Args) (us:List Value) (vs:List V) (Q:VK) (E:XK),RoomU k A->Env0 P w K mg base A outer s H->BindsTo s fd args (ps.zip us)->Vals vs us->sp vs H Q E->
  codeAny (model P w) A (.call (.ref f) args) (CR CX outer P w H s Q E) s
def vw{CX:CXT}{P:Program}{w:World}{K:W.Frag}{mg:Qh}{base:Heap}{N ps:List Str}{qual:Str}{scope:Scope}{f:Addr}{cd:Value}{A:Around}{outer:List Env}{s s1:Shared}{H:Hp}{E:XK}{us:List Value}{vs:List V}
 (S:FnScope N ps scope) (e0:Env0 P w K mg base A outer s H) (hl:vs.length=ps.length) (r:Vals vs us)
 (x:InCallC s s.heap.objs.size (bindL (envOfC qual scope s.heap.objs.size f cd).kindOf (ps.zip us) λ_=>none) (cellsFrom (s.heap.objs.size+1) scope.names []) (bindC (envOfC qual scope s.heap.objs.size f cd).kindOf (ps.zip us) λ_=>none) s1):
 Inv (fY CX P w K mg base N qual scope f cd A outer s H E) [] (cI N vs) H s1:=by
 have I:=pC (CX:=CX) (E:=E) (A:={ A with handled:=none }) S rfl ⟨e0.frames,e0.mod,e0.bs,e0.bsz,e0.funs,e0.frf,e0.hok,e0.bare⟩ hl r x;exact⟨⟨I.ok.mod,I.ok.kind,I.ok.glob,I.ok.blt,I.ok.above,I.ok.inj,I.ok.has,I.ok.cab,λz=>absurd z y_,Around.frames_deeper e0.frames,I.ok.stk,I.ok.exf,I.ok.bs,I.ok.bsz,I.ok.noex,I.ok.exfs,I.ok.funs,I.ok.frf⟩,I.os,I.bare,I.base,I.loc,I.cell,I.free,I.freeC,I.pin,I.hok,I.len⟩
def Gx{CX:CXT}{P:Program}{w:World}{K:W.Frag}{mg:Qh}{base:Heap}{k:Nat}{f:Addr}{name qual:Str}{params:Arguments}{body:List Stmt}{scope:Scope}{dV kV doc pm cdv ct oc:Value}{an od:Option Addr}
 {osl:Array (Option Value)}{N ps:List Str}{sp:Sp} (lk:K.lookup f=some ⟨oc,od,.func (W.fnOf name qual params body scope dV kV doc pm an cdv ct),osl⟩) (s_:W.codeIn K cdv qual=true) (S:FnScope N ps scope)
 (len:∀vs H Q E,sp vs H Q E->vs.length=ps.length)
 (e_:∀(A:Around) (outer:List Env) (s:Shared) (H:Hp) (vs:List V) (Q:VK) (E:XK),RoomU k (A.deeper (envOfC qual scope s.heap.objs.size f cdv))->sp vs H Q E->
  ∃t,PSs (fY CX P w K mg base N qual scope f cdv A outer s H E) body t/\t { nx:=λ_ H'=>Q .non H',rt:=Q } (cI N vs) H):
 FnOkU P w K mg base CX (k+1) f (W.fnOf name qual params body scope dV kV doc pm an cdv ct) ps sp:=by
 refine⟨len,λA outer s H args us vs Q E hr e0 hb r hsp=>?_⟩;have hl:=len _ _ _ _ hsp;have KX:K.In s.heap:=e0.mod.kin.keeps λb o e=>(e0.bs b o e).1;have lim:s.heap.NoLimit:=e0.mod.nolimit.keeps λb o e=>(e0.bs b o e).1;have hkind:∀y∈ps.zip us,scope.names.lookup y.1=some .local\/(scope.names.lookup y.1=some .cell/\((cellsFrom (s.heap.objs.size+1) scope.names []).lookup y.1).isSome=true):=λ⟨n,v⟩ hy=>by
  rcases S.par n (P5 hy).1 with q |q
  .exact .inl q
  .exact .inr ⟨q,W.cellsFrom_some _ _ _ (.inl q)⟩
 refine codeAny_call_function hr.depth (KX _ _ lk) rfl S.co S.gen rfl (W.codeRec_of KX s_) (hb _ _ _ _ ?_);refine wpAny_newFunctionEnv_cells S.kind hkind λenv he s1 x=>?_;subst he;refine⟨lim.keeps x.toInCall.keep,codeAny_func ?_⟩;obtain⟨t,ht,hq⟩:=e_ A outer s H vs Q E (hr.deeper _) hsp;have I:Inv (fY CX P w K mg base N qual scope f cdv A outer s H E) [] (cI N vs) H s1:=vw S e0 hl r x;refine N_ (ht [] s1 (cI N vs) H _ I hq) (λfl s' hs=>?_) λe s' hs=>hs;have l_:∀{σ':St}{H':Hp}{v:V}{u:Value},Inv (fY CX P w K mg base N qual scope f cdv A outer s H E) [] σ' H' s'->RelV v u->Q v H'->CE outer P w H s Q u s':=
  λ{σ' H' v u} J rv q=>⟨v,H',J.os,J.bare,J.base,J.hok,rv,q⟩
 cases fl with
 |ret u=>obtain⟨v,σ',H',J,rv,q⟩:=hs;exact l_ J rv q
 |next=>obtain⟨σ',H',J,q⟩:=hs;exact l_ (v:=V.non) (u:=Value.none) J rfl q
 |brk=>obtain⟨_,_,_,q⟩:=hs;exact False.elim q
 |cont=>obtain⟨_,_,_,q⟩:=hs;exact False.elim q
section
variable{P:Program}{w:World}{K:W.Frag}{mg:Qh}{base:Heap}{x:Str}{st:Stmt}{k:Nat}{ps N:List Str}{sp:Sp}
def Fun.okRU(F:Fun K x qual st f fd)(S:FnScope N ps (ak st))(len:∀vs H Q E,sp vs H Q E->vs.length=ps.length)
 (e_:∀(cdv:Value) (A:Around) (outer:List Env) (s:Shared) (H:Hp) (vs:List V) (Q:VK) (E:XK),RoomU k (A.deeper (envOfC qual (ak st) s.heap.objs.size f cdv))->sp vs H Q E->
  ∃t,PSs (fY (CX1 P w) P w K mg base N qual (ak st) f cdv A outer s H E) (aG st) t/\t { nx:=λ_ H'=>Q .non H',rt:=Q } (cI N vs) H):FnOkU P w K mg base (CX1 P w) (k+1) f fd ps sp:=by
 obtain⟨oc,od,kV,doc,pm,an,cdv,ct,osl,rfl,lk,s_⟩:=F.ex;exact Gx lk s_ S len λA outer s H vs Q E hr hsp=>e_ cdv A outer s H vs Q E hr hsp
structure CalleeU(P:Program)(w:World)(K:W.Frag)(mg:Qh)(base:Heap)(x:Str)(k:Nat)(ps:List Str)(sp:Sp):Prop where
 ex:∃f fd,FnOkU P w K mg base (CX1 P w) k f fd ps sp/\mg x=some (.ref f)/\W.keepIn K (.ref f)=true/\Binds K fd ps []/\∃oc od osl,K.lookup f=some ⟨oc,od,.func fd,osl⟩
def Def.okRU(D:Def K mg x st)(S:FnScope N ps (ak st))
 (hb:∀(kV doc pm:Value) (an:Option Addr) (cdv ct:Value) (us:List Value),us.length=ps.length->bindArgs (W.fnOf x x (bj st) (aG st) (ak st) .none kV doc pm an cdv ct) ⟨us,[]⟩=pure (ps.zip us))
 (len:∀vs H Q E,sp vs H Q E->vs.length=ps.length)
 (e_:∀(f:Addr) (cdv:Value) (A:Around) (outer:List Env) (s:Shared) (H:Hp) (vs:List V) (Q:VK) (E:XK),RoomU k (A.deeper (envOfC x (ak st) s.heap.objs.size f cdv))->sp vs H Q E->
  ∃t,PSs (fY (CX1 P w) P w K mg base N x (ak st) f cdv A outer s H E) (aG st) t/\t { nx:=λ_ H'=>Q .non H',rt:=Q } (cI N vs) H):CalleeU P w K mg base x (k+1) ps sp:=by
 obtain⟨f,fd,F,m⟩:=D.ex;exact⟨f,fd,F.okRU S len (e_ f),m,F.kp,F.binds hb,F.look⟩
variable{F:MS}
def Def.okDU(D:Def K mg x st)(S:FnScope N ps (ak st))
 (hb:∀(kV doc pm:Value) (an:Option Addr) (cdv ct:Value) (us:List Value),us.length=ps.length->bindArgs (W.fnOf x x (bj st) (aG st) (ak st) .none kV doc pm an cdv ct) ⟨us,[]⟩=pure (ps.zip us))
 (e_:∀(f:Addr) (cdv:Value) (A:Around) (outer:List Env) (s:Shared) (H:Hp) (E:XK),RoomU k (A.deeper (envOfC x (ak st) s.heap.objs.size f cdv))->
  DSs K mg (fY (CX1 P w) P w K mg base N x (ak st) f cdv A outer s H E) (λ_=>E) (aG st) F):CalleeU P w K mg base x (k+1) ps (spD K mg ps.length (fnD N.length F)):=by
 refine D.okRU S hb (λvs H Q E ⟨ρ,h,ds,w,rs,hl,p⟩=>by rw[<- rs.len];exact hl) λf cdv A outer s H vs Q E hr ⟨ρ,h,ds,w',rs,hl,p⟩=>?_;refine⟨_,e_ f cdv A outer s H E hr,ρ,h,_,w',mV rs,?_⟩;unfold fnD at p;split at p
 .rename_i e;rw[e];exact λρ1 H1 σ1 l1 w1 re1=>p ρ1 H1 l1 w1 _ .non
 .rename_i e;rw[e];exact λρ1 H1 v l1 w1 rv=>p ρ1 H1 l1 w1 v rv
 .rename_i e;rw[e];exact λρ1 H1 σ1 C l1 w1 re1 m=>p ρ1 H1 C l1 w1 m
 .exact p.elim
end
section
variable{X:Cx}{K:W.Frag}{mg:Qh}{ES:St->XK}{e:Expr}{es:List Expr}{A:MA}{pos:Pos}
def Cb(C:CalleeU X.prog X.w X.K X.mg X.base x k ps (spD K mg n S))(hr:RoomU k X.A)(hg:Gl X x)(hx:eu X ES)(ha:DA K mg X ES (e::es) A)
 (hdb:(x==("__debug__" : Str))=false) (he:starEach (e::es) X.env=(false,eval e X.env)::starEach es X.env) (hpl:(backTo pos (starEach es X.env)).any (·.1)=false):
 DE K mg X ES (.Call (.Name x p) (e::es) [] pos) (eFn (λds h=>if ds.length=n then S ds h else .stuck) A):=by
 obtain⟨f,fd,F',m,kp,bb,_⟩:=C.ex;intro pins s σ H Q I hh;refine OU (j7 I hg m ?_ hdb);have rd:rdA K mg ES A σ H (λvs H1=>spD K mg n S vs H1 Q (ES σ)):=by
  obtain⟨ρ,h,ae,w,re,p⟩:=hh;refine⟨ρ,h,ae,w,re,p.bind.imp λds h1 ρ1 H1 l1 w1 p1 vs rs=>?_⟩;split at p1
  .rename_i hl;exact⟨ρ1,h1,ds,w1,rs,hl,p1⟩
  .exact p1.elim
 refine W.callWith_K (h₀:=X.base) I.ok.mod.kin kp (N_ (ha pos pins s σ H _ I rd) (λus s1 ⟨vs,H1,I1,r,q⟩=>⟨I1.kIn,?_⟩) λ_ _ z=>z) he hpl;have hl:(us++[]).length=ps.length:=by rw[Oh,<- r.length];exact F'.len _ _ _ _ q
 refine wpAny_call (codeAny_mono (F'.run X.A X.stack s1 H1 ⟨us,[]⟩ us vs Q (ES σ) hr I1.env0 (by simpa using bb s1 us I1.kIn hl) r q) λr s' hq=>?_);cases r with
 |error ex=>exact hx pins σ H1 s1 ex s' I1 hq
 |
  ok fl=>
  cases fl with
  |ret u=>exact I1.after hq
  |next=>exact False.elim hq
  |brk=>exact False.elim hq
  |cont=>exact False.elim hq
end
open PySem PySem.W PyProof.Rows
abbrev Ask:=Nat->Nat->(Bool->Shared->Prop)->Shared->Prop
variable{lt:Nat->Nat->Bool}{N:Nat}{cmp:Ask}{s:Shared}
noncomputable def lexP(x y:Int×Int):Bool:=decide (x.1<y.1\/(x.1=y.1/\x.2<y.2))
def ltP(ks:List (Int×Int))(i j:Nat):Bool:=lexP (ks.getD i (0,0)) (ks.getD j (0,0))
set_option maxHeartbeats 4000000
end L2
namespace L3
open PySem PySem.Spec PyProof.Rows L2
set_option genInjectivity true in
inductive Val where
 |non |bl (b:Bool) |int (i:Int) |str (x:Str) |ty (n:String) |glb (x:Str) |exc (x:Str)
 |tup (xs:List Val) |lst (xs:List Val) |kl (xs:List Val) |dct (kvs:List (Key×Val)) |set (xs:List Int)
 deriving Inhabited
mutual
inductive Rd(P:Nat->Prop)(h:AH):D->Val->Prop where
 |non:Rd P h .non .non
 |bl (b:Bool):Rd P h (.bl b) (.bl b)
 |int (i:Int):Rd P h (.int i) (.int i)
 |str (x:Str):Rd P h (.str x) (.str x)
 |ty (n:String):Rd P h (.ty n) (.ty n)
 |glb (x:Str):Rd P h (.glb x) (.glb x)
 |exc (x:Str):Rd P h (.exc x) (.exc x)
 |tup {ds:List D}{vs:List Val} (r:Rds P h ds vs):Rd P h (.tup ds) (.tup vs)
 |kl {ds:List D}{vs:List Val} (r:Rds P h ds vs):Rd P h (.kl ds) (.kl vs)
 |cell {n:Nat}{o:Ob}{v:Val} (p:P n) (e:h[n]?=some o) (r:Rc P h o v):Rd P h (.ref n) v
inductive Rc(P:Nat->Prop)(h:AH):Ob->Val->Prop where
 |lst {ds:List D}{vs:List Val} (r:Rds P h ds vs):Rc P h (.lst ds) (.lst vs)
 |fz {ds:List D}{vs:List Val} (r:Rds P h ds vs):Rc P h (.fz ds) (.kl vs)
 |dct {ws:List (Key×D)}{us:List (Key×Val)} (r:Rk P h ws us):Rc P h (.dct ws) (.dct us)
 |set (xs:List Int):Rc P h (.set xs) (.set xs)
inductive Rds(P:Nat->Prop)(h:AH):List D->List Val->Prop where
 |nil:Rds P h [] []
 |cons {d:D}{v:Val}{ds:List D}{vs:List Val} (r:Rd P h d v) (rr:Rds P h ds vs):Rds P h (d::ds) (v::vs)
inductive Rk(P:Nat->Prop)(h:AH):List (Key×D)->List (Key×Val)->Prop where
 |nil:Rk P h [] []
 |cons {k:Key}{d:D}{v:Val}{ds:List (Key×D)}{vs:List (Key×Val)} (r:Rd P h d v) (rr:Rk P h ds vs):Rk P h ((k,d)::ds) ((k,v)::vs)
end
section
variable{P P':Nat->Prop}{h h':AH}
abbrev Mov(P P':Nat->Prop)(h h':AH):Prop:=∀n o,P n->h[n]?=some o->P' n/\h'[n]?=some o
def Rd.mono(m:Mov P P' h h')(r:Rd P h d v):Rd P' h' d v:=@Rd.rec P h (λd v _=>Rd P' h' d v) (λo v _=>Rc P' h' o v) (λds vs _=>Rds P' h' ds vs) (λws us _=>Rk P' h' ws us) .non (λb=>.bl b) (λi=>.int i) (λx=>.str x) (λn=>.ty n) (λx=>.glb x) (λx=>.exc x) (λ_ ih=>.tup ih) (λ_ ih=>.kl ih) (λp e _ ih=>.cell (m _ _ p e).1 (m _ _ p e).2 ih) (λ_ ih=>.lst ih) (λ_ ih=>.fz ih) (λ_ ih=>.dct ih) (λxs=>.set xs) .nil (λ_ _ a b=>.cons a b) .nil (λ_ _ a b=>.cons a b) d v r
def Rds.ind{M:List D->List Val->Prop}(h0:M [] [])(h1:∀{d v ds vs},Rd P h d v->Rds P h ds vs->M ds vs->M (d::ds) (v::vs)){ds:List D}{vs:List Val}(r:Rds P h ds vs):M ds vs:=by
 induction ds generalizing vs with
 |nil=>cases r;exact h0
 |
  cons d ds ih=>
  cases r with
  |cons r rr=>exact h1 r rr (ih rr)
def Rk.ind{M:List (Key×D)->List (Key×Val)->Prop}(h0:M [] [])(h1:∀{k d v ds vs},Rd P h d v->Rk P h ds vs->M ds vs->M ((k,d)::ds) ((k,v)::vs)){ds:List (Key×D)}{vs:List (Key×Val)}(r:Rk P h ds vs):M ds vs:=by
 induction ds generalizing vs with
 |nil=>cases r;exact h0
 |
  cons d ds ih=>
  cases r with
  |cons r rr=>exact h1 r rr (ih rr)
def Rds.mono(m:Mov P P' h h'){d:List D}{v:List Val}(r:Rds P h d v):Rds P' h' d v:=r.ind .nil λr _ ih=>.cons (r.mono m) ih
def Rk.mono(m:Mov P P' h h'){d:List (Key×D)}{v:List (Key×Val)}(r:Rk P h d v):Rk P' h' d v:=r.ind .nil λr _ ih=>.cons (r.mono m) ih
def Rc.mono(m:Mov P P' h h')(r:Rc P h d v):Rc P' h' d v:=by
 cases r with
 |lst r=>exact .lst (r.mono m)
 |fz r=>exact .fz (r.mono m)
 |dct r=>exact .dct (r.mono m)
 |set xs=>exact .set xs
def Rds.len{ds:List D}{vs:List Val}(r:Rds P h ds vs):ds.length=vs.length:=r.ind (M:=λds vs=>ds.length=vs.length) rfl λ_ _ ih=>Og (· + 1) ih
def Rds.get{ds:List D}{vs:List Val}{i:Nat}{v:Val}(r:Rds P h ds vs)(e:vs[i]?=some v):∃d,ds[i]?=some d/\Rd P h d v:=
 r.ind (M:=λds vs=>∀i,vs[i]?=some v->∃d,ds[i]?=some d/\Rd P h d v) (λ_ e=>by rw[List.getElem?_nil] at e;cases e) (λr _ ih i e=>match i,e with
  |0,e=>by cases e;exact⟨_,rfl,r⟩
  |i+1,e=>ih i e) i e
def Rds.append{ds es:List D}{vs ws:List Val}(r:Rds P h ds vs)(q:Rds P h es ws):Rds P h (ds++es) (vs++ws):=r.ind (M:=λds vs=>Rds P h (ds++es) (vs++ws)) q λr _ ih=>.cons r ih
def Rds.take{ds:List D}{vs:List Val}(n:Nat)(r:Rds P h ds vs):Rds P h (ds.take n) (vs.take n):=
 r.ind (M:=λds vs=>∀n:Nat,Rds P h (ds.take n) (vs.take n)) (λn=>by rw[O7,O7];exact .nil) (λr _ ih n=>by cases n with |zero=>exact .nil |succ n=>exact .cons r (ih n)) n
def Rds.drop{ds:List D}{vs:List Val}(n:Nat)(r:Rds P h ds vs):Rds P h (ds.drop n) (vs.drop n):=
 r.ind (M:=λds vs=>∀n:Nat,Rds P h (ds.drop n) (vs.drop n)) (λn=>by rw[Pm,Pm];exact .nil) (λr rr ih n=>by cases n with |zero=>exact .cons r rr |succ n=>exact ih n) n
def Rds.set{d:D}{v:Val}(r:Rd P h d v){ds:List D}{vs:List Val}(i:Nat)(q:Rds P h ds vs):Rds P h (ds.set i d) (vs.set i v):=
 q.ind (M:=λds vs=>∀i:Nat,Rds P h (ds.set i d) (vs.set i v)) (λ_=>.nil) (λq qq ih i=>by cases i with |zero=>exact .cons r qq |succ i=>exact .cons q (ih i)) i
theorem Rds.rep(r:Rds P h xs vs):∀n:Nat,Rds P h (List.replicate n xs).flatten (List.replicate n vs).flatten
 |0=>.nil
 |
  n+1=>by
  rw[Om,Om,OB,OB];exact r.append (Rds.rep r n)
def ShR(P:Nat->Prop)(h:AH)(d:D)(v:Val):Prop:=Rd P h d v\/∃n o,d=.ref n/\h[n]?=some o/\Rc P h o v
inductive ShRs(P:Nat->Prop)(h:AH):List D->List Val->Prop where
 |nil:ShRs P h [] []
 |cons {d:D}{v:Val}{ds:List D}{vs:List Val} (r:ShR P h d v) (rr:ShRs P h ds vs):ShRs P h (d::ds) (v::vs)
noncomputable def Val.items:Val->Option (List Val)
 |.tup xs=>some xs
 |.lst xs=>some xs
 |.kl xs=>some xs
 |_=>none
def ShR.int(r:ShR P h d (.int i)):d=.int i:=by
 rcases r with r |⟨n,o,rfl,e,r⟩
 .cases r with
  |int=>rfl
  |cell p e r=>cases r
 .cases r
def ShR.str(r:ShR P h d (.str i)):d=.str i:=by
 rcases r with r |⟨n,o,rfl,e,r⟩
 .cases r with
  |str=>rfl
  |cell p e r=>cases r
 .cases r
def ShR.bl(r:ShR P h d (.bl i)):d=.bl i:=by
 rcases r with r |⟨n,o,rfl,e,r⟩
 .cases r with
  |bl=>rfl
  |cell p e r=>cases r
 .cases r
def ShR.non(r:ShR P h d .non):d=.non:=by
 rcases r with r |⟨n,o,rfl,e,r⟩
 .cases r with
  |non=>rfl
  |cell p e r=>cases r
 .cases r
def ShR.exc(r:ShR P h d (.exc x)):d=.exc x:=by
 rcases r with r |⟨n,o,rfl,e,r⟩
 .cases r with
  |exc=>rfl
  |cell p e r=>cases r
 .cases r
def ShR.ty(r:ShR P h d (.ty x)):d=.ty x:=by
 rcases r with r |⟨n,o,rfl,e,r⟩
 .cases r with
  |ty=>rfl
  |cell p e r=>cases r
 .cases r
def ShR.glb(r:ShR P h d (.glb x)):d=.glb x:=by
 rcases r with r |⟨n,o,rfl,e,r⟩
 .cases r with
  |glb=>rfl
  |cell p e r=>cases r
 .cases r
def ShR.tup(r:ShR P h d (.tup vs)):∃ds,d=.tup ds/\Rds P h ds vs:=by
 rcases r with r |⟨n,o,rfl,e,r⟩
 .cases r with
  |tup r=>exact⟨_,rfl,r⟩
  |cell p e r=>cases r
 .cases r
def Rc.seq(e:h[n]?=some o)(r:Rc P h o (.lst vs)):∃ds,h[n]?=some (.lst ds)/\aR h n=some ds/\Rds P h ds vs:=by
 cases r with
 |lst r=>exact⟨_,e,by unfold aR;rw[e],r⟩
def ShR.lst(r:ShR P h d (.lst vs)):∃n ds,d=.ref n/\h[n]?=some (.lst ds)/\aR h n=some ds/\Rds P h ds vs:=by
 rcases r with r |⟨n,o,rfl,e,r⟩
 .cases r with
  |cell p e r=>obtain⟨ds,q,r⟩:=Rc.seq e r;exact⟨_,ds,rfl,q,r⟩
 .obtain⟨ds,q,r⟩:=Rc.seq e r;exact⟨_,ds,rfl,q,r⟩
def ShR.kl(r:ShR P h d (.kl vs)):∃ds,Rds P h ds vs/\(d=.kl ds\/∃n,d=.ref n/\aR h n=some ds):=by
 rcases r with r |⟨n,o,rfl,e,r⟩
 .cases r with
  |kl r=>exact⟨_,r,.inl rfl⟩
  |cell p e r=>cases r with |fz r=>exact⟨_,r,.inr ⟨_,rfl,by unfold aR;rw[e]⟩⟩
 .cases r with |fz r=>exact⟨_,r,.inr ⟨_,rfl,by unfold aR;rw[e]⟩⟩
def ShR.dct(r:ShR P h d (.dct us)):∃n ws,d=.ref n/\h[n]?=some (.dct ws)/\Rk P h ws us:=by
 rcases r with r |⟨n,o,rfl,e,r⟩
 .cases r with
  |cell p e r=>cases r with |dct r=>exact⟨_,_,rfl,e,r⟩
 .cases r with |dct r=>exact⟨_,_,rfl,e,r⟩
def ShR.items(r:ShR P h d v)(e:v.items=some vs):∃ds,cV h d=some ds/\Rds P h ds vs:=by
 cases v with
 |tup xs=>cases e;obtain⟨ds,rfl,q⟩:=r.tup;exact⟨ds,rfl,q⟩
 |lst xs=>cases e;obtain⟨n,ds,rfl,_,e,q⟩:=r.lst;exact⟨ds,e,q⟩
 |
  kl xs=>
  cases e;obtain⟨ds,q,rfl |⟨n,rfl,e⟩⟩:=r.kl
  .exact⟨ds,rfl,q⟩
  .exact⟨ds,e,q⟩
 |_=>cases e
end
inductive Sl where
 |no |sh (v:Val) |ow (v:Val) |mu (v:Val) |lo (v:Val) |lm (v:Val)
 deriving Inhabited
abbrev E3:=List Sl
noncomputable def Sl.val:Sl->Option Val
 |.no=>none
 |.sh v=>some v
 |.ow v=>some v
 |.mu v=>some v
 |.lo v=>some v
 |.lm v=>some v
noncomputable def Sl.mt:Sl->Bool
 |.ow _=>true
 |.mu _=>true
 |_=>false
noncomputable def Sl.lk:Sl->Bool
 |.lo _=>true
 |.lm _=>true
 |_=>false
abbrev Ns:=List (Option Nat)
def Oc(X:Nat->Prop)(ns:Ns)(n:Nat):Prop:=¬ X n/\some n∉ns
def bK:Ob->Prop
 |.fz _=>False
 |.any=>False
 |_=>True
def SlR(P:Nat->Prop)(h0:Nat)(n:Option (Option Nat))(d:Option (Option D))(h:AH):Sl->Prop
 |.no=>n=some none
 |.sh v=>n=some none/\∃x,d=some (some x)/\Rd P h x v
 |.ow v=>∃m o,n=some (some m)/\d=some (some (.ref m))/\h0<=m/\h[m]?=some o/\bK o/\Rc P h o v
 |.lo v=>∃m o,n=some (some m)/\d=some (some (.ref m))/\h0<=m/\h[m]?=some o/\bK o/\Rc P h o v
 |.mu v=>∃m o,n=some (some m)/\d=some (some (.ref m))/\h[m]?=some o/\bK o/\Rc P h o v
 |.lm v=>∃m o,n=some (some m)/\d=some (some (.ref m))/\h[m]?=some o/\bK o/\Rc P h o v
structure Sat(X:Nat->Prop)(h0:Nat)(ns:Ns)(e:E3)(ae:AE)(h:AH):Prop where
 l1:ae.length=e.length
 l2:ns.length=e.length
 lh:h0<=h.length
 xl:∀(n:Nat),X n->n<h.length
 inj:∀(i j n:Nat),ns[i]?=some (some n)->ns[j]?=some (some n)->i=j
 nx:∀(i n:Nat),ns[i]?=some (some n)->¬ X n
 sl:∀(i:Nat) (s:Sl),e[i]?=some s->SlR (Oc X ns) h0 (ns[i]?) (ae[i]?) h s
def Mt(ns:Ns)(e:E3)(n:Nat):Prop:=∃(i:Nat) (s:Sl),ns[i]?=some (some n)/\e[i]?=some s/\s.mt=true
structure Stp(ns:Ns)(e:E3)(h:AH)(ns':Ns)(e':E3)(h':AH):Prop where
 len:h.length<=h'.length
 keep:∀(m:Nat) (o:Ob),h[m]?=some o->¬ Mt ns e m->h'[m]?=some o
 nw:∀(i n:Nat),ns'[i]?=some (some n)->ns[i]?=some (some n)\/h.length<=n
 lk:∀(i:Nat) (s:Sl),e[i]?=some s->s.lk=true->e'[i]?=some s/\ns'[i]?=ns[i]?
 lk':∀(i:Nat) (s:Sl),e'[i]?=some s->s.lk=true->e[i]?=some s/\ns'[i]?=ns[i]?
 mu:∀(i:Nat) (v:Val),e'[i]?=some (.mu v)->∃u,e[i]?=some (.mu u)/\ns'[i]?=ns[i]?
 mu':∀(i:Nat) (u:Val),e[i]?=some (.mu u)->∃v,e'[i]?=some (.mu v)/\ns'[i]?=ns[i]?
section
variable{X:Nat->Prop}{h0:Nat}{ns ns1 j_:Ns}{e e1 e2:E3}{ae:AE}{h h' h1 h2:AH}
def aW:some n∈ns ↔ ∃i:Nat,ns[i]?=some (some n):=by
 constructor
 .intro m;exact List.getElem?_of_mem m
 .rintro⟨i,e⟩;exact O3 e
def Sat.own(S:Sat X h0 ns e ae h){i n:Nat}(q:ns[i]?=some (some n)):∃s v o,e[i]?=some s/\(s.mt=true\/s.lk=true)/\s.val=some v/\ae[i]?=some (some (.ref n))/\h[n]?=some o/\bK o/\Rc (Oc X ns) h o v:=by
 have hi:i<e.length:=by rw[<- S.l2];exact (x_.mp q).1
 have hs:=S.sl i e[i] (M_ hi);refine⟨e[i],?_⟩;have he:=M_ hi;generalize e[i]=s at *;rw[q] at hs;cases s with
 |no=>cases hs
 |sh v=>cases hs.1
 |ow v=>obtain⟨m,o,e1,e2,_,e3,e4,e5⟩:=hs;cases e1;exact⟨v,o,he,.inl rfl,rfl,e2,e3,e4,e5⟩
 |lo v=>obtain⟨m,o,e1,e2,_,e3,e4,e5⟩:=hs;cases e1;exact⟨v,o,he,.inr rfl,rfl,e2,e3,e4,e5⟩
 |mu v=>obtain⟨m,o,e1,e2,e3,e4,e5⟩:=hs;cases e1;exact⟨v,o,he,.inl rfl,rfl,e2,e3,e4,e5⟩
 |lm v=>obtain⟨m,o,e1,e2,e3,e4,e5⟩:=hs;cases e1;exact⟨v,o,he,.inr rfl,rfl,e2,e3,e4,e5⟩
def Stp.refl:Stp ns e h ns e h:=⟨z_ _,λ_ _ q _=>q,λ_ _ q=>.inl q,λ_ _ q _=>⟨q,rfl⟩,λ_ _ q _=>⟨q,rfl⟩,λ_ _ q=>⟨_,q,rfl⟩,λ_ _ q=>⟨_,q,rfl⟩⟩
def Stp.trans(S:Sat X h0 ns e ae h)(a:Stp ns e h ns1 e1 h1)(b:Stp ns1 e1 h1 j_ e2 h2):Stp ns e h j_ e2 h2:=by
 refine⟨J_ a.len b.len,λm o q hm=>?_,λi n q=>?_,λi s q hl=>?_,λi s q hl=>?_,λi v q=>?_,λi v q=>?_⟩
 .refine b.keep m o (a.keep m o q hm) λ⟨i,s,z1,z2,z3⟩=>hm ?_;have hlt:=(x_.mp q).1;rcases a.nw i m z1 with z |z
  .obtain⟨s0,v,o',q1,q2,_⟩:=S.own z;rcases q2 with q2 |q2
   .exact⟨i,s0,z,q1,q2⟩
   .have:=(a.lk i s0 q1 q2).1
    rw[z2] at this;cases this;exfalso;cases s <;> first |cases z3;done |cases q2;done
  .omega
 .rcases b.nw i n q with z |z
  .exact a.nw i n z
  .exact .inr (J_ a.len z)
 .obtain⟨q1,q2⟩:=a.lk i s q hl;obtain⟨q3,q4⟩:=b.lk i s q1 hl;exact⟨q3,q4.trans q2⟩
 .obtain⟨q1,q2⟩:=b.lk' i s q hl;obtain⟨q3,q4⟩:=a.lk' i s q1 hl;exact⟨q3,q2.trans q4⟩
 .obtain⟨u,q1,q2⟩:=b.mu i v q;obtain⟨u',q3,q4⟩:=a.mu i u q1;exact⟨u',q3,q2.trans q4⟩
 .obtain⟨u,q1,q2⟩:=a.mu' i v q;obtain⟨u',q3,q4⟩:=b.mu' i u q1;exact⟨u',q3,q4.trans q2⟩
def Stp.mov(S:Sat X h0 ns e ae h)(a:Stp ns e h ns1 e1 h1):Mov (Oc X ns) (Oc X ns1) h h1:=λn o p q=>by
 have hlt:=(x_.mp q).1;have hm:¬ Mt ns e n:=λ⟨i,s,z,_⟩=>p.2 (aW.mpr ⟨i,z⟩);refine⟨⟨p.1,λz=>?_⟩,a.keep n o q hm⟩;obtain⟨i,z⟩:=aW.mp z;rcases a.nw i n z with z |z
 .exact p.2 (aW.mpr ⟨i,z⟩)
 .omega
def cp(q:h[n]?=some o):n<h.length:=(x_.mp q).1
def kH{n:Nat}{o:Ob}{g:AH}(q:h[n]?=some o):(h++g)[n]?=some o:=by rw[N1 (cp q)];exact q
def vf:(h++[o])[h.length]?=some o:=by rw[N6 (z_ _),PB];rfl
def SlR.mono(m:Mov P P' h h')(k:∀j o,n=some (some j)->h[j]?=some o->h'[j]?=some o)(r:SlR P h0 n d h s):SlR P' h0 n d h' s:=by
 cases s with
 |no=>exact r
 |sh v=>obtain⟨q,x,q1,q2⟩:=r;exact⟨q,x,q1,q2.mono m⟩
 |ow v=>obtain⟨j,o,q1,q2,q3,q4,q5,q6⟩:=r;exact⟨j,o,q1,q2,q3,k j o q1 q4,q5,q6.mono m⟩
 |lo v=>obtain⟨j,o,q1,q2,q3,q4,q5,q6⟩:=r;exact⟨j,o,q1,q2,q3,k j o q1 q4,q5,q6.mono m⟩
 |mu v=>obtain⟨j,o,q1,q2,q4,q5,q6⟩:=r;exact⟨j,o,q1,q2,k j o q1 q4,q5,q6.mono m⟩
 |lm v=>obtain⟨j,o,q1,q2,q4,q5,q6⟩:=r;exact⟨j,o,q1,q2,k j o q1 q4,q5,q6.mono m⟩
def Xn(X:Nat->Prop)(n:Nat):Nat->Prop:=λm=>X m\/m=n
def Sat.grow(S:Sat X h0 ns e ae h)(o:Ob):Sat (Xn X h.length) h0 ns e ae (h++[o]):=by
 have mv:Mov (Oc X ns) (Oc (Xn X h.length) ns) h (h++[o]):=λn o' p q=>⟨⟨λz=>by
  rcases z with z |z
  .exact p.1 z
  .have:=cp q;omega,p.2⟩,kH q⟩
 refine⟨S.l1,S.l2,by rw[F_];have:=S.lh;omega,λn z=>?_,S.inj,λi n q z=>?_,λi s q=>(S.sl i s q).mono mv λj o' _ q'=>kH q'⟩
 .rw[F_];rcases z with z |z
  .have:=S.xl n z;omega
  .subst z;show h.length<h.length+1;omega
 .rcases z with z |z
  .exact S.nx i n q z
  .obtain⟨_,_,_,_,_,_,_,q',_⟩:=S.own q
   have:=cp q';omega
def Sat.weak(S:Sat Y h0 ns e ae h)(hx:∀n,X n->Y n):Sat X h0 ns e ae h:=
 ⟨S.l1,S.l2,S.lh,λn z=>S.xl n (hx n z),S.inj,λi n q z=>S.nx i n q (hx n z),λi s q=>(S.sl i s q).mono (λn o p q=>⟨⟨λz=>p.1 (hx n z),p.2⟩,q⟩) λ_ _ _ q=>q⟩
def Stp.grow(o:Ob):Stp ns e h ns e (h++[o]):=⟨by rw[F_];omega,λ_ _ q _=>kH q,λ_ _ q=>.inl q,λ_ _ q _=>⟨q,rfl⟩,λ_ _ q _=>⟨q,rfl⟩,λ_ _ q=>⟨_,q,rfl⟩,λ_ _ q=>⟨_,q,rfl⟩⟩
end
section
variable{X:Nat->Prop}{h0:Nat}{ns:Ns}{e:E3}{ae:AE}{h hs:AH}
def bE{α:Type}{l:List α}{i j:Nat}{a b:α}(hi:i<l.length)(q:(l.set i a)[j]?=some b):(j=i/\b=a)\/(j≠i/\l[j]?=some b):=by
 rw[Pa] at q;by_cases z:i=j
 .subst z;rw[if_pos rfl,if_pos hi] at q;exact .inl ⟨rfl,(NV q).symm⟩
 .rw[if_neg z] at q;exact .inr ⟨λy=>z y.symm,q⟩
def bH{α:Type}{l:List α}{i:Nat}{a:α}(hi:i<l.length):(l.set i a)[i]?=some a:=by rw[Pa,if_pos rfl,if_pos hi]
def bp{α:Type}{l:List α}{i j:Nat}{a:α}(hi:j≠i):(l.set i a)[j]?=l[j]?:=by rw[Pe (λy=>hi y.symm)]
def fC(p:Oc X ns n):Oc X (ns.set i none) n:=⟨p.1,λz=>by
 rcases Pr z with z |z
 .exact p.2 z
 .cases z⟩
def Sat.putN(S:Sat X h0 ns e ae h)(hi:i<e.length)(q:SlR (Oc X (ns.set i none)) h0 (some none) (some d) h s):Sat X h0 (ns.set i none) (e.set i s) (ae.set i d) h:=by
 have hn:i<ns.length:=by rw[S.l2];exact hi
 have ha:i<ae.length:=by rw[S.l1];exact hi
 refine⟨by rw[NU,NU];exact S.l1,by rw[NU,NU];exact S.l2,S.lh,S.xl,λj k n q1 q2=>?_,λj n q1=>?_,λj s' q1=>?_⟩
 .rcases bE hn q1 with ⟨_,z⟩ |⟨_,z⟩
  .cases z
  rcases bE hn q2 with ⟨_,y⟩ |⟨_,y⟩
  .cases y
  exact S.inj j k n z y
 .rcases bE hn q1 with ⟨_,z⟩ |⟨_,z⟩
  .cases z
  exact S.nx j n z
 .rcases bE hi q1 with ⟨rfl,rfl⟩ |⟨z,q2⟩
  .rw[bH hn,bH ha];exact q
  .rw[bp z,bp z];exact (S.sl j s' q2).mono (λn o p q=>⟨fC p,q⟩) λ_ _ _ q=>q
def Sat.putN'(S:Sat X h0 ns e ae h)(hi:i<e.length)(q:SlR (Oc X (ns.set i none)) h0 (some none) (ae[i]?) h s):Sat X h0 (ns.set i none) (e.set i s) ae h:=by
 have ha:i<ae.length:=by rw[S.l1];exact hi
 have:=S.putN hi (s:=s) (d:=ae[i]) (by rw[M_ ha] at q;exact q)
 rw[List.set_getElem_self] at this;exact this
def Sat.putO(S:Sat (Xn X n) h0 ns e ae h)(hx:¬ X n)(hi:i<e.length)(hn0:h0<=n)(eo:h[n]?=some o)(hf:bK o)(r:Rc (Oc (Xn X n) ns) h o v):Sat X h0 (ns.set i (some n)) (e.set i (.ow v)) (ae.set i (some (.ref n))) h:=by
 have hn:i<ns.length:=by rw[S.l2];exact hi
 have ha:i<ae.length:=by rw[S.l1];exact hi
 have nn:∀j:Nat,ns[j]?≠some (some n):=λj q=>S.nx j n q (.inr rfl);have mv:Mov (Oc (Xn X n) ns) (Oc X (ns.set i (some n))) h h:=λm o' p q=>⟨⟨λz=>p.1 (.inl z),λz=>by
  rcases Pr z with z |z
  .exact p.2 z
  .cases z;exact p.1 (.inr rfl)⟩,q⟩
 refine⟨by rw[NU,NU];exact S.l1,by rw[NU,NU];exact S.l2,S.lh,λm z=>S.xl m (.inl z),λj k m q1 q2=>?_,λj m q1 z=>?_,λj s' q1=>?_⟩
 .rcases bE hn q1 with ⟨z1,z⟩ |⟨z1,z⟩ <;> rcases bE hn q2 with ⟨y1,y⟩ |⟨y1,y⟩
  .rw[z1,y1]
  .cases z;exact absurd y (nn k)
  .cases y;exact absurd z (nn j)
  .exact S.inj j k m z y
 .rcases bE hn q1 with ⟨_,y⟩ |⟨_,y⟩
  .cases y;exact hx z
  .exact S.nx j m y (.inl z)
 .rcases bE hi q1 with ⟨rfl,rfl⟩ |⟨z,q2⟩
  .rw[bH hn,bH ha];exact⟨n,o,rfl,rfl,hn0,eo,hf,r.mono mv⟩
  .rw[bp z,bp z];exact (S.sl j s' q2).mono mv λ_ _ _ q=>q
noncomputable def Sl.pl:Sl->Bool
 |.no=>true
 |.sh _=>true
 |.ow _=>true
 |_=>false
def Stp.put(A:Stp ns0 e0 hs ns e h)(hi:i<e.length)(hx:∀n,x=some n->hs.length<=n)(q0:e[i]?=some s0)(p0:s0.pl=true)(p:s.pl=true)(l2:ns.length=e.length):Stp ns0 e0 hs (ns.set i x) (e.set i s) h:=by
 have hn:i<ns.length:=by rw[l2];exact hi
 refine⟨A.len,A.keep,λj n q=>?_,λj s' q hl=>?_,λj s' q hl=>?_,λj v q=>?_,λj v q=>?_⟩
 .rcases bE hn q with ⟨_,z⟩ |⟨_,z⟩
  .exact .inr (hx n z.symm)
  .exact A.nw j n z
 .obtain⟨q1,q2⟩:=A.lk j s' q hl;have z:j≠i:=λz=>by subst z;rw[q0] at q1;cases q1;cases s0 <;> first |cases p0;done |cases hl;done
  rw[bp z,bp z];exact⟨q1,q2⟩
 .rcases bE hi q with ⟨_,z⟩ |⟨z,q1⟩
  .subst z;cases s' <;> first |cases p;done |cases hl;done
  .rw[bp z];exact A.lk' j s' q1 hl
 .rcases bE hi q with ⟨_,z⟩ |⟨z,q1⟩
  .subst z;cases p
  .rw[bp z];exact A.mu j v q1
 .obtain⟨u,q1,q2⟩:=A.mu' j v q;have z:j≠i:=λz=>by subst z;rw[q0] at q1;cases q1;cases p0
  exact⟨u,by rw[bp z];exact q1,by rw[bp z];exact q2⟩
end
inductive Tm where
 |val (v:Val) |new (v:Val) |bor (i:Nat)
inductive R3(α:Type) where
 |ok (a:α) (e:E3) |exc (c:Str) (e:E3) |stuck
noncomputable def R3.bind{α β:Type}(r:R3 α)(f:α->E3->R3 β):R3 β:=match r with
 |.ok a e=>f a e
 |.exc c e=>.exc c e
 |.stuck=>.stuck
abbrev ME3:=E3->R3 Tm
abbrev MT3:=E3->R3 Bool
abbrev MA3:=E3->R3 (List Tm)
def Po{δ α:Type}(X:Nat->Prop)(h0:Nat)(ns:Ns)(e:E3)(ae:AE)(h:AH)(rel:Ns->E3->AH->δ->α->Prop)(r2:R δ):R3 α->Prop
 |.stuck=>True
 |.ok t e'=>∃d h' ns',r2=.ok d h'/\Stp ns e h ns' e' h'/\Sat X h0 ns' e' ae h'/\rel ns' e' h' d t
 |.exc c e'=>∃h' ns',r2=.exc c h'/\Stp ns e h ns' e' h'/\Sat X h0 ns' e' ae h'
def relE(X:Nat->Prop)(h0 L:Nat)(ae:AE)(ns:Ns)(e:E3)(h:AH)(d:D):Tm->Prop
 |.val v=>Rd (Oc X ns) h d v
 |.new v=>∃n o,d=.ref n/\L<=n/\¬ X n/\h[n]?=some o/\bK o/\Sat (Xn X n) h0 ns e ae h/\Rc (Oc (Xn X n) ns) h o v
 |.bor i=>ae[i]?=some (some d)
def relT(_:Ns)(_:E3)(_:AH)(b c:Bool):Prop:=b=c
inductive TsR(X:Nat->Prop)(ns:Ns)(ae:AE)(h:AH):List D->List Tm->Prop where
 |nil:TsR X ns ae h [] []
 |val {d:D}{v:Val}{ds:List D}{ts:List Tm} (r:Rd (Oc X ns) h d v) (rr:TsR X ns ae h ds ts):TsR X ns ae h (d::ds) (.val v::ts)
 |bor {d:D}{i:Nat}{ds:List D}{ts:List Tm} (q:ae[i]?=some (some d)) (rr:TsR X ns ae h ds ts):TsR X ns ae h (d::ds) (.bor i::ts)
def relA(X:Nat->Prop)(ae:AE)(ns:Ns)(_:E3)(h:AH)(ds:List D)(ts:List Tm):Prop:=TsR X ns ae h ds ts
def RE(F:ME)(G:ME3):Prop:=∀X h0 L ns e ae h,Sat X h0 ns e ae h->L<=h.length->Po X h0 ns e ae h (relE X h0 L ae) (F ae h) (G e)
def RT(F:MT)(G:MT3):Prop:=∀X h0 ns e ae h,Sat X h0 ns e ae h->Po X h0 ns e ae h relT (F ae h) (G e)
def RA(F:MA)(G:MA3):Prop:=∀X h0 ns e ae h,Sat X h0 ns e ae h->Po X h0 ns e ae h (relA X ae) (F ae h) (G e)
section
variable{X:Nat->Prop}{h0 L:Nat}{ns ns':Ns}{e e':E3}{ae:AE}{h h':AH}
def Po.bind(S:Sat X h0 ns e ae h)(p:Po X h0 ns e ae h rel r2 r3)
 (k:∀d t h' ns' e',Stp ns e h ns' e' h'->Sat X h0 ns' e' ae h'->rel ns' e' h' d t->Po X h0 ns' e' ae h' rel' (f2 d h') (f3 t e')):Po X h0 ns e ae h rel' (r2.bind f2) (r3.bind f3):=by
 cases r3 with
 |stuck=>trivial
 |exc c e'=>obtain⟨h',ns',q,q1,q2⟩:=p;subst q;exact⟨h',ns',rfl,q1,q2⟩
 |
  ok t e'=>
  obtain⟨d,h',ns',q,q1,q2,q3⟩:=p;subst q
  have:=k d t h' ns' e' q1 q2 q3
  show Po X h0 ns e ae h rel' (f2 d h') (f3 t e');generalize f3 t e'=r at *;cases r with
  |stuck=>trivial
  |exc c e2=>obtain⟨h2,j_,y,y1,y2⟩:=this;exact⟨h2,j_,y,q1.trans S y1,y2⟩
  |ok t2 e2=>obtain⟨d2,h2,j_,y,y1,y2,y3⟩:=this;exact⟨d2,h2,j_,y,q1.trans S y1,y2,y3⟩
def Po.ret(S:Sat X h0 ns e ae h)(q:rel ns e h d t):Po X h0 ns e ae h rel (.ok d h) (.ok t e):=⟨d,h,ns,rfl,.refl,S,q⟩
def TsR.stp(S:Sat X h0 ns e ae h)(a:Stp ns e h ns' e' h')(r:TsR X ns ae h ds ts):TsR X ns' ae h' ds ts:=by
 induction r with
 |nil=>exact .nil
 |val r _ ih=>exact .val (r.mono (a.mov S)) ih
 |bor q _ ih=>exact .bor q ih
noncomputable def rs(e:E3):Tm->Option Val
 |.val v=>some v
 |.new v=>some v
 |.bor i=>(e[i]?).bind Sl.val
def Sat.bor(S:Sat X h0 ns e ae h){i:Nat}{d:D}{v:Val}(q:ae[i]?=some (some d))(r:(e[i]?).bind Sl.val=some v):ShR (Oc X ns) h d v:=by
 cases z:e[i]? with
 |none=>rw[z] at r;cases r
 |
  some s=>
  rw[z] at r;have y:=S.sl i s z;rw[q] at y;have r':s.val=some v:=r;cases s with
  |no=>cases r'
  |sh u=>cases r';obtain⟨_,x,e1,e2⟩:=y;cases e1;exact .inl e2
  |ow u=>cases r';obtain⟨m,o,_,e2,_,e3,_,e4⟩:=y;cases e2;exact .inr ⟨m,o,rfl,e3,e4⟩
  |lo u=>cases r';obtain⟨m,o,_,e2,_,e3,_,e4⟩:=y;cases e2;exact .inr ⟨m,o,rfl,e3,e4⟩
  |mu u=>cases r';obtain⟨m,o,_,e2,e3,_,e4⟩:=y;cases e2;exact .inr ⟨m,o,rfl,e3,e4⟩
  |lm u=>cases r';obtain⟨m,o,_,e2,e3,_,e4⟩:=y;cases e2;exact .inr ⟨m,o,rfl,e3,e4⟩
def relE.new(r:relE X h0 L ae ns e h d (.new v)):Rd (Oc X ns) h d v:=by obtain⟨n,o,rfl,_,hx,eo,_,S,rc⟩:=r;exact .cell ⟨hx,λz=>by obtain⟨i,z⟩:=aW.mp z;exact S.nx i n z (.inr rfl)⟩ eo (rc.mono λm o p q=>⟨⟨λz=>p.1 (.inl z),p.2⟩,q⟩)
def relE.sh{d:D}{t:Tm}{v:Val}(S:Sat X h0 ns e ae h)(r:relE X h0 L ae ns e h d t)(q:rs e t=some v):ShR (Oc X ns) h d v:=by
 cases t with
 |val u=>cases q;exact .inl r
 |new u=>cases q;exact .inl r.new
 |bor i=>exact S.bor r q
def relE.stp(S:Sat X h0 ns e ae h)(a:Stp ns e h ns' e' h')(r:relE X h0 L ae ns e h d t)(hn:∀v,t ≠ .new v):relE X h0 L ae ns' e' h' d t:=by
 cases t with
 |val u=>exact Rd.mono (a.mov S) r
 |new u=>exact absurd rfl (hn u)
 |bor i=>exact r
noncomputable def Tm.drop:Tm->Tm
 |.new v=>.val v
 |t=>t
def relE.drop(r:relE X h0 L ae ns e h d t):relE X h0 L ae ns e h d t.drop/\∀v,t.drop ≠ .new v:=by
 cases t with
 |val u=>exact⟨r,λ_ z=>nomatch z⟩
 |new u=>exact⟨r.new,λ_ z=>nomatch z⟩
 |bor i=>exact⟨r,λ_ z=>nomatch z⟩
noncomputable def rss(e:E3):List Tm->Option (List Val)
 | []=>some []
 |t::ts=>match rs e t,rss e ts with
  |some v,some vs=>some (v::vs)
  |_,_=>none
def TsR.sh{ds:List D}{ts:List Tm}{vs:List Val}(S:Sat X h0 ns e ae h)(r:TsR X ns ae h ds ts)(q:rss e ts=some vs):ShRs (Oc X ns) h ds vs:=by
 induction r generalizing vs with
 |nil=>cases q;exact .nil
 |
  val r _ ih=>
  unfold rss at q;split at q
  .rename_i e1 e2;cases q;cases e1;exact .cons (.inl r) (ih e2)
  .cases q
 |
  bor q' _ ih=>
  unfold rss at q;split at q
  .rename_i e1 e2;cases q;exact .cons (S.bor q' e1) (ih e2)
  .cases q
end
inductive Bv where
 |val (v:Val) |new (v:Val) |stuck
def BvR(P:Nat->Prop)(h:AH)(r:R D):Bv->Prop
 |.val v=>∃d,r=.ok d h/\Rd P h d v
 |.new v=>∃o,r=.ok (.ref h.length) (h++[o])/\bK o/\Rc P h o v
 |.stuck=>True
noncomputable def Bv.at(b:Bv)(e:E3):R3 Tm:=match b with
 |.val v=>.ok (.val v) e
 |.new v=>.ok (.new v) e
 |.stuck=>.stuck
def BvR.po(S:Sat X h0 ns e ae h)(hl:L<=h.length)(q:BvR (Oc X ns) h r b):Po X h0 ns e ae h (relE X h0 L ae) r (b.at e):=by
 cases b with
 |stuck=>trivial
 |val v=>obtain⟨d,rfl,r⟩:=q;exact Po.ret S r
 |
  new v=>
  obtain⟨o,rfl,hf,r⟩:=q;have S':=S.grow o;refine⟨_,_,ns,rfl,.grow o,S'.weak λn z=>.inl z,h.length,o,rfl,hl,λz=>?_,vf,hf,S',r.mono λn o' p q=>⟨⟨λz=>?_,p.2⟩,kH q⟩⟩
  .have:=S.xl _ z;omega
  .rcases z with z |z
   .exact p.1 z
   .have:=cp q;omega
def RU(g2:D->AH->R D)(g3:Val->Bv):Prop:=∀P h d v,ShR P h d v->BvR P h (g2 d h) (g3 v)
def RO(g2:D->D->AH->R D)(g3:Val->Val->Bv):Prop:=∀P h d1 d2 v1 v2,ShR P h d1 v1->ShR P h d2 v2->BvR P h (g2 d1 d2 h) (g3 v1 v2)
def RFn(g2:Fn)(g3:List Val->Bv):Prop:=∀P h ds vs,ShRs P h ds vs->BvR P h (g2 ds h) (g3 vs)
noncomputable def zR(i:Nat):ME3:=λe=>match e[i]? with
 |some (.sh v)=>.ok (.val v) e
 |some .no=>.stuck
 |some _=>.ok (.bor i) e
 |none=>.stuck
noncomputable def vC(v:Val):ME3:=λe=>.ok (.val v) e
noncomputable def vUn(g:Val->Bv)(F:ME3):ME3:=λe=>(F e).bind λt e1=>match rs e1 t with
 |some v=>(g v).at e1
 |none=>.stuck
noncomputable def vOp(g:Val->Val->Bv)(F G:ME3):ME3:=λe=>(F e).bind λt1 e1=>(G e1).bind λt2 e2=>match rs e2 t1.drop,rs e2 t2 with
 |some v1,some v2=>(g v1 v2).at e2
 |_,_=>.stuck
noncomputable def vNil:MA3:=λe=>.ok [] e
noncomputable def CL(F:ME3)(A:MA3):MA3:=λe=>(F e).bind λt e1=>(A e1).bind λts e2=>.ok (t.drop::ts) e2
noncomputable def vFn(g:List Val->Bv)(A:MA3):ME3:=λe=>(A e).bind λts e1=>match rss e1 ts with
 |some vs=>(g vs).at e1
 |none=>.stuck
noncomputable def bP(e:E3):Tm->Option (E3×Val)
 |.val v=>some (e,v)
 |.new v=>some (e,v)
 |.bor i=>match e[i]? with
  |some (.sh v)=>some (e,v)
  |some (.ow v)=>some (e.set i (.sh v),v)
  |_=>none
noncomputable def dem(e:E3):List Tm->Option (E3×List Val)
 | []=>some (e,[])
 |t::ts=>match bP e t with
  |some (e1,v)=>match dem e1 ts with
   |some (e2,vs)=>some (e2,v::vs)
   |none=>none
  |none=>none
noncomputable def vTup(A:MA3):ME3:=λe=>(A e).bind λts e1=>match dem e1 ts with
 |some (e2,vs)=>if vs.length<=16777216 then .ok (.val (.tup vs)) e2 else .stuck
 |none=>.stuck
noncomputable def vLst(A:MA3):ME3:=λe=>(A e).bind λts e1=>match dem e1 ts with
 |some (e2,vs)=>if vs.length<=16777216 then .ok (.new (.lst vs)) e2 else .stuck
 |none=>.stuck
noncomputable def bOf:Option Val->Option Bool
 |some (.bl b)=>some b
 |_=>none
noncomputable def vAnd(F G:ME3):ME3:=λe=>(F e).bind λt e1=>match bOf (rs e1 t) with
 |some true=>G e1
 |some false=>.ok (.val (.bl false)) e1
 |none=>.stuck
noncomputable def vNot(F:ME3):ME3:=λe=>(F e).bind λt e1=>match bOf (rs e1 t) with
 |some b=>.ok (.val (.bl (!b))) e1
 |none=>.stuck
def vIf(c:MT3)(F G:ME3):ME3:=λe=>(c e).bind λb e1=>if b=true then F e1 else G e1
noncomputable def cOf(F:ME3):MT3:=λe=>(F e).bind λt e1=>match bOf (rs e1 t) with
 |some b=>.ok b e1
 |none=>.stuck
noncomputable def cAn(c d:MT3):MT3:=λe=>(c e).bind λb e1=>if b=true then d e1 else .ok false e1
noncomputable def cO(c d:MT3):MT3:=λe=>(c e).bind λb e1=>if b=true then .ok true e1 else d e1
noncomputable def cNo(c:MT3):MT3:=λe=>(c e).bind λb e1=>.ok (!b) e1
noncomputable def cY:MT3:=λe=>.ok true e
noncomputable def jY:Val->Option Bool
 |.non=>some false
 |.bl b=>some b
 |.int i=>some (i != 0)
 |.tup xs=>some (!xs.isEmpty)
 |.lst xs=>some (!xs.isEmpty)
 |.kl xs=>some (!xs.isEmpty)
 |_=>none
noncomputable def cTr(F:ME3):MT3:=λe=>(F e).bind λt e1=>match (rs e1 t).bind jY with
 |some b=>.ok b e1
 |none=>.stuck
section
variable{F G:ME}{F3 G3:ME3}{A:MA}{A3:MA3}{c d:MT}{c3 d3:MT3}
def GG(i:Nat):RE (dM i) (zR i):=λX h0 L ns e ae h S hl=>by
 unfold zR;cases q:e[i]? with
 |none=>trivial
 |
  some s=>
  have y:=S.sl i s q;cases s with
  |no=>trivial
  |sh v=>obtain⟨_,x,e1,e2⟩:=y;unfold dM;rw[e1];exact Po.ret S e2
  |ow v=>obtain⟨m,o,_,e2,_⟩:=y;unfold dM;rw[e2];exact Po.ret S e2
  |lo v=>obtain⟨m,o,_,e2,_⟩:=y;unfold dM;rw[e2];exact Po.ret S e2
  |mu v=>obtain⟨m,o,_,e2,_⟩:=y;unfold dM;rw[e2];exact Po.ret S e2
  |lm v=>obtain⟨m,o,_,e2,_⟩:=y;unfold dM;rw[e2];exact Po.ret S e2
def lp{d:D}{v:Val}(r:∀P h,Rd P h d v):RE (eC d) (vC v):=λX h0 L ns e ae h S hl=>Po.ret S (r _ _)
def Lj(hg:RU g g3)(hF:RE F F3):RE (eUn g F) (vUn g3 F3):=λX h0 L ns e ae h S hl=>
 Po.bind S (hF X h0 L ns e ae h S hl) λd t h1 ns1 e1 a1 S1 r1=>by
  try dsimp only
  split
  .rename_i v q;exact BvR.po S1 (J_ hl a1.len) (hg _ _ _ _ (r1.sh S1 q))
  .trivial
def LH(hg:RO g g3)(hF:RE F F3)(hG:RE G G3):RE (eOp g F G) (vOp g3 F3 G3):=λX h0 L ns e ae h S hl=>
 Po.bind S (hF X h0 L ns e ae h S hl) λd1 t1 h1 ns1 e1 a1 S1 r1=>Po.bind S1 (hG X h0 L ns1 e1 ae h1 S1 (J_ hl a1.len)) λd2 t2 h2 j_ e2 a2 S2 r2=>by
  try dsimp only
  split
  .rename_i v1 v2 q1 q2;obtain⟨r1',hn⟩:=r1.drop;exact BvR.po S2 (J_ hl (J_ a1.len a2.len)) (hg _ _ _ _ _ _ ((r1'.stp S1 a2 hn).sh S2 q1) (r2.sh S2 q2))
  .trivial
def Jj:RA kS vNil:=λX h0 ns e ae h S=>Po.ret S .nil
def Fb(hF:RE F F3)(hA:RA A A3):RA (jb F A) (CL F3 A3):=λX h0 ns e ae h S=>
 Po.bind S (hF X h0 0 ns e ae h S (Oa _)) λd1 t1 h1 ns1 e1 a1 S1 r1=>Po.bind S1 (hA X h0 ns1 e1 ae h1 S1) λds ts h2 j_ e2 a2 S2 r2=>by
  obtain⟨r1',hn⟩:=r1.drop;have r3:=r1'.stp S1 a2 hn;refine Po.ret S2 ?_;show TsR X j_ ae h2 (d1::ds) (t1.drop::ts);generalize t1.drop=t at *;cases t with
  |val v=>exact .val r3 r2
  |new v=>exact absurd rfl (hn v)
  |bor i=>exact .bor r3 r2
def KZ(hg:RFn g g3)(hA:RA A A3):RE (eFn g A) (vFn g3 A3):=λX h0 L ns e ae h S hl=>
 Po.bind S (hA X h0 ns e ae h S) λds ts h1 ns1 e1 a1 S1 r1=>by
  try dsimp only
  split
  .rename_i vs q;exact BvR.po S1 (J_ hl a1.len) (hg _ _ _ _ (TsR.sh S1 r1 q))
  .trivial
def IS(S:Sat X h0 ns e ae h)(q:e[i]?=some (.ow v)):∃n,ae[i]?=some (some (.ref n))/\Sat X h0 (ns.set i none) (e.set i (.sh v)) ae h/\Stp ns e h (ns.set i none) (e.set i (.sh v)) h/\Rd (Oc X (ns.set i none)) h (.ref n) v:=by
 obtain⟨n,o,q1,q2,_,q3,_,q4⟩:=S.sl i _ q;have hi:=(x_.mp q).1;have hn:i<ns.length:=by rw[S.l2];exact hi
 have r:Rd (Oc X (ns.set i none)) h (.ref n) v:=.cell ⟨S.nx i n q1,λz=>by
  obtain⟨j,z⟩:=aW.mp z;rcases bE hn z with ⟨_,y⟩ |⟨y,z⟩
  .cases y
  .exact y (S.inj j i n z q1)⟩ q3 (q4.mono λm o p q=>⟨fC p,q⟩)
 exact⟨n,q2,S.putN' hi ⟨rfl,_,q2,r⟩,Stp.refl.put (x:=none) hi (λ_ z=>by cases z) q rfl rfl S.l2,r⟩
def fq{X:Nat->Prop}{h0 L:Nat}{ns:Ns}{e e':E3}{ae:AE}{h:AH}{d:D}{t:Tm}{v:Val}(S:Sat X h0 ns e ae h)(r:relE X h0 L ae ns e h d t)(q:bP e t=some (e',v)):∃ns',Sat X h0 ns' e' ae h/\Stp ns e h ns' e' h/\Rd (Oc X ns') h d v:=by
 cases t with
 |val u=>cases q;exact⟨ns,S,.refl,r⟩
 |new u=>cases q;exact⟨ns,S,.refl,r.new⟩
 |
  bor i=>
  unfold bP at q;dsimp only at q;have r':ae[i]?=some (some d):=r;split at q
  .rename_i u q1;cases q;obtain⟨_,x,e1,e2⟩:=S.sl i _ q1;rw[r'] at e1;cases e1;exact⟨ns,S,.refl,e2⟩
  .rename_i u q1;cases q;obtain⟨n,e1,S',a',e2⟩:=IS S q1;rw[r'] at e1;cases e1;exact⟨_,S',a',e2⟩
  .cases q
def iR:∀{ds:List D}{vs:List Val}{ns:Ns}{e e':E3},Sat X h0 ns e ae h->TsR X ns ae h ds ts->dem e ts=some (e',vs)->∃ns',Sat X h0 ns' e' ae h/\Stp ns e h ns' e' h/\Rds (Oc X ns') h ds vs:=by
 induction ts with
 |nil=>intro ds vs ns e e' S r q;cases r;cases q;exact⟨ns,S,.refl,.nil⟩
 |
  cons t ts ih=>
  intro ds vs ns e e' S r q;unfold dem at q;split at q
  .rename_i e1 v q1;split at q
   .rename_i e2 vs' q2;cases q;have hr:∃d ds',ds=d::ds'/\relE X h0 0 ae ns e h d t/\TsR X ns ae h ds' ts:=by
     cases r with
     |val r rr=>exact⟨_,_,rfl,r,rr⟩
     |bor r rr=>exact⟨_,_,rfl,r,rr⟩
    obtain⟨d,ds',rfl,hr⟩:=hr;obtain⟨ns1,S1,a1,r1⟩:=fq S hr.1 q1;obtain⟨j_,S2,a2,r2⟩:=ih S1 (hr.2.stp S a1) q2;exact⟨j_,S2,a1.trans S a2,.cons (r1.mono (a2.mov S1)) r2⟩
   .cases q
  .cases q
def IC(hA:RA A A3):RE (eFn mR A) (vTup A3):=λX h0 L ns e ae h S hl=>
 Po.bind S (hA X h0 ns e ae h S) λds ts h1 ns1 e1 a1 S1 r1=>by
  try dsimp only
  split
  .rename_i e2 vs q;split
   .rename_i hv;obtain⟨j_,S2,a2,r2⟩:=iR S1 r1 q;exact⟨.tup ds,h1,j_,by unfold mR;rw[if_pos (by rw[r2.len];exact hv)],a2,S2,.tup r2⟩
   .trivial
  .trivial
def Hm(hA:RA A A3):RE (eFn cQ A) (vLst A3):=λX h0 L ns e ae h S hl=>
 Po.bind S (hA X h0 ns e ae h S) λds ts h1 ns1 e1 a1 S1 r1=>by
  try dsimp only
  split
  .rename_i e2 vs q;split
   .rename_i hv;obtain⟨j_,S2,a2,r2⟩:=iR S1 r1 q;have p:=BvR.po (r:=cQ ds h1) (b:=.new (.lst vs)) S2 (J_ hl a1.len) ⟨.lst ds,by unfold cQ;rw[if_pos (by rw[r2.len];exact hv)],trivial,.lst r2⟩;obtain⟨d,h',ns',y,y1,y2,y3⟩:=p;exact⟨d,h',ns',y,a2.trans S1 y1,y2,y3⟩
   .trivial
  .trivial
def mX(S1:Sat X h0 ns1 e1 ae h1)(r1:relE X h0 L ae ns1 e1 h1 d1 t1)(q:bOf (rs e1 t1)=some b):d1=.bl b:=by
 unfold bOf at q;split at q
 .rename_i b' q';cases q;exact (r1.sh S1 q').bl
 .cases q
def G0(hF:RE F F3)(hG:RE G G3):RE (Ah F G) (vAnd F3 G3):=λX h0 L ns e ae h S hl=>
 Po.bind S (hF X h0 L ns e ae h S hl) λd1 t1 h1 ns1 e1 a1 S1 r1=>by
  try dsimp only
  split
  .rename_i q;rw[mX S1 r1 q];exact hG X h0 L ns1 e1 ae h1 S1 (J_ hl a1.len)
  .rename_i q;rw[mX S1 r1 q];exact Po.ret S1 (.bl false)
  .trivial
def GV(hF:RE F F3):RE (Ba F) (vNot F3):=λX h0 L ns e ae h S hl=>
 Po.bind S (hF X h0 L ns e ae h S hl) λd1 t1 h1 ns1 e1 a1 S1 r1=>by
  try dsimp only
  split
  .rename_i q;rw[mX S1 r1 q];exact Po.ret S1 (.bl _)
  .trivial
def Lv(hc:RT c c3)(hF:RE F F3)(hG:RE G G3):RE (eIf c F G) (vIf c3 F3 G3):=λX h0 L ns e ae h S hl=>
 Po.bind S (hc X h0 ns e ae h S) λb b' h1 ns1 e1 a1 S1 r1=>by
  cases r1;try dsimp only
  split
  .exact hF X h0 L ns1 e1 ae h1 S1 (J_ hl a1.len)
  .exact hG X h0 L ns1 e1 ae h1 S1 (J_ hl a1.len)
def K5(hF:RE F F3):RT (tOf F) (cOf F3):=λX h0 ns e ae h S=>
 Po.bind S (hF X h0 0 ns e ae h S (Oa _)) λd1 t1 h1 ns1 e1 a1 S1 r1=>by
  try dsimp only
  split
  .rename_i q;rw[mX S1 r1 q];exact Po.ret S1 rfl
  .trivial
def Nh(hc:RT c c3)(hd:RT d d3):RT (tAn c d) (cAn c3 d3):=λX h0 ns e ae h S=>
 Po.bind S (hc X h0 ns e ae h S) λb b' h1 ns1 e1 a1 S1 r1=>by
  cases r1;try dsimp only
  split
  .exact hd X h0 ns1 e1 ae h1 S1
  .exact Po.ret S1 rfl
def rt_o(hc:RT c c3)(hd:RT d d3):RT (tO c d) (cO c3 d3):=λX h0 ns e ae h S=>
 Po.bind S (hc X h0 ns e ae h S) λb b' h1 ns1 e1 a1 S1 r1=>by
  cases r1;try dsimp only
  split
  .exact Po.ret S1 rfl
  .exact hd X h0 ns1 e1 ae h1 S1
def Mu(hc:RT c c3):RT (tNo c) (cNo c3):=λX h0 ns e ae h S=>
 Po.bind S (hc X h0 ns e ae h S) λb b' h1 ns1 e1 a1 S1 r1=>by cases r1;exact Po.ret S1 rfl
def rt_y:RT tY cY:=λX h0 ns e ae h S=>Po.ret S rfl
def DD{P:Nat->Prop}{h:AH}{d:D}{v:Val}{b:Bool}(r:ShR P h d v)(q:jY v=some b):rS d h=.ok b h:=by
 have emp:∀{ds:List D}{vs:List Val},Rds P h ds vs->ds.isEmpty=vs.isEmpty:=λr=>by cases r <;> rfl
 cases v with
 |non=>cases q;rw[r.non];rfl
 |bl b=>cases q;rw[r.bl];rfl
 |int i=>cases q;rw[r.int];rfl
 |tup xs=>cases q;obtain⟨ds,rfl,r2⟩:=r.tup;show R.ok (!ds.isEmpty) h=_;rw[emp r2]
 |lst xs=>cases q;obtain⟨n,ds,rfl,_,e1,r1⟩:=r.lst;rw[<- emp r1];unfold rS cV;dsimp only;rw[e1]
 |
  kl xs=>
  cases q;obtain⟨ds,r2,rfl |⟨n,rfl,e1⟩⟩:=r.kl
  .show R.ok (!ds.isEmpty) h=_;rw[emp r2]
  .rw[<- emp r2];unfold rS cV;dsimp only;rw[e1]
 |_=>cases q
def Lf(hF:RE F F3):RT (tTr F) (cTr F3):=λX h0 ns e ae h S=>
 Po.bind S (hF X h0 0 ns e ae h S (Oa _)) λd1 t1 h1 ns1 e1 a1 S1 r1=>by
  try dsimp only
  split
  .rename_i b q;obtain⟨v,q1,q2⟩:=N8.mp q;rw[DD (r1.sh S1 q1) q2];exact Po.ret S1 rfl
  .trivial
end
inductive Rt where
 |val (v:Val) |new (v:Val) |par (i:Nat) |pr (v u:Val)
inductive SR3 where
 |nx (e:E3) |rt (r:Rt) (e:E3) |bk (e:E3) |ct (e:E3) |exc (c:Str) (e:E3) |stuck
abbrev MS3:=E3->SR3
def RtR(X:Nat->Prop)(h0:Nat)(ns:Ns)(e:E3)(ae:AE)(h:AH)(d:D):Rt->Prop
 |.val v=>Sat X h0 ns e ae h/\Rd (Oc X ns) h d v
 |.new v=>∃n o,d=.ref n/\h0<=n/\¬ X n/\h[n]?=some o/\bK o/\Sat (Xn X n) h0 ns e ae h/\Rc (Oc (Xn X n) ns) h o v
 |.par i=>Sat X h0 ns e ae h/\ae[i]?=some (some d)/\∃v,e[i]?=some (.mu v)
 |.pr v u=>∃d1 n o,d=.tup [d1,.ref n]/\h0<=n/\¬ X n/\h[n]?=some o/\bK o/\Sat (Xn X n) h0 ns e ae h/\Rd (Oc (Xn X n) ns) h d1 v/\Rc (Oc (Xn X n) ns) h o u
def PoS(X:Nat->Prop)(h0:Nat)(ns:Ns)(e:E3)(h:AH)(r2:SR):SR3->Prop
 |.stuck=>True
 |.nx e'=>∃c_ h' ns',r2=.nx c_ h'/\Stp ns e h ns' e' h'/\Sat X h0 ns' e' c_ h'
 |.bk e'=>∃c_ h' ns',r2=.bk c_ h'/\Stp ns e h ns' e' h'/\Sat X h0 ns' e' c_ h'
 |.ct e'=>∃c_ h' ns',r2=.ct c_ h'/\Stp ns e h ns' e' h'/\Sat X h0 ns' e' c_ h'
 |.exc c e'=>∃c_ h' ns',r2=.exc c c_ h'/\Stp ns e h ns' e' h'/\Sat X h0 ns' e' c_ h'
 |.rt r e'=>∃d c_ h' ns',r2=.rt d h'/\Stp ns e h ns' e' h'/\RtR X h0 ns' e' c_ h' d r
def RS(F:MS)(G:MS3):Prop:=∀X h0 ns e ae h,Sat X h0 ns e ae h->PoS X h0 ns e h (F ae h) (G e)
noncomputable def R3.toS{α:Type}(r:R3 α)(f:α->E3->SR3):SR3:=match r with
 |.ok a e=>f a e
 |.exc c e=>.exc c e
 |.stuck=>.stuck
def SR3.then(r:SR3)(f:E3->SR3):SR3:=match r with
 |.nx e=>f e
 |r=>r
section
variable{X:Nat->Prop}{h0:Nat}{ns ns1 ns':Ns}{e e1 e':E3}{ae:AE}{h h1 h':AH}
def PoS.after(S:Sat X h0 ns e ae h)(a:Stp ns e h ns1 e1 h1)(p:PoS X h0 ns1 e1 h1 r2 r3):PoS X h0 ns e h r2 r3:=by
 cases r3 with
 |stuck=>trivial
 |nx e'=>obtain⟨c_,h',ns',q,q1,q2⟩:=p;exact⟨c_,h',ns',q,a.trans S q1,q2⟩
 |bk e'=>obtain⟨c_,h',ns',q,q1,q2⟩:=p;exact⟨c_,h',ns',q,a.trans S q1,q2⟩
 |ct e'=>obtain⟨c_,h',ns',q,q1,q2⟩:=p;exact⟨c_,h',ns',q,a.trans S q1,q2⟩
 |exc c e'=>obtain⟨c_,h',ns',q,q1,q2⟩:=p;exact⟨c_,h',ns',q,a.trans S q1,q2⟩
 |rt r e'=>obtain⟨d,c_,h',ns',q,q1,q2⟩:=p;exact⟨d,c_,h',ns',q,a.trans S q1,q2⟩
def PoS.toS(p:Po X h0 ns e ae h rel r2 r3)
 (k:∀d t h' ns' e',Stp ns e h ns' e' h'->Sat X h0 ns' e' ae h'->rel ns' e' h' d t->PoS X h0 ns e h (f2 d h') (f3 t e')):PoS X h0 ns e h (r2.toS ae f2) (r3.toS f3):=by
 cases r3 with
 |stuck=>trivial
 |exc c e'=>obtain⟨h',ns',rfl,q1,q2⟩:=p;exact⟨ae,h',ns',rfl,q1,q2⟩
 |ok t e'=>obtain⟨d,h',ns',rfl,q1,q2,q3⟩:=p;exact k d t h' ns' e' q1 q2 q3
def PoS.nx(a:Stp ns e h ns' e' h')(S:Sat X h0 ns' e' c_ h'):PoS X h0 ns e h (.nx c_ h') (.nx e'):=⟨c_,h',ns',rfl,a,S⟩
end
noncomputable def wNx:MS3:=λe=>.nx e
def wCt:MS3:=λe=>.ct e
noncomputable def wSeq(F G:MS3):MS3:=λe=>(F e).then G
noncomputable def Cy(F:ME3):MS3:=λe=>(F e).toS λ_ e1=>.nx e1
noncomputable def wIf(c:MT3)(F G:MS3):MS3:=λe=>(c e).toS λb e1=>if b=true then F e1 else G e1
noncomputable def om(t:Tm)(e:E3):SR3:=match t with
 |.val v=>.rt (.val v) e
 |.new v=>.rt (.new v) e
 |.bor i=>match e[i]? with
  |some (.sh v)=>.rt (.val v) e
  |some (.ow v)=>.rt (.new v) (e.set i .no)
  |some (.mu _)=>.rt (.par i) e
  |_=>.stuck
noncomputable def wRet(F:ME3):MS3:=λe=>(F e).toS om
noncomputable def iB(o:Bool)(i:Nat)(t:Tm)(e:E3):SR3:=match e[i]? with
 |some s0=>if s0.pl=true then (match t with
  |.val v=>.nx (e.set i (.sh v))
  |.new v=>.nx (e.set i (if o=true then .ow v else .sh v))
  |.bor j=>match bP e (.bor j) with
   |some (e2,v)=>.nx (e2.set i (.sh v))
   |none=>.stuck) else .stuck
 |none=>.stuck
noncomputable def wAsg(o:Bool)(i:Nat)(F:ME3):MS3:=λe=>(F e).toS (iB o i)
abbrev MG3:=Val->E3->Option E3
abbrev jm:=List Val->E3->Option E3
noncomputable def pN(i:Nat):MG3:=λv e=>match e[i]? with
 |some s=>if s.pl=true then some (e.set i (.sh v)) else none
 |none=>none
noncomputable def psN:jm:=λvs e=>match vs with
 | []=>some e
 |_=>none
noncomputable def psC(g:MG3)(u:jm):jm:=λvs e=>match vs with
 |v::r=>(g v e).bind λe1=>u r e1
 | []=>none
noncomputable def pT(n:Nat)(u:jm):MG3:=λv e=>match v with
 |.tup vs=>if vs.length=n then u vs e else none
 |_=>none
noncomputable def CH(F:ME3)(g:MG3):MS3:=λe=>(F e).toS λt e1=>match bP e1 t with
 |some (e2,v)=>match g v e2 with
  |some e3=>.nx e3
  |none=>.stuck
 |none=>.stuck
noncomputable def wPar(i j:Nat)(A:MA3):MS3:=λe=>(A e).toS λts e1=>match dem e1 ts with
 |some (e2,[v,u])=>match (pN i v e2).bind (pN j u) with
  |some e3=>.nx e3
  |none=>.stuck
 |_=>.stuck
noncomputable def Ci(i:Nat)(g:Val->Val->Bv)(F:ME3):MS3:=λe=>match e[i]? with
 |some (.sh x)=>(F e).toS λt e1=>match rs e1 t with
  |some y=>match g x y with
   |.val z=>match pN i z e1 with
    |some e2=>.nx e2
    |none=>.stuck
   |_=>.stuck
  |none=>.stuck
 |_=>.stuck
noncomputable def zo(c:Str)(A:MA3):MS3:=λe=>(A e).toS λts e1=>if ts.length<=16777216 then .exc c e1 else .stuck
def RG(g2:MG)(g3:MG3):Prop:=∀X h0 ns e ae h d v e',Sat X h0 ns e ae h->Rd (Oc X ns) h d v->g3 v e=some e'->∃c_ ns',g2 d ae h=.ok c_ h/\Sat X h0 ns' e' c_ h/\Stp ns e h ns' e' h
def RGs(g2:MGs)(g3:jm):Prop:=∀X h0 ns e ae h ds vs e',Sat X h0 ns e ae h->Rds (Oc X ns) h ds vs->g3 vs e=some e'->∃c_ ns',g2 ds ae h=.ok c_ h/\Sat X h0 ns' e' c_ h/\Stp ns e h ns' e' h
section
variable{F:ME}{F3:ME3}{A:MA}{A3:MA3}{c d:MT}{c3:MT3}{U V:MS}{U3 V3:MS3}{g:MG}{g3:MG3}{gs:MGs}{gs3:jm}
def LX:RS sNx wNx:=λX h0 ns e ae h S=>.nx .refl S
def MQ:RS sCt wCt:=λX h0 ns e ae h S=>⟨ae,h,ns,rfl,.refl,S⟩
def GI(hU:RS U U3)(hV:RS V V3):RS (Ac U V) (wSeq U3 V3):=λX h0 ns e ae h S=>by
 have p:=hU X h0 ns e ae h S;show PoS X h0 ns e h ((U ae h).then V) ((U3 e).then V3);generalize U3 e=r at *;cases r with
 |stuck=>trivial
 |nx e'=>obtain⟨c_,h',ns',q,q1,q2⟩:=p;rw[q];exact PoS.after S q1 (hV X h0 ns' e' c_ h' q2)
 |bk e'=>obtain⟨c_,h',ns',q,q1,q2⟩:=p;rw[q];exact⟨c_,h',ns',rfl,q1,q2⟩
 |ct e'=>obtain⟨c_,h',ns',q,q1,q2⟩:=p;rw[q];exact⟨c_,h',ns',rfl,q1,q2⟩
 |exc c e'=>obtain⟨c_,h',ns',q,q1,q2⟩:=p;rw[q];exact⟨c_,h',ns',rfl,q1,q2⟩
 |rt r e'=>obtain⟨d,c_,h',ns',q,q1,q2⟩:=p;rw[q];exact⟨d,c_,h',ns',rfl,q1,q2⟩
def Dm(hF:RE F F3):RS (wA F) (Cy F3):=λX h0 ns e ae h S=>PoS.toS (hF X h0 0 ns e ae h S (Oa _)) λd t h1 ns1 e1 a1 S1 r1=>.nx a1 S1
def L7(hc:RT c c3)(hU:RS U U3)(hV:RS V V3):RS (sIf c U V) (wIf c3 U3 V3):=λX h0 ns e ae h S=>PoS.toS (hc X h0 ns e ae h S) λb b' h1 ns1 e1 a1 S1 r1=>by
 cases r1;try dsimp only
 split
 .exact PoS.after S a1 (hU X h0 ns1 e1 ae h1 S1)
 .exact PoS.after S a1 (hV X h0 ns1 e1 ae h1 S1)
def HJ(hF:RE F F3):RS (Ca F) (wRet F3):=λX h0 ns e ae h S=>PoS.toS (hF X h0 h0 ns e ae h S S.lh) λd t h1 ns1 e1 a1 S1 r1=>by
 cases t with
 |val v=>exact⟨d,ae,h1,ns1,rfl,a1,S1,r1⟩
 |new v=>obtain⟨n,o,q⟩:=r1;exact⟨d,ae,h1,ns1,rfl,a1,n,o,q⟩
 |
  bor i=>
  unfold om;dsimp only;have r':ae[i]?=some (some d):=r1;split
  .rename_i v q;obtain⟨_,x,e1',e2⟩:=S1.sl i _ q;rw[r'] at e1';cases e1';exact⟨d,ae,h1,ns1,rfl,a1,S1,e2⟩
  .rename_i v q;obtain⟨n,o,q1,q2,q3,q4,q5,q6⟩:=S1.sl i _ q;rw[r'] at q2;cases q2;have hi:=(x_.mp q).1;have hn:i<ns1.length:=by rw[S1.l2];exact hi
   have mv:Mov (Oc X ns1) (Oc (Xn X n) (ns1.set i none)) h1 h1:=λm o' p q'=>⟨⟨λz=>by
    rcases z with z |rfl
    .exact p.1 z
    .exact p.2 (aW.mpr ⟨i,q1⟩),(fC p).2⟩,q'⟩
   have S2:=S1.putN' hi (s:=.no) rfl;refine⟨.ref n,ae,h1,ns1.set i none,rfl,a1.put (x:=none) hi (λ_ z=>by cases z) q rfl rfl S1.l2,n,o,rfl,q3,S1.nx i n q1,q4,q5,⟨S2.l1,S2.l2,S2.lh,λm z=>?_,S2.inj,λj m qj z=>?_,λj s qj=>?_⟩,q6.mono mv⟩
   .rcases z with z |rfl
    .exact S2.xl m z
    .exact cp q4
   .rcases z with z |rfl
    .exact S2.nx j m qj z
    .rcases bE hn qj with ⟨_,y⟩ |⟨y,z⟩
     .cases y
     .exact y (S1.inj j i _ z q1)
   .rcases bE hi qj with ⟨rfl,rfl⟩ |⟨z,qj'⟩
    .rw[bH hn];rfl
    .rw[bp z];exact (S1.sl j s qj').mono mv λ_ _ _ q=>q
  .rename_i v q;exact⟨d,ae,h1,ns1,rfl,a1,S1,r',v,q⟩
  .trivial
def JW(o:Bool)(i:Nat)(hF:RE F F3):RS (fk F (gN i)) (wAsg o i F3):=λX h0 ns e ae h S=>PoS.toS (hF X h0 h.length ns e ae h S (z_ _)) λd t h1 ns1 e1 a1 S1 r1=>by
 show PoS X h0 ns e h (.nx (ae.set i (some d)) h1) (iB o i t e1);unfold iB;split
 .rename_i s0 q0;split
  .rename_i p0;have hi:=(x_.mp q0).1;cases t with
   |val v=>exact .nx (a1.put (x:=none) (s:=.sh v) hi (λ_ z=>by cases z) q0 p0 rfl S1.l2) (S1.putN hi ⟨rfl,d,rfl,Rd.mono (λm o p q=>⟨fC p,q⟩) r1⟩)
   |
    new v=>
    try dsimp only
    split
    .obtain⟨n,ob,rfl,q1,q2,q3,q4,q5,q6⟩:=r1;exact .nx (a1.put (x:=some n) (s:=.ow v) hi (λm z=>by cases z;exact q1) q0 p0 rfl S1.l2) (Sat.putO q5 q2 hi (J_ S.lh q1) q3 q4 q6)
    .exact .nx (a1.put (x:=none) (s:=.sh v) hi (λ_ z=>by cases z) q0 p0 rfl S1.l2) (S1.putN hi ⟨rfl,d,rfl,Rd.mono (λm o p q=>⟨fC p,q⟩) r1.new⟩)
   |
    bor j=>
    try dsimp only
    split
    .rename_i e2 v q2;obtain⟨j_,S2,a2,r2⟩:=fq S1 r1 q2;have hq:∃s2,e2[i]?=some s2/\s2.pl=true:=by
      unfold bP at q2;dsimp only at q2;split at q2
      .cases q2;exact⟨s0,q0,p0⟩
      .rename_i u q3;cases q2;by_cases z:i=j
       .subst z;exact⟨_,bH hi,rfl⟩
       .exact⟨s0,by rw[bp z];exact q0,p0⟩
      .cases q2
     obtain⟨s2,hq1,hq2⟩:=hq;have hi2:=(x_.mp hq1).1;exact .nx ((a1.trans S a2).put (x:=none) (s:=.sh v) hi2 (λ_ z=>by cases z) hq1 hq2 rfl S2.l2) (S2.putN hi2 ⟨rfl,d,rfl,Rd.mono (λm o p q=>⟨fC p,q⟩) r2⟩)
    .trivial
  .trivial
 .trivial
def xi(i:Nat):RG (gN i) (pN i):=λX h0 ns e ae h d v e' S r q=>by
 unfold pN at q;split at q
 .rename_i s q0;split at q
  .rename_i p0;cases q;have hi:=(x_.mp q0).1;exact⟨_,ns.set i none,rfl,S.putN hi ⟨rfl,d,rfl,Rd.mono (λm o p q=>⟨fC p,q⟩) r⟩,Stp.refl.put (x:=none) (s:=.sh v) hi (λ_ z=>by cases z) q0 p0 rfl S.l2⟩
  .cases q
 .cases q
def Lo:RGs gsN psN:=λX h0 ns e ae h ds vs e' S r q=>by
 cases r with
 |nil=>cases q;exact⟨ae,ns,rfl,S,.refl⟩
 |cons _ _=>cases q
def LU(hg:RG g g3)(hs:RGs gs gs3):RGs (gsC g gs) (psC g3 gs3):=λX h0 ns e ae h ds vs e' S r q=>by
 cases r with
 |nil=>cases q
 |cons r rr=>obtain⟨e1,q1,q2⟩:=N8.mp q;obtain⟨ae1,ns1,p1,S1,a1⟩:=hg _ _ _ _ _ _ _ _ _ S r q1;obtain⟨ae2,j_,p2,S2,a2⟩:=hs _ _ _ _ _ _ _ _ _ S1 (rr.mono (a1.mov S)) q2;refine⟨ae2,j_,?_,S2,a1.trans S a2⟩;unfold gsC;dsimp only;rw[p1];exact p2
def rg_t(n:Nat)(hs:RGs gs gs3):RG (gT λds ae h=>if ds.length=n then gs ds ae h else .stuck) (pT n gs3):=λX h0 ns e ae h d v e' S r q=>by
 unfold pT at q;split at q
 .split at q
  .rename_i hn;obtain⟨ds,rfl,r2⟩:=ShR.tup (.inl r);obtain⟨ae1,ns1,p1,S1,a1⟩:=hs _ _ _ _ _ _ _ _ _ S r2 q;refine⟨ae1,ns1,?_,S1,a1⟩;unfold gT;dsimp only;rw[if_pos (by rw[r2.len];exact hn)];exact p1
  .cases q
 .cases q
def Gy(hg:RG g g3):RG (λd ae h=>noX (g d ae h)) g3:=λX h0 ns e ae h d v e' S r q=>by obtain⟨ae1,ns1,p1,S1,a1⟩:=hg _ _ _ _ _ _ _ _ _ S r q;exact⟨ae1,ns1,by dsimp only;rw[p1];rfl,S1,a1⟩
def E5(hF:RE F F3)(hg:RG g g3):RS (fk F g) (CH F3 g3):=λX h0 ns e ae h S=>PoS.toS (hF X h0 0 ns e ae h S (Oa _)) λd t h1 ns1 e1 a1 S1 r1=>by
 try dsimp only
 split
 .rename_i e2 v q;obtain⟨j_,S2,a2,r2⟩:=fq S1 r1 q;split
  .rename_i e3 q3;obtain⟨ae3,ns3,p3,S3,a3⟩:=hg _ _ _ _ _ _ _ _ _ S2 r2 q3;rw[p3];exact .nx ((a1.trans S a2).trans S a3) S3
  .trivial
 .trivial
def HG(i j:Nat)(hA:RA A A3):RS (tI i j A) (wPar i j A3):=λX h0 ns e ae h S=>PoS.toS (hA X h0 ns e ae h S) λds ts h1 ns1 e1 a1 S1 r1=>by
 try dsimp only
 cases q:dem e1 ts with
 |none=>trivial
 |
  some w=>
  obtain⟨e2,vs⟩:=w;obtain⟨j_,S2,a2,r2⟩:=iR S1 r1 q
  match vs,ds,r2 with
  | [],_,_=>trivial
  | [_],_,_=>trivial
  |_::_::_::_,_,_=>trivial
  |
   [v,u],[d,d'],r2=>
   dsimp only;split
   .rename_i e3 q3;obtain⟨e4,q4,q5⟩:=N8.mp q3;cases r2 with
    |
     cons r rr=>
     cases rr with
     |
      cons r' rr=>
      obtain⟨ae3,ns3,p3,S3,a3⟩:=xi i _ _ _ _ _ _ _ _ _ S2 r q4;obtain⟨ae4,ns4,p4,S4,a4⟩:=xi j _ _ _ _ _ _ _ _ _ S3 (r'.mono (a3.mov S2)) q5;have z3:ae3=ae.set i (some d):=by have:=p3;unfold gN at this;cases this;rfl
      have z4:ae4=ae3.set j (some d'):=by have:=p4;unfold gN at this;cases this;rfl
      subst z4 z3;exact .nx (((a1.trans S a2).trans S a3).trans S a4) S4
   .trivial
def Jl(i:Nat)(hg:RO gg gg3)(hF:RE F F3):RS (sf i gg F) (Ci i gg3 F3):=λX h0 ns e ae h S=>by
 unfold Ci;split
 .rename_i x q0;obtain⟨_,dx,e1,r0⟩:=S.sl i _ q0;unfold sf;rw[e1];refine PoS.toS (hF X h0 0 ns e ae h S (Oa _)) λd t h1 ns1 e1 a1 S1 r1=>?_;try dsimp only
  split
  .rename_i y q1;have b:=hg _ _ _ _ _ _ (.inl (r0.mono (a1.mov S))) (r1.sh S1 q1);split
   .rename_i z q2;rw[q2] at b;obtain⟨dz,p1,r2⟩:=b;split
    .rename_i e2 q3;rw[p1];obtain⟨ae3,ns3,p3,S3,a3⟩:=xi i _ _ _ _ _ _ _ _ _ S1 r2 q3;have z3:ae3=ae.set i (some dz):=by have:=p3;unfold gN at this;cases this;rfl
     subst z3;exact .nx (a1.trans S a3) S3
    .trivial
   .trivial
  .trivial
 .trivial
def TsR.len(r:TsR X ns ae h ds ts):ds.length=ts.length:=by
 induction r with
 |nil=>rfl
 |val _ _ ih=>rw[I_,I_,ih]
 |bor _ _ ih=>rw[I_,I_,ih]
def BA(x:Str)(hA:RA A A3):RS (qM x A) (zo x A3):=λX h0 ns e ae h S=>PoS.toS (hA X h0 ns e ae h S) λds ts h1 ns1 e1 a1 S1 r1=>by
 try dsimp only
 by_cases hl:ts.length<=16777216
 .rw[if_pos hl,if_pos (by rw[TsR.len r1];exact hl)];exact⟨ae,h1,ns1,rfl,a1,S1⟩
 .rw[if_neg hl];trivial
end
noncomputable def Sl.re(s:Sl)(u:Val):Sl:=match s with
 |.ow _=>.ow u
 |.mu _=>.mu u
 |s=>s
def Sl.mv:Sl->Option Val
 |.ow v=>some v
 |.mu v=>some v
 |_=>none
section
variable{X:Nat->Prop}{h0:Nat}{ns:Ns}{e:E3}{ae:AE}{h:AH}
def Sat.write(S:Sat X h0 ns e ae h)(q:e[i]?=some s)(hm:s.mv=some u):∃n o,ae[i]?=some (some (.ref n))/\h[n]?=some o/\bK o/\Rc (Oc X ns) h o u/\
 ∀o' u',bK o'->Rc (Oc X ns) h o' u'->Mov (Oc X ns) (Oc X ns) h (h.set n o')/\Sat X h0 ns (e.set i (s.re u')) ae (h.set n o')/\Stp ns e h ns (e.set i (s.re u')) (h.set n o'):=by
 have hi:=(x_.mp q).1;have key:∃n o,ns[i]?=some (some n)/\ae[i]?=some (some (.ref n))/\h[n]?=some o/\bK o/\Rc (Oc X ns) h o u/\s.mt=true/\(∀o' u',bK o'->Rc (Oc X ns) (h.set n o') o' u'->SlR (Oc X ns) h0 (some (some n)) (some (some (.ref n))) (h.set n o') (s.re u')):=by
  have y:=S.sl i s q;cases s with
  |ow v=>cases hm;obtain⟨n,o,q1,q2,q3,q4,q5,q6⟩:=y;exact⟨n,o,q1,q2,q4,q5,q6,rfl,λo' u' hf r=>⟨n,o',rfl,rfl,q3,bH (cp q4),hf,r⟩⟩
  |mu v=>cases hm;obtain⟨n,o,q1,q2,q4,q5,q6⟩:=y;exact⟨n,o,q1,q2,q4,q5,q6,rfl,λo' u' hf r=>⟨n,o',rfl,rfl,bH (cp q4),hf,r⟩⟩
  |_=>cases hm
 obtain⟨n,o,k1,k2,k3,k4,k5,k6,k7⟩:=key;refine⟨n,o,k2,k3,k4,k5,λo' u' hf r=>?_⟩;have mv:Mov (Oc X ns) (Oc X ns) h (h.set n o'):=λm ob p q'=>⟨p,by have:m≠n:=λz=>p.2 (aW.mpr ⟨i,by rw[z];exact k1⟩);rw[bp this];exact q'⟩;refine⟨mv,⟨by rw[NU];exact S.l1,by rw[NU];exact S.l2,by rw[NU];exact S.lh,λm z=>by rw[NU];exact S.xl m z,S.inj,S.nx,λj s' qj=>?_⟩,?_⟩
 .rcases bE hi qj with ⟨rfl,rfl⟩ |⟨z,qj'⟩
  .rw[k1,k2];exact k7 o' u' hf (r.mono mv)
  .refine (S.sl j s' qj').mono mv λm ob qm qo=>?_;have:m≠n:=λy=>by subst y;exact z (S.inj j i m qm k1)
   rw[bp this];exact qo
 .refine⟨by rw[NU];exact z_ _,λm ob qm hM=>?_,λ_ _ q=>.inl q,λj s' qj hl=>?_,λj s' qj hl=>?_,λj v qj=>?_,λj v qj=>?_⟩
  .have:m≠n:=λy=>by subst y;exact hM ⟨i,s,k1,q,k6⟩
   rw[bp this];exact qm
  .have z:j≠i:=λz=>by subst z;rw[q] at qj;cases qj;cases s <;> first |cases hl;done |cases k6;done
   rw[bp z];exact⟨qj,rfl⟩
  .rcases bE hi qj with ⟨_,y⟩ |⟨z,qj'⟩
   .subst y;cases s <;> first |cases hl;done |cases k6;done
   .exact⟨qj',rfl⟩
  .rcases bE hi qj with ⟨rfl,y⟩ |⟨z,qj'⟩
   .cases s with
    |mu w=>exact⟨w,q,rfl⟩
    |ow w=>cases y
    |_=>cases k6
   .exact⟨v,qj',rfl⟩
  .by_cases z:j=i
   .subst z;rw[q] at qj;cases qj;exact⟨u',bH hi,rfl⟩
   .exact⟨v,by rw[bp z];exact qj,rfl⟩
end
def vy(w2:D->D->D->AH->R Unit)(w3:Val->Val->Val->Option Val):Prop:=∀P h n o u di vi d v u',¬ P n->h[n]?=some o->bK o->Rc P h o u->ShR P h di vi->Rd P h d v->w3 u vi v=some u'->∃o',w2 (.ref n) di d h=.ok () (h.set n o')/\bK o'/\Rc P h o' u'
noncomputable def wSet(i:Nat)(G:ME3)(F:ME3)(w:Val->Val->Val->Option Val):MS3:=λe=>(F e).toS λt e1=>match (e1[i]?).bind Sl.mv with
 |none=>.stuck
 |some _=>(G e1).toS λt2 e2=>match rs e2 t2 with
  |none=>.stuck
  |some vi=>match bP e2 t.drop with
   |none=>.stuck
   |some (e3,v)=>match e3[i]? with
    |none=>.stuck
    |some s=>match s.mv with
     |none=>.stuck
     |some u=>match w u vi v with
      |some u'=>.nx (e3.set i (s.re u'))
      |none=>.stuck
def RM(m2:D->List D->AH->R D)(m3:Val->List Val->Option (Val×Val)):Prop:=∀P h n o u ds vs u' v,h[n]?=some o->bK o->Rc P h o u->Rds P h ds vs->m3 u vs=some (u',v)->kD h (.ref n)=true/\∃o' d,m2 (.ref n) ds h=.ok d (h.set n o')/\bK o'/\Rc P h o' u'/\Rd P h d v
noncomputable def d4:Val->Bool
 |.lst _=>true
 |_=>false
noncomputable def By(i:Nat)(m:Val->List Val->Option (Val×Val))(A:MA3):ME3:=λe=>match e[i]? with
 |some s=>if (s.mv.map d4)=some true then (A e).bind λts e1=>match dem e1 ts with
  |some (e2,vs)=>match e2[i]? with
   |some s2=>match s2.mv with
    |some u=>match m u vs with
     |some (u',v)=>.ok (.val v) (e2.set i (s2.re u'))
     |none=>.stuck
    |none=>.stuck
   |none=>.stuck
  |none=>.stuck else .stuck
 |none=>.stuck
section
variable{F G:ME}{F3 G3:ME3}{A:MA}{A3:MA3}
def DX{X:Nat->Prop}{h0:Nat}{ns:Ns}{e:E3}{ae:AE}{h:AH}(S:Sat X h0 ns e ae h){i:Nat}{u:Val}(q:(e[i]?).bind Sl.mv=some u):∃n o,ae[i]?=some (some (.ref n))/\h[n]?=some o/\bK o/\Rc (Oc X ns) h o u:=by obtain⟨s,q1,q2⟩:=N8.mp q;obtain⟨n,o,k1,k2,k3,k4,_⟩:=S.write q1 q2;exact⟨n,o,k1,k2,k3,k4⟩
def HK(i:Nat)(hw:vy w2 w3)(hG:RE G G3)(hF:RE F F3):RS (fk F (gS (dM i) G w2)) (wSet i G3 F3 w3):=λX h0 ns e ae h S=>PoS.toS (hF X h0 0 ns e ae h S (Oa _)) λd t h1 ns1 e1 a1 S1 r1=>by
 try dsimp only
 cases qm:(e1[i]?).bind Sl.mv with
 |none=>trivial
 |
  some u0=>
  obtain⟨n0,o0,b1,b2,b3,b4⟩:=DX S1 qm;have L2e:∀h',(gS (dM i) G w2 d ae h').toS ae (λc_ h2=>SR.nx c_ h2)=(G ae h').toS ae λdi h2=>(w2 (.ref n0) di d h2).toS ae λ_ h3=>.nx ae h3:=λh'=>by
   unfold gS dM;rw[b1];simp only[gk];cases G ae h' with
   |ok di h2=>simp only[gk];show _=(w2 (.ref n0) di d h2).toS ae λ_ h3=>.nx ae h3;cases w2 (.ref n0) di d h2 <;> rfl
   |exc c h2=>rfl
   |stuck=>rfl
  rw[L2e];refine PoS.after S a1 (PoS.toS (hG X h0 0 ns1 e1 ae h1 S1 (Oa _)) λdi t2 h2 j_ e2 a2 S2 r2=>?_);try dsimp only
  cases qi:rs e2 t2 with
  |none=>trivial
  |
   some vi=>
   try dsimp only
   cases qd:bP e2 t.drop with
   |none=>trivial
   |
    some w=>
    obtain⟨e3,v⟩:=w;try dsimp only
    obtain⟨r1',hn⟩:=r1.drop;have r3:=r1'.stp S1 a2 hn;have si:=r2.sh S2 qi;obtain⟨ns3,S3,a3,r4⟩:=fq S2 r3 qd;have si3:ShR (Oc X ns3) h2 di vi:=by
     rcases si with z |⟨n,o,z1,z2,z3⟩
     .exact .inl (z.mono (a3.mov S2))
     .exact .inr ⟨n,o,z1,z2,z3.mono (a3.mov S2)⟩
    cases q3:e3[i]? with
    |none=>trivial
    |
     some s=>
     try dsimp only
     cases q4:s.mv with
     |none=>trivial
     |
      some u=>
      try dsimp only
      cases q5:w3 u vi v with
      |none=>trivial
      |
       some u'=>
       obtain⟨n,o,k1,k2,k3,k4,k5⟩:=S3.write q3 q4;rw[b1] at k1;cases k1;have nP:¬ Oc X ns3 n0:=λp=>by have z1:=((k5 (.lst []) (.lst []) trivial (.lst .nil)).1 _ _ p k2).2;have z2:=((k5 (.lst [.non]) (.lst [.non]) trivial (.lst (.cons .non .nil))).1 _ _ p k2).2;rw[bH (cp k2)] at z1 z2;rw[<- z2] at z1;cases z1
       obtain⟨o',p1,p2,p3⟩:=hw _ _ _ _ _ _ _ _ _ _ nP k2 k3 k4 si3 r4 q5;obtain⟨mv,S4,a4⟩:=k5 o' u' p2 p3;rw[p1];exact .nx ((a2.trans S1 a3).trans S1 a4) S4
def Jv(i:Nat)(hm:RM m2 m3)(hA:RA A A3):RE (eM m2 (dM i) A) (By i m3 A3):=λX h0 L ns e ae h S hl=>by
 unfold By;cases q0:e[i]? with
 |none=>trivial
 |
  some s0=>
  dsimp only;split
  .rename_i hz;obtain⟨u0,z1,z2⟩:=N0.mp hz;obtain⟨n0,o0,b1,b2,b3,b4,_⟩:=S.write q0 z1;have hL:kD h (.ref n0)=true:=by
    cases u0 with
    |lst xs=>obtain⟨ds,_,e1,_⟩:=Rc.seq b2 b4;show (aR h n0).isSome=true;rw[e1];rfl
    |_=>cases z2
   have L2e:eM m2 (dM i) A ae h=(A ae h).bind λds h2=>m2 (.ref n0) ds h2:=by unfold eM dM;rw[b1];simp only[gk,hL,OL]
   rw[L2e];refine Po.bind S (hA X h0 ns e ae h S) λds ts h1 ns1 e1 a1 S1 r1=>?_;try dsimp only
   cases q1:dem e1 ts with
   |none=>trivial
   |
    some w=>
    obtain⟨e2,vs⟩:=w;try dsimp only
    obtain⟨j_,S2,a2,r2⟩:=iR S1 r1 q1;cases q2:e2[i]? with
    |none=>trivial
    |
     some s2=>
     try dsimp only
     cases q3:s2.mv with
     |none=>trivial
     |
      some u=>
      try dsimp only
      cases q4:m3 u vs with
      |none=>trivial
      |some w=>obtain⟨u',v⟩:=w;obtain⟨n,o,k1,k2,k3,k4,k5⟩:=S2.write q2 q3;rw[b1] at k1;cases k1;obtain⟨_,o',d,p1,p2,p3,p4⟩:=hm _ _ _ _ _ _ _ _ _ k2 k3 k4 r2 q4;obtain⟨mv,S4,a4⟩:=k5 o' u' p2 p3;exact⟨d,_,j_,p1,a2.trans S1 a4,S4,p4.mono mv⟩
  .trivial
end
def nN(mro:List Str)(i:Nat)(B U:MS3):MS3:=λe=>match B e with
 |
  .exc c e1=>if c∈mro then match e1[i]? with
   |
    some s0=>if s0.pl=true then match U (e1.set i (.sh (.exc c))) with
     |.nx e2=>(match e2[i]? with |some s=>if s.pl=true then .nx (e2.set i .no) else .stuck |none=>.stuck)
     |.bk e2=>(match e2[i]? with |some s=>if s.pl=true then .bk (e2.set i .no) else .stuck |none=>.stuck)
     |.ct e2=>(match e2[i]? with |some s=>if s.pl=true then .ct (e2.set i .no) else .stuck |none=>.stuck)
     |.rt d e2=>.rt d e2
     |_=>.stuck
    else .stuck
   |none=>.stuck
  else .stuck
 |r=>r
def Ki(mro:List Str)(i:Nat)(hB:RS B B3)(hU:RS U U3):RS (sG mro i B U) (nN mro i B3 U3):=λX h0 ns e ae h S=>by
 have p:=hB X h0 ns e ae h S;unfold nN sG;generalize B3 e=r at *;cases r with
 |stuck=>trivial
 |nx e'=>obtain⟨c_,h',ns',q,q1,q2⟩:=p;rw[q];exact⟨c_,h',ns',rfl,q1,q2⟩
 |bk e'=>obtain⟨c_,h',ns',q,q1,q2⟩:=p;rw[q];exact⟨c_,h',ns',rfl,q1,q2⟩
 |ct e'=>obtain⟨c_,h',ns',q,q1,q2⟩:=p;rw[q];exact⟨c_,h',ns',rfl,q1,q2⟩
 |rt r e'=>obtain⟨d,c_,h',ns',q,q1,q2⟩:=p;rw[q];exact⟨d,c_,h',ns',rfl,q1,q2⟩
 |
  exc c e1=>
  obtain⟨ae1,h1,ns1,q,a1,S1⟩:=p;rw[q];dsimp only;by_cases hc:c∈mro
  .rw[if_pos hc,if_pos hc];cases q0:e1[i]? with
   |none=>trivial
   |
    some s0=>
    dsimp only;by_cases p0:s0.pl=true
    .rw[if_pos p0];have hi:=(x_.mp q0).1;have S2:Sat X h0 (ns1.set i none) (e1.set i (.sh (.exc c))) (ae1.set i (some (.exc c))) h1:=S1.putN hi ⟨rfl,_,rfl,.exc c⟩;have a2:Stp ns e h (ns1.set i none) (e1.set i (.sh (.exc c))) h1:=a1.put (x:=none) (s:=.sh (.exc c)) hi (λ_ z=>by cases z) q0 p0 rfl S1.l2;have p2:=PoS.after S a2 (hU X h0 _ _ _ _ S2);generalize U3 (e1.set i (.sh (.exc c)))=r2 at *;cases r2 with
     |stuck=>trivial
     |exc _ _=>trivial
     |rt r e2=>obtain⟨d,c_,h',ns',q,q1,q2⟩:=p2;rw[q];exact⟨d,c_,h',ns',rfl,q1,q2⟩
     |
      nx e2=>
      obtain⟨c_,h',ns',q,q1,q2⟩:=p2;rw[q];dsimp only;split
      .rename_i s qs;split
       .rename_i ps;have hi2:=(x_.mp qs).1;exact⟨_,h',_,rfl,q1.put (x:=none) (s:=.no) hi2 (λ_ z=>by cases z) qs ps rfl q2.l2,q2.putN hi2 rfl⟩
       .trivial
      .trivial
     |
      bk e2=>
      obtain⟨c_,h',ns',q,q1,q2⟩:=p2;rw[q];dsimp only;split
      .rename_i s qs;split
       .rename_i ps;have hi2:=(x_.mp qs).1;exact⟨_,h',_,rfl,q1.put (x:=none) (s:=.no) hi2 (λ_ z=>by cases z) qs ps rfl q2.l2,q2.putN hi2 rfl⟩
       .trivial
      .trivial
     |
      ct e2=>
      obtain⟨c_,h',ns',q,q1,q2⟩:=p2;rw[q];dsimp only;split
      .rename_i s qs;split
       .rename_i ps;have hi2:=(x_.mp qs).1;exact⟨_,h',_,rfl,q1.put (x:=none) (s:=.no) hi2 (λ_ z=>by cases z) qs ps rfl q2.l2,q2.putN hi2 rfl⟩
       .trivial
      .trivial
    .rw[if_neg p0];trivial
  .rw[if_neg hc,if_neg hc];trivial
noncomputable def jn:Sl->Sl
 |.ow v=>.lo v
 |.mu v=>.lm v
 |s=>s
noncomputable def j6:Sl->Sl
 |.lo v=>.ow v
 |.lm v=>.mu v
 |s=>s
noncomputable def lock(e:E3)(k:Nat):E3:=match e[k]? with
 |some s=>e.set k (jn s)
 |none=>e
noncomputable def unlock(e:E3)(k:Nat):E3:=match e[k]? with
 |some s=>e.set k (j6 s)
 |none=>e
noncomputable def lockO(e:E3):Option Nat->E3
 |some k=>lock e k
 |none=>e
def eL(e:E3):Option Nat->E3
 |some k=>unlock e k
 |none=>e
section
variable{X:Nat->Prop}{h0:Nat}{ns ns':Ns}{e e':E3}{ae:AE}{h h':AH}
def SlR.lock(r:SlR P h0 n d h s):SlR P h0 n d h (jn s):=by cases s <;> exact r
def SlR.unlock(r:SlR P h0 n d h s):SlR P h0 n d h (j6 s):=by cases s <;> exact r
def Sat.lock(S:Sat X h0 ns e ae h)(k:Nat):Sat X h0 ns (lock e k) ae h:=by
 unfold L3.lock;split
 .rename_i s q;have hi:=(x_.mp q).1;refine⟨by rw[NU];exact S.l1,by rw[NU];exact S.l2,S.lh,S.xl,S.inj,S.nx,λj s' qj=>?_⟩;rcases bE hi qj with ⟨rfl,rfl⟩ |⟨z,qj'⟩
  .exact (S.sl j s q).lock
  .exact S.sl j s' qj'
 .exact S
def Sat.unlock(S:Sat X h0 ns e ae h)(k:Nat):Sat X h0 ns (unlock e k) ae h:=by
 unfold L3.unlock;split
 .rename_i s q;have hi:=(x_.mp q).1;refine⟨by rw[NU];exact S.l1,by rw[NU];exact S.l2,S.lh,S.xl,S.inj,S.nx,λj s' qj=>?_⟩;rcases bE hi qj with ⟨rfl,rfl⟩ |⟨z,qj'⟩
  .exact (S.sl j s q).unlock
  .exact S.sl j s' qj'
 .exact S
def iG(z:j≠k):(lock e k)[j]?=e[j]?:=by
 unfold lock;split
 .rw[bp z]
 .rfl
def fP(z:j≠k):(unlock e k)[j]?=e[j]?:=by
 unfold unlock;split
 .rw[bp z]
 .rfl
def nY(q:e[k]?=some s):(lock e k)[k]?=some (jn s):=by unfold lock;rw[q];exact bH (x_.mp q).1
def gX(q:e[k]?=some s):(unlock e k)[k]?=some (j6 s):=by unfold unlock;rw[q];exact bH (x_.mp q).1
def Stp.unlock(q:e[k]?=some s)(hs:s.mt=true)(a:Stp ns (L3.lock e k) h ns' e' h'):Stp ns e h ns' (L3.unlock e' k) h':=by
 have hl:(jn s).lk=true:=by cases s <;> first |rfl |cases hs
 have hu:j6 (jn s)=s:=by cases s <;> first |rfl |cases hs
 obtain⟨qk,nk⟩:=a.lk k _ (nY q) hl;refine⟨a.len,λm o qm hM=>a.keep m o qm λ⟨j,s',z1,z2,z3⟩=>hM ?_,a.nw,λj s' qj hj=>?_,λj s' qj hj=>?_,λj v qj=>?_,λj v qj=>?_⟩
 .by_cases z:j=k
  .subst z;exact⟨j,s,z1,q,hs⟩
  .rw[iG z] at z2;exact⟨j,s',z1,z2,z3⟩
 .have z:j≠k:=λz=>by subst z;rw[q] at qj;cases qj;cases s <;> first |cases hs;done |cases hj;done
  rw[fP z];exact a.lk j s' (by rw[iG z];exact qj) hj
 .have z:j≠k:=λz=>by subst z;rw[gX qk,hu] at qj;cases qj;cases s <;> first |cases hs;done |cases hj;done
  rw[fP z] at qj;obtain⟨y1,y2⟩:=a.lk' j s' qj hj;rw[iG z] at y1;exact⟨y1,y2⟩
 .by_cases z:j=k
  .subst z;rw[gX qk,hu] at qj;cases qj;exact⟨v,q,nk⟩
  .rw[fP z] at qj;obtain⟨u,y1,y2⟩:=a.mu j v qj;rw[iG z] at y1;exact⟨u,y1,y2⟩
 .by_cases z:j=k
  .subst z;rw[q] at qj;cases qj;exact⟨v,by rw[gX qk,hu],nk⟩
  .obtain⟨u,y1,y2⟩:=a.mu' j v (by rw[iG z];exact qj);exact⟨u,by rw[fP z];exact y1,y2⟩
end
abbrev MI3:=E3->R3 (List Val×Option Nat)
def Stay(X:Nat->Prop)(ns:Ns)(k:Option Nat)(h h':AH):Prop:=∀(m:Nat) (o:Ob),h[m]?=some o->(Oc X ns m\/∃j:Nat,k=some j/\ns[j]?=some (some m))->h'[m]?=some o
def sF(X:Nat->Prop)(ns:Ns)(e:E3)(h:AH)(it:AIt)(p:List Val×Option Nat):Prop:=
 Rds (Oc X ns) h it.items p.1/\(∀h',Stay X ns p.2 h h'->it.guard h')/\∀k:Nat,p.2=some k->∃s,e[k]?=some s/\s.mt=true
def RI(I:MI)(J:MI3):Prop:=∀X h0 ns e ae h,Sat X h0 ns e ae h->Po X h0 ns e ae h (sF X) (I ae h) (J e)
noncomputable def fK:Val->Option (List Val)
 |.tup xs=>some xs
 |.lst xs=>some xs
 |_=>none
noncomputable def dB(t:Tm)(e:E3):Option (List Val×Option Nat):=match t with
 |.val v=>(fK v).map λxs=>(xs,none)
 |.new v=>(fK v).map λxs=>(xs,none)
 |.bor k=>match e[k]? with
  |some (.sh v)=>(fK v).map λxs=>(xs,none)
  |some (.ow (.lst xs))=>some (xs,some k)
  |some (.mu (.lst xs))=>some (xs,some k)
  |_=>none
noncomputable def C1(F:ME3):MI3:=λe=>(F e).bind λt e1=>match dB t e1 with
 |some p=>.ok p e1
 |none=>.stuck
def n6:Nat->List Val->List Val
 |_,[]=>[]
 |i,d::ds=>.tup [.int (i:Nat),d]::n6 (i+1) ds
def CP(A:MA3):MI3:=λe=>(A e).bind λts e1=>match ts with
 | [t]=>(match dB t e1 with
  |some p=>.ok (n6 0 p.1,p.2) e1
  |none=>.stuck)
 |_=>.stuck
noncomputable def C2(A:MA3):MI3:=λe=>(A e).bind λts e1=>match ts with
 | [t,u]=>(match dB t e1,dB u e1 with
  |some (xs,k),some (ys,none)=>.ok (List.zipWith (λx y=>.tup [x,y]) xs ys,k) e1
  |_,_=>.stuck)
 |_=>.stuck
noncomputable def oz(lo:Int)(k:Nat):List Val:=(List.range k).map λi=>Val.int (lo+(i:Nat))
structure RgB(j:Int):Prop where
 lo:-(2^62)<=j
 hi:j<2^62
def gy:List Val->Option (List Val)
 | [.int j]=>@ite _ (RgB j) (Classical.propDecidable _) (some (oz 0 j.toNat)) none
 |_=>none
def n8:List Val->Option (List Val)
 | [.int i,.int j]=>@ite _ (RgB i/\RgB j) (Classical.propDecidable _) (some (oz i (j-i).toNat)) none
 |_=>none
noncomputable def qR(f:List Val->Option (List Val))(A:MA3):MI3:=λe=>(A e).bind λts e1=>match (rss e1 ts).bind f with
 |some xs=>.ok (xs,none) e1
 |none=>.stuck
section
variable{F:ME}{F3:ME3}{A:MA}{A3:MA3}
def wu(S:Sat X h0 ns e ae h)(r:Rd (Oc X ns) h d v)(q:fK v=some xs):∃it,fL d h=some it/\sF X ns e h it (xs,none):=by
 cases v with
 |tup ys=>cases q;obtain⟨ds,rfl,r2⟩:=ShR.tup (.inl r);exact⟨_,rfl,r2,λ_ _=>trivial,λ_ z=>nomatch z⟩
 |
  lst ys=>
  cases q;cases r with
  |
   cell p eo rc=>
   rename_i n o;obtain⟨ds,_,e1,r1⟩:=Rc.seq eo rc;refine⟨.lst n ds,by unfold fL;dsimp only;rw[e1];rfl,r1,λh' st=>?_,λ_ z=>nomatch z⟩;show aR h' n=some ds
   have:=st n o eo (.inl p)
   unfold aR at e1 ⊢;rw[eo] at e1;rw[this];exact e1
 |_=>cases q
def mP(S:Sat X h0 ns e ae h)(r:relE X h0 L ae ns e h d t)(q:dB t e=some p):∃it,fL d h=some it/\sF X ns e h it p:=by
 cases t with
 |val v=>obtain⟨xs,q1,rfl⟩:=N0.mp q;exact wu S r q1
 |new v=>obtain⟨xs,q1,rfl⟩:=N0.mp q;exact wu S r.new q1
 |
  bor k=>
  have r':ae[k]?=some (some d):=r;have own:∀{s xs},e[k]?=some s->s.mv=some (.lst xs)->∃it,fL d h=some it/\sF X ns e h it (xs,some k):=λ{s xs} q qm=>by
   have hns:∃n,ns[k]?=some (some n)/\ae[k]?=some (some (.ref n)):=by
    have y:=S.sl k s q;cases s with
    |ow v=>obtain⟨n,o,y1,y2,_⟩:=y;exact⟨n,y1,y2⟩
    |mu v=>obtain⟨n,o,y1,y2,_⟩:=y;exact⟨n,y1,y2⟩
    |_=>cases qm
   obtain⟨n,y1,y2⟩:=hns;obtain⟨n',o,k1,k2,k3,k4,_⟩:=S.write q qm;rw[y2] at k1;cases k1;rw[r'] at y2;cases y2;obtain⟨ds,_,e2,r2⟩:=Rc.seq k2 k4;refine⟨.lst n ds,by unfold fL;dsimp only;rw[e2];rfl,r2,λh' st=>?_,λj z=>?_⟩
   .show aR h' n=some ds
    have:=st n o k2 (.inr ⟨k,rfl,y1⟩)
    unfold aR at e2 ⊢;rw[k2] at e2;rw[this];exact e2
   .cases z;exact⟨s,q,by cases s <;> first |rfl |cases qm⟩
  unfold dB at q;dsimp only at q;split at q
  .rename_i v qs;obtain⟨_,x,e2,r2⟩:=S.sl k _ qs;rw[r'] at e2;cases e2;obtain⟨xs,q1,rfl⟩:=N0.mp q;exact wu S r2 q1
  .rename_i xs qs;cases q;exact own qs rfl
  .rename_i xs qs;cases q;exact own qs rfl
  .cases q
noncomputable def Aa(d:D)(h:AH):R AIt:=match d with
 |.tup xs=>.ok (.tup xs) h
 |.ref n=>match aR h n with
  |some xs=>.ok (.lst n xs) h
  |none=>.stuck
 |_=>.stuck
def EK(q:fL d h=some it):Aa d h=.ok it h:=by
 cases d with
 |tup xs=>cases q;rfl
 |ref n=>obtain⟨xs,y1,rfl⟩:=N0.mp (show (aR h n).map (AIt.lst n)=some it from q);unfold Aa;dsimp only;rw[y1]
 |_=>cases q
def GP(hF:RE F F3):RI (Bm F) (C1 F3):=λX h0 ns e ae h S=>
 Po.bind S (hF X h0 0 ns e ae h S (Oa _)) λd t h1 ns1 e1 a1 S1 r1=>by
  show Po X h0 ns1 e1 ae h1 (sF X) (Aa d h1) _;cases q:dB t e1 with
  |none=>trivial
  |some p=>dsimp only;obtain⟨it,q1,q2⟩:=mP S1 r1 q;exact⟨it,h1,ns1,EK q1,.refl,S1,q2⟩
def FK(k:Nat)(r:Rds P h ds vs):Rds P h (fT k ds) (n6 k vs):=
 r.ind (M:=λds vs=>∀k,Rds P h (fT k ds) (n6 k vs)) (λ_=>.nil) (λr _ ih k=>.cons (.tup (.cons (.int _) (.cons r .nil))) (ih (k+1))) k
def FL(r:Rds P h ds vs)(q:Rds P h es us):Rds P h (List.zipWith (λx y=>D.tup [x,y]) ds es) (List.zipWith (λx y=>Val.tup [x,y]) vs us):=
 r.ind (M:=λds vs=>∀{es:List D}{us:List Val},Rds P h es us->Rds P h (List.zipWith (λx y=>D.tup [x,y]) ds es) (List.zipWith (λx y=>Val.tup [x,y]) vs us)) (λ_=>.nil) (λr _ ih _ _ q=>by
  cases q with
  |nil=>exact .nil
  |cons q qq=>exact .cons (.tup (.cons r (.cons q .nil))) (ih qq)) q
def AF(r:TsR X ns ae h ds [t]):∃d,ds=[d]/\relE X h0 0 ae ns e h d t:=by
 cases r with
 |val r rr=>cases rr;exact⟨_,rfl,r⟩
 |bor r rr=>cases rr;exact⟨_,rfl,r⟩
def tsr2(r:TsR X ns ae h ds [t,u]):∃d d',ds=[d,d']/\relE X h0 0 ae ns e h d t/\relE X h0 0 ae ns e h d' u:=by
 cases r with
 |val r rr=>obtain⟨d',rfl,r'⟩:=AF (h0:=h0) (e:=e) rr;exact⟨_,_,rfl,r,r'⟩
 |bor r rr=>obtain⟨d',rfl,r'⟩:=AF (h0:=h0) (e:=e) rr;exact⟨_,_,rfl,r,r'⟩
def HX(hA:RA A A3):RI (Bq A) (CP A3):=λX h0 ns e ae h S=>
 Po.bind S (hA X h0 ns e ae h S) λds ts h1 ns1 e1 a1 S1 r1=>by
  match ts,r1 with
  | [],_=>trivial
  |_::_::_,_=>trivial
  |
   [t],r1=>
   obtain⟨d,rfl,r2⟩:=AF (h0:=h0) (e:=e1) r1;dsimp only;cases q:dB t e1 with
   |none=>trivial
   |some p=>obtain⟨it,q1,q2,q3,q4⟩:=mP S1 r2 q;rw[q1];exact⟨.enm it,h1,ns1,rfl,.refl,S1,FK 0 q2,q3,q4⟩
def FZ(hA:RA A A3):RI (BU A) (C2 A3):=λX h0 ns e ae h S=>
 Po.bind
  S (hA X h0 ns e ae h S) λds ts h1 ns1 e1 a1 S1 r1=>by
  match ts,r1 with
  | [],_=>trivial
  | [_],_=>trivial
  |_::_::_::_,_=>trivial
  |
   [t,u],r1=>
   obtain⟨d,d',rfl,r2,r3⟩:=tsr2 (h0:=h0) (e:=e1) r1;dsimp only;cases q:dB t e1 with
   |none=>trivial
   |
    some p=>
    obtain⟨xs,k⟩:=p;cases q':dB u e1 with
    |none=>trivial
    |
     some p'=>
     obtain⟨ys,k'⟩:=p';cases k' with
     |some _=>trivial
     |none=>obtain⟨it,q1,q2,q3,q4⟩:=mP S1 r2 q;obtain⟨it',q1',q2',q3',q4'⟩:=mP S1 r3 q';rw[q1,q1'];exact⟨.zip it it',h1,ns1,rfl,.refl,S1,FL q2 q2',λh' st=>⟨q3 h' st,q3' h' λm o hm hc=>st m o hm (hc.elim .inl λ⟨_,z,_⟩=>nomatch z)⟩,q4⟩
def Fz(lo:Int)(k:Nat):Rds P h (AIt.rng lo k).items (oz lo k):=by
 show Rds P h ((List.range k).map λi=>D.int (lo+(i:Nat))) ((List.range k).map λi=>Val.int (lo+(i:Nat)));generalize List.range k=l;induction l with
 |nil=>exact .nil
 |cons i l ih=>exact .cons (.int _) ih
def eA(r:ShRs P h ds [v]):∃d,ds=[d]/\ShR P h d v:=by cases r with |cons r rr=>cases rr;exact⟨_,rfl,r⟩
def vW(r:ShRs P h ds [v,u]):∃d d',ds=[d,d']/\ShR P h d v/\ShR P h d' u:=by cases r with |cons r rr=>cases rr with |cons r' rr=>cases rr;exact⟨_,_,rfl,r,r'⟩
def CD(hf:∀P h ds vs xs,ShRs P h ds vs->f3 vs=some xs->∃lo k,f2 ds h=.ok (.rng lo k) h/\xs=oz lo k)(hA:RA A A3):RI (λae h=>(A ae h).bind f2) (qR f3 A3):=λX h0 ns e ae h S=>
 Po.bind S (hA X h0 ns e ae h S) λds ts h1 ns1 e1 a1 S1 r1=>by
  try dsimp only
  split
  .rename_i xs q;obtain⟨vs,q1,q2⟩:=N8.mp q;obtain⟨lo,k,p1,rfl⟩:=hf _ _ _ _ _ (TsR.sh S1 r1 q1) q2;rw[p1];exact Po.ret S1 ⟨Fz _ _,λ_ _=>trivial,λ_ z=>nomatch z⟩
  .trivial
def He(hA:RA A A3):RI (BQ A) (qR gy A3):=CD (f2:=λds h1=>match ds with
 | [.int j]=>if -(2^62)<=j/\j<2^62 then .ok (.rng 0 j.toNat) h1 else .stuck
 |
  _=>.stuck) (λP h ds vs xs r q=>by
  unfold gy at q;split at q
  .split at q
   .rename_i hb;cases q;obtain⟨d,rfl,r2⟩:=eA r;obtain rfl:=r2.int;exact⟨_,_,by dsimp only;rw[if_pos ⟨hb.lo,hb.hi⟩],rfl⟩
   .cases q
  .cases q) hA
def Kg(hA:RA A A3):RI (AR A) (qR n8 A3):=CD (f2:=λds h1=>match ds with
 | [.int i,.int j]=>if -(2^62)<=i/\i<2^62/\-(2^62)<=j/\j<2^62 then .ok (.rng i (j-i).toNat) h1 else .stuck
 |
  _=>.stuck) (λP h ds vs xs r q=>by
  unfold n8 at q;split at q
  .split at q
   .rename_i hb;cases q;obtain⟨d,d',rfl,r2,r3⟩:=vW r;obtain rfl:=r2.int;obtain rfl:=r3.int;exact⟨_,_,by dsimp only;rw[if_pos ⟨hb.1.lo,hb.1.hi,hb.2.lo,hb.2.hi⟩],rfl⟩
   .cases q
  .cases q) hA
end
noncomputable def SR3.loop(r:SR3)(f:E3->SR3):SR3:=match r with
 |.nx e=>f e
 |.ct e=>f e
 |.bk e=>.nx e
 |.rt d e=>.rt d e
 |.exc c e=>.exc c e
 |.stuck=>.stuck
noncomputable def cT(g:MG3)(B:MS3):List Val->MS3
 | [],e=>.nx e
 |v::vs,e=>match g v e with
  |some e1=>(B e1).loop (cT g B vs)
  |none=>.stuck
noncomputable def SR3.unl(k:Option Nat)(r:SR3):SR3:=match r with
 |.nx e=>.nx (eL e k)
 |.ct e=>.ct (eL e k)
 |.bk e=>.bk (eL e k)
 |.rt d e=>.rt d (eL e k)
 |.exc c e=>.exc c (eL e k)
 |.stuck=>.stuck
def wFor(I:MI3)(g:MG3)(B:MS3):MS3:=λe=>(I e).toS λp e1=>(cT g B p.1 (lockO e1 p.2)).unl p.2
section
variable{I:MI}{I3:MI3}{g:MG}{g3:MG3}{B:MS}{B3:MS3}{c:MT}{c3:MT3}
def PoS.loop{X:Nat->Prop}{h0:Nat}{ns:Ns}{e:E3}{ae:AE}{h:AH}{r2:SR}{r3:SR3}{f2:AE->AH->SR}{f3:E3->SR3}(p:PoS X h0 ns e h r2 r3)
 (k:∀c_ h' ns' e',Stp ns e h ns' e' h'->Sat X h0 ns' e' c_ h'->PoS X h0 ns e h (f2 c_ h') (f3 e')):PoS X h0 ns e h (r2.loop f2) (r3.loop f3):=by
 cases r3 with
 |stuck=>trivial
 |nx e'=>obtain⟨c_,h',ns',q,q1,q2⟩:=p;rw[q];exact k c_ h' ns' e' q1 q2
 |ct e'=>obtain⟨c_,h',ns',q,q1,q2⟩:=p;rw[q];exact k c_ h' ns' e' q1 q2
 |bk e'=>obtain⟨c_,h',ns',q,q1,q2⟩:=p;rw[q];exact⟨c_,h',ns',rfl,q1,q2⟩
 |exc c e'=>obtain⟨c_,h',ns',q,q1,q2⟩:=p;rw[q];exact⟨c_,h',ns',rfl,q1,q2⟩
 |rt r e'=>obtain⟨d,c_,h',ns',q,q1,q2⟩:=p;rw[q];exact⟨d,c_,h',ns',rfl,q1,q2⟩
def Ec(S:Sat X h0 ns e ae h)(hk:∀j:Nat,k=some j->∃s,e[j]?=some s/\s.mt=true)(a:Stp ns (lockO e k) h ns' e' h'):Stay X ns k h h':=λm o q hm=>by
 refine a.keep m o q λ⟨i,s,z1,z2,z3⟩=>?_;rcases hm with hm |⟨j,rfl,hj⟩
 .exact hm.2 (aW.mpr ⟨i,z1⟩)
 .have:i=j:=S.inj i j m z1 hj;subst this;obtain⟨s',y1,y2⟩:=hk i rfl;have:(lockO e (some i))[i]?=some (jn s'):=nY y1;rw[this] at z2;cases z2;cases s' <;> first |cases y2;done |cases z3;done
def PoS.unl(hk:∀j:Nat,k=some j->∃s,e[j]?=some s/\s.mt=true)(p:PoS X h0 ns (lockO e k) h r2 r3):PoS X h0 ns e h r2 (r3.unl k):=by
 cases k with
 |none=>cases r3 <;> exact p
 |
  some j=>
  obtain⟨s,y1,y2⟩:=hk j rfl;cases r3 with
  |stuck=>trivial
  |nx e'=>obtain⟨c_,h',ns',q,q1,q2⟩:=p;exact⟨c_,h',ns',q,q1.unlock y1 y2,q2.unlock j⟩
  |ct e'=>obtain⟨c_,h',ns',q,q1,q2⟩:=p;exact⟨c_,h',ns',q,q1.unlock y1 y2,q2.unlock j⟩
  |bk e'=>obtain⟨c_,h',ns',q,q1,q2⟩:=p;exact⟨c_,h',ns',q,q1.unlock y1 y2,q2.unlock j⟩
  |exc c e'=>obtain⟨c_,h',ns',q,q1,q2⟩:=p;exact⟨c_,h',ns',q,q1.unlock y1 y2,q2.unlock j⟩
  |
   rt r e'=>
   obtain⟨d,c_,h',ns',q,q1,q2⟩:=p;refine⟨d,c_,h',ns',q,q1.unlock y1 y2,?_⟩;cases r with
   |val v=>exact⟨q2.1.unlock j,q2.2⟩
   |new v=>obtain⟨n,o,z1,z2,z3,z4,z5,z6,z7⟩:=q2;exact⟨n,o,z1,z2,z3,z4,z5,z6.unlock j,z7⟩
   |
    par i=>
    obtain⟨z1,z2,v,z3⟩:=q2;refine⟨z1.unlock j,z2,v,?_⟩;by_cases z:i=j
    .subst z;exact gX z3
    .exact (fP z).trans z3
   |pr v u=>obtain⟨d1,n,o,z1,z2,z3,z4,z5,z6,z7⟩:=q2;exact⟨d1,n,o,z1,z2,z3,z4,z5,z6.unlock j,z7⟩
def Sat.lockO(S:Sat X h0 ns e ae h)(k:Option Nat):Sat X h0 ns (lockO e k) ae h:=by
 cases k with
 |none=>exact S
 |some k=>exact S.lock k
def D7{X:Nat->Prop}{h0:Nat}{ns:Ns}{e:E3}{ae:AE}{h:AH}{G:AH->Prop}(S:Sat X h0 ns e ae h)(hg:RG g g3)(hB:RS B B3)(hG:∀ns' e' h',Stp ns e h ns' e' h'->G h'):
 ∀{ds:List D}{vs:List Val},Rds (Oc X ns) h ds vs->∀{ns1:Ns}{e1:E3}{ae1:AE}{h1:AH},Stp ns e h ns1 e1 h1->Sat X h0 ns1 e1 ae1 h1->PoS X h0 ns e h (jx G g B ds ae1 h1) (cT g3 B3 vs e1):=by
 intro ds;induction ds with
 |nil=>intro vs r ns1 e1 ae1 h1 a1 S1;cases r;unfold jx;rw[if_pos (hG _ _ _ a1)];exact .nx a1 S1
 |
  cons d0 ds ih=>
  intro vs r ns1 e1 ae1 h1 a1 S1;cases r with
  |
   cons r rr=>
   unfold jx cT;rw[if_pos (hG _ _ _ a1)];split
   .rename_i e2 q;obtain⟨ae2,j_,p2,S2,a2⟩:=hg _ _ _ _ _ _ _ _ _ S1 (r.mono (a1.mov S)) q;rw[p2];have a12:=a1.trans S a2;show PoS X h0 ns e h ((B ae2 h1).loop _) _;refine PoS.loop (ae:=ae) (PoS.after S a12 (hB X h0 j_ e2 ae2 h1 S2)) λae3 h3 ns3 e3 a3 S3=>ih rr a3 S3
   .trivial
def Jz(hI:RI I I3)(hg:RG g g3)(hB:RS B B3):RS (As I g B) (wFor I3 g3 B3):=λX h0 ns e ae h S=>PoS.toS (hI X h0 ns e ae h S) λit p h1 ns1 e1 a1 S1 r1=>by obtain⟨r2,gd,hk⟩:=r1;refine PoS.after S a1 (PoS.unl hk ?_);have S2:=S1.lockO p.2;exact D7 S2 hg hB (λns' e' h' a=>gd h' (Ec S1 hk a)) r2 .refl S2
noncomputable def whV(c:MT3)(B:MS3):Nat->MS3
 |0,_=>.stuck
 |k+1,e=>(c e).toS λb e1=>if b=true then (B e1).loop (whV c B k) else .nx e1
open Classical in
def wWh(c:MT3)(B:MS3):MS3:=λe=>if q:∃k,whV c B k e ≠ .stuck then whV c B q.choose e else .stuck
theorem lN{c:MT3}{B:MS3}:∀{k:Nat}{e:E3},whV c B k e ≠ .stuck->whV c B (k+1) e=whV c B k e
 |0,_,q=>absurd rfl q
 |
  k+1,e,q=>by
  have e1:whV c B (k+2) e=(c e).toS λb e1=>if b=true then (B e1).loop (whV c B (k+1)) else .nx e1:=rfl
  have e2:whV c B (k+1) e=(c e).toS λb e1=>if b=true then (B e1).loop (whV c B k) else .nx e1:=rfl
  rw[e2] at q;rw[e1,e2];cases r:c e with
  |exc _ _=>rfl
  |stuck=>rfl
  |
   ok b h1=>
   rw[r] at q;cases b with
   |false=>rfl
   |
    true=>
    have q':(B h1).loop (whV c B k) ≠ .stuck:=q;show (B h1).loop (whV c B (k+1))=(B h1).loop (whV c B k);cases s:B h1 with
    |nx a2=>rw[s] at q';exact lN q'
    |ct a2=>rw[s] at q';exact lN q'
    |_=>rfl
def zH{c:MT3}{B:MS3}{k j:Nat}{e:E3}(q:whV c B k e ≠ .stuck)(hj:k<=j):whV c B j e=whV c B k e:=by
 induction hj with
 |refl=>rfl
 |step _ ih=>rw[lN (by rw[ih];exact q),ih]
def lW{c:MT3}{B:MS3}{k:Nat}{e:E3}(q:whV c B k e ≠ .stuck):wWh c B e=whV c B k e:=by
 have hq:∃k,whV c B k e ≠ .stuck:=⟨k,q⟩;unfold wWh;rw[dif_pos hq];rcases Nat.le_total hq.choose k with z |z
 .exact (zH hq.choose_spec z).symm
 .exact zH q z
def Ak(c:MT3)(B:MS3)(e:E3):wWh c B e=(c e).toS λb e1=>if b=true then (B e1).loop (wWh c B) else .nx e1:=by
 by_cases q:∃k,whV c B k e ≠ .stuck
 .obtain⟨k,q⟩:=q;rw[lW q];cases k with
  |zero=>exact absurd rfl q
  |
   succ k=>
   have e2:whV c B (k+1) e=(c e).toS λb e1=>if b=true then (B e1).loop (whV c B k) else .nx e1:=rfl
   rw[e2] at q ⊢;cases r:c e with
   |exc _ _=>rfl
   |stuck=>rfl
   |
    ok b h1=>
    rw[r] at q;cases b with
    |false=>rfl
    |
     true=>
     have q':(B h1).loop (whV c B k) ≠ .stuck:=q;show (B h1).loop (whV c B k)=(B h1).loop (wWh c B);cases s:B h1 with
     |nx a2=>rw[s] at q';exact (lW q').symm
     |ct a2=>rw[s] at q';exact (lW q').symm
     |_=>rfl
 .have e0:wWh c B e=.stuck:=by unfold wWh;rw[dif_neg q]
  rw[e0];have hs:∀k,whV c B (k+1) e=.stuck:=λk=>Pp λz=>q ⟨_,z⟩;cases r:c e with
  |stuck=>rfl
  |
   exc c' h'=>
   have:=hs 0
   unfold whV at this;rw[r] at this;cases this
  |
   ok b h1=>
   cases b with
   |
    false=>
    have:=hs 0
    unfold whV at this;rw[r] at this;cases this
   |
    true=>
    have h2:∀k,(B h1).loop (whV c B k)=.stuck:=λk=>by
     have:=hs k
     unfold whV at this;rw[r] at this;exact this
    show SR3.stuck=(B h1).loop (wWh c B);have lim:∀a2,(∀k,whV c B k a2=.stuck)->wWh c B a2=.stuck:=λa2 z=>by unfold wWh;rw[dif_neg (λ⟨k,y⟩=>y (z k))]
    cases s:B h1 with
    |nx a2=>rw[s] at h2;exact (lim a2 h2).symm
    |ct a2=>rw[s] at h2;exact (lim a2 h2).symm
    |stuck=>rfl
    |_=>have:=h2 0;rw[s] at this;cases this
def G9(p:PoS X h0 ns e h r2 r3)(q:r3 ≠ .stuck):r2 ≠ .stuck:=by
 cases r3 with
 |stuck=>exact absurd rfl q
 |nx e'=>obtain⟨c_,h',ns',z,_⟩:=p;rw[z];intro y;cases y
 |ct e'=>obtain⟨c_,h',ns',z,_⟩:=p;rw[z];intro y;cases y
 |bk e'=>obtain⟨c_,h',ns',z,_⟩:=p;rw[z];intro y;cases y
 |exc c e'=>obtain⟨c_,h',ns',z,_⟩:=p;rw[z];intro y;cases y
 |rt r e'=>obtain⟨d,c_,h',ns',z,_⟩:=p;rw[z];intro y;cases y
theorem za(hc:RT c c3)(hB:RS B B3):∀(k:Nat) (X:Nat->Prop) (h0:Nat) (ns:Ns) (e:E3) (ae:AE) (h:AH),Sat X h0 ns e ae h->PoS X h0 ns e h (whN c B k ae h) (whV c3 B3 k e)
 |0,_,_,_,_,_,_,_=>trivial
 |
  k+1,X,h0,ns,e,ae,h,S=>by
  refine PoS.toS (hc X h0 ns e ae h S) λb b' h1 ns1 e1 a1 S1 r1=>?_;cases r1;try dsimp only
  split
  .exact PoS.after S a1 (PoS.loop (ae:=ae) (hB X h0 ns1 e1 ae h1 S1) λae2 h2 j_ e2 a2 S2=>PoS.after S1 a2 (za hc hB k X h0 j_ e2 ae2 h2 S2))
  .exact .nx a1 S1
def MB(hc:RT c c3)(hB:RS B B3):RS (sWh c B) (wWh c3 B3):=λX h0 ns e ae h S=>by
 by_cases q:∃k,whV c3 B3 k e ≠ .stuck
 .obtain⟨k,q⟩:=q;rw[lW q];have p:=za hc hB k X h0 ns e ae h S;rw[zj (G9 p q)];exact p
 .unfold wWh;rw[dif_neg q];trivial
end
noncomputable def fo(o:Option Nat)(s:Sl)(e:E3):E3:=match o,s with
 |some i,.mu v=>(match e[i]? with
  |some t=>e.set i (t.re v)
  |none=>e)
 |_,_=>e
noncomputable def aY:List (Option Nat)->E3->E3->E3
 |o::sub,s::inner,e=>aY sub inner (fo o s e)
 |_,_,e=>e
def ui(hn:∀v,o=some i->s=.mu v->False):(fo o s e)[i]?=e[i]?:=by
 unfold fo;split
 .rename_i i' v;split
  .rename_i t q;by_cases z:i=i'
   .subst z;exact (hn v rfl rfl).elim
   .rw[bp z]
  .rfl
 .rfl
theorem ny:∀{sub:Qk}{e2 e:E3}{i:Nat},(∀(j:Nat) v,sub[j]?=some (some i)->e2[j]?=some (.mu v)->False)->(aY sub e2 e)[i]?=e[i]?
 | [],_,_,_,_=>rfl
 |_::_,[],_,_,_=>rfl
 |
  o::sub,s::e2,e,i,hn=>by
  show (aY sub e2 (fo o s e))[i]?=_;rw[ny (λj v q1 q2=>hn (j+1) v (by simpa using q1) (by simpa using q2))];exact ui λv z1 z2=>hn 0 v (by rw[z1];rfl) (by rw[z2];rfl)
theorem uE:∀{sub:Qk}{e2 e:E3}{i j:Nat}{v:Val},(∀(j k:Nat) i,sub[j]?=some (some i)->sub[k]?=some (some i)->j=k)->sub[j]?=some (some i)->e2[j]?=some (.mu v)->(aY sub e2 e)[i]?=(e[i]?).map (Sl.re · v)
 | [],_,_,_,j,_,_,q,_=>by simp at q
 |_::_,[],_,_,j,_,_,_,q=>by simp at q
 |
  o::sub,s::e2,e,i,0,v,hj,q1,q2=>by
  have z1:o=some i:=by simpa using q1
  have z2:s=.mu v:=by simpa using q2
  subst z1 z2;show (aY sub e2 (fo (some i) (.mu v) e))[i]?=_;rw[ny (λk u y1 _=>by have:=hj 0 (k+1) i rfl (by simpa using y1);omega)];unfold fo;dsimp only;split
  .rename_i t q;rw[bH (x_.mp q).1,q];rfl
  .rename_i q;rw[q];rfl
 |
  o::sub,s::e2,e,i,j+1,v,hj,q1,q2=>by
  show (aY sub e2 (fo o s e))[i]?=_;have q1':sub[j]?=some (some i):=by simpa using q1
  rw[uE (λa b c y1 y2=>by have:=hj (a+1) (b+1) c (by simpa using y1) (by simpa using y2);omega) q1' (by simpa using q2)];rw[ui λv z1 _=>by have:=hj 0 (j+1) i (by rw[z1];rfl) q1;omega]
noncomputable def bw(sub:Qk)(ns:Ns):Ns:=sub.map λo=>o.bind λi=>(ns[i]?).bind id
def b8{sub:Qk}{ns:Ns}{j n:Nat}(q:(bw sub ns)[j]?=some (some n)):∃i,sub[j]?=some (some i)/\ns[i]?=some (some n):=by
 unfold bw at q;rw[N4] at q;cases z:sub[j]? with
 |none=>rw[z] at q;cases q
 |
  some o=>
  rw[z] at q;cases o with
  |none=>cases q
  |
   some i=>
   refine⟨i,rfl,?_⟩;have q':(ns[i]?).bind id=some n:=NV q;cases y:ns[i]? with
   |none=>rw[y] at q';cases q'
   |some w=>rw[y] at q';have:w=some n:=q';rw[this]
def FW{sub:Qk}{ns:Ns}{j i:Nat}{w:Option Nat}(q:sub[j]?=some (some i))(q2:ns[i]?=some w):(bw sub ns)[j]?=some w:=by unfold bw;rw[N4,q];show some ((ns[i]?).bind id)=some w;rw[q2];rfl
structure Lnk(sub:Qk)(e ei:E3):Prop where
 inj:∀(j k:Nat) (i:Nat),sub[j]?=some (some i)->sub[k]?=some (some i)->j=k
 mu:∀(j:Nat) (v:Val),ei[j]?=some (.mu v)->∃(i:Nat) (s:Sl),sub[j]?=some (some i)/\e[i]?=some s/\s.mt=true
 mt:∀(j:Nat) (s:Sl),ei[j]?=some s->s.mt=true->∃v,s=.mu v
def Sat.back(S:Sat X h0 ns e ae h)(K:Lnk sub e ei)(a:Stp (bw sub ns) ei h j_ e2 h2)
 (hY:∀n,Y n->n<h2.length/\(X n\/h.length<=n)) (hXY:∀n,X n->Y n)
 (hc:∀(j:Nat) v n,e2[j]?=some (.mu v)->j_[j]?=some (some n)->∃o,h2[n]?=some o/\bK o/\Rc (Oc Y ns) h2 o v):Sat Y h0 ns (aY sub e2 e) ae h2/\Stp ns e h ns (aY sub e2 e) h2:=by
 have hM:∀n,Mt (bw sub ns) ei n->Mt ns e n:=λn ⟨j,s,z1,z2,z3⟩=>by obtain⟨v,rfl⟩:=K.mt j s z2 z3;obtain⟨i,s',y1,y2,y3⟩:=K.mu j v z2;obtain⟨i',y4,y5⟩:=b8 z1;rw[y1] at y4;cases y4;exact⟨i,s',y5,y2,y3⟩
 have mv:Mov (Oc X ns) (Oc Y ns) h h2:=λn o p q=>⟨⟨λz=>by
  rcases (hY n z).2 with z |z
  .exact p.1 z
  .have:=cp q;omega,p.2⟩,a.keep n o q λz=>by obtain⟨j,s,z1,_⟩:=z;obtain⟨i,_,y⟩:=b8 z1;exact p.2 (aW.mpr ⟨i,y⟩)⟩
 have key:∀i:Nat,(∃(j:Nat) (v:Val) (s:Sl),sub[j]?=some (some i)/\e2[j]?=some (.mu v)/\e[i]?=some s/\s.mt=true/\(aY sub e2 e)[i]?=some (s.re v)/\j_[j]?=ns[i]?)\/((∀n,ns[i]?=some (some n)->¬ Mt (bw sub ns) ei n)/\(aY sub e2 e)[i]?=e[i]?):=λi=>by
  by_cases hx:∃(j:Nat) (v:Val),sub[j]?=some (some i)/\e2[j]?=some (.mu v)
  .obtain⟨j,v,q1,q2⟩:=hx;obtain⟨u,q3,q4⟩:=a.mu j v q2;obtain⟨i',s,y1,y2,y3⟩:=K.mu j u q3;rw[q1] at y1;cases y1;refine .inl ⟨j,v,s,q1,q2,y2,y3,by rw[uE K.inj q1 q2,y2];rfl,?_⟩;rw[q4];have hl:i<ns.length:=by rw[S.l2];exact (x_.mp y2).1
   rw[M_ hl];exact FW q1 (M_ hl)
  .refine .inr ⟨λn q ⟨j,s,z1,z2,z3⟩=>hx ?_,ny λj v y1 y2=>hx ⟨j,v,y1,y2⟩⟩;obtain⟨v,rfl⟩:=K.mt j s z2 z3;obtain⟨i',y4,y5⟩:=b8 z1;have:i'=i:=S.inj i' i n y5 q;subst this;obtain⟨v',y6,_⟩:=a.mu' j v z2;exact⟨j,v',y4,y6⟩
 have lenB:(aY sub e2 e).length=e.length:=by
  clear key hc a K S hY hXY hM mv;induction sub generalizing e2 e with
  |nil=>rfl
  |
   cons o sub ih=>
   cases e2 with
   |nil=>rfl
   |
    cons s e2=>
    show (aY sub e2 (fo o s e)).length=_;rw[ih];unfold fo;split
    .split
     .rw[NU]
     .rfl
    .rfl
 refine⟨⟨by rw[lenB];exact S.l1,by rw[lenB];exact S.l2,J_ S.lh a.len,λn z=>(hY n z).1,S.inj,λi n q z=>?_,λi s q=>?_⟩,⟨a.len,λm o q hm=>a.keep m o q λz=>hm (hM m z),λ_ _ q=>.inl q,λi s q hl=>?_,λi s q hl=>?_,λi v q=>?_,λi v q=>?_⟩⟩
 .rcases (hY n z).2 with z |z
  .exact S.nx i n q z
  .obtain⟨_,_,_,_,_,_,_,q',_⟩:=S.own q
   have:=cp q';omega
 .rcases key i with ⟨j,v,s0,k1,k2,k3,k4,k5,k6⟩ |⟨k1,k2⟩
  .rw[k5] at q;cases q;have y:=S.sl i s0 k3;cases s0 with
   |ow u=>obtain⟨n,o,y1,y2,y3,_⟩:=y;obtain⟨o',z1,z2,z3⟩:=hc j v n k2 (by rw[k6];exact y1);exact⟨n,o',y1,y2,y3,z1,z2,z3⟩
   |mu u=>obtain⟨n,o,y1,y2,_⟩:=y;obtain⟨o',z1,z2,z3⟩:=hc j v n k2 (by rw[k6];exact y1);exact⟨n,o',y1,y2,z1,z2,z3⟩
   |_=>cases k4
  .rw[k2] at q;exact (S.sl i s q).mono mv λn o q1 q2=>a.keep n o q2 (k1 n q1)
 .rcases key i with ⟨j,v,s0,k1,k2,k3,k4,k5,k6⟩ |⟨k1,k2⟩
  .rw[k3] at q;cases q;cases s <;> first |cases hl;done |cases k4;done
  .rw[k2];exact⟨q,rfl⟩
 .rcases key i with ⟨j,v,s0,k1,k2,k3,k4,k5,k6⟩ |⟨k1,k2⟩
  .rw[k5] at q;cases q;cases s0 <;> first |cases hl;done |cases k4;done
  .rw[k2] at q;exact⟨q,rfl⟩
 .rcases key i with ⟨j,u,s0,k1,k2,k3,k4,k5,k6⟩ |⟨k1,k2⟩
  .rw[k5] at q;cases s0 with
   |mu w=>exact⟨w,k3,rfl⟩
   |ow w=>cases q
   |_=>cases k4
  .rw[k2] at q;exact⟨v,q,rfl⟩
 .rcases key i with ⟨j,u,s0,k1,k2,k3,k4,k5,k6⟩ |⟨k1,k2⟩
  .rw[k3] at q;cases q;exact⟨u,k5,rfl⟩
  .exact⟨v,by rw[k2];exact q,rfl⟩
noncomputable def inS:Sl->Sl
 |.ow v=>.mu v
 |.lo v=>.lm v
 |s=>s
noncomputable def bQ(sub:Qk)(e:E3):E3:=sub.map λo=>match o with
 |none=>.no
 |some i=>match e[i]? with
  |some s=>inS s
  |none=>.no
noncomputable def lcV(g:MG3)(c:MT3)(F:ME3):List Val->List Val->E3->R3 (List Val)
 | [],acc,e=>.ok acc e
 |v::vs,acc,e=>if acc.length<16777216 then (match g v e with
  |none=>.stuck
  |some e1=>(c e1).bind λb e2=>if b=true then (F e2).bind λt e3=>(match bP e3 t with
   |some (e4,y)=>lcV g c F vs (acc++[y]) e4
   |none=>.stuck) else lcV g c F vs acc e2) else .stuck
noncomputable def vLC(I:MI3)(sub:Qk)(g:MG3)(c:MT3)(F:ME3):ME3:=λe=>(I e).bind λp e1=>match lcV g c F p.1 [] (bQ sub (lockO e1 p.2)) with
 |.ok ys e2=>if ys.length<=16777216 then .ok (.new (.lst ys)) (eL (aY sub e2 (lockO e1 p.2)) p.2) else .stuck
 |_=>.stuck
def mK(sub:Qk):Prop:=∀(j k:Nat) (i:Nat),sub[j]?=some (some i)->sub[k]?=some (some i)->j=k
def yc(h:(sub.filterMap id).Nodup):mK sub:=by
 induction sub with
 |nil=>intro j k i q;simp at q
 |
  cons o sub ih=>
  have f_:(sub.filterMap id).Nodup:=by
   cases o with
   |none=>simpa using h
   |some i=>rw[OP] at h;simp at h;exact h.2
  have hno:∀(i k:Nat),o=some i->sub[k]?=some (some i)->False:=λi k z q=>by subst z;rw[OP] at h;simp at h;exact h.1 (O3 q)
  intro j k i q1 q2;cases j with
  |
   zero=>
   cases k with
   |zero=>rfl
   |succ k=>exact (hno i k (by simpa using q1) (by simpa using q2)).elim
  |
   succ j=>
   cases k with
   |zero=>exact (hno i j (by simpa using q2) (by simpa using q1)).elim
   |succ k=>exact Og (· + 1) (ih f_ j k i (by simpa using q1) (by simpa using q2))
def Xin(X:Nat->Prop)(ns:Ns)(sub:Qk)(n:Nat):Prop:=X n\/(some n∈ns/\some n∉bw sub ns)
def lM(q:some n∈bw sub ns):some n∈ns:=by obtain⟨j,q⟩:=aW.mp q;obtain⟨i,_,q2⟩:=b8 q;exact aW.mpr ⟨i,q2⟩
def jw{sub:Qk}{e:E3}{j:Nat}{s:Sl}(q:(bQ sub e)[j]?=some s):(sub[j]?=some none/\s=.no)\/(∃i,sub[j]?=some (some i)/\((e[i]?=none/\s=.no)\/∃t,e[i]?=some t/\s=inS t)):=by
 unfold bQ at q;rw[N4] at q;cases z:sub[j]? with
 |none=>rw[z] at q;cases q
 |
  some o=>
  rw[z] at q;cases o with
  |none=>cases q;exact .inl ⟨rfl,rfl⟩
  |
   some i=>
   refine .inr ⟨i,rfl,?_⟩;have q':=NV q;dsimp only at q';cases y:e[i]? with
   |none=>rw[y] at q';exact .inl ⟨rfl,q'.symm⟩
   |some t=>rw[y] at q';exact .inr ⟨t,rfl,q'.symm⟩
def Sat.inner(S:Sat X h0 ns e ae h)(hs:mK sub):Sat (Xin X ns sub) h0 (bw sub ns) (bQ sub e) (jv sub ae) h:=by
 refine⟨by unfold jv bQ;rw[w_,w_],by unfold bw bQ;rw[w_,w_],S.lh,λn z=>?_,λj k n q1 q2=>?_,λj n q z=>?_,λj s q=>?_⟩
 .rcases z with z |⟨z,_⟩
  .exact S.xl n z
  .obtain⟨i,z⟩:=aW.mp z;obtain⟨_,_,_,_,_,_,_,q',_⟩:=S.own z;exact cp q'
 .obtain⟨i,y1,y2⟩:=b8 q1;obtain⟨i',y3,y4⟩:=b8 q2
  have:=S.inj i i' n y2 y4
  subst this;exact hs j k i y1 y3
 .rcases z with z |⟨_,z⟩
  .obtain⟨i,y1,y2⟩:=b8 q;exact S.nx i n y2 z
  .exact z (aW.mpr ⟨j,q⟩)
 .have mv:Mov (Oc X ns) (Oc (Xin X ns sub) (bw sub ns)) h h:=λn o p q=>⟨⟨λz=>by
   rcases z with z |⟨z,_⟩
   .exact p.1 z
   .exact p.2 z,λz=>p.2 (lM z)⟩,q⟩
  have hj:∀{o},sub[j]?=some o->(bw sub ns)[j]?=some (o.bind λi=>(ns[i]?).bind id)/\(jv sub ae)[j]?=some (o.bind λi=>(ae[i]?).bind id):=λ{o} z=>by unfold bw jv;rw[N4,N4,z];exact⟨rfl,rfl⟩
  rcases jw q with ⟨z,rfl⟩ |⟨i,z,⟨y,rfl⟩ |⟨t,y,rfl⟩⟩
  .rw[(hj z).1];rfl
  .rw[(hj z).1];show some ((ns[i]?).bind id)=some none;have:ns[i]?=none:=by rw[OH] at y ⊢;rw[S.l2];exact y
   rw[this];rfl
  .have k:=(S.sl i t y).mono mv λ_ _ _ q=>q;rw[(hj z).1,(hj z).2];show SlR _ h0 (some ((ns[i]?).bind id)) (some ((ae[i]?).bind id)) h (inS t);have w1:∀x,ns[i]?=some x->some ((ns[i]?).bind id)=some x:=λx q=>by rw[q];rfl
   have w2:∀x,ae[i]?=some x->some ((ae[i]?).bind id)=some x:=λx q=>by rw[q];rfl
   cases t with
   |no=>rw[w1 _ k];rfl
   |sh v=>obtain⟨k1,x,k2,k3⟩:=k;rw[w1 _ k1,w2 _ k2];exact⟨rfl,x,rfl,k3⟩
   |ow v=>obtain⟨m,o,k1,k2,_,k3⟩:=k;rw[w1 _ k1,w2 _ k2];exact⟨m,o,rfl,rfl,k3⟩
   |lo v=>obtain⟨m,o,k1,k2,_,k3⟩:=k;rw[w1 _ k1,w2 _ k2];exact⟨m,o,rfl,rfl,k3⟩
   |mu v=>obtain⟨m,o,k1,k2,k3⟩:=k;rw[w1 _ k1,w2 _ k2];exact⟨m,o,rfl,rfl,k3⟩
   |lm v=>obtain⟨m,o,k1,k2,k3⟩:=k;rw[w1 _ k1,w2 _ k2];exact⟨m,o,rfl,rfl,k3⟩
def uD(hs:mK sub):Lnk sub e (bQ sub e):=by
 refine⟨hs,λj v q=>?_,λj s q hm=>?_⟩
 .rcases jw q with ⟨_,z⟩ |⟨i,z,⟨_,y⟩ |⟨t,y,y2⟩⟩
  .cases z
  .cases y
  .refine⟨i,t,z,y,?_⟩;cases t <;> first |rfl |cases y2
 .rcases jw q with ⟨_,z⟩ |⟨i,z,⟨_,y⟩ |⟨t,y,y2⟩⟩
  .subst z;cases hm
  .subst y;cases hm
  .subst y2;cases t with
   |ow v=>exact⟨v,rfl⟩
   |mu v=>exact⟨v,rfl⟩
   |_=>cases hm
section
variable{I:MI}{I3:MI3}{g:MG}{g3:MG3}{c:MT}{c3:MT3}{F:ME}{F3:ME3}
def Gf(S:Sat X h0 ns e ae h)(hg:RG g g3)(hc:RT c c3)(hF:RE F F3)(hG:∀ns' e' h',Stp ns e h ns' e' h'->G h'):
 ∀
  {ds:List D}{vs:List Val},Rds (Oc X ns) h ds vs->∀{acc:List D}{accv:List Val}{ns1:Ns}{e1:E3}{ae1:AE}{h1:AH},Stp ns e h ns1 e1 h1->Sat X h0 ns1 e1 ae1 h1->Rds (Oc X ns1) h1 acc accv->lcV g3 c3 F3 vs accv e1=.ok ys e2->
  ∃dy h2 j_ ae2,lcL G g c F ds acc ae1 h1=.ok dy h2/\Stp ns e h j_ e2 h2/\Sat X h0 j_ e2 ae2 h2/\Rds (Oc X j_) h2 dy ys:=by
 intro ds;induction ds with
 |nil=>intro vs r acc accv ns1 e1 ae1 h1 a1 S1 ra q;cases r;unfold lcL;rw[if_pos (hG _ _ _ a1)];cases q;exact⟨acc,h1,ns1,ae1,rfl,a1,S1,ra⟩
 |
  cons d0 ds ih=>
  intro vs r acc accv ns1 e1 ae1 h1 a1 S1 ra q;cases r with
  |
   cons r rr=>
   rename_i v vs;unfold lcV at q;unfold lcL;by_cases hl:accv.length<16777216
   .rw[if_pos hl] at q;rw[if_pos ⟨hG _ _ _ a1,by rw[ra.len];exact hl⟩];cases q1:g3 v e1 with
    |none=>rw[q1] at q;cases q
    |
     some e3=>
     rw[q1] at q;dsimp only at q;obtain⟨ae3,ns3,p3,S3,a3⟩:=hg _ _ _ _ _ _ _ _ _ S1 (r.mono (a1.mov S)) q1;rw[p3,gk];have a13:=a1.trans S a3;have pc:=hc X h0 ns3 e3 ae3 h1 S3;cases q4:c3 e3 with
     |stuck=>rw[q4] at q;cases q
     |exc _ _=>rw[q4] at q;cases q
     |
      ok b e4=>
      rw[q4] at q pc;obtain⟨b',h4,ns4,p4,a4,S4,rfl⟩:=pc;rw[p4,gk];have a14:=a13.trans S a4;have ra4:=(ra.mono (a3.mov S1)).mono (a4.mov S3);have q':(if b'=true then (F3 e4).bind λt e3=>(match bP e3 t with
       |some (e4,y)=>lcV g3 c3 F3 _ (accv++[y]) e4
       |none=>.stuck) else lcV g3 c3 F3 _ accv e4)=.ok ys e2:=q
      by_cases hb:b'=true
      .rw[if_pos hb] at q' ⊢;have pF:=hF X h0 0 ns4 e4 ae3 h4 S4 (Oa _);cases q5:F3 e4 with
       |stuck=>rw[q5] at q';cases q'
       |exc _ _=>rw[q5] at q';cases q'
       |
        ok t e5=>
        rw[q5] at q' pF;obtain⟨d5,h5,ns5,p5,a5,S5,r5⟩:=pF;rw[p5,gk];have q'':(match bP e5 t with
         |some (e4,y)=>lcV g3 c3 F3 _ (accv++[y]) e4
         |none=>.stuck)=.ok ys e2:=q'
        cases q6:bP e5 t with
        |none=>rw[q6] at q'';cases q''
        |some w=>obtain⟨e6,y⟩:=w;rw[q6] at q'';obtain⟨ns6,S6,a6,r6⟩:=fq S5 r5 q6;exact ih rr ((a14.trans S a5).trans S a6) S6 (((ra4.mono (a5.mov S4)).mono (a6.mov S5)).append (.cons r6 .nil)) q''
      .rw[if_neg hb] at q' ⊢;exact ih rr a14 S4 ra4 q'
   .rw[if_neg hl] at q;cases q
def Lm(hs:(sub.filterMap id).Nodup)(hI:RI I I3)(hg:RG g g3)(hc:RT c c3)(hF:RE F F3):RE (eLC I sub g c F) (vLC I3 sub g3 c3 F3):=λX h0 L ns e ae h S hl=>
 Po.bind
  S (hI X h0 ns e ae h S) λit p h1 ns1 e1 a1 S1 r1=>by
  try dsimp only
  obtain⟨r2,gd,hk⟩:=r1;have hs':=yc hs;have S2:=S1.lockO p.2;have S3:=S2.inner hs';cases q:lcV g3 c3 F3 p.1 [] (bQ sub (lockO e1 p.2)) with
  |stuck=>trivial
  |exc _ _=>trivial
  |
   ok ys e2=>
   dsimp only;split
   .rename_i hy;have gd':∀ns' e' h',Stp (bw sub ns1) (bQ sub (lockO e1 p.2)) h1 ns' e' h'->it.guard h':=λns' e' h' a=>gd h' λm o qm hm=>a.keep m o qm λ⟨j,s,z1,z2,z3⟩=>by
     obtain⟨i,y1,y2⟩:=b8 z1;rcases hm with hm |⟨k,hk1,hk2⟩
     .exact hm.2 (aW.mpr ⟨i,y2⟩)
     .have:i=k:=S1.inj i k m y2 hk2;subst this;obtain⟨s',w1,w2⟩:=hk i hk1;rcases jw z2 with ⟨z,_⟩ |⟨i',z,y⟩
      .rw[y1] at z;cases z
      .rw[y1] at z;cases z;have hl:(lockO e1 p.2)[i]?=some (jn s'):=by rw[hk1];exact nY w1
       rcases y with ⟨y,_⟩ |⟨t,y,rfl⟩
       .rw[hl] at y;cases y
       .rw[hl] at y;cases y;cases s' <;> first |cases w2;done |cases z3;done
    have mvi:Mov (Oc X ns1) (Oc (Xin X ns1 sub) (bw sub ns1)) h1 h1:=λn o p q=>⟨⟨λz=>by
     rcases z with z |⟨z,_⟩
     .exact p.1 z
     .exact p.2 z,λz=>p.2 (lM z)⟩,q⟩
    obtain⟨dy,h2,j_,ae2,p2,a2,S4,r4⟩:=Gf (G:=it.guard) S3 hg hc hF gd' (r2.mono mvi) .refl S3 .nil q;have k3:∀n,Oc (Xin X ns1 sub) j_ n->Oc X ns1 n:=λn z=>⟨λy=>z.1 (.inl y),λy=>by
     by_cases w:some n∈bw sub ns1
     .obtain⟨j,w⟩:=aW.mp w;obtain⟨s,v,o,b1,b2,_⟩:=S3.own w;rcases b2 with b2 |b2
      .obtain⟨v',rfl⟩:=(uD (e:=lockO e1 p.2) hs').mt j s b1 b2;obtain⟨u,c1,c2⟩:=a2.mu' j v' b1;exact z.2 (aW.mpr ⟨j,by rw[c2];exact w⟩)
      .obtain⟨c1,c2⟩:=a2.lk j s b1 b2;exact z.2 (aW.mpr ⟨j,by rw[c2];exact w⟩)
     .exact z.1 (.inr ⟨y,w⟩)⟩
    have bk:=S2.back (Y:=X) (uD hs') a2 (λn z=>⟨K_ (S2.xl n z) a2.len,.inl z⟩) (λ_ z=>z) λj v n q1 q2=>by obtain⟨s,u,o,b1,b2,b3,b4,b5,b6,b7⟩:=S4.own q2;rw[q1] at b1;cases b1;cases b3;exact⟨o,b5,b6,b7.mono λm o' z y=>⟨k3 m z,y⟩⟩
    obtain⟨S5,a5⟩:=bk;have r5:Rds (Oc X ns1) h2 dy ys:=r4.mono λm o' z y=>⟨k3 m z,y⟩;have l_:∀(e':E3),Sat X h0 ns1 e' ae h2->Stp ns1 e1 h1 ns1 e' h2->Po X h0 ns1 e1 ae h1 (relE X h0 L ae) ((noX (lcL it.guard g c F it.items [] (jv sub ae) h1)).bind cQ) (.ok (.new (.lst ys)) e'):=λe' S6 a6=>by rw[p2];have pp:=BvR.po (L:=L) (r:=cQ dy h2) (b:=.new (.lst ys)) S6 (J_ hl (J_ a1.len a6.len)) ⟨.lst dy,by unfold cQ;rw[if_pos (by rw[r5.len];exact hy)],trivial,.lst r5⟩;obtain⟨d,h',ns',y,y1,y2,y3⟩:=pp;exact⟨d,h',ns',y,a6.trans S1 y1,y2,y3⟩
    cases hp:p.2 with
    |none=>rw[hp] at S5 a5;exact l_ _ S5 a5
    |some k=>rw[hp] at S5 a5;obtain⟨s,w1,w2⟩:=hk k hp;exact l_ _ (S5.unlock k) (a5.unlock w1 w2)
   .trivial
end
inductive R3F where
 |ok (r:Rt) (mv:List Val) |exc (c:Str) (mv:List Val) |stuck
abbrev Fn3:=List Val->R3F
noncomputable def sl1(b:Bool)(v:Val):Sl:=if b=true then .mu v else .sh v
noncomputable def sls(ms:List Bool)(vs:List Val):E3:=List.zipWith sl1 ms vs
noncomputable def aJ:List Bool->List Val->E3
 |true::ms,v::vs=>.mu v::aJ ms vs
 |true::ms,[]=>.no::aJ ms []
 |false::ms,vs=>.no::aJ ms vs
 | [],_=>[]
noncomputable def muV:List Bool->E3->Option (List Val)
 |true::ms,.mu v::e=>(muV ms e).map (v :: ·)
 |true::_,_=>none
 |false::ms,_::e=>muV ms e
 |false::_,[]=>none
 | [],_=>some []
def RFp(X:Nat->Prop)(ps:Ns)(ms:List Bool)(vs:List Val)(ds:List D)(h:AH)(r2:R D):R3F->Prop
 |.stuck=>True
 |.ok r mv=>∃d h',r2=.ok d h'/\Stp ps (sls ms vs) h ps (aJ ms mv) h'/\RtR X h.length ps (aJ ms mv) (ds.map some) h' d r
 |.exc c mv=>∃h',r2=.exc c h'/\Stp ps (sls ms vs) h ps (aJ ms mv) h'/\Sat X h.length ps (aJ ms mv) (ds.map some) h'
def RF(ms:List Bool)(G2:Fn)(G3:Fn3):Prop:=∀X ps ds vs h,vs.length=ms.length->Sat X h.length ps (sls ms vs) (ds.map some) h->RFp X ps ms vs ds h (G2 ds h) (G3 vs)
noncomputable def fnV(ms:List Bool)(N:Nat)(F:MS3):Fn3:=λvs=>if vs.length=ms.length then (match F (sls ms vs++List.replicate (N-vs.length) .no) with
 |.nx e=>(match muV ms e with |some mv=>.ok (.val .non) mv |none=>.stuck)
 |.rt r e=>(match muV ms e with |some mv=>.ok r mv |none=>.stuck)
 |.exc c e=>(match muV ms e with |some mv=>.exc c mv |none=>.stuck)
 |_=>.stuck) else .stuck
def eI{ms:List Bool}{vs:List Val}{i:Nat}{s:Sl}(q:(sls ms vs)[i]?=some s):∃b v,ms[i]?=some b/\vs[i]?=some v/\s=sl1 b v:=by
 unfold sls at q;rw[OX] at q;cases h1:ms[i]? with
 |none=>rw[h1] at q;cases q
 |
  some b=>
  cases h2:vs[i]? with
  |none=>rw[h1,h2] at q;cases q
  |some v=>rw[h1,h2] at q;cases q;exact⟨b,v,rfl,rfl,rfl⟩
theorem gE:∀{ms:List Bool}{e:E3}{mv:List Val}{i:Nat}{s:Sl},muV ms e=some mv->(aJ ms mv)[i]?=some s->(ms[i]?=some false/\s=.no)\/(ms[i]?=some true/\∃v,e[i]?=some (.mu v)/\s=.mu v)
 | [],_,_,_,_,_,q=>by unfold aJ at q;simp at q
 |
  true::ms,.mu v::e,mv,i,s,q,q2=>by
  obtain⟨mv',z1,z2⟩:=N0.mp (show (muV ms e).map (v :: ·)=some mv from q);subst z2;cases i with
  |zero=>
   right;have:Sl.mu v=s:=by simpa [aJ] using q2
   subst this;exact⟨rfl,v,rfl,rfl⟩
  |
   succ i=>
   have:=gE (i:=i) (s:=s) z1 (by simpa [aJ] using q2)
   simpa using this
 |true::ms,[],mv,i,s,q,q2=>by cases q
 |true::ms,.no::e,mv,i,s,q,q2=>by cases q
 |true::ms,.sh v::e,mv,i,s,q,q2=>by cases q
 |true::ms,.ow v::e,mv,i,s,q,q2=>by cases q
 |true::ms,.lo v::e,mv,i,s,q,q2=>by cases q
 |true::ms,.lm v::e,mv,i,s,q,q2=>by cases q
 |false::ms,[],mv,i,s,q,q2=>by cases q
 |
  false::ms,t::e,mv,i,s,q,q2=>by
  cases i with
  |zero=>
   left;have:Sl.no=s:=by simpa [aJ] using q2
   exact⟨rfl,this.symm⟩
  |
   succ i=>
   have:=gE (i:=i) (s:=s) (show muV ms e=some mv from q) (by simpa [aJ] using q2)
   simpa using this
theorem nB:∀{ms:List Bool}{e:E3}{mv:List Val}{i:Nat},muV ms e=some mv->ms[i]?=some true->∃v,e[i]?=some (.mu v)/\(aJ ms mv)[i]?=some (.mu v)
 | [],_,_,i,_,q=>by simp at q
 |
  true::ms,.mu v::e,mv,i,q,q2=>by
  obtain⟨mv',z1,z2⟩:=N0.mp (show (muV ms e).map (v :: ·)=some mv from q);subst z2;cases i with
  |zero=>exact⟨v,rfl,rfl⟩
  |succ i=>obtain⟨u,y1,y2⟩:=nB (i:=i) z1 (by simpa using q2);exact⟨u,by simpa using y1,by simpa [aJ] using y2⟩
 |true::ms,[],mv,i,q,q2=>by cases q
 |true::ms,.no::e,mv,i,q,q2=>by cases q
 |true::ms,.sh v::e,mv,i,q,q2=>by cases q
 |true::ms,.ow v::e,mv,i,q,q2=>by cases q
 |true::ms,.lo v::e,mv,i,q,q2=>by cases q
 |true::ms,.lm v::e,mv,i,q,q2=>by cases q
 |false::ms,[],mv,i,q,q2=>by cases q
 |
  false::ms,t::e,mv,i,q,q2=>by
  cases i with
  |zero=>simp at q2
  |succ i=>obtain⟨u,y1,y2⟩:=nB (i:=i) (show muV ms e=some mv from q) (by simpa using q2);exact⟨u,by simpa using y1,by simpa [aJ] using y2⟩
theorem gw:∀{ms:List Bool}{mv:List Val},(aJ ms mv).length=ms.length
 | [],_=>rfl
 |true::ms,v::mv=>by show (aJ ms mv).length+1=ms.length+1;rw[gw]
 |true::ms,[]=>by show (aJ ms []).length+1=ms.length+1;rw[gw]
 |false::ms,mv=>by show (aJ ms mv).length+1=ms.length+1;rw[gw]
def Df(hF:RS F F3):RF ms (fnD N F) (fnV ms N F3):=λX ps ds vs h hl S=>by
 unfold fnV;rw[if_pos hl];have lS:(sls ms vs).length=vs.length:=by unfold sls;rw[O6];omega
 have lD:ds.length=vs.length:=by have:=S.l1;rw[w_,lS] at this;exact this
 have lP:ps.length=vs.length:=S.l2.trans lS;have ltS:∀{i:Nat},i<ms.length->i<(sls ms vs).length:=λh=>by omega
 have ltP:∀{i:Nat},i<(sls ms vs).length->i<ps.length:=λh=>S.l2.symm ▸ h;have S1
  : Sat X h.length (ps++List.replicate (N-vs.length) none) (sls ms vs++List.replicate (N-vs.length) .no) (ds.map some++List.replicate (N-vs.length) none) h:=by
  have mns:∀n,some n∈ps++List.replicate (N-vs.length) (none:Option Nat) ↔ some n∈ps:=λn=>by
   rw[OY];constructor
   .rintro (z |z)
    .exact z
    .have:=List.eq_of_mem_replicate z;cases this
   .exact .inl
  have gns:∀{i n:Nat},(ps++List.replicate (N-vs.length) (none:Option Nat))[i]?=some (some n)->ps[i]?=some (some n):=λ{i n} q=>by
   rw[P2] at q;split at q
   .exact q
   .rw[Ot] at q;split at q <;> cases q
  refine⟨?_,?_,S.lh,S.xl,λi j n q1 q2=>S.inj i j n (gns q1) (gns q2),λi n q=>S.nx i n (gns q),λi s q=>?_⟩
  .rw[F_,F_,Oy,Oy,S.l1]
  .rw[F_,F_,Oy,Oy,S.l2]
  .rw[P2] at q;split at q
   .rename_i hi;have k:=S.sl i s q;rw[N1 (ltP hi),N1 (by rw[S.l1];exact hi)];exact k.mono (λn o p q=>⟨⟨p.1,λz=>p.2 ((mns n).mp z)⟩,q⟩) λ_ _ _ q=>q
   .rename_i hi;rw[Ot] at q;split at q
    .cases q;rw[N6 (by rw[S.l2];exact Nat.le_of_not_lt hi),Ot,if_pos (by rw[S.l2];assumption)];rfl
    .cases q
 have p:=hF _ _ _ _ _ _ S1;have e2:fnD N F ds h=match F (ds.map some++List.replicate (N-vs.length) none) h with
  |.nx _ h'=>.ok .non h'
  |.rt d h'=>.ok d h'
  |.exc c _ h'=>.exc c h'
  |_=>.stuck:=by rw[<- lD];rfl
 rw[e2];have l_:∀(Y:Nat->Prop) (ns':Ns) (e':E3) (c_:AE) (h':AH) (mv:List Val),(∀n,X n->Y n)->Stp (ps++List.replicate (N-vs.length) none) (sls ms vs++List.replicate (N-vs.length) .no) h ns' e' h'->Sat Y h.length ns' e' c_ h'->muV ms e'=some mv->
  Stp ps (sls ms vs) h ps (aJ ms mv) h'/\Sat Y h.length ps (aJ ms mv) (ds.map some) h'/\∀n,Oc Y ns' n->Oc Y ps n:=by
  intro Y ns' e' c_ h' mv hXY a S2 qm;have kmu:∀{i:Nat},ms[i]?=some true->∃v u n o,e'[i]?=some (.mu v)/\(aJ ms mv)[i]?=some (.mu v)/\(sls ms vs)[i]?=some (.mu u)/\ns'[i]?=ps[i]?/\ps[i]?=some (some n)/\(ds.map some)[i]?=some (some (.ref n))/\h'[n]?=some o/\bK o/\Rc (Oc Y ns') h' o v:=by intro i hi;obtain⟨v,y1,y2⟩:=nB qm hi;have hil:i<ms.length:=(x_.mp hi).1;obtain⟨u,y3,y4⟩:=a.mu i v y1;rw[N1 (ltS hil)] at y3;rw[N1 (ltP (ltS hil))] at y4;obtain⟨n,o,z1,z2,_⟩:=S.sl i _ y3;obtain⟨n',o',w1,w2,w3,w4,w5⟩:=S2.sl i _ y1;rw[y4,z1] at w1;cases w1;exact⟨v,u,n,o',y1,y2,y3,y4,z1,z2,w3,w4,w5⟩
  have kown:∀{i n:Nat},ps[i]?=some (some n)->ms[i]?=some true:=λ{i n} q=>by
   obtain⟨s,v,o,z1,z2,_⟩:=S.own q;obtain⟨b,u,y1,_,y2⟩:=eI z1;cases b with
   |true=>exact y1
   |false=>subst y2;rcases z2 with z2 |z2 <;> cases z2
  have koc:∀n,Oc Y ns' n->Oc Y ps n:=λn z=>⟨z.1,λy=>by obtain⟨i,y⟩:=aW.mp y;obtain⟨v,u,n',o,_,_,_,k1,k2,_⟩:=kmu (kown y);exact z.2 (aW.mpr ⟨i,by rw[k1];exact y⟩)⟩;refine⟨⟨a.len,λm o q hm=>a.keep m o q λ⟨i,s,z1,z2,z3⟩=>hm ?_,λ_ _ q=>.inl q,λi s q hl'=>?_,λi s q hl'=>?_,λi v q=>?_,λi v q=>?_⟩,⟨?_,?_,J_ (z_ _) a.len,S2.xl,S.inj,λi n q z=>?_,λi s q=>?_⟩,koc⟩
  .rw[P2] at z1;split at z1
   .rename_i hi;rw[N1 (by rw[<- S.l2];exact hi)] at z2;exact⟨i,s,z1,z2,z3⟩
   .rw[Ot] at z1;split at z1 <;> cases z1
  .obtain⟨b,u,_,_,y⟩:=eI q;subst y;cases b <;> cases hl'
  .rcases gE qm q with ⟨_,z⟩ |⟨_,v,_,z⟩ <;> subst z <;> cases hl'
  .rcases gE qm q with ⟨_,z⟩ |⟨z,_⟩
   .cases z
   .obtain⟨v',u,n,o,_,_,k1,_⟩:=kmu z;exact⟨u,k1,rfl⟩
  .obtain⟨b,u,y1,_,y2⟩:=eI q;cases b with
   |false=>cases y2
   |true=>obtain⟨v',u,n,o,_,k0,k1,_⟩:=kmu y1;exact⟨v',k0,rfl⟩
  .rw[w_,gw];omega
  .rw[gw];omega
  .obtain⟨v,u,n',o,_,_,_,k1,k2,_⟩:=kmu (kown q);exact S2.nx i n (by rw[k1];exact q) z
  .rcases gE qm q with ⟨z,rfl⟩ |⟨z,v,z2,rfl⟩
   .have hil:i<ms.length:=(x_.mp z).1;have hi:i<(sls ms vs).length:=ltS hil;obtain⟨b,u,y1,_,y2⟩:=eI (M_ hi);rw[z] at y1;cases y1;have k:=S.sl i _ (M_ hi);rw[y2] at k;exact k.1
   .obtain⟨v',u,n,o,k0,_,_,k1,k2,k3,k4,k5,k6⟩:=kmu z;rw[z2] at k0;cases k0;exact⟨n,o,k2,k3,k4,k5,k6.mono λm o' y q=>⟨koc m y,q⟩⟩
 generalize F3 (sls ms vs++List.replicate (N-vs.length) .no)=r3 at *;cases r3 with
 |stuck=>trivial
 |bk _=>trivial
 |ct _=>trivial
 |
  nx e'=>
  obtain⟨c_,h',ns',q,a,S2⟩:=p;rw[q];dsimp only;cases qm:muV ms e' with
  |none=>trivial
  |some mv=>obtain⟨a3,S3,koc⟩:=l_ X ns' e' c_ h' mv (λ_ z=>z) a S2 qm;exact⟨.non,h',rfl,a3,S3,.non⟩
 |
  exc c e'=>
  obtain⟨c_,h',ns',q,a,S2⟩:=p;rw[q];dsimp only;cases qm:muV ms e' with
  |none=>trivial
  |some mv=>obtain⟨a3,S3,koc⟩:=l_ X ns' e' c_ h' mv (λ_ z=>z) a S2 qm;exact⟨h',rfl,a3,S3⟩
 |
  rt r e'=>
  obtain⟨d,c_,h',ns',q,a,rr⟩:=p;rw[q];dsimp only;cases qm:muV ms e' with
  |none=>trivial
  |
   some mv=>
   cases r with
   |val v=>obtain⟨a3,S3,koc⟩:=l_ X ns' e' c_ h' mv (λ_ z=>z) a rr.1 qm;exact⟨d,h',rfl,a3,S3,rr.2.mono λm o y q=>⟨koc m y,q⟩⟩
   |new v=>obtain⟨n,o,z1,z2,z3,z4,z5,z6,z7⟩:=rr;obtain⟨a3,S3,koc⟩:=l_ (Xn X n) ns' e' c_ h' mv (λ_ z=>.inl z) a z6 qm;exact⟨d,h',rfl,a3,n,o,z1,z2,z3,z4,z5,S3,z7.mono λm o y q=>⟨koc m y,q⟩⟩
   |pr v u=>obtain⟨d1,n,o,z1,z2,z3,z4,z5,z6,z7,z8⟩:=rr;obtain⟨a3,S3,koc⟩:=l_ (Xn X n) ns' e' c_ h' mv (λ_ z=>.inl z) a z6 qm;exact⟨d,h',rfl,a3,d1,n,o,z1,z2,z3,z4,z5,S3,z7.mono λm o y q=>⟨koc m y,q⟩,z8.mono λm o y q=>⟨koc m y,q⟩⟩
   |
    par i=>
    obtain⟨R1,R2,v,R3⟩:=rr;obtain⟨a3,S3,koc⟩:=l_ X ns' e' c_ h' mv (λ_ z=>z) a R1 qm;obtain⟨u,k1,k2⟩:=a.mu i v R3;have hi:i<(sls ms vs).length:=by apply Decidable.byContradiction;intro hi;rw[N6 (Nat.le_of_not_lt hi),Ot] at k1;split at k1 <;> cases k1
    rw[N1 hi] at k1;rw[N1 (by rw[S.l2];exact hi)] at k2;obtain⟨m,o,w1,w2,_⟩:=S.sl i _ k1;obtain⟨m',o',x1,x2,_⟩:=R1.sl i _ R3;rw[k2,w1] at x1;cases x1;rw[R2] at x2;cases x2;obtain⟨v',y,_⟩:=a3.mu' i u k1;exact⟨_,h',rfl,a3,S3,w2,v',y⟩
noncomputable def iu(i:Nat):List Tm->Bool
 |.bor j::ts=>(i==j) || iu i ts
 |_::ts=>iu i ts
 | []=>false
noncomputable def nT(i:Nat):List Bool->List Tm->Bool
 |true::ms,.bor j::ts=>(i==j) || nT i ms ts
 |_::ms,_::ts=>nT i ms ts
 |_,_=>false
noncomputable def okA(e:E3):List Bool->List Tm->Bool
 |true::ms,.bor i::ts=>((e[i]?).bind Sl.mv).isSome && !(iu i ts)&&okA e ms ts
 |true::_,_::_=>false
 |false::ms,.bor i::ts=>!(nT i ms ts)&&okA e ms ts
 |false::ms,_::ts=>okA e ms ts
 | [],[]=>true
 |_,_=>false
noncomputable def nE(b:Bool)(t:Tm):Option Nat:=match b,t with
 |true,.bor i=>some i
 |_,_=>none
noncomputable def bg(ms:List Bool)(ts:List Tm):List (Option Nat):=List.zipWith nE ms ts
noncomputable def aU(e:E3):List Bool->List Tm->List Nat
 |false::ms,.bor i::ts=>(match e[i]? with
  |some (.sh _)=>aU e ms ts
  |_=>i::aU e ms ts)
 |_::ms,_::ts=>aU e ms ts
 |_,_=>[]
mutual
def flatV:Val->Bool
 |.tup xs=>flatVs xs
 |.lst _=>false
 |.kl _=>false
 |.dct _=>false
 |.set _=>false
 |_=>true
def flatVs:List Val->Bool
 | []=>true
 |v::vs=>flatV v&&flatVs vs
end
noncomputable def ma:List (Key×Val)->Bool
 | []=>true
 |(_,v)::vs=>flatV v&&ma vs
noncomputable def cJ:Val->Bool
 |.lst xs=>flatVs xs
 |.dct xs=>ma xs
 |.set _=>true
 |_=>false
def kq:Rt->Bool
 |.val v=>flatV v
 |.new v=>cJ v
 |.par _=>true
 |.pr v u=>flatV v&&cJ u
noncomputable def nz(e:E3):List Nat->Option E3
 | []=>some e
 |i::is=>match bP e (.bor i) with
  |some (e1,_)=>nz e1 is
  |none=>none
def Rt.tm(ts:List Tm):Rt->Tm
 |.val v=>.val v
 |.new v=>.new v
 |.par i=>(ts[i]?).getD (.val .non)
 |.pr v u=>.val (.tup [v,u])
noncomputable def C8(ms:List Bool)(G:Fn3)(A:MA3):ME3:=λe=>(A e).bind λts e1=>match rss e1 ts with
 |none=>.stuck
 |some vs=>if okA e1 ms ts=true then (match G vs with
  |.stuck=>.stuck
  |.ok r mv=>if (aU e1 ms ts).isEmpty || (kq r&&mv.all cJ) then .ok (r.tm ts) (aY (bg ms ts) (aJ ms mv) e1) else (match nz e1 (aU e1 ms ts) with
   |some e2=>.ok (r.tm ts) (aY (bg ms ts) (aJ ms mv) e2)
   |none=>.stuck)
  |.exc c mv=>if (aU e1 ms ts).isEmpty || mv.all cJ then .exc c (aY (bg ms ts) (aJ ms mv) e1) else .stuck) else .stuck
section
variable{P P':Nat->Prop}{h h':AH}
def Rd.flat(f:flatV v=true)(r:Rd P h d v):Rd P' h' d v:=
 @Rd.rec P h (λd v _=>flatV v=true->Rd P' h' d v) (λo v _=>flatV v=true->Rd P' h' .non v) (λds vs _=>flatVs vs=true->Rds P' h' ds vs) (λws us _=>True) (λ_=>.non) (λb _=>.bl b) (λi _=>.int i) (λx _=>.str x) (λn _=>.ty n) (λx _=>.glb x) (λx _=>.exc x) (λ_ ih f=>.tup (ih f)) (λ_ _ f=>absurd f y_) (λ_ _ r _ f=>by cases r <;> exact absurd f y_) (λ_ _ f=>absurd f y_) (λ_ _ f=>absurd f y_) (λ_ _ f=>absurd f y_) (λ_ f=>absurd f y_) (λ_=>.nil) (λ_ _ a b f=>.cons (a (C_ .. ▸ f).1) (b (C_ .. ▸ f).2)) trivial (λ_ _ _ _=>trivial) d v r f
def Rds.flat(f:flatVs v=true)(r:Rds P h d v):Rds P' h' d v:=
 r.ind (M:=λds vs=>flatVs vs=true->Rds P' h' ds vs) (λ_=>.nil) (λr _ ih f=>by rw[flatVs,C_] at f;exact .cons (Rd.flat f.1 r) (ih f.2)) f
def Rk.flat(f:ma v=true)(r:Rk P h d v):Rk P' h' d v:=
 r.ind (M:=λds vs=>ma vs=true->Rk P' h' ds vs) (λ_=>.nil) (λr _ ih f=>by rw[ma,C_] at f;exact .cons (Rd.flat f.1 r) (ih f.2)) f
def Rc.flat(f:cJ v=true)(r:Rc P h o v):Rc P' h' o v:=by
 cases r with
 |lst r=>exact .lst (Rds.flat (by simpa [cJ] using f) r)
 |fz r=>simp [cJ] at f
 |dct r=>exact .dct (Rk.flat (by simpa [cJ] using f) r)
 |set xs=>exact .set xs
end
theorem nG:∀{ts:List Tm}{k:Nat},ts[k]?=some (.bor i)->iu i ts=true
 | [],_,q=>by simp at q
 |
  t::ts,0,q=>by
  have:t=.bor i:=by simpa using q
  subst this;simp [iu]
 |
  t::ts,k+1,q=>by
  have:=nG (ts:=ts) (k:=k) (by simpa using q)
  cases t <;> simp [iu,this]
theorem u9:∀{ms:List Bool}{ts:List Tm}{k:Nat},ms[k]?=some true->ts[k]?=some (.bor i)->nT i ms ts=true
 | [],_,_,q,_=>by simp at q
 |_::_,[],_,_,q=>by simp at q
 |
  b::ms,t::ts,0,q1,q=>by
  have:t=.bor i:=by simpa using q
  have:b=true:=by simpa using q1
  subst_vars;simp [nT]
 |
  b::ms,t::ts,k+1,q1,q=>by
  have:=u9 (ms:=ms) (ts:=ts) (k:=k) (by simpa using q1) (by simpa using q)
  cases b <;> cases t <;> simp [nT,this]
theorem j9:∀{ms:List Bool}{ts:List Tm}{k:Nat},okA e ms ts=true->ms[k]?=some true->∃i,ts[k]?=some (.bor i)/\∃u,(e[i]?).bind Sl.mv=some u
 | [],_,_,_,q=>by simp at q
 |b::ms,[],_,o,_=>by cases b <;> simp [okA] at o
 |
  b::ms,t::ts,0,o,q=>by
  have:b=true:=by simpa using q
  subst this;cases t with
  |bor i=>simp only[okA,C_] at o;exact⟨i,rfl,Oi.mp o.1.1⟩
  |_=>simp [okA] at o
 |
  b::ms,t::ts,k+1,o,q=>by
  have o':okA e ms ts=true:=by cases b <;> cases t <;> simp only[okA,C_] at o <;> first |exact o.2 |exact o |(simp at o;done)
  obtain⟨i,y⟩:=j9 (k:=k) o' (by simpa using q);exact⟨i,by simpa using y⟩
theorem iV:∀{ms:List Bool}{ts:List Tm}{k j i:Nat},okA e ms ts=true->ms[k]?=some true->ts[k]?=some (.bor i)->ts[j]?=some (.bor i)->j=k
 | [],_,_,_,_,_,q,_,_=>by simp at q
 |b::ms,[],_,_,_,o,_,_,_=>by cases b <;> simp [okA] at o
 |b::ms,t::ts,0,0,i,o,q1,q2,q3=>rfl
 |
  b::ms,t::ts,0,j+1,i,o,q1,q2,q3=>by
  have h1:b=true:=by simpa using q1
  have h2:t=.bor i:=by simpa using q2
  subst h1 h2;simp only[okA,C_] at o
  have:=nG (i:=i) (ts:=ts) (k:=j) (by simpa using q3)
  rw[this] at o;simp at o
 |
  b::ms,t::ts,k+1,0,i,o,q1,q2,q3=>by
  have h2:t=.bor i:=by simpa using q3
  subst h2;have hm:=u9 (i:=i) (ms:=ms) (ts:=ts) (k:=k) (by simpa using q1) (by simpa using q2);have hb:=nG (i:=i) (ts:=ts) (k:=k) (by simpa using q2);cases b <;> simp [okA,hm,hb] at o
 |
  b::ms,t::ts,k+1,j+1,i,o,q1,q2,q3=>by
  have o':okA e ms ts=true:=by cases b <;> cases t <;> simp only[okA,C_] at o <;> first |exact o.2 |exact o |(simp at o;done)
  exact Og (· + 1) (iV (k:=k) (j:=j) (i:=i) o' (by simpa using q1) (by simpa using q2) (by simpa using q3))
theorem iJ:∀{ms:List Bool}{ts:List Tm},okA e ms ts=true->ms.length=ts.length
 | [],[],_=>rfl
 | [],_::_,o=>by simp [okA] at o
 |b::ms,[],o=>by cases b <;> simp [okA] at o
 |
  b::ms,t::ts,o=>by
  have o':okA e ms ts=true:=by cases b <;> cases t <;> simp only[okA,C_] at o <;> first |exact o.2 |exact o |(simp at o;done)
  exact Og (· + 1) (iJ o')
theorem lC:∀{ms:List Bool}{ts:List Tm}{k i:Nat},ms[k]?=some false->ts[k]?=some (.bor i)->(∀v,e[i]?≠some (.sh v))->i∈aU e ms ts
 | [],_,_,_,q,_,_=>by simp at q
 |_::_,[],_,_,_,q,_=>by simp at q
 |
  b::ms,t::ts,0,i,q1,q2,hn=>by
  have h1:b=false:=by simpa using q1
  have h2:t=.bor i:=by simpa using q2
  subst h1 h2;unfold aU;split
  .rename_i v q;exact absurd q (hn v)
  .exact G_ ..
 |
  b::ms,t::ts,k+1,i,q1,q2,hn=>by
  have ih:=lC (ms:=ms) (ts:=ts) (k:=k) (by simpa using q1) (by simpa using q2) hn;cases b <;> cases t <;> simp only[aU] <;> first |exact ih |(split;exact ih;exact A_ _ ih)
def eD{ms:List Bool}{ts:List Tm}{k i:Nat}(q:(bg ms ts)[k]?=some (some i)):ms[k]?=some true/\ts[k]?=some (.bor i):=by
 unfold bg at q;rw[OX] at q;cases h1:ms[k]? with
 |none=>rw[h1] at q;cases q
 |
  some b=>
  cases h2:ts[k]? with
  |none=>rw[h1,h2] at q;cases q
  |some t=>rw[h1,h2] at q;have q':nE b t=some i:=NV q;cases b <;> cases t <;> first |(cases q';done) |(cases q';exact⟨rfl,rfl⟩)
def Dk{ms:List Bool}{ts:List Tm}{k i:Nat}(q1:ms[k]?=some true)(q2:ts[k]?=some (.bor i)):(bg ms ts)[k]?=some (some i):=by unfold bg;rw[OX,q1,q2];rfl
theorem vc:∀{ts:List Tm}{vs:List Val}{k:Nat}{v:Val},rss e ts=some vs->vs[k]?=some v->∃t,ts[k]?=some t/\rs e t=some v
 | [],_,_,_,q,q2=>by cases q;simp at q2
 |
  t::ts,vs,k,v,q,q2=>by
  unfold rss at q;split at q
  .rename_i u us e1 e2;cases q;cases k with
   |zero=>
    have:u=v:=by simpa using q2
    subst this;exact⟨t,rfl,e1⟩
   |succ k=>obtain⟨t',y1,y2⟩:=vc (k:=k) e2 (by simpa using q2);exact⟨t',by simpa using y1,y2⟩
  .cases q
theorem j4:∀{ts:List Tm}{vs:List Val},rss e ts=some vs->vs.length=ts.length
 | [],_,q=>by cases q;rfl
 |
  t::ts,vs,q=>by
  unfold rss at q;split at q
  .rename_i u us e1 e2;cases q;exact Og (· + 1) (j4 e2)
  .cases q
theorem TsR.get:∀{ds:List D}{ts:List Tm}{k:Nat}{t:Tm},TsR X ns ae h ds ts->ts[k]?=some t->∃d,ds[k]?=some d/\((∃v,t=.val v/\Rd (Oc X ns) h d v)\/∃i,t=.bor i/\ae[i]?=some (some d))
 |_,_,_,_,.nil,q=>by simp at q
 |_,_,0,_,.val r rr,q=>by have:=(by simpa using q:Tm.val _=_);subst this;exact⟨_,rfl,.inl ⟨_,rfl,r⟩⟩
 |_,_,0,_,.bor r rr,q=>by have:=(by simpa using q:Tm.bor _=_);subst this;exact⟨_,rfl,.inr ⟨_,rfl,r⟩⟩
 |_,_,k+1,t,.val r rr,q=>by obtain⟨d,y⟩:=rr.get (k:=k) (by simpa using q);exact⟨d,by simpa using y⟩
 |_,_,k+1,t,.bor r rr,q=>by obtain⟨d,y⟩:=rr.get (k:=k) (by simpa using q);exact⟨d,by simpa using y⟩
def Xc(X:Nat->Prop)(ns:Ns)(e:E3)(ms:List Bool)(ts:List Tm)(n:Nat):Prop:=(X n\/some n∈ns)/\some n∉bw (bg ms ts) ns/\∀i∈aU e ms ts,ns[i]?≠some (some n)
def rZ(S:Sat X h0 ns e ae h)(rt:TsR X ns ae h ds ts)(qv:rss e ts=some vs)(ok:okA e ms ts=true):
 Sat (Xc X ns e ms ts) h.length (bw (bg ms ts) ns) (sls ms vs) (ds.map some) h:=by
 have l1:=iJ ok;have l2:=j4 qv;have l3:=TsR.len rt;have hs:mK (bg ms ts):=λj k i q1 q2=>iV ok (eD q2).1 (eD q2).2 (eD q1).2;have mv:Mov (Oc X ns) (Oc (Xc X ns e ms ts) (bw (bg ms ts) ns)) h h:=λn o p q=>⟨⟨λz=>by
  rcases z.1 with z |z
  .exact p.1 z
  .exact p.2 z,λz=>p.2 (lM z)⟩,q⟩
 refine⟨?_,?_,z_ _,λn z=>?_,λj k n q1 q2=>?_,λj n q z=>z.2.1 (aW.mpr ⟨j,q⟩),λk s q=>?_⟩
 .unfold sls;rw[w_,O6];omega
 .unfold bw bg sls;rw[w_,O6,O6];omega
 .rcases z.1 with z |z
  .exact S.xl n z
  .obtain⟨i,z⟩:=aW.mp z;obtain⟨_,_,_,_,_,_,_,q',_⟩:=S.own z;exact cp q'
 .obtain⟨i,y1,y2⟩:=b8 q1;obtain⟨i',y3,y4⟩:=b8 q2
  have:=S.inj i i' n y2 y4
  subst this;exact hs j k i y1 y3
 .obtain⟨b,v,
   q1,q2,rfl⟩:=eI q
  obtain⟨t,q3,q4⟩:=vc qv q2;obtain⟨d,q5,q6⟩:=rt.get q3;have qd:(ds.map some)[k]?=some (some d):=by rw[N4,q5];rfl
  rw[qd];have qn:(bw (bg ms ts) ns)[k]?=some ((nE b t).bind λi=>(ns[i]?).bind id):=by unfold bw bg;rw[N4,OX,q1,q3];rfl
  rw[qn];cases b with
  |
   true=>
   obtain⟨i,y1,u,y2⟩:=j9 ok q1;rw[q3] at y1;cases y1;have q4':(e[i]?).bind Sl.val=some v:=q4;obtain⟨s,z1,z2⟩:=N8.mp y2;rw[z1] at q4';have hv:s.val=some v:=q4';have huv:u=v:=by cases s <;> first |cases z2;done |(cases z2;cases hv;rfl)
   subst huv;have hns:∃n,ns[i]?=some (some n):=by
    have y:=S.sl i s z1;cases s with
    |ow v=>obtain⟨n,o,y1,_⟩:=y;exact⟨n,y1⟩
    |mu v=>obtain⟨n,o,y1,_⟩:=y;exact⟨n,y1⟩
    |_=>cases z2
   obtain⟨n,hn⟩:=hns;obtain⟨n',o,k1,k2,k3,k4,_⟩:=S.write z1 z2;rcases q6 with ⟨_,z,_⟩ |⟨i',z,q6⟩
   .cases z
   .cases z;rw[q6] at k1;cases k1;obtain⟨_,_,_,_,_,_,w,_⟩:=S.own hn;rw[q6] at w;cases w;exact⟨n,o,by show some ((ns[i]?).bind id)=_;rw[hn];rfl,rfl,k2,k3,k4.mono mv⟩
  |
   false=>
   refine⟨by cases t <;> rfl,d,rfl,?_⟩;rcases q6 with ⟨u,rfl,q6⟩ |⟨i,rfl,q6⟩
   .cases q4;exact q6.mono mv
   .have q4':(
     e[i]?).bind Sl.val=some v:=q4
    rcases S.bor q6 q4' with z |⟨n,o,rfl,z1,z2⟩
    .exact z.mono mv
    .refine .cell ⟨λy=>?_,λy=>?_⟩ z1 (z2.mono mv)
     .
      by_cases hsh:∃w,e[i]?=some (.sh w)
      .obtain⟨w,hsh⟩:=hsh;obtain⟨_,x,w1,w2⟩:=S.sl i _ hsh;rw[q6] at w1;cases w1;cases w2 with
       |cell p _ _=>rcases y.1 with y |y;exact p.1 y;exact p.2 y
      .have hl:=lC q1 q3 λw z=>hsh ⟨w,z⟩;cases w:ns[i]? with
       |
        none=>
        have hi:i<e.length:=by
         cases z:e[i]? with
         |none=>rw[z] at q4';cases q4'
         |some _=>exact (x_.mp z).1
        rw[OH,S.l2] at w;omega
       |
        some w'=>
        cases w' with
        |
         none=>
         cases z:e[i]? with
         |none=>rw[z] at q4';cases q4'
         |
          some s=>
          have k:=S.sl i s z;rw[w] at k;cases s with
          |no=>rw[z] at q4';cases q4'
          |sh w=>exact hsh ⟨w,z⟩
          |ow w=>obtain⟨_,_,k,_⟩:=k;cases k
          |lo w=>obtain⟨_,_,k,_⟩:=k;cases k
          |mu w=>obtain⟨_,_,k,_⟩:=k;cases k
          |lm w=>obtain⟨_,_,k,_⟩:=k;cases k
        |some n'=>obtain⟨_,_,_,_,_,_,w2,_⟩:=S.own w;rw[q6] at w2;cases w2;exact y.2.2 i hl w
     .obtain⟨j,y⟩:=aW.mp y;obtain⟨i',y1,y2⟩:=b8 y;obtain⟨y3,y4⟩:=eD y1;obtain⟨_,_,_,_,_,_,w2,_⟩:=S.own y2;have:i'
       = i:=by
       cases w:ns[i]? with
       |
        none=>
        have hi:i<e.length:=by
         cases z:e[i]? with
         |none=>rw[z] at q4';cases q4'
         |some _=>exact (x_.mp z).1
        rw[OH,S.l2] at w;omega
       |
        some w'=>
        cases w' with
        |some n'=>obtain⟨_,_,_,_,_,_,w3,_⟩:=S.own w;rw[q6] at w3;cases w3;exact S.inj i' i n y2 w
        |
         none=>
         cases z:e[i]? with
         |none=>rw[z] at q4';cases q4'
         |
          some s=>
          have k:=S.sl i s z;rw[w,q6] at k;cases s with
          |no=>rw[z] at q4';cases q4'
          |
           sh w=>
           obtain⟨_,x,k1,k2⟩:=k;cases k1;cases k2 with
           |cell p _ _=>exact (p.2 (aW.mpr ⟨i',y2⟩)).elim
          |ow w=>obtain⟨_,_,k,_⟩:=k;cases k
          |lo w=>obtain⟨_,_,k,_⟩:=k;cases k
          |mu w=>obtain⟨_,_,k,_⟩:=k;cases k
          |lm w=>obtain⟨_,_,k,_⟩:=k;cases k
      subst this
      have:=iV ok y3 y4 q3
      subst this;rw[q1] at y3;cases y3
theorem eG:∀{ms:List Bool}{mv:List Val}{j:Nat}{v:Val},(aJ ms mv)[j]?=some (.mu v)->v∈mv
 | [],_,_,_,q=>by simp [aJ] at q
 |true::ms,u::mv,0,v,q=>by
  have:Sl.mu u=.mu v:=by simpa [aJ] using q
  cases this;exact G_ ..
 |true::ms,u::mv,j+1,v,q=>A_ _ (eG (ms:=ms) (mv:=mv) (j:=j) (by simpa [aJ] using q))
 |true::ms,[],0,v,q=>by simp [aJ] at q
 |true::ms,[],j+1,v,q=>eG (ms:=ms) (mv:=[]) (j:=j) (by simpa [aJ] using q)
 |false::ms,mv,0,v,q=>by simp [aJ] at q
 |false::ms,mv,j+1,v,q=>eG (ms:=ms) (mv:=mv) (j:=j) (by simpa [aJ] using q)
theorem kZ:∀{ms:List Bool}{ts:List Tm}{i:Nat},i∈aU e ms ts->∃k:Nat,ms[k]?=some false/\ts[k]?=some (.bor i)
 | [],_,_,q=>by simp [aU] at q
 |_::_,[],_,q=>by simp [aU] at q
 |
  b::ms,t::ts,i,q=>by
  have up:i∈aU e ms ts->∃k:Nat,(b::ms)[k]?=some false/\(t::ts)[k]?=some (.bor i):=λz=>by obtain⟨k,y1,y2⟩:=kZ z;exact⟨k+1,by simpa using y1,by simpa using y2⟩
  cases b <;> cases t <;> simp only[aU] at q <;> first |exact up q |skip
  split at q
  .exact up q
  .rcases NZ.mp q with rfl |q
   .exact⟨0,rfl,rfl⟩
   .exact up q
def Fg(q:bP e (.bor i)=some (e1,v)):(∀j,j≠i->e1[j]?=e[j]?)/\e1[i]?=some (.sh v)/\(e[i]?).bind Sl.val=some v:=by
 unfold bP at q;dsimp only at q;split at q
 .rename_i u q1;cases q;exact⟨λ_ _=>rfl,q1,by rw[q1];rfl⟩
 .rename_i u q1;cases q;exact⟨λj z=>bp z,bH (x_.mp q1).1,by rw[q1];rfl⟩
 .cases q
theorem qN:∀{is:List Nat}{ns:Ns}{e e2:E3},Sat X h0 ns e ae h->(∀i∈is,∃d,ae[i]?=some (some d))->nz e is=some e2->∃j_,Sat X h0 j_ e2 ae h/\Stp ns e h j_ e2 h/\(∀i,i∉is->e2[i]?=e[i]?)/\(∀i∈is,∃v,e2[i]?=some (.sh v))/\∀i:Nat,(e2[i]?).bind Sl.val=(e[i]?).bind Sl.val
 | [],ns,e,e2,S,_,q=>by cases q;exact⟨ns,S,.refl,λ_ _=>rfl,(λ_ z=>by cases z),λ_=>rfl⟩
 |
  i::is,ns,e,e2,S,hd,q=>by
  unfold nz at q;split at q
  .rename_i e1 v q1;obtain⟨d,hd0⟩:=hd i (G_ ..);obtain⟨ns1,S1,a1,r1⟩:=fq (L:=0) (t:=.bor i) S hd0 q1;obtain⟨j_,S2,a2,k1,k2,k3⟩:=qN S1 (λj z=>hd j (A_ _ z)) q;obtain⟨y1,y2,y3⟩:=Fg q1;refine⟨j_,S2,a1.trans S a2,λj hj=>?_,λj hj=>?_,λj=>?_⟩
   .rw[NZ,not_or] at hj;rw[k1 j hj.2,y1 j hj.1]
   .by_cases z:j∈is
    .exact k2 j z
    .rcases NZ.mp hj with rfl |hj
     .exact⟨v,by rw[k1 j z];exact y2⟩
     .exact absurd hj z
   .rw[k3 j];by_cases z:j=i
    .subst z;rw[y2,y3];rfl
    .rw[y1 j z]
  .cases q
theorem oO:∀{ms:List Bool}{ts:List Tm},(∀(k i:Nat),ms[k]?=some true->ts[k]?=some (.bor i)->e2[i]?=e[i]?)->okA e ms ts=true->okA e2 ms ts=true
 | [],[],_,o=>rfl
 | [],_::_,_,o=>by simp [okA] at o
 |b::ms,[],_,o=>by cases b <;> simp [okA] at o
 |
  b::ms,t::ts,hk,o=>by
  have o':okA e ms ts=true:=by cases b <;> cases t <;> simp only[okA,C_] at o <;> first |exact o.2 |exact o |(simp at o;done)
  have ih:=oO (λk i q1 q2=>hk (k+1) i (by simpa using q1) (by simpa using q2)) o';cases b with
  |false=>cases t <;> simp only[okA,C_] at o ⊢ <;> first |exact⟨o.1,ih⟩ |exact ih
  |
   true=>
   cases t with
   |bor i=>simp only[okA,C_] at o ⊢;rw[hk 0 i rfl rfl];exact⟨o.1,ih⟩
   |_=>simp [okA] at o
theorem sU:∀{ms:List Bool}{ts:List Tm},(∀(k i:Nat),ms[k]?=some false->ts[k]?=some (.bor i)->∃v,e[i]?=some (.sh v))->aU e ms ts=[]
 | [],_,_=>by simp [aU]
 |_::_,[],_=>by simp [aU]
 |
  b::ms,t::ts,hk=>by
  have ih:=sU (λk i q1 q2=>hk (k+1) i (by simpa using q1) (by simpa using q2));cases b <;> cases t <;> simp only[aU] <;> first |exact ih |skip
  rename_i i;obtain⟨v,q⟩:=hk 0 i rfl rfl;rw[q];exact ih
theorem oW(hv:∀i:Nat,(e2[i]?).bind Sl.val=(e[i]?).bind Sl.val):∀(ts:List Tm),rss e2 ts=rss e ts
 | []=>rfl
 |
  t::ts=>by
  unfold rss;rw[oW hv ts];have:rs e2 t=rs e t:=by
   cases t with
   |bor i=>exact hv i
   |_=>rfl
  rw[this]
def kX(ok:okA e ms ts=true):Lnk (bg ms ts) e (sls ms vs):=by
 refine⟨λj k i q1 q2=>iV ok (eD q2).1 (eD q2).2 (eD q1).2,λj v q=>?_,λj s q hm=>?_⟩
 .obtain⟨b,u,q1,_,q2⟩:=eI q;cases b with
  |false=>cases q2
  |true=>obtain⟨i,y1,w,y2⟩:=j9 ok q1;obtain⟨s,z1,z2⟩:=N8.mp y2;exact⟨i,s,Dk q1 y1,z1,by cases s <;> first |rfl |cases z2⟩
 .obtain⟨b,u,q1,_,q2⟩:=eI q;cases b with
  |false=>subst q2;cases hm
  |true=>exact⟨u,q2⟩
section
variable{X:Nat->Prop}{h0 L:Nat}{ns:Ns}{e:E3}{ae:AE}{h:AH}{ms:List Bool}{ts:List Tm}{ds:List D}{vs:List Val}{S2:Fn}{G3:Fn3}
def ja(Y:Nat->Prop)(hY:∀n,Y n->X n\/Y n)(hl:aU e ms ts=[])(z:¬ Xc X ns e ms ts n)(z2:some n∉bw (bg ms ts) ns):Oc X ns n:=by refine⟨λy=>z ⟨.inl y,z2,λi hi=>by rw[hl] at hi;cases hi⟩,λy=>z ⟨.inr y,z2,λi hi=>by rw[hl] at hi;cases hi⟩⟩
def rJ{B:Prop}(S:Sat X h0 ns e ae h)(ok:okA e ms ts=true)(a:Stp (bw (bg ms ts) ns) (sls ms vs) h (bw (bg ms ts) ns) (aJ ms mv) h')(hf:aU e ms ts=[]\/(B/\mv.all cJ=true))(z2:h.length<=n)(z4:h'[n]?=some o)(S3:Sat (Xn (Xc X ns e ms ts) n) h.length (bw (bg ms ts) ns) (aJ ms mv) (ds.map some) h'):
 Sat (Xn X n) h0 ns (aY (bg ms ts) (aJ ms mv) e) ae h'/\Stp ns e h ns (aY (bg ms ts) (aJ ms mv) e) h'/\(aU e ms ts=[]->∀m,Oc (Xn (Xc X ns e ms ts) n) (bw (bg ms ts) ns) m->Oc (Xn X n) ns m):=by
 have K:=kX (vs:=vs) ok;have kk:aU e ms ts=[]->∀m,Oc (Xn (Xc X ns e ms ts) n) (bw (bg ms ts) ns) m->Oc (Xn X n) ns m:=λhf m z=>by
  have:=ja X (λ_ z=>.inl z) hf (λy=>z.1 (.inl y)) z.2
  exact⟨λy=>by
   rcases y with y |y
   .exact this.1 y
   .exact z.1 (.inr y),this.2⟩
 obtain⟨S4,a4⟩:=S.back (Y:=Xn X n) K a (λm z=>by
  rcases z with z |rfl
  .exact⟨K_ (S.xl m z) a.len,.inl z⟩
  .exact⟨cp z4,.inr z2⟩) (λ_ z=>.inl z) λj w n' q1 q2=>by
  obtain⟨s,u,o,b1,b2,b3,b4,b5,b6,b7⟩:=S3.own q2;rw[q1] at b1;cases b1;cases b3;rcases hf with hf |hf
  .exact⟨o,b5,b6,b7.mono λm o' z y=>⟨kk hf m z,y⟩⟩
  .exact⟨o,b5,b6,b7.flat (NY.mp hf.2 w (eG q1))⟩
 exact⟨S4,a4,kk⟩
def u3(S:Sat X h0 ns e ae h)(hL:L<=h.length)(rt:TsR X ns ae h ds ts)(qv:rss e ts=some vs)(ok:okA e ms ts=true)(hG:RF ms S2 G3)(q:G3 vs=.ok r mv)(hf:aU e ms ts=[]\/(kq r=true/\mv.all cJ=true)):
 Po X h0 ns e ae h (relE X h0 L ae) (S2 ds h) (.ok (r.tm ts) (aY (bg ms ts) (aJ ms mv) e)):=by
 have p:=hG _ _ ds vs h (by rw[j4 qv,iJ ok]) (rZ S rt qv ok);rw[q] at p;obtain⟨d,h',p1,a,rr⟩:=p;have K:=kX (vs:=vs) ok;have xcl:∀n,X n->n<h.length:=S.xl;cases r with
 |
  val v=>
  obtain⟨S3,rv⟩:=rr;obtain⟨S4,a4⟩:=S.back (Y:=X) K a (λn z=>⟨K_ (xcl n z) a.len,.inl z⟩) (λ_ z=>z) λj w n q1 q2=>by
   obtain⟨s,u,o,b1,b2,b3,b4,b5,b6,b7⟩:=S3.own q2;rw[q1] at b1;cases b1;cases b3;rcases hf with hf |hf
   .exact⟨o,b5,b6,b7.mono λm o' z y=>⟨ja X (λ_ z=>.inl z) hf z.1 z.2,y⟩⟩
   .exact⟨o,b5,b6,b7.flat (NY.mp hf.2 w (eG q1))⟩
  refine⟨d,h',ns,p1,a4,S4,?_⟩;rcases hf with hf |hf
  .exact rv.mono λm o' z y=>⟨ja X (λ_ z=>.inl z) hf z.1 z.2,y⟩
  .exact rv.flat hf.1
 |
  new v=>
  obtain⟨n,o,z1,z2,z3,z4,z5,S3,z7⟩:=rr;obtain⟨S4,a4,r4⟩:=rJ S ok a hf z2 z4 S3;refine⟨d,h',ns,p1,a4,S4.weak λ_ z=>.inl z,n,o,z1,J_ hL z2,λy=>by have:=xcl n y;omega,z4,z5,S4,?_⟩;rcases hf with hf |hf
  .exact z7.mono λm o' z y=>⟨r4 hf m z,y⟩
  .exact z7.flat hf.1
 |
  pr v u=>
  obtain⟨d1,n,o,rfl,z2,z3,z4,z5,S3,z6,z7⟩:=rr;obtain⟨S4,a4,r4⟩:=rJ S ok a hf z2 z4 S3;have on:Oc X ns n:=⟨λy=>by have:=xcl n y;omega,λy=>by obtain⟨i,y⟩:=aW.mp y;exact S4.nx i n y (.inr rfl)⟩;have wk:Mov (Oc (Xn X n) ns) (Oc X ns) h' h':=λm o' z y=>⟨⟨λc=>z.1 (.inl c),z.2⟩,y⟩;refine⟨_,h',ns,p1,a4,S4.weak λ_ z=>.inl z,.tup (.cons ?_ (.cons (.cell on z4 ?_) .nil))⟩
  .rcases hf with hf |hf
   .exact (z6.mono λm o' z y=>⟨r4 hf m z,y⟩).mono wk
   .exact z6.flat (C_ _ _ ▸ hf.1).1
  .rcases hf with hf |hf
   .exact (z7.mono λm o' z y=>⟨r4 hf m z,y⟩).mono wk
   .exact z7.flat (C_ _ _ ▸ hf.1).2
 |
  par i=>
  obtain⟨S3,w1,w,w2⟩:=rr;obtain⟨S4,a4⟩:=S.back (Y:=X) K a (λn z=>⟨K_ (xcl n z) a.len,.inl z⟩) (λ_ z=>z) λj w n q1 q2=>by
   obtain⟨s,u,o,b1,b2,b3,b4,b5,b6,b7⟩:=S3.own q2;rw[q1] at b1;cases b1;cases b3;rcases hf with hf |hf
   .exact⟨o,b5,b6,b7.mono λm o' z y=>⟨ja X (λ_ z=>.inl z) hf z.1 z.2,y⟩⟩
   .exact⟨o,b5,b6,b7.flat (NY.mp hf.2 w (eG q1))⟩
  refine⟨d,h',ns,p1,a4,S4,?_⟩;obtain⟨u,x1,_⟩:=a.mu i w w2;obtain⟨b,u',x2,_,x3⟩:=eI x1;cases b with
  |false=>cases x3
  |
   true=>
   obtain⟨k,y1,_⟩:=j9 ok x2;obtain⟨d',y2,z⟩:=rt.get y1;have e1:(Rt.par i).tm ts=.bor k:=by show (ts[i]?).getD _=_;rw[y1];rfl
   rw[e1];rcases z with ⟨_,z,_⟩ |⟨j,z,z2⟩
   .cases z
   .cases z;rw[N4,y2] at w1;cases w1;exact z2
def An(S:Sat X h0 ns e ae h)(rt:TsR X ns ae h ds ts)(qv:rss e ts=some vs)(ok:okA e ms ts=true)(hG:RF ms S2 G3)(q:G3 vs=.exc c mv)(hf:aU e ms ts=[]\/mv.all cJ=true):
 Po X h0 ns e ae h (relE X h0 L ae) (S2 ds h) (.exc c (aY (bg ms ts) (aJ ms mv) e)):=by
 have p:=hG _ _ ds vs h (by rw[j4 qv,iJ ok]) (rZ S rt qv ok);rw[q] at p;obtain⟨h',p1,a,S3⟩:=p;have K:=kX (vs:=vs) ok;obtain⟨S4,a4⟩:=S.back (Y:=X) K a (λn z=>⟨K_ (S.xl n z) a.len,.inl z⟩) (λ_ z=>z) λj w n q1 q2=>by
  obtain⟨s,u,o,b1,b2,b3,b4,b5,b6,b7⟩:=S3.own q2;rw[q1] at b1;cases b1;cases b3;rcases hf with hf |hf
  .exact⟨o,b5,b6,b7.mono λm o' z y=>⟨ja X (λ_ z=>.inl z) hf z.1 z.2,y⟩⟩
  .exact⟨o,b5,b6,b7.flat (NY.mp hf w (eG q1))⟩
 exact⟨h',ns,p1,a4,S4⟩
def D4(hn:n=ms.length)(hG:RF ms S2 G3)(hA:RA A A3):RE (wV n S2 A) (C8 ms G3 A3):=λX h0 L ns e ae h S hl=>
 Po.bind
  S (hA X h0 ns e ae h S) λds ts h1 ns1 e1 a1 S1 r1=>by
  try dsimp only
  cases qv:rss e1 ts with
  |none=>trivial
  |
   some vs=>
   dsimp only;by_cases ok:okA e1 ms ts=true
   .rw[if_pos ok];have d_:ds.length=n:=by rw[hn,iJ ok];exact TsR.len r1
    rw[if_pos d_];have hL:L<=h1.length:=J_ hl a1.len;cases q:G3 vs with
    |stuck=>trivial
    |
     exc c mv=>
     dsimp only;by_cases hf:((aU e1 ms ts).isEmpty || mv.all cJ)=true
     .rw[if_pos hf];refine An S1 r1 qv ok hG q ?_;rw[Bool.or_eq_true] at hf;rcases hf with hf |hf
      .exact .inl (List.isEmpty_iff.mp hf)
      .exact .inr hf
     .rw[if_neg hf];trivial
    |
     ok r mv=>
     dsimp only;by_cases hf:((aU e1 ms ts).isEmpty || (kq r&&mv.all cJ))=true
     .rw[if_pos hf];refine u3 S1 hL r1 qv ok hG q ?_;rw[Bool.or_eq_true,C_] at hf;rcases hf with hf |hf
      .exact .inl (List.isEmpty_iff.mp hf)
      .exact .inr hf
     .rw[if_neg hf];cases qd:nz e1 (aU e1 ms ts) with
      |none=>trivial
      |
       some e2=>
       dsimp only;obtain⟨j_,S2',a2,k1,k2,k3⟩:=qN S1 (λi hi=>by
        obtain⟨k,_,y⟩:=kZ hi;obtain⟨d,_,z⟩:=r1.get y;rcases z with ⟨_,z,_⟩ |⟨j,z,z2⟩
        .cases z
        .cases z;exact⟨d,z2⟩) qd
       have ok2:okA e2 ms ts=true:=oO (λk i q1 q2=>k1 i λz=>by
        obtain⟨k',y1,y2⟩:=kZ z
        have:=iV ok q1 q2 y2
        subst this;rw[q1] at y1;cases y1) ok
       have ln:aU e2 ms ts=[]:=sU λk i q1 q2=>by
        by_cases z:i∈aU e1 ms ts
        .exact k2 i z
        .rw[k1 i z];exact Pp λw=>z (lC q1 q2 λv y=>w ⟨v,y⟩)
       have pp:=u3 (L:=L) S2' hL (r1.stp S1 a2) (by rw[oW k3];exact qv) ok2 hG q (.inl ln);obtain⟨d,h',ns',y,y1,y2,y3⟩:=pp;exact⟨d,h',ns',y,a2.trans S1 y1,y2,y3⟩
   .rw[if_neg ok];trivial
end
def RMv(m2:D->List D->AH->R D)(m3:Val->List Val->Bv):Prop:=∀P h d v ds vs,ShR P h d v->d4 v=true->ShRs P h ds vs->BvR P h (m2 d ds h) (m3 v vs)
noncomputable def CF(m:Val->List Val->Bv)(F:ME3)(A:MA3):ME3:=λe=>(F e).bind λt e1=>if (rs e1 t).map d4=some true then (A e1).bind λts e2=>(match rs e2 t.drop,rss e2 ts with
 |some v,some vs=>if d4 v=true then (m v vs).at e2 else .stuck
 |_,_=>.stuck) else .stuck
def AU(r:ShR P h d v)(q:d4 v=true):kD h d=true:=by
 cases v with
 |lst xs=>obtain⟨n,ds,rfl,_,e1,_⟩:=r.lst;show (aR h n).isSome=true;rw[e1];rfl
 |_=>cases q
def Fw(hm:RMv m2 m3)(hF:RE F F3)(hA:RA A A3):RE (eM m2 F A) (CF m3 F3 A3):=λX h0 L ns e ae h S hl=>
 Po.bind
  S (hF X h0 L ns e ae h S hl) λd t h1 ns1 e1 a1 S1 r1=>by
  try dsimp only
  split
  .by_cases hq:(rs e1 t).map d4=some true
   .rw[if_pos hq];refine Po.bind S1 (hA X h0 ns1 e1 ae h1 S1) λds ts h2 j_ e2 a2 S2 r2=>?_;try dsimp only
    split
    .rename_i v vs q1 q2;obtain⟨r1',hn⟩:=r1.drop;by_cases hv:d4 v=true
     .rw[if_pos hv];exact BvR.po S2 (J_ hl (J_ a1.len a2.len)) (hm _ _ _ _ _ _ ((r1'.stp S1 a2 hn).sh S2 q1) hv (TsR.sh S2 r2 q2))
     .rw[if_neg hv];trivial
    .trivial
   .rw[if_neg hq];trivial
  .rename_i hL;by_cases hq:(rs e1 t).map d4=some true
   .obtain⟨v,z1,z2⟩:=N0.mp hq;exact absurd (AU (r1.sh S1 z1) z2) hL
   .rw[if_neg hq];trivial
noncomputable def aI(f:Int->Int->Val):Val->Val->Bv:=λx y=>match x,y with
 |.int i,.int j=>.val (f i j)
 |_,_=>.stuck
open Classical in
def aIc(C:Int->Int->Prop)(f:Int->Int->Val):Val->Val->Bv:=λx y=>match x,y with
 |.int i,.int j=>if C i j then .val (f i j) else .stuck
 |_,_=>.stuck
noncomputable def we:Val->Val->Bv:=λx y=>match x,y with
 |.lst xs,.lst ys=>if xs.length+ys.length<=16777216 then .new (.lst (xs++ys)) else .stuck
 |.tup xs,.tup ys=>if xs.length+ys.length<=16777216 then .val (.tup (xs++ys)) else .stuck
 |_,_=>.stuck
noncomputable def AW:Val->Val->Bv:=λx y=>match x,y with
 |.int i,.int j=>.val (.int (i+j))
 |x,y=>we x y
def vz:=aIc CMulA λi j=>.int (i*j)
def xm:=aIc CDivB λi j=>.int (i.fdiv j)
def xh:=aIc (λ_ j=>j≠0) λi j=>.int (i.fmod j)
def vT:=aIc nU λi j=>.int (i^j.toNat)
noncomputable def aLt:=aI λi j=>.bl (decide (i<j))
noncomputable def aGt:=aI λi j=>.bl (decide (j<i))
noncomputable def aGe:=aI λi j=>.bl (decide (j<=i))
noncomputable def BI:Val->Bv:=λx=>match x with
 |.int i=>.val (.int (-i))
 |_=>.stuck
def Bz:Val->Val->Bv:=λx y=>match x,y with
 |.lst xs,.int k=>if -(2^63)<=k/\k<2^63/\xs.length*k.toNat<=16777216 then .new (.lst (List.replicate k.toNat xs).flatten) else .stuck
 |_,_=>.stuck
noncomputable def aIx:Val->Val->Bv:=λx y=>match x.items,y with
 |some xs,.int i=>(match atI xs i with
  |some v=>.val v
  |none=>.stuck)
 |_,_=>.stuck
section
def w6(hr:∀i j P h,Rd P h (f2 i j) (f3 i j)):RO (gI f2) (aI f3):=λP h d1 d2 v1 v2 r1 r2=>by
 unfold aI;split
 .obtain rfl:=r1.int;obtain rfl:=r2.int;exact⟨_,rfl,hr _ _ P h⟩
 .trivial
def qh(hr:∀i j P h,Rd P h (f2 i j) (f3 i j)):RO (gIc C f2) (aIc C f3):=λP h d1 d2 v1 v2 r1 r2=>by
 unfold aIc;split
 .obtain rfl:=r1.int;obtain rfl:=r2.int;split
  .rename_i hc;exact⟨_,by unfold gIc;dsimp only;rw[if_pos hc],hr _ _ P h⟩
  .trivial
 .trivial
def Kk:RO lU we:=λP h d1 d2 v1 v2 r1 r2=>by
 unfold we;split
 .obtain⟨n,ds,rfl,e1,_,q1⟩:=r1.lst;obtain⟨m,es,rfl,e2,_,q2⟩:=r2.lst;split
  .rename_i hl;exact⟨.lst (ds++es),by unfold lU;dsimp only;rw[e1,e2];dsimp only;rw[if_pos (by rw[q1.len,q2.len];exact hl)],trivial,.lst (q1.append q2)⟩
  .trivial
 .obtain⟨ds,rfl,q1⟩:=r1.tup;obtain⟨es,rfl,q2⟩:=r2.tup;split
  .rename_i hl;exact⟨_,by unfold lU;dsimp only;rw[if_pos (by rw[q1.len,q2.len];exact hl)],.tup (q1.append q2)⟩
  .trivial
 .trivial
def II:RO wR AW:=λP h d1 d2 v1 v2 r1 r2=>by
 unfold AW;split
 .obtain rfl:=r1.int;obtain rfl:=r2.int;exact⟨_,rfl,.int _⟩
 .rename_i hn;have k:=Kk P h d1 d2 v1 v2 r1 r2;have e:wR d1 d2 h=lU d1 d2 h\/we v1 v2=.stuck:=by
   cases v1 <;> first |(right;rfl) |(left;skip)
   .obtain⟨ds,rfl,_⟩:=r1.tup;rfl
   .obtain⟨n,ds,rfl,_⟩:=r1.lst;rfl
  rcases e with e |e
  .rw[e];exact k
  .rw[e];trivial
def Hv:RO BS vz:=qh λ_ _ _ _=>.int _
def Ig:RO Cc xm:=qh λ_ _ _ _=>.int _
def JD:RO AX xh:=qh λ_ _ _ _=>.int _
def Hl:RO B0 vT:=qh λ_ _ _ _=>.int _
def Lk:RO gLt aLt:=w6 λ_ _ _ _=>.bl _
def Ms:RO gGt aGt:=w6 λ_ _ _ _=>.bl _
def LS:RO gGe aGe:=w6 λ_ _ _ _=>.bl _
def KA:RU wj BI:=λP h d v r=>by
 unfold BI;split
 .obtain rfl:=r.int;exact⟨_,rfl,.int _⟩
 .trivial
def Jx:RO rB Bz:=λP h d1 d2 v1 v2 r1 r2=>by
 unfold Bz;split
 .obtain⟨n,ds,rfl,e1,_,q1⟩:=r1.lst;obtain rfl:=r2.int;split
  .rename_i hl;exact⟨.lst (List.replicate _ ds).flatten,by unfold rB;dsimp only;rw[e1];dsimp only;rw[if_pos (by rw[q1.len];exact hl)],trivial,.lst (q1.rep _)⟩
  .trivial
 .trivial
def NM(r:Rds P h ds vs)(e:atI vs i=some v):∃d,atI ds i=some d/\Rd P h d v:=by
 unfold atI at e ⊢;rw[r.len];cases q:ixN vs.length i with
 |none=>rw[q] at e;cases e
 |some j=>rw[q] at e;exact r.get e
def Nc:RO gIx aIx:=λP h d1 d2 v1 v2 r1 r2=>by
 unfold aIx;split
 .rename_i xs i e1;obtain⟨ds,e2,q⟩:=r1.items e1;obtain rfl:=r2.int;split
  .rename_i v e3;obtain⟨d,e4,q2⟩:=NM q e3;exact⟨d,by unfold gIx;rw[e2];dsimp only;rw[e4],q2⟩
  .trivial
 .trivial
end
mutual
def cG:Nat->Val->Option PyData
 |0,_=>none
 |_+1,.non=>some .none
 |_+1,.bl b=>some (.bool b)
 |_+1,.int i=>some (.int i)
 |_+1,.str x=>some (.str x)
 |k+1,.tup xs=>(d8 k xs).map .tuple
 |k+1,.lst xs=>(d8 k xs).map .list
 |_+1,_=>none
def d8:Nat->List Val->Option (List PyData)
 |_,[]=>some []
 |k,x::xs=>match cG k x,d8 k xs with
  |some a,some b=>some (a::b)
  |_,_=>none
end
def zL(hk:∀d v pd,Rd P h d v->cG k v=some pd->cA k h d=some pd):∀{ds:List D}{vs:List Val}{ps:List PyData},Rds P h ds vs->d8 k vs=some ps->ds.mapM (cA k h)=some ps:=by
 intro ds;induction ds with
 |nil=>intro vs ps r q;cases r;unfold d8 at q;cases q;rfl
 |
  cons d0 ds ih=>
  intro vs ps r q;cases r with
  |
   cons r rr=>
   unfold d8 at q;split at q
   .rename_i a b e1 e2;cases q;rw[Pc,hk _ _ _ r e1,ih rr e2];rfl
   .cases q
theorem kr:∀(k:Nat) (d:D) (v:Val) (pd:PyData),ShR P h d v->cG k v=some pd->cA k h d=some pd
 |0,_,_,_,_,q=>by unfold cG at q;cases q
 |
  k+1,d,v,pd,r,q=>by
  have ih:∀{ds:List D}{vs:List Val}{ps:List PyData},Rds P h ds vs->d8 k vs=some ps->ds.mapM (cA k h)=some ps:=zL λd v pd r q=>kr k d v pd (.inl r) q;cases v with
  |non=>obtain rfl:=r.non;simp only[cG] at q;cases q;rfl
  |bl b=>obtain rfl:=r.bl;simp only[cG] at q;cases q;rfl
  |int b=>obtain rfl:=r.int;simp only[cG] at q;cases q;rfl
  |str b=>obtain rfl:=r.str;simp only[cG] at q;cases q;rfl
  |tup xs=>obtain⟨ds,rfl,r2⟩:=r.tup;simp only[cG] at q;obtain⟨ps,q1,rfl⟩:=N0.mp q;show (ds.mapM (cA k h)).map PyData.tuple=_;rw[ih r2 q1];rfl
  |lst xs=>obtain⟨n,ds,rfl,_,e1,r2⟩:=r.lst;simp only[cG] at q;obtain⟨ps,q1,rfl⟩:=N0.mp q;unfold cA;rw[e1];show (ds.mapM (cA k h)).map PyData.list=_;rw[ih r2 q1];rfl
  |_=>simp only[cG] at q;cases q
noncomputable def cm(x y:Val):Option Bool:=match cG 164 x,cG 164 y with
 |some a,some b=>if shp a=true/\shp b=true then some (PyData.eqv a b) else none
 |_,_=>none
noncomputable def aEq(o_:Bool):Val->Val->Bv:=λx y=>match cm x y with
 |some b=>.val (.bl (if o_ then !b else b))
 |none=>.stuck
def yr(r1:ShR P h d1 v1)(r2:ShR P h d2 v2)(q:cm v1 v2=some b):jN h d1 d2=some b:=by
 unfold cm at q;split at q
 .rename_i a c e1 e2;unfold jN;rw[kr 164 _ _ _ r1 e1,kr 164 _ _ _ r2 e2];exact q
 .cases q
def CC(o_:Bool):RO (gEq o_) (aEq o_):=λP h d1 d2 v1 v2 r1 r2=>by
 unfold aEq;split
 .rename_i b q;exact⟨_,by unfold gEq;rw[yr r1 r2 q],.bl _⟩
 .trivial
noncomputable def nh:Val->Bool
 |.non=>true
 |.bl _=>true
 |.int _=>true
 |.str _=>true
 |_=>false
noncomputable def vF:Val->V
 |.bl b=>.bl b
 |.int i=>.int i
 |.str x=>.str x
 |_=>.non
noncomputable def eq1(x y:Val):Bool:=eqV (vF x) (vF y)
noncomputable def aIn(o_:Bool):Val->Val->Bv:=λx y=>match y.items with
 |some xs=>if nh x=true/\xs.all nh=true then .val (.bl (if o_ then !(xs.any λd=>eq1 d x) else xs.any λd=>eq1 d x)) else .stuck
 |none=>.stuck
def uj(r:ShR P h d v)(f:nh v=true):kF d=true/\toV d=vF v:=by
 cases v with
 |non=>obtain rfl:=r.non;exact⟨rfl,rfl⟩
 |bl b=>obtain rfl:=r.bl;exact⟨rfl,rfl⟩
 |int b=>obtain rfl:=r.int;exact⟨rfl,rfl⟩
 |str b=>obtain rfl:=r.str;exact⟨rfl,rfl⟩
 |_=>cases f
def Bi(x:D)(y:Val)(hx:toV x=vF y):∀{ds:List D}{vs:List Val},Rds P h ds vs->vs.all nh=true->ds.all kF=true/\(ds.any λd=>eqF d x)=vs.any λd=>eq1 d y:=by
 intro ds;induction ds with
 |nil=>intro vs r f;cases r;exact⟨rfl,rfl⟩
 |
  cons d0 ds ih=>
  intro vs r f;cases r with
  |cons r rr=>rw[ON,C_] at f;obtain⟨h1,h2⟩:=uj (.inl r) f.1;obtain⟨h3,h4⟩:=ih rr f.2;refine⟨by rw[ON,h1,h3];rfl,?_⟩;rw[OF,OF,h4];unfold eqF eq1;rw[h2,hx]
def CO(o_:Bool):RO (gIn o_) (aIn o_):=λP h d1 d2 v1 v2 r1 r2=>by
 unfold aIn;split
 .rename_i xs e;obtain⟨ds,e2,q⟩:=r2.items e;split
  .rename_i hf;obtain⟨f1,f2⟩:=uj r1 hf.1;obtain⟨f3,f4⟩:=Bi d1 v1 f2 q hf.2;exact⟨_,by unfold gIn;rw[e2];dsimp only;rw[if_pos ⟨f1,f3⟩,f4],.bl _⟩
  .trivial
 .trivial
noncomputable def xk(o_:Bool):Val->Val->Bv:=λx y=>match x,y with
 |.non,.non=>.val (.bl (!o_))
 |_,.non=>.val (.bl o_)
 |_,_=>.stuck
def zm(o_:Bool):RO (jS o_) (xk o_):=λP h d1 d2 v1 v2 r1 r2=>by
 unfold xk;split
 .obtain rfl:=r1.non;obtain rfl:=r2.non;exact⟨_,rfl,.bl _⟩
 .rename_i hn;obtain rfl:=r2.non;have:d1 ≠ .non:=by
   rintro rfl;rcases r1 with r |⟨n,o,z,_⟩
   .cases r;exact hn rfl
   .cases z
  refine⟨_,?_,.bl o_⟩;unfold jS;split
  .exact absurd rfl this
  .rfl
  .rename_i h1 h2;exact (h1 rfl).elim
 .trivial
noncomputable def Bp:List Val->Bv:=λvs=>match vs with
 | [v]=>(match v.items with
  |some xs=>.val (.int xs.length)
  |none=>(match v with
   |.str z=>if z.length<=16777216 then .val (.int z.length) else .stuck
   |_=>.stuck))
 |_=>.stuck
noncomputable def zS:List Val->Bv:=λvs=>match vs with
 | [.int i]=>.val (.int (if i<0 then -i else i))
 |_=>.stuck
noncomputable def vO:List Val->Bv:=λvs=>match vs with
 | [.int i,.int j]=>.val (.int (if j<i then j else i))
 |_=>.stuck
noncomputable def jR:List Val->Option (List Bool)
 | []=>some []
 |.bl b::r=>(jR r).map (b :: ·)
 |_=>none
noncomputable def jy:List Val->Option (List Int)
 | []=>some []
 |.int b::r=>(jy r).map (b :: ·)
 |_=>none
noncomputable def Bj:List Val->Bv:=λvs=>match vs with
 | [.lst xs]=>(match jR xs with
  |some bs=>.val (.bl (bs.all id))
  |none=>.stuck)
 |_=>.stuck
noncomputable def A5:List Val->Bv:=λvs=>match vs with
 | [.lst xs]=>(match jy xs with
  |some bs=>.val (.int bs.sum)
  |none=>.stuck)
 |_=>.stuck
noncomputable def vA:List Val->Bv:=λvs=>match vs with
 | [v]=>(match v.items with
  |some xs=>.new (.lst xs)
  |none=>.stuck)
 |_=>.stuck
def tH:List Val->Bv:=λvs=>match vs with
 | [v]=>(match v.items with
  |some xs=>.val (.tup xs)
  |none=>.stuck)
 |_=>.stuck
noncomputable def Cg:List Val->Bv:=λvs=>match vs with
 | [.int i]=>.val (.int i)
 | [.bl b]=>.val (.int (if b then 1 else 0))
 |_=>.stuck
def Hc:RFn rP Bp:=λP h ds vs r=>by
 unfold Bp;split
 .obtain⟨d,hd,rr1⟩:=eA r;subst hd;clear r;have r:=rr1;split
  .rename_i xs e;obtain⟨es,e2,q⟩:=r.items e;exact⟨_,by unfold rP;dsimp only;rw[e2],by rw[<- q.len];exact .int _⟩
  .split
   .rename_i z _;obtain rfl:=r.str;split
    .rename_i hl;exact⟨_,by show (if z.length<=16777216 then _ else _)=_;rw[if_pos hl],.int _⟩
    .trivial
   .trivial
 .trivial
def HL:RFn wZ zS:=λP h ds vs r=>by
 unfold zS;split
 .obtain⟨d,hd,rr1⟩:=eA r;subst hd;clear r;have r:=rr1;obtain rfl:=r.int;exact⟨_,rfl,.int _⟩
 .trivial
def DP:RFn p9 vO:=λP h ds vs r=>by
 unfold vO;split
 .obtain⟨d,d',hd,rr1,r'⟩:=vW r;subst hd;clear r;have r:=rr1;obtain rfl:=r.int;obtain rfl:=r'.int;exact⟨_,rfl,.int _⟩
 .trivial
def KY:∀{ds:List D}{vs:List Val}{bs:List Bool},Rds P h ds vs->jR vs=some bs->gZ ds=some bs:=by
 intro ds;induction ds with
 |nil=>intro vs bs r q;cases r;cases q;rfl
 |
  cons d0 ds ih=>
  intro vs bs r q;cases r with
  |
   cons r rr=>
   rename_i v vs;cases v with
   |bl b=>obtain rfl:=ShR.bl (.inl r);obtain⟨b',q1,rfl⟩:=N0.mp (show (jR vs).map (b :: ·)=some bs from q);show (gZ _).map (b :: ·)=_;rw[ih rr q1];rfl
   |_=>cases q
def JV:∀{ds:List D}{vs:List Val}{bs:List Int},Rds P h ds vs->jy vs=some bs->fQ ds=some bs:=by
 intro ds;induction ds with
 |nil=>intro vs bs r q;cases r;cases q;rfl
 |
  cons d0 ds ih=>
  intro vs bs r q;cases r with
  |
   cons r rr=>
   rename_i v vs;cases v with
   |int b=>obtain rfl:=ShR.int (.inl r);obtain⟨b',q1,rfl⟩:=N0.mp (show (jy vs).map (b :: ·)=some bs from q);show (fQ _).map (b :: ·)=_;rw[ih rr q1];rfl
   |_=>cases q
def Kx:RFn rA Bj:=λP h ds vs r=>by
 unfold Bj;split
 .obtain⟨d,hd,rr1⟩:=eA r;subst hd;clear r;have r:=rr1;obtain⟨n,es,rfl,_,e1,q⟩:=r.lst;split
  .rename_i bs e2;exact⟨_,by unfold rA;dsimp only;rw[e1];show (match gZ es with |some bs=>_ |none=>_)=_;rw[KY q e2],.bl _⟩
  .trivial
 .trivial
def J9:RFn rH A5:=λP h ds vs r=>by
 unfold A5;split
 .obtain⟨d,hd,rr1⟩:=eA r;subst hd;clear r;have r:=rr1;obtain⟨n,es,rfl,_,e1,q⟩:=r.lst;split
  .rename_i bs e2;exact⟨_,by unfold rH;dsimp only;rw[e1];show (match fQ es with |some bs=>_ |none=>_)=_;rw[JV q e2],.int _⟩
  .trivial
 .trivial
def EE:RFn mZ vA:=λP h ds vs r=>by
 unfold vA;split
 .obtain⟨d,hd,rr1⟩:=eA r;subst hd;clear r;have r:=rr1;split
  .rename_i xs e;obtain⟨es,e2,q⟩:=r.items e;exact⟨.lst es,by unfold mZ;dsimp only;rw[e2],trivial,.lst q⟩
  .trivial
 .trivial
def zJ:RFn j0 tH:=λP h ds vs r=>by
 unfold tH;split
 .obtain⟨d,hd,rr1⟩:=eA r;subst hd;clear r;have r:=rr1;split
  .rename_i xs e;obtain⟨es,e2,q⟩:=r.items e;exact⟨_,by unfold j0;dsimp only;rw[e2],.tup q⟩
  .trivial
 .trivial
def IL:RFn wm Cg:=λP h ds vs r=>by
 unfold Cg;split
 .obtain⟨d,hd,rr1⟩:=eA r;subst hd;clear r;have r:=rr1;obtain rfl:=r.int;exact⟨_,rfl,.int _⟩
 .obtain⟨d,hd,rr1⟩:=eA r;subst hd;clear r;have r:=rr1;obtain rfl:=r.bl;exact⟨_,rfl,.int _⟩
 .trivial
noncomputable def tyC:Val->Option Cl
 |.non=>some (.b "NoneType")
 |.bl _=>some (.b "bool")
 |.int _=>some (.b "int")
 |.str _=>some (.b "str")
 |.tup _=>some (.b "tuple")
 |.exc x=>some (.o x)
 |.lst _=>some (.b "list")
 |.dct _=>some (.b "dict")
 |_=>none
noncomputable def clV:Val->Option Cl
 |.ty n=>some (.b n)
 |.glb x=>some (.o x)
 |_=>none
noncomputable def wb:List Val->Option (List Cl)
 | []=>some []
 |v::vs=>match clV v,wb vs with
  |some c,some cs=>some (c::cs)
  |_,_=>none
noncomputable def Lw:Val->Option (List Cl)
 |.tup cs=>wb cs
 |v=>(clV v).map ([·])
noncomputable def Ay(kt:jh):List Val->Bv:=λvs=>match vs with
 | [v,c]=>(match tyC v,Lw c with
  |some t,some (c0::cr)=>(match fj kt t (c0::cr),kit kt t c0 with
   |some b,some _=>.val (.bl b)
   |_,_=>.stuck)
  |_,_=>.stuck)
 |_=>.stuck
def K0(r:ShR P h d v)(q:tyC v=some t):tyD h d=some t:=by
 cases v with
 |non=>obtain rfl:=r.non;exact q
 |bl b=>obtain rfl:=r.bl;exact q
 |int b=>obtain rfl:=r.int;exact q
 |str b=>obtain rfl:=r.str;exact q
 |exc b=>obtain rfl:=r.exc;exact q
 |tup b=>obtain⟨ds,rfl,_⟩:=r.tup;exact q
 |lst b=>obtain⟨n,ds,rfl,e,_⟩:=r.lst;unfold tyD;dsimp only;rw[e];exact q
 |dct b=>obtain⟨n,ds,rfl,e,_⟩:=r.dct;unfold tyD;dsimp only;rw[e];exact q
 |_=>cases q
def CJ(r:ShR P h d v)(q:clV v=some c):clD d=some c:=by
 cases v with
 |ty b=>obtain rfl:=r.ty;exact q
 |glb b=>obtain rfl:=r.glb;exact q
 |_=>cases q
def Gd:∀{ds:List D}{vs:List Val}{cs:List Cl},Rds P h ds vs->wb vs=some cs->ds.mapM clD=some cs:=by
 intro ds;induction ds with
 |nil=>intro vs cs r q;cases r;cases q;rfl
 |
  cons d0 ds ih=>
  intro vs cs r q;cases r with
  |
   cons r rr=>
   unfold wb at q;split at q
   .rename_i c cs' e1 e2;cases q;rw[Pc,CJ (.inl r) e1,ih rr e2];rfl
   .cases q
def Gi(kt:jh):RFn (rD kt) (Ay kt):=λP h ds vs r=>by
 unfold Ay;split
 .rename_i v c;obtain⟨d,d',rfl,r1,r2⟩:=vW r;split
  .rename_i t c0 cr e1 e2;have e3:=K0 r1 e1;split
   .rename_i b b' e4 e5;refine⟨.bl b,?_,.bl b⟩;unfold rD;dsimp only;rw[e3];dsimp only;by_cases ht:∃cs,c=.tup cs
    .obtain⟨cs,rfl⟩:=ht;obtain⟨es,rfl,q⟩:=r2.tup;dsimp only;rw[Gd q e2];dsimp only;rw[e4,e5]
    .have e2':(clV c).map ([·])=some (c0::cr):=by
      cases c with
      |tup cs=>exact absurd ⟨cs,rfl⟩ ht
      |_=>exact e2
     obtain⟨cl,y1,y2⟩:=N0.mp e2';cases y2;have y3:=CJ r2 y1;have hd:∀cs,d' ≠ .tup cs:=λcs z=>by subst z;cases y3
     split
     .rename_i cs;exact absurd rfl (hd cs)
     .rw[y3];dsimp only;have:kit kt t c0=some b:=by
       unfold fj at e4;rw[e5] at e4 ⊢;cases b' with
       |true=>exact e4
       |false=>unfold fj at e4;exact e4
      rw[this]
   .trivial
  .trivial
 .trivial
noncomputable def fc(xs:List Val)(lo hi:Option Int):List Val:=(xs.drop (HT.sIx xs.length 0 lo)).take (HT.sIx xs.length xs.length hi-HT.sIx xs.length 0 lo)
abbrev MO3:=E3->R3 (Option Int)
def Af(_:Ns)(_:E3)(_:AH)(b c:Option Int):Prop:=b=c
def ROp(F:MO)(G:MO3):Prop:=∀X h0 ns e ae h,Sat X h0 ns e ae h->Po X h0 ns e ae h Af (F ae h) (G e)
noncomputable def yO:MO3:=λe=>.ok none e
noncomputable def zx(F:ME3):MO3:=λe=>(F e).bind λt e1=>match rs e1 t with
 |some (.int i)=>.ok (some i) e1
 |_=>.stuck
noncomputable def aSl(x:Val)(lo hi:Option Int):Bv:=match x with
 |.tup xs=>if HT.sIx xs.length 0 lo=0/\HT.sIx xs.length xs.length hi=xs.length then .stuck else .val (.tup (fc xs lo hi))
 |.lst xs=>.new (.lst (fc xs lo hi))
 |.kl xs=>.new (.lst (fc xs lo hi))
 |_=>.stuck
noncomputable def vSl(F:ME3)(L U:MO3):ME3:=λe=>(F e).bind λt e1=>(L e1).bind λlo e2=>(U e2).bind λhi e3=>match rs e3 t.drop with
 |some v=>(aSl v lo hi).at e3
 |none=>.stuck
def E1:ROp wq yO:=λX h0 ns e ae h S=>Po.ret S rfl
def Ej(hF:RE F F3):ROp (xp F) (zx F3):=λX h0 ns e ae h S=>
 Po.bind S (hF X h0 0 ns e ae h S (Oa _)) λd t h1 ns1 e1 a1 S1 r1=>by
  by_cases hq:∃i,rs e1 t=some (.int i)
  .obtain⟨i,hq⟩:=hq;have hd:=(r1.sh S1 hq).int;subst hd;show Po X h0 ns1 e1 ae h1 Af (R.ok (some i) h1) (match rs e1 t with |some (.int i)=>R3.ok (some i) e1 |_=>.stuck);rw[hq];exact Po.ret S1 rfl
  .have:(match rs e1 t with |some (.int i)=>R3.ok (some i) e1 |_=>.stuck)=(.stuck:R3 (Option Int)):=by
    split
    .rename_i i q;exact absurd ⟨i,q⟩ hq
    .rfl
   show Po X h0 ns1 e1 ae h1 Af _ (match rs e1 t with |some (.int i)=>R3.ok (some i) e1 |_=>.stuck);rw[this];trivial
def NT(hF:RE F F3)(hL:ROp L L3')(hU:ROp U U3):RE (eSl F L U) (vSl F3 L3' U3):=λX h0 LL ns e ae h S hl=>
 Po.bind
  S (hF X h0 LL ns e ae h S hl) λd t h1 ns1 e1 a1 S1 r1=>Po.bind S1 (hL X h0 ns1 e1 ae h1 S1) λlo lo' h2 j_ e2 a2 S2 r2=>Po.bind S2 (hU X h0 j_ e2 ae h2 S2) λhi hi' h3 ns3 e3 a3 S3 r3=>by
  cases r2;cases r3;obtain⟨r1',hn⟩:=r1.drop;have r4:=(r1'.stp S1 a2 hn).stp S2 a3 hn;try dsimp only
  split
  .rename_i v q;have rr:=r4.sh S3 q;refine BvR.po S3 (J_ hl (J_ a1.len (J_ a2.len a3.len))) ?_;unfold aSl;split
   .rename_i xs;obtain⟨ds,rfl,q1⟩:=rr.tup;split
    .trivial
    .rename_i hne;refine⟨_,by unfold gSl;dsimp only;rw[if_neg (by rw[q1.len];exact hne)],.tup ?_⟩;unfold L2.cutD fc;rw[q1.len];exact (q1.drop _).take _
   .rename_i xs;obtain⟨n,ds,rfl,_,e1,q1⟩:=rr.lst;refine⟨.lst (L2.cutD ds lo hi),by unfold gSl;dsimp only;rw[e1],trivial,.lst ?_⟩;unfold L2.cutD fc;rw[q1.len];exact (q1.drop _).take _
   .rename_i xs;have key:∃ds,gSl d lo hi h3=.ok (.ref h3.length) (h3++[.lst (L2.cutD ds lo hi)])/\Rds (Oc X ns3) h3 ds xs:=by
     rcases rr with rr |⟨n,o,rfl,e,rr⟩
     .cases rr with
      |kl q1=>exact⟨_,rfl,q1⟩
      |cell p e rc=>cases rc with |fz q1=>exact⟨_,by unfold gSl aR;dsimp only;rw[e],q1⟩
     .cases rr with |fz q1=>exact⟨_,by unfold gSl aR;dsimp only;rw[e],q1⟩
    obtain⟨ds,e1,q1⟩:=key;refine⟨.lst (L2.cutD ds lo hi),e1,trivial,.lst ?_⟩;unfold L2.cutD fc;rw[q1.len];exact (q1.drop _).take _
   .trivial
  .trivial
def oA:Val->List Val->Option (Val×Val):=λu vs=>match u,vs with
 |.lst xs,[v]=>if xs.length<16777216 then some (.lst (xs++[v]),.non) else none
 |_,_=>none
section
variable{P:Nat->Prop}{h:AH}
def CV(e:h[n]?=some o)(r:Rc P h o (.lst xs)):kD h (.ref n)=true/\∃ds,h[n]?=some (.lst ds)/\Rds P h ds xs/\∀f,lX h (.ref n) f=f n ds:=by obtain⟨ds,e1,e2,q⟩:=Rc.seq e r;refine⟨by show (aR h n).isSome=true;rw[e2];rfl,ds,e1,q,λf=>?_⟩;unfold lX;dsimp only;rw[e1]
def rds1(r:Rds P h ds [v]):∃d,ds=[d]/\Rd P h d v:=by cases r with |cons r rr=>cases rr;exact⟨_,rfl,r⟩
end
def xB:RM j5 oA:=λP h n o u ds vs u' v e hf r rs q=>by
 unfold oA at q;split at q
 .split at q
  .rename_i hl;cases q;obtain⟨q1,es,q2,q3,q4⟩:=CV e r;obtain⟨d,rfl,rd⟩:=rds1 rs;refine⟨q1,.lst (es++[d]),.non,?_,trivial,.lst (q3.append (.cons rd .nil)),.non⟩;unfold j5;rw[q4];dsimp only;rw[if_pos (by rw[q3.len];exact hl)]
  .cases q
 .cases q
noncomputable def sL:Val->Val->Val->Option Val:=λu i v=>match u,i with
 |.lst xs,.int k=>(match ixN xs.length k with
  |some j=>some (.lst (xs.set j v))
  |none=>none)
 |_,_=>none
def Ko:vy wL sL:=λP h n o u di vi d v u' _ e hf r ri rd q=>by
 unfold sL at q;split at q
 .split at q
  .rename_i j hj;cases q;obtain⟨q1,es,q2,q3,q4⟩:=CV e r;obtain rfl:=ri.int;refine⟨.lst (es.set j d),?_,trivial,.lst (q3.set rd j)⟩;unfold wL;dsimp only;rw[q2];dsimp only;rw[q3.len,hj]
  .cases q
 .cases q
noncomputable def tG(d:Val):List Val->Option (List Bool)
 | []=>some []
 |x::r=>match cm x d,tG d r with
  |some b,some bs=>some (b::bs)
  |_,_=>none
noncomputable def nI:Val->List Val->Bv:=λx vs=>match x,vs with
 |.lst xs,[d]=>(match tG d xs with
  |some bs=>if bs.idxOf true<bs.length then .val (.int (bs.idxOf true:Nat)) else .stuck
  |none=>.stuck)
 |_,_=>.stuck
def nA:Val->List Val->Bv:=λx vs=>match x,vs with
 |.lst xs,[d]=>if ((cG 164 d).map shp)=some true then (match tG d xs with
  |some bs=>.val (.int (bs.count true:Nat))
  |none=>.stuck) else .stuck
 |_,_=>.stuck
def Cw(rd:ShR P h d v):∀{ds:List D}{vs:List Val}{bs:List Bool},Rds P h ds vs->tG v vs=some bs->eN h d ds=some bs:=by
 intro ds;induction ds with
 |nil=>intro vs bs r q;cases r;cases q;rfl
 |
  cons d0 ds ih=>
  intro vs bs r q;cases r with
  |
   cons r rr=>
   unfold tG at q;split at q
   .rename_i b bs' e1 e2;cases q;unfold eN;rw[yr (.inl r) rd e1,ih rr e2]
   .cases q
def xE:RMv jU nI:=λP h d v ds vs r hv rs=>by
 unfold nI;split
 .rename_i xs w;obtain⟨n,es,rfl,_,e1,q⟩:=r.lst;obtain⟨d',rfl,r'⟩:=eA rs;split
  .rename_i bs eb;split
   .rename_i hl;refine⟨_,?_,.int _⟩;unfold jU;dsimp only;rw[e1];show (match eN h d' es with |some bs=>_ |none=>_)=_;rw[Cw r' q eb];dsimp only;rw[if_pos hl]
   .trivial
  .trivial
 .trivial
def yD:RMv kA nA:=λP h d v ds vs r hv rs=>by
 unfold nA;split
 .rename_i xs w;obtain⟨n,es,rfl,_,e1,q⟩:=r.lst;obtain⟨d',rfl,r'⟩:=eA rs;split
  .rename_i hs;obtain⟨pd,s1,s2⟩:=N0.mp hs;have s3:=kr 164 _ _ _ r' s1;split
   .rename_i bs eb;refine⟨_,?_,.int _⟩;unfold kA;dsimp only;rw[s3];rw[if_pos ⟨rfl,by show some (shp pd)=_;rw[s2]⟩];unfold m9;dsimp only;rw[e1];show (match eN h d' es with |some bs=>_ |none=>_)=_;rw[Cw r' q eb]
   .trivial
  .trivial
 .trivial
noncomputable def vD0:ME3:=λe=>.ok (.new (.dct [])) e
def ML:RE eD0 vD0:=λX h0 L ns e ae h S hl=>BvR.po (r:=eD0 ae h) (b:=.new (.dct [])) S hl ⟨.dct [],rfl,trivial,.dct .nil⟩
structure PEx where
 F:ME
 G:ME3
 ok:RE F G
structure PTs where
 F:MT
 G:MT3
 ok:RT F G
structure PAs where
 F:MA
 G:MA3
 ok:RA F G
structure PSt where
 F:MS
 G:MS3
 ok:RS F G
structure PGt where
 F:MG
 G:MG3
 ok:RG F G
structure PGs where
 F:MGs
 G:jm
 ok:RGs F G
structure PIt where
 F:MI
 G:MI3
 ok:RI F G
structure POp where
 F:MO
 G:MO3
 ok:ROp F G
structure PO2 where
 F:D->D->AH->R D
 G:Val->Val->Bv
 ok:RO F G
structure PU1 where
 F:D->AH->R D
 G:Val->Bv
 ok:RU F G
structure PBf where
 F:Fn
 G:List Val->Bv
 ok:RFn F G
structure PMm where
 F:D->List D->AH->R D
 G:Val->List Val->Option (Val×Val)
 ok:RM F G
structure PMv where
 F:D->List D->AH->R D
 G:Val->List Val->Bv
 ok:RMv F G
structure PSe where
 F:D->D->D->AH->R Unit
 G:Val->Val->Val->Option Val
 ok:vy F G
structure PFn where
 ms:List Bool
 F:Fn
 G:Fn3
 ok:RF ms F G
structure PFx(ms:List Bool) where
 F:Fn
 G:Fn3
 ok:RF ms F G
noncomputable section
noncomputable def PFx.fn{ms:List Bool}(p:PFx ms):PFn:=⟨ms,p.F,p.G,p.ok⟩
noncomputable def af(i:Nat):PEx:=⟨dM i,zR i,GG i⟩
noncomputable def ah(i:Int):PEx:=⟨eC (.int i),vC (.int i),lp λ_ _=>.int i⟩
noncomputable def pBl(i:Bool):PEx:=⟨eC (.bl i),vC (.bl i),lp λ_ _=>.bl i⟩
noncomputable def ar(i:Str):PEx:=⟨eC (.str i),vC (.str i),lp λ_ _=>.str i⟩
def eE:PEx:=⟨eC .non,vC .non,lp λ_ _=>.non⟩
noncomputable def pTy(i:String):PEx:=⟨eC (.ty i),vC (.ty i),lp λ_ _=>.ty i⟩
noncomputable def de(i:Str):PEx:=⟨eC (.glb i),vC (.glb i),lp λ_ _=>.glb i⟩
noncomputable def rE(d:D)(v:Val)(r:∀P h,Rd P h d v):PEx:=⟨eC d,vC v,lp r⟩
noncomputable def pUn(o:PU1)(a:PEx):PEx:=⟨eUn o.F a.F,vUn o.G a.G,Lj o.ok a.ok⟩
noncomputable def pOp(o:PO2)(a b:PEx):PEx:=⟨eOp o.F a.F b.F,vOp o.G a.G b.G,LH o.ok a.ok b.ok⟩
noncomputable def ag:PAs:=⟨kS,vNil,Jj⟩
noncomputable def aa(a:PEx)(r:PAs):PAs:=⟨jb a.F r.F,CL a.G r.G,Fb a.ok r.ok⟩
noncomputable def pFn(o:PBf)(a:PAs):PEx:=⟨eFn o.F a.F,vFn o.G a.G,KZ o.ok a.ok⟩
noncomputable def av(a:PAs):PEx:=⟨eFn mR a.F,vTup a.G,IC a.ok⟩
noncomputable def aK(a:PAs):PEx:=⟨eFn cQ a.F,vLst a.G,Hm a.ok⟩
noncomputable def fu(a b:PEx):PEx:=⟨Ah a.F b.F,vAnd a.G b.G,G0 a.ok b.ok⟩
noncomputable def qH(a:PEx):PEx:=⟨Ba a.F,vNot a.G,GV a.ok⟩
def pIf(c:PTs)(a b:PEx):PEx:=⟨eIf c.F a.F b.F,vIf c.G a.G b.G,Lv c.ok a.ok b.ok⟩
noncomputable def qOf(a:PEx):PTs:=⟨tOf a.F,cOf a.G,K5 a.ok⟩
noncomputable def qTr(a:PEx):PTs:=⟨tTr a.F,cTr a.G,Lf a.ok⟩
noncomputable def qAn(a b:PTs):PTs:=⟨tAn a.F b.F,cAn a.G b.G,Nh a.ok b.ok⟩
noncomputable def qO(a b:PTs):PTs:=⟨tO a.F b.F,cO a.G b.G,rt_o a.ok b.ok⟩
noncomputable def qNo(a:PTs):PTs:=⟨tNo a.F,cNo a.G,Mu a.ok⟩
noncomputable def qY:PTs:=⟨tY,cY,rt_y⟩
noncomputable def xNx:PSt:=⟨sNx,wNx,LX⟩
noncomputable def xCt:PSt:=⟨sCt,wCt,MQ⟩
noncomputable def aw(a:PEx):PSt:=⟨Ca a.F,wRet a.G,HJ a.ok⟩
noncomputable def bB(a:PEx):PSt:=⟨wA a.F,Cy a.G,Dm a.ok⟩
noncomputable def ao(a b:PSt):PSt:=⟨Ac a.F b.F,wSeq a.G b.G,GI a.ok b.ok⟩
noncomputable def xIf(c:PTs)(a b:PSt):PSt:=⟨sIf c.F a.F b.F,wIf c.G a.G b.G,L7 c.ok a.ok b.ok⟩
noncomputable def ay(o:Bool)(i:Nat)(a:PEx):PSt:=⟨fk a.F (gN i),wAsg o i a.G,JW o i a.ok⟩
noncomputable def gtN(i:Nat):PGt:=⟨gN i,pN i,xi i⟩
noncomputable def dw:PGs:=⟨gsN,psN,Lo⟩
noncomputable def aT(a:PGt)(b:PGs):PGs:=⟨gsC a.F b.F,psC a.G b.G,LU a.ok b.ok⟩
noncomputable def gtT(n:Nat)(a:PGs):PGt:=⟨gT λds ae h=>if ds.length=n then a.F ds ae h else .stuck,pT n a.G,rg_t n a.ok⟩
noncomputable def gtX(a:PGt):PGt:=⟨λd ae h=>noX (a.F d ae h),a.G,Gy a.ok⟩
noncomputable def gh(a:PEx)(g:PGt):PSt:=⟨fk a.F g.F,CH a.G g.G,E5 a.ok g.ok⟩
noncomputable def nM(i j:Nat)(a:PAs):PSt:=⟨tI i j a.F,wPar i j a.G,HG i j a.ok⟩
noncomputable def AI(i:Nat)(o:PO2)(a:PEx):PSt:=⟨sf i o.F a.F,Ci i o.G a.G,Jl i o.ok a.ok⟩
noncomputable def ek(c:Str)(a:PAs):PSt:=⟨qM c a.F,zo c a.G,BA c a.ok⟩
noncomputable def fS(i:Nat)(w:PSe)(k a:PEx):PSt:=⟨fk a.F (gS (dM i) k.F w.F),wSet i k.G a.G w.G,HK i w.ok k.ok a.ok⟩
def wF(mro:List Str)(i:Nat)(b u:PSt):PSt:=⟨sG mro i b.F u.F,nN mro i b.G u.G,Ki mro i b.ok u.ok⟩
noncomputable def eU(i:Nat)(m:PMm)(a:PAs):PEx:=⟨eM m.F (dM i) a.F,By i m.G a.G,Jv i m.ok a.ok⟩
noncomputable def qc(m:PMv)(a:PEx)(b:PAs):PEx:=⟨eM m.F a.F b.F,CF m.G a.G b.G,Fw m.ok a.ok b.ok⟩
noncomputable def cu(a:PEx):PIt:=⟨Bm a.F,C1 a.G,GP a.ok⟩
def ke(a:PAs):PIt:=⟨BQ a.F,qR gy a.G,He a.ok⟩
def vZ(a:PAs):PIt:=⟨AR a.F,qR n8 a.G,Kg a.ok⟩
def wI(a:PAs):PIt:=⟨Bq a.F,CP a.G,HX a.ok⟩
noncomputable def vN(a:PAs):PIt:=⟨BU a.F,C2 a.G,FZ a.ok⟩
def fH(i:PIt)(g:PGt)(b:PSt):PSt:=⟨As i.F g.F b.F,wFor i.G g.G b.G,Jz i.ok g.ok b.ok⟩
def xWh(c:PTs)(b:PSt):PSt:=⟨sWh c.F b.F,wWh c.G b.G,MB c.ok b.ok⟩
def pLC(i:PIt)(sub:Qk)(hs:(sub.filterMap id).Nodup)(g:PGt)(c:PTs)(a:PEx):PEx:=⟨eLC i.F sub g.F c.F a.F,vLC i.G sub g.G c.G a.G,Lm hs i.ok g.ok c.ok a.ok⟩
noncomputable def ai(f:PFn)(a:PAs):PEx:=⟨wV f.ms.length f.F a.F,C8 f.ms f.G a.G,D4 rfl f.ok a.ok⟩
noncomputable def oN:POp:=⟨wq,yO,E1⟩
noncomputable def oS(a:PEx):POp:=⟨xp a.F,zx a.G,Ej a.ok⟩
noncomputable def pSl(a:PEx)(l u:POp):PEx:=⟨eSl a.F l.F u.F,vSl a.G l.G u.G,NT a.ok l.ok u.ok⟩
noncomputable def pD0:PEx:=⟨eD0,vD0,ML⟩
noncomputable def PFx.none(ms:List Bool)(N:Nat:=0):PFx ms:=⟨λ_ _=>.stuck,λ_=>.stuck,λ_ _ _ _ _ _ _=>trivial⟩
noncomputable def PFx.of(ms:List Bool)(N:Nat)(c:PSt):PFx ms:=⟨fnD N c.F,fnV ms N c.G,Df c.ok⟩
noncomputable def fnP(ms:List Bool)(N:Nat)(c:PSt):PFn:=⟨ms,fnD N c.F,fnV ms N c.G,Df c.ok⟩
noncomputable def aN:PO2:=⟨wR,AW,II⟩
noncomputable def bu:PO2:=⟨BS,vz,Hv⟩
def jK:PO2:=⟨Cc,xm,Ig⟩
def cL:PO2:=⟨AX,xh,JD⟩
def nK:PO2:=⟨B0,vT,Hl⟩
def bLt:PO2:=⟨gLt,aLt,Lk⟩
def bGt:PO2:=⟨gGt,aGt,Ms⟩
noncomputable def bGe:PO2:=⟨gGe,aGe,LS⟩
noncomputable def rW:PO2:=⟨rB,Bz,Jx⟩
noncomputable def bIx:PO2:=⟨gIx,aIx,Nc⟩
def bEq:PO2:=⟨gEq false,aEq false,CC false⟩
noncomputable def bNe:PO2:=⟨gEq true,aEq true,CC true⟩
noncomputable def bIn:PO2:=⟨gIn false,aIn false,CO false⟩
noncomputable def jG:PO2:=⟨gIn true,aIn true,CO true⟩
noncomputable def bIs:PO2:=⟨jS false,xk false,zm false⟩
noncomputable def vI:PO2:=⟨jS true,xk true,zm true⟩
noncomputable def zV:PO2:=⟨gI λi j=>.int (i+j),aI λi j=>.int (i+j),w6 λ_ _ _ _=>.int _⟩
noncomputable def gq:PU1:=⟨wj,BI,KA⟩
noncomputable def bf:PBf:=⟨rP,Bp,Hc⟩
noncomputable def qb:PBf:=⟨wZ,zS,HL⟩
noncomputable def sW:PBf:=⟨p9,vO,DP⟩
noncomputable def p8:PBf:=⟨rA,Bj,Kx⟩
noncomputable def qf:PBf:=⟨rH,A5,J9⟩
noncomputable def jH:PBf:=⟨mZ,vA,EE⟩
noncomputable def eK:PBf:=⟨j0,tH,zJ⟩
noncomputable def pX:PBf:=⟨wm,Cg,IL⟩
noncomputable def aj(kt:jh):PBf:=⟨rD kt,Ay kt,Gi kt⟩
noncomputable def bC:PMm:=⟨j5,oA,xB⟩
noncomputable def gj:PMv:=⟨jU,nI,xE⟩
noncomputable def gp:PMv:=⟨kA,nA,yD⟩
noncomputable def seL:PSe:=⟨wL,sL,Ko⟩
end
theorem nH:∀(ns:List Int),Rds P h (ns.map D.int) (ns.map Val.int)
 | []=>.nil
 |_::r=>.cons (.int _) (nH r)
def law3(p:PFn)(hm:p.ms=[false])(hG:∀ns:List Int,ns.length<=63->p.G [.kl (ns.map .int)]=.ok (.val (.bl true)) [])(d:D)(h:AH)(ns:List Int)(hl:ns.length<=63)(sc:Script h d ns):∃h',p.F [d] h=.ok (.bl true) h':=by
 have hp:=p.ok;rw[hm] at hp;have rd:Rd (Oc (λ_=>False) [none]) h d (.kl (ns.map .int)):=by
  rcases sc.form with ⟨n,rfl,e⟩ |rfl
  .exact .cell ⟨λz=>z,by simp⟩ e (.fz (nH ns))
  .exact .kl (nH ns)
 have S:Sat (λ_=>False) h.length [none] (sls [false] [.kl (ns.map .int)]) ([d].map some) h:=by
  refine⟨rfl,rfl,z_ _,λ_ z=>z.elim,λi j n q=>?_,λi n q z=>z,λi s q=>?_⟩
  .cases i with
   |zero=>simp at q
   |succ i=>simp at q
  .cases i with
   |
    zero=>
    have:sl1 false (.kl (ns.map .int))=s:=by simpa [sls] using q
    subst this;exact⟨rfl,d,rfl,rd⟩
   |succ i=>simp [sls] at q
 have:=hp _ _ [d] [.kl (ns.map .int)] h rfl S
 rw[hG ns hl] at this;obtain⟨d',h',e,_,_,r⟩:=this;cases r with
 |bl=>exact⟨h',e⟩
 |cell p e r=>cases r
section
variable(e:E3)
@[simp] theorem dD(a:α)(f:α->E3->R3 β):(R3.ok a e).bind f=f a e:=rfl
@[simp] theorem G5(c:Str)(f:α->E3->R3 β):(R3.exc c e:R3 α).bind f=.exc c e:=rfl
@[simp] theorem MJ(a:α)(f:α->E3->SR3):(R3.ok a e).toS f=f a e:=rfl
@[simp] theorem J4(c:Str)(f:α->E3->SR3):(R3.exc c e:R3 α).toS f=.exc c e:=rfl
@[simp] theorem LO(f:E3->SR3):(SR3.nx e).then f=f e:=rfl
@[simp] theorem Mj(r:Rt)(f:E3->SR3):(SR3.rt r e).then f=.rt r e:=rfl
@[simp] theorem K1(f:E3->SR3):(SR3.ct e).then f=.ct e:=rfl
@[simp] theorem Jm(c:Str)(f:E3->SR3):(SR3.exc c e).then f=.exc c e:=rfl
@[simp] theorem mI(f:E3->SR3):(SR3.nx e).loop f=f e:=rfl
@[simp] theorem Mx(f:E3->SR3):(SR3.ct e).loop f=f e:=rfl
@[simp] theorem Ml(r:Rt)(f:E3->SR3):(SR3.rt r e).loop f=.rt r e:=rfl
@[simp] theorem NC(r:SR3):r.unl none=r:=by cases r <;> rfl
@[simp] theorem Bs:lockO e none=e:=rfl
@[simp] theorem wz:eL e none=e:=rfl
@[simp] theorem JQ(v:Val):(Bv.val v).at e=.ok (.val v) e:=rfl
@[simp] theorem Gk(v:Val):(Bv.new v).at e=.ok (.new v) e:=rfl
@[simp] theorem Iq(v:Val):rs e (.val v)=some v:=rfl
@[simp] theorem Hz(v:Val):rs e (.new v)=some v:=rfl
@[simp] theorem H9(i:Nat):rs e (.bor i)=(e[i]?).bind Sl.val:=rfl
@[simp] theorem JC(v:Val):(Tm.val v).drop=.val v:=rfl
@[simp] theorem Je(v:Val):(Tm.new v).drop=.val v:=rfl
@[simp] theorem HE(i:Nat):(Tm.bor i).drop=.bor i:=rfl
@[simp] theorem Dy:rss e []=some []:=rfl
@[simp] theorem B9(t:Tm)(ts:List Tm):rss e (t::ts)=match rs e t,rss e ts with
 |some v,some vs=>some (v::vs)
 |_,_=>none:=rfl
@[simp] theorem JG(v:Val):bP e (.val v)=some (e,v):=rfl
@[simp] theorem KJ(v:Val):bP e (.new v)=some (e,v):=rfl
@[simp] theorem KP(i:Nat):bP e (.bor i)=match e[i]? with
 |some (.sh v)=>some (e,v)
 |some (.ow v)=>some (e.set i (.sh v),v)
 |_=>none:=rfl
@[simp] theorem Hy:dem e []=some (e,[]):=rfl
@[simp] theorem E8(t:Tm)(ts:List Tm):dem e (t::ts)=match bP e t with
 |some (e1,v)=>match dem e1 ts with
  |some (e2,vs)=>some (e2,v::vs)
  |none=>none
 |none=>none:=rfl
@[simp] theorem HS(b:Bool):bOf (some (.bl b))=some b:=rfl
@[simp] theorem K7(i:Nat):(af i).G e=match e[i]? with
 |some (.sh v)=>.ok (.val v) e
 |some .no=>.stuck
 |some _=>.ok (.bor i) e
 |none=>.stuck:=rfl
@[simp] theorem NB(i:Int):(ah i).G e=.ok (.val (.int i)) e:=rfl
@[simp] theorem v_bl(i:Bool):(pBl i).G e=.ok (.val (.bl i)) e:=rfl
@[simp] theorem Np(i:Str):(ar i).G e=.ok (.val (.str i)) e:=rfl
@[simp] theorem Na:eE.G e=.ok (.val .non) e:=rfl
@[simp] theorem v_ty(i:String):(pTy i).G e=.ok (.val (.ty i)) e:=rfl
@[simp] theorem Ny(i:Str):(de i).G e=.ok (.val (.glb i)) e:=rfl
@[simp] theorem v_un(o:PU1)(a:PEx):(pUn o a).G e=(a.G e).bind λt e1=>match rs e1 t with
 |some v=>(o.G v).at e1
 |none=>.stuck:=rfl
@[simp] theorem v_op(o:PO2)(a b:PEx):(pOp o a b).G e=(a.G e).bind λt1 e1=>(b.G e1).bind λt2 e2=>match rs e2 t1.drop,rs e2 t2 with
 |some v1,some v2=>(o.G v1 v2).at e2
 |_,_=>.stuck:=rfl
@[simp] theorem NH:ag.G e=.ok [] e:=rfl
@[simp] theorem JE(a:PEx)(r:PAs):(aa a r).G e=(a.G e).bind λt e1=>(r.G e1).bind λts e2=>.ok (t.drop::ts) e2:=rfl
@[simp] theorem v_fn(o:PBf)(a:PAs):(pFn o a).G e=(a.G e).bind λts e1=>match rss e1 ts with
 |some vs=>(o.G vs).at e1
 |none=>.stuck:=rfl
@[simp] theorem L8(a:PAs):(av a).G e=(a.G e).bind λts e1=>match dem e1 ts with
 |some (e2,vs)=>if vs.length<=16777216 then .ok (.val (.tup vs)) e2 else .stuck
 |none=>.stuck:=rfl
@[simp] theorem NQ(a:PAs):(aK a).G e=(a.G e).bind λts e1=>match dem e1 ts with
 |some (e2,vs)=>if vs.length<=16777216 then .ok (.new (.lst vs)) e2 else .stuck
 |none=>.stuck:=rfl
@[simp] theorem Nd(a b:PEx):(fu a b).G e=(a.G e).bind λt e1=>match bOf (rs e1 t) with
 |some true=>b.G e1
 |some false=>.ok (.val (.bl false)) e1
 |none=>.stuck:=rfl
@[simp] theorem NJ(a:PEx):(qH a).G e=(a.G e).bind λt e1=>match bOf (rs e1 t) with
 |some b=>.ok (.val (.bl (!b))) e1
 |none=>.stuck:=rfl
@[simp] theorem v_if(c:PTs)(a b:PEx):(pIf c a b).G e=(c.G e).bind λk e1=>if k=true then a.G e1 else b.G e1:=rfl
@[simp] theorem c_of(a:PEx):(qOf a).G e=(a.G e).bind λt e1=>match bOf (rs e1 t) with
 |some b=>.ok b e1
 |none=>.stuck:=rfl
@[simp] theorem c_tr(a:PEx):(qTr a).G e=(a.G e).bind λt e1=>match (rs e1 t).bind jY with
 |some b=>.ok b e1
 |none=>.stuck:=rfl
@[simp] theorem c_an(a b:PTs):(qAn a b).G e=(a.G e).bind λk e1=>if k=true then b.G e1 else .ok false e1:=rfl
@[simp] theorem c_o(a b:PTs):(qO a b).G e=(a.G e).bind λk e1=>if k=true then .ok true e1 else b.G e1:=rfl
@[simp] theorem c_no(a:PTs):(qNo a).G e=(a.G e).bind λk e1=>.ok (!k) e1:=rfl
@[simp] theorem x_nx:xNx.G e=.nx e:=rfl
@[simp] theorem x_ct:xCt.G e=.ct e:=rfl
@[simp] theorem L5(a:PEx):(aw a).G e=(a.G e).toS om:=rfl
@[simp] theorem DL(v:Val):om (.val v) e=.rt (.val v) e:=rfl
@[simp] theorem FU(v:Val):om (.new v) e=.rt (.new v) e:=rfl
@[simp] theorem EB(i:Nat):om (.bor i) e=match e[i]? with
 |some (.sh v)=>.rt (.val v) e
 |some (.ow v)=>.rt (.new v) (e.set i .no)
 |some (.mu _)=>.rt (.par i) e
 |_=>.stuck:=rfl
@[simp] theorem Ik(a:PEx):(bB a).G e=(a.G e).toS λ_ e1=>.nx e1:=rfl
@[simp] theorem CM(a b:PSt):(ao a b).G e=(a.G e).then b.G:=rfl
@[simp] theorem x_if(c:PTs)(a b:PSt):(xIf c a b).G e=(c.G e).toS λk e1=>if k=true then a.G e1 else b.G e1:=rfl
@[simp] theorem Mi(o:Bool)(i:Nat)(a:PEx):(ay o i a).G e=(a.G e).toS (iB o i):=rfl
@[simp] theorem Mn:Sl.no.pl=true:=rfl
@[simp] theorem Mv(v:Val):(Sl.sh v).pl=true:=rfl
@[simp] theorem LZ(v:Val):(Sl.ow v).pl=true:=rfl
@[simp] theorem Ez(o:Bool)(i:Nat)(v:Val):iB o i (.val v) e=match e[i]? with
 |some s0=>if s0.pl=true then .nx (e.set i (.sh v)) else .stuck
 |none=>.stuck:=by unfold iB;rfl
@[simp] theorem Aj(i:Nat)(v:Val):iB true i (.new v) e=match e[i]? with
 |some s0=>if s0.pl=true then .nx (e.set i (.ow v)) else .stuck
 |none=>.stuck:=by unfold iB;rfl
@[simp] theorem Ai(i:Nat)(v:Val):iB false i (.new v) e=match e[i]? with
 |some s0=>if s0.pl=true then .nx (e.set i (.sh v)) else .stuck
 |none=>.stuck:=by unfold iB;rfl
@[simp] theorem g_n(i:Nat)(v:Val):(gtN i).G v e=match e[i]? with
 |some s=>if s.pl=true then some (e.set i (.sh v)) else none
 |none=>none:=rfl
@[simp] theorem g_sn:dw.G [] e=some e:=rfl
@[simp] theorem g_sc(a:PGt)(b:PGs)(v:Val)(vs:List Val):(aT a b).G (v::vs) e=(a.G v e).bind λe1=>b.G vs e1:=rfl
@[simp] theorem g_t(n:Nat)(a:PGs)(vs:List Val):(gtT n a).G (.tup vs) e=if vs.length=n then a.G vs e else none:=rfl
@[simp] theorem g_x(a:PGt)(v:Val):(gtX a).G v e=a.G v e:=rfl
@[simp] theorem HB(a:PEx)(g:PGt):(gh a g).G e=(a.G e).toS λt e1=>match bP e1 t with
 |some (e2,v)=>match g.G v e2 with
  |some e3=>.nx e3
  |none=>.stuck
 |none=>.stuck:=rfl
@[simp] theorem Ly(i j:Nat)(a:PAs):(nM i j a).G e=(a.G e).toS λts e1=>match dem e1 ts with
 |some (e2,[v,u])=>match (pN i v e2).bind (pN j u) with
  |some e3=>.nx e3
  |none=>.stuck
 |_=>.stuck:=rfl
@[simp] theorem K8(i:Nat)(v:Val):pN i v e=match e[i]? with
 |some s=>if s.pl=true then some (e.set i (.sh v)) else none
 |none=>none:=rfl
@[simp] theorem Lp(i:Nat)(o:PO2)(a:PEx):(AI i o a).G e=match e[i]? with
 |some (.sh x)=>(a.G e).toS λt e1=>match rs e1 t with
  |some y=>match o.G x y with
   |.val z=>match pN i z e1 with
    |some e2=>.nx e2
    |none=>.stuck
   |_=>.stuck
  |none=>.stuck
 |_=>.stuck:=rfl
@[simp] theorem Fh(c:Str)(a:PAs):(ek c a).G e=(a.G e).toS λts e1=>if ts.length<=16777216 then .exc c e1 else .stuck:=rfl
@[simp] theorem MU(i:Nat)(w:PSe)(k a:PEx):(fS i w k a).G e=(a.G e).toS λt e1=>match (e1[i]?).bind Sl.mv with
 |none=>.stuck
 |some _=>(k.G e1).toS λt2 e2=>match rs e2 t2 with
  |none=>.stuck
  |some vi=>match bP e2 t.drop with
   |none=>.stuck
   |some (e3,v)=>match e3[i]? with
    |none=>.stuck
    |some s=>match s.mv with
     |none=>.stuck
     |some u=>match w.G u vi v with
      |some u'=>.nx (e3.set i (s.re u'))
      |none=>.stuck:=rfl
@[simp] theorem MR(v:Val):(Sl.ow v).mv=some v:=rfl
@[simp] theorem K6(v:Val):(Sl.mu v).mv=some v:=rfl
@[simp] theorem Lz(v u:Val):(Sl.ow v).re u=.ow u:=rfl
@[simp] theorem NK(v u:Val):(Sl.mu v).re u=.mu u:=rfl
@[simp] theorem IF(v:Val):(Sl.ow v).val=some v:=rfl
@[simp] theorem Gz(v:Val):(Sl.mu v).val=some v:=rfl
@[simp] theorem Li(mro:List Str)(i:Nat)(b u:PSt):(wF mro i b u).G e=nN mro i b.G u.G e:=rfl
@[simp] theorem M5(i:Nat)(m:PMm)(a:PAs):(eU i m a).G e=match e[i]? with
 |some s=>if (s.mv.map d4)=some true then (a.G e).bind λts e1=>match dem e1 ts with
  |some (e2,vs)=>match e2[i]? with
   |some s2=>match s2.mv with
    |some u=>match m.G u vs with
     |some (u',v)=>.ok (.val v) (e2.set i (s2.re u'))
     |none=>.stuck
    |none=>.stuck
   |none=>.stuck
  |none=>.stuck else .stuck
 |none=>.stuck:=rfl
@[simp] theorem BB(xs:List Val):d4 (.lst xs)=true:=rfl
@[simp] theorem Gh(m:PMv)(a:PEx)(b:PAs):(qc m a b).G e=(a.G e).bind λt e1=>if (rs e1 t).map d4=some true then (b.G e1).bind λts e2=>(match rs e2 t.drop,rss e2 ts with
 |some v,some vs=>if d4 v=true then (m.G v vs).at e2 else .stuck
 |_,_=>.stuck) else .stuck:=rfl
@[simp] theorem L6(a:PEx):(cu a).G e=(a.G e).bind λt e1=>match dB t e1 with
 |some p=>.ok p e1
 |none=>.stuck:=rfl
@[simp] theorem Nu(a:PAs):(wI a).G e=(a.G e).bind λts e1=>match ts with
 | [t]=>(match dB t e1 with
  |some p=>.ok (n6 0 p.1,p.2) e1
  |none=>.stuck)
 |_=>.stuck:=rfl
@[simp] theorem Mo(a:PAs):(vN a).G e=(a.G e).bind λts e1=>match ts with
 | [t,u]=>(match dB t e1,dB u e1 with
  |some (xs,k),some (ys,none)=>.ok (List.zipWith (λx y=>.tup [x,y]) xs ys,k) e1
  |_,_=>.stuck)
 |_=>.stuck:=rfl
@[simp] theorem Ii(v:Val):dB (.val v) e=(fK v).map λxs=>(xs,none):=rfl
@[simp] theorem HV(v:Val):dB (.new v) e=(fK v).map λxs=>(xs,none):=rfl
@[simp] theorem IP(xs:List Val):fK (.tup xs)=some xs:=rfl
@[simp] theorem Ih(xs:List Val):fK (.lst xs)=some xs:=rfl
@[simp] theorem KR(a:PAs):(ke a).G e=(a.G e).bind λts e1=>match (rss e1 ts).bind gy with
 |some xs=>.ok (xs,none) e1
 |none=>.stuck:=rfl
@[simp] theorem LW(a:PAs):(vZ a).G e=(a.G e).bind λts e1=>match (rss e1 ts).bind n8 with
 |some xs=>.ok (xs,none) e1
 |none=>.stuck:=rfl
@[simp] theorem LG(i:PIt)(g:PGt)(b:PSt):(fH i g b).G e=(i.G e).toS λp e1=>(cT g.G b.G p.1 (lockO e1 p.2)).unl p.2:=rfl
@[simp] theorem kj(g:MG3)(B:MS3):cT g B [] e=.nx e:=rfl
theorem bA(g:MG3)(B:MS3)(v:Val)(vs:List Val):cT g B (v::vs) e=match g v e with
 |some e1=>(B e1).loop (cT g B vs)
 |none=>.stuck:=rfl
def x_wh(c:PTs)(b:PSt):(xWh c b).G e=(c.G e).toS λk e1=>if k=true then (b.G e1).loop (xWh c b).G else .nx e1:=Ak c.G b.G e
@[simp] theorem v_lc(i:PIt)(sub:Qk)(hs:(sub.filterMap id).Nodup)(g:PGt)(c:PTs)(a:PEx):(pLC i sub hs g c a).G e=(i.G e).bind λp e1=>match lcV g.G c.G a.G p.1 [] (bQ sub (lockO e1 p.2)) with
 |.ok ys e2=>if ys.length<=16777216 then .ok (.new (.lst ys)) (eL (aY sub e2 (lockO e1 p.2)) p.2) else .stuck
 |_=>.stuck:=rfl
@[simp] theorem Ke(f:PFn)(a:PAs):(ai f a).G e=(a.G e).bind λts e1=>match rss e1 ts with
 |none=>.stuck
 |some vs=>if okA e1 f.ms ts=true then (match f.G vs with
  |.stuck=>.stuck
  |.ok r mv=>if (aU e1 f.ms ts).isEmpty || (kq r&&mv.all cJ) then .ok (r.tm ts) (aY (bg f.ms ts) (aJ f.ms mv) e1) else (match nz e1 (aU e1 f.ms ts) with
   |some e2=>.ok (r.tm ts) (aY (bg f.ms ts) (aJ f.ms mv) e2)
   |none=>.stuck)
  |.exc c mv=>if (aU e1 f.ms ts).isEmpty || mv.all cJ then .exc c (aY (bg f.ms ts) (aJ f.ms mv) e1) else .stuck) else .stuck:=rfl
@[simp] theorem F5(ts:List Tm)(v:Val):(Rt.val v).tm ts=.val v:=rfl
@[simp] theorem Km(ts:List Tm)(v:Val):(Rt.new v).tm ts=.new v:=rfl
@[simp] theorem o_n:oN.G e=.ok none e:=rfl
@[simp] theorem o_s(a:PEx):(oS a).G e=(a.G e).bind λt e1=>match rs e1 t with
 |some (.int i)=>.ok (some i) e1
 |_=>.stuck:=rfl
@[simp] theorem v_sl(a:PEx)(l u:POp):(pSl a l u).G e=(a.G e).bind λt e1=>(l.G e1).bind λlo e2=>(u.G e2).bind λhi e3=>match rs e3 t.drop with
 |some v=>(aSl v lo hi).at e3
 |none=>.stuck:=rfl
@[simp] theorem v_d0:pD0.G e=.ok (.new (.dct [])) e:=rfl
theorem aF(ms:List Bool)(N:Nat)(c:PSt)(vs:List Val):(fnP ms N c).G vs=if vs.length=ms.length then (match c.G (sls ms vs++List.replicate (N-vs.length) .no) with
 |.nx e=>(match muV ms e with |some mv=>.ok (.val .non) mv |none=>.stuck)
 |.rt r e=>(match muV ms e with |some mv=>.ok r mv |none=>.stuck)
 |.exc c e=>(match muV ms e with |some mv=>.exc c mv |none=>.stuck)
 |_=>.stuck) else .stuck:=rfl
theorem dW(ms:List Bool)(N:Nat)(c:PSt)(vs:List Val):(PFx.of ms N c).G vs=if vs.length=ms.length then (match c.G (sls ms vs++List.replicate (N-vs.length) .no) with
 |.nx e=>(match muV ms e with |some mv=>.ok (.val .non) mv |none=>.stuck)
 |.rt r e=>(match muV ms e with |some mv=>.ok r mv |none=>.stuck)
 |.exc c e=>(match muV ms e with |some mv=>.exc c mv |none=>.stuck)
 |_=>.stuck) else .stuck:=rfl
@[simp] theorem LV(p:PFx ms):p.fn.ms=ms:=rfl
@[simp] theorem fx_G(p:PFx ms)(vs:List Val):p.fn.G vs=p.G vs:=rfl
end
@[simp] theorem Nq(i j:Int):aN.G (.int i) (.int j)=.val (.int (i+j)):=rfl
@[simp] theorem k_lt(i j:Int):bLt.G (.int i) (.int j)=.val (.bl (decide (i<j))):=rfl
@[simp] theorem k_gt(i j:Int):bGt.G (.int i) (.int j)=.val (.bl (decide (j<i))):=rfl
@[simp] theorem k_ge(i j:Int):bGe.G (.int i) (.int j)=.val (.bl (decide (j<=i))):=rfl
@[simp] theorem Lr(i j:Int):zV.G (.int i) (.int j)=.val (.int (i+j)):=rfl
@[simp] theorem LJ(i:Int):gq.G (.int i)=.val (.int (-i)):=rfl
def cF(c:CMulA i j):bu.G (.int i) (.int j)=.val (.int (i*j)):=by show vz (.int i) (.int j)=_;unfold vz aIc;dsimp only;rw[if_pos c]
def qw(c:CDivB i j):jK.G (.int i) (.int j)=.val (.int (i.fdiv j)):=by show xm (.int i) (.int j)=_;unfold xm aIc;dsimp only;rw[if_pos c]
def gY(c:j≠0):cL.G (.int i) (.int j)=.val (.int (i.fmod j)):=by show xh (.int i) (.int j)=_;unfold xh aIc;dsimp only;rw[if_pos c]
def Ct(c:nU i j):nK.G (.int i) (.int j)=.val (.int (i^j.toNat)):=by show vT (.int i) (.int j)=_;unfold vT aIc;dsimp only;rw[if_pos c]
@[simp] theorem k_ix(x:Val)(i:Int):bIx.G x (.int i)=match x.items with
 |some xs=>(match atI xs i with
  |some v=>.val v
  |none=>.stuck)
 |none=>.stuck:=by show aIx x (.int i)=_;unfold aIx;cases x.items <;> rfl
@[simp] theorem Hb(xs:List Val):(Val.tup xs).items=some xs:=rfl
@[simp] theorem xt(xs:List Val):(Val.lst xs).items=some xs:=rfl
@[simp] theorem M1(xs:List Val):(Val.kl xs).items=some xs:=rfl
@[simp] theorem k_eq(x y:Val):bEq.G x y=match cm x y with
 |some b=>.val (.bl b)
 |none=>.stuck:=by show aEq false x y=_;unfold aEq;cases cm x y <;> rfl
@[simp] theorem k_ne(x y:Val):bNe.G x y=match cm x y with
 |some b=>.val (.bl (!b))
 |none=>.stuck:=by show aEq true x y=_;unfold aEq;cases cm x y <;> rfl
@[simp] theorem MD(x y:Int):cm (.int x) (.int y)=some (x==y):=rfl
def eq_str(hx:PyData.strOk x=true)(hy:PyData.strOk y=true):cm (.str x) (.str y)=some (x==y):=by unfold cm;show (if shp (.str x)=true/\shp (.str y)=true then _ else _)=_;rw[if_pos ⟨gW hx (Oa _),gW hy (Oa _)⟩];rfl
@[simp] theorem k_is(x:Val):bIs.G x .non=match x with
 |.non=>.val (.bl true)
 |_=>.val (.bl false):=by cases x <;> rfl
@[simp] theorem MN(x:Val):vI.G x .non=match x with
 |.non=>.val (.bl false)
 |_=>.val (.bl true):=by cases x <;> rfl
@[simp] theorem Mz(v:Val):bf.G [v]=match v.items with
 |some xs=>.val (.int xs.length)
 |none=>(match v with
  |.str z=>if z.length<=16777216 then .val (.int z.length) else .stuck
  |_=>.stuck):=rfl
@[simp] theorem NL(i:Int):qb.G [.int i]=.val (.int (if i<0 then -i else i)):=rfl
@[simp] theorem Ma(i j:Int):sW.G [.int i,.int j]=.val (.int (if j<i then j else i)):=rfl
@[simp] theorem NR(xs:List Val):p8.G [.lst xs]=match jR xs with
 |some bs=>.val (.bl (bs.all id))
 |none=>.stuck:=rfl
@[simp] theorem M6(xs:List Val):qf.G [.lst xs]=match jy xs with
 |some bs=>.val (.int bs.sum)
 |none=>.stuck:=rfl
@[simp] theorem Kr(v:Val):jH.G [v]=match v.items with
 |some xs=>.new (.lst xs)
 |none=>.stuck:=rfl
@[simp] theorem FE(v:Val):eK.G [v]=match v.items with
 |some xs=>.val (.tup xs)
 |none=>.stuck:=rfl
@[simp] theorem Ht(b:Bool):pX.G [.bl b]=.val (.int (if b then 1 else 0)):=rfl
@[simp] theorem zT(xs:List Val)(v:Val):bC.G (.lst xs) [v]=if xs.length<16777216 then some (.lst (xs++[v]),.non) else none:=rfl
@[simp] theorem oZ:∀(bs:List Int),jy (bs.map Val.int)=some bs
 | []=>rfl
 |b::r=>by show (jy (r.map Val.int)).map (b :: ·)=_;rw[oZ r];rfl
def zg{K:W.Frag}{mg:Qh}{X:Cx}{ES:L2.St->XK}{sts:List Stmt}:DSs K mg X ES sts (λ_ _=>.stuck):=λpins s σ H D I ⟨_,_,_,_,_,p⟩=>p.elim
section
variable(K:W.Frag)(mg:Qh)(X:Cx)(ES:L2.St->XK)
@[irreducible] def DE(e:Expr)(F:ME):Prop:=L2.DE K mg X ES e F
@[irreducible] def DT(e:Expr)(F:MT):Prop:=L2.DT K mg X ES e F
@[irreducible] def DA(es:List Expr)(F:MA):Prop:=L2.DA K mg X ES es F
@[irreducible] def DS(st:Stmt)(F:MS):Prop:=L2.DS K mg X ES st F
@[irreducible] def DSs(st:List Stmt)(F:MS):Prop:=L2.DSs K mg X ES st F
@[irreducible] def DI(tg a_:Expr)(F:MI):Prop:=L2.DI K mg X ES tg a_ F
end
section
variable{K:W.Frag}{mg:Qh}{X:Cx}{ES:L2.St->XK}{e a b c o i tg a_ k_:Expr}{es:List Expr}{st:Stmt}{sts sts':List Stmt}{p q r:PEx}{A:PAs}{t u:PTs}{x y:PSt}{g:PGt}{gs:PGs}{I:PIt}{pos:Pos}
def rG(i:Nat){x:Str}(hN:X.N[i]?=some x:=by rfl)(hv:Vis X.env.scope x:=by first |exact Or.inl rfl |exact Or.inr (Or.inl rfl) |exact Or.inr (Or.inr rfl))(hd:(x==("__debug__" : Str))=false:=by decide)(s_:(x==("__classdict__" : Str))=false:=by decide):DE K mg X ES (.Name x pos) (af i).F:=by with_unfolding_all exact HN i hN hv hd s_
def iS{i:Int}{j:Nat}:DE K mg X ES (.Constant (.int i) j pos) (ah i).F:=by with_unfolding_all exact Kj
def KS{i:Bool}{j:Nat}:DE K mg X ES (.Constant (.bool i) j pos) (pBl i).F:=by with_unfolding_all exact LA
def Io:DE K mg X ES (.Constant .none j pos) eE.F:=by with_unfolding_all exact FY
def Jb{i:Str}{j:Nat}:DE K mg X ES (.Constant (.str i) j pos) (ar i).F:=by with_unfolding_all exact Kb
def Hs{x:Str}(hg:Gl X x)(ha:∃a,mg x=some (.ref a))(hm:X.mg=mg:=by rfl)(hd:(x==("__debug__" : Str))=false:=by decide):DE K mg X ES (.Name x pos) (de x).F:=by with_unfolding_all exact Kh hg ha hm hd
def Nl{x:Str}{d:D}{v:Val}{r:∀P h,Rd P h d v}(hg:Gl X x)(ha:GC K mg x d)(hm:X.mg=mg:=by rfl)(hd:(x==("__debug__" : Str))=false:=by decide):DE K mg X ES (.Name x pos) (rE d v r).F:=by with_unfolding_all exact MP hg ha hm hd
def Nr{x:Str}{n:String}(hg:Gl X x)(hm:mg x=none)(hv:bootBuiltins x=some (.type n))(he:X.mg=mg:=by rfl)(hn:x ≠ "__name__":=by decide)(hd:(x==("__debug__" : Str))=false:=by decide):DE K mg X ES (.Name x pos) (pTy n).F:=by with_unfolding_all exact LK hg hm hv he hn hd
def C3(ho:OpR X (binaryOp op) r')(hd:OpD K mg r' k.F)(ha:DE K mg X ES a p.F)(hb:DE K mg X ES b q.F):DE K mg X ES (.BinOp a op b pos) (pOp k p q).F:=by with_unfolding_all exact M8 ho hd ha hb
def NP(hr:IxR X r')(hd:OpD K mg r' k.F)(ha:DE K mg X ES a p.F)(hb:DE K mg X ES b q.F)(hs:oh b:=by exact λ_ _=>rfl):DE K mg X ES (.Subscript a b pos) (pOp k p q).F:=by with_unfolding_all exact LD hr hd ha hb hs
def HQ(ho:OpR X (compareOp op) r')(hd:OpD K mg r' k.F)(ha:DE K mg X ES a p.F)(hb:DE K mg X ES b q.F)(hm:behindInMarks op b=false:=by first |exact ya _ |with_unfolding_all rfl):DE K mg X ES (.Compare a [op] [b] pos) (pOp k p q).F:=by with_unfolding_all exact GY ho hd ha hb hm
def GS(ho:OpR X (compareOp op) r')(hd:OpD K mg r' k.F)(ha:DE K mg X ES a p.F)(hb:DE K mg X ES b q.F)(hm:behindInMarks op b=false:=by first |exact ya _ |with_unfolding_all rfl):DT K mg X ES (.Compare a [op] [b] pos) (qOf (pOp k p q)).F:=by with_unfolding_all exact HH ho hd ha hb hm
def sC(ha:DE K mg X ES a p.F)(he:∀g_,isTrue a X.env g_=(do let v <- g_;standAt a.pos;holding [v] (truthy v)):=by intro _;rfl):DT K mg X ES a (qOf p).F:=by with_unfolding_all exact JI ha he
def BZ(hK:X.K=K)(ha:DE K mg X ES a p.F)(he:∀g_,isTrue a X.env g_=(do let v <- g_;standAt a.pos;holding [v] (truthy v)):=by intro _;rfl):DT K mg X ES a (qTr p).F:=by with_unfolding_all exact Be hK ha he
def rL(ha:DT K mg X ES a t.F):DT K mg X ES (.UnaryOp .Not a pos) (qNo t).F:=by with_unfolding_all exact J3 ha
def DZ(ha:DT K mg X ES a t.F):DW K mg X ES (.BoolOp .And [a] pos) t.F:=by with_unfolding_all exact Ed ha
def IJ(ha:DT K mg X ES a t.F):DW K mg X ES (.BoolOp .Or [a] pos) t.F:=by with_unfolding_all exact Ij ha
def Jo(ha:DT K mg X ES a t.F)(hb:DW K mg X ES (.BoolOp .And (b::es) pos) u.F):DW K mg X ES (.BoolOp .And (a::b::es) pos) (qAn t u).F:=by with_unfolding_all exact JN ha hb
def L9(ha:DT K mg X ES a t.F)(hb:DW K mg X ES (.BoolOp .Or (b::es) pos) u.F):DW K mg X ES (.BoolOp .Or (a::b::es) pos) (qO t u).F:=by with_unfolding_all exact MH ha hb
def ZW.dt(h:DW K mg X ES a t.F):DT K mg X ES a t.F:=by with_unfolding_all exact DW.dt h
def zt_w{op}(h:DW K mg X ES (.BoolOp op es pos) t.F):DT K mg X ES (.BoolOp op es pos) t.F:=ZW.dt h
def IZ{op}(h:DE K mg X ES a p.F):DE K mg X ES (.BoolOp op [a] pos) p.F:=by with_unfolding_all exact Kl h
def Jy(ha:DE K mg X ES a p.F)(hb:DE K mg X ES (.BoolOp .And (b::es) pos) q.F):DE K mg X ES (.BoolOp .And (a::b::es) pos) (fu p q).F:=by with_unfolding_all exact GU ha hb
def KG(ha:DE K mg X ES a p.F):DE K mg X ES (.UnaryOp .Not a pos) (qH p).F:=by with_unfolding_all exact JZ ha
def M9(hc:DT K mg X ES c t.F)(ha:DE K mg X ES a p.F)(hb:DE K mg X ES b q.F):DE K mg X ES (.IfExp c a b pos) (pIf t p q).F:=by with_unfolding_all exact NS hc ha hb
def MX(ho:UnR X (unaryOp op) r')(hd:UnD K mg r' k.F)(ha:DE K mg X ES a p.F):DE K mg X ES (.UnaryOp op a pos) (pUn k p).F:=by with_unfolding_all exact Nj ho hd ha
def yu:DA K mg X ES [] ag.F:=by with_unfolding_all exact IH
def cZ(ha:DE K mg X ES e p.F)(hr:DA K mg X ES es A.F)(hs:starEach (e::es) X.env=(false,eval e X.env)::starEach es X.env:=by rfl):DA K mg X ES (e::es) (aa p A).F:=by with_unfolding_all exact Fy ha hr hs
def yk{x1}(h:DA K mg X ES es A.F):DE K mg X ES (.Tuple es x1 pos) (av A).F:=by with_unfolding_all exact JO h
def I0(h:DA K mg X ES es A.F):DE K mg X ES (.List es pos) (aK A).F:=by with_unfolding_all exact Kt h
def jk{id:String}{r':List V->Hp->VK->Prop}{k:PBf}{x:Str}{p0:Pos}(hc:CallR X (.builtin id) r')(hd:bq K mg r' k.F)(hg:Gl X x)(hm:mg x=none)(hv:bootBuiltins x=some (.builtin id))(ha:DA K mg X ES (e::es) A.F)(hk:X.mg=mg:=by rfl)(hn:x ≠ "__name__":=by decide)(hdb:(x==("__debug__" : Str))=false:=by decide)(he:starEach (e::es) X.env=(false,eval e X.env)::starEach es X.env:=by rfl)(hpl:(backTo pos (starEach es X.env)).any (·.1)=false:=by rfl):DE K mg X ES (.Call (.Name x p0) (e::es) [] pos) (pFn k A).F:=by with_unfolding_all exact Bg hc hd hg hm hv ha hk hn hdb he hpl
def pD{id:String}{r':List V->Hp->VK->Prop}{k:PBf}{x:Str}{p0:Pos}(hc:CallR X (.type id) r')(hd:bq K mg r' k.F)(hg:Gl X x)(hm:mg x=none)(hv:bootBuiltins x=some (.type id))(ha:DA K mg X ES (e::es) A.F)(hk:X.mg=mg:=by rfl)(hn:x ≠ "__name__":=by decide)(hdb:(x==("__debug__" : Str))=false:=by decide)(he:starEach (e::es) X.env=(false,eval e X.env)::starEach es X.env:=by rfl)(hpl:(backTo pos (starEach es X.env)).any (·.1)=false:=by rfl):DE K mg X ES (.Call (.Name x p0) (e::es) [] pos) (pFn k A).F:=by with_unfolding_all exact yE hc hd hg hm hv ha hk hn hdb he hpl
def AD{f:PFn}{x:Str}{p0:Pos}{k n:Nat}{ps:List Str}(C:Callee X.prog X.w X.K X.mg X.base x k ps (spD K mg n f.F))(hr:Room k X.A)(hg:Gl X x)(hx:eu X ES)(ha:DA K mg X ES (e::es) A.F)(hn:f.ms.length=n)(hdb:(x==("__debug__" : Str))=false)(he:starEach (e::es) X.env=(false,eval e X.env)::starEach es X.env)(hpl:(backTo pos (starEach es X.env)).any (·.1)=false):DE K mg X ES (.Call (.Name x p0) (e::es) [] pos) (ai f A).F:=by subst hn;with_unfolding_all exact AY C hr hg hx ha hdb he hpl
def EL:DSs K mg X ES [] xNx.F:=by with_unfolding_all exact Ep
def cD(h1:DS K mg X ES st x.F):DSs K mg X ES [st] x.F:=by with_unfolding_all exact FH h1
def aA(h1:DS K mg X ES st x.F)(h2:DSs K mg X ES sts y.F):DSs K mg X ES (st::sts) (ao x y).F:=by with_unfolding_all exact z9 h1 h2
def ub:DS K mg X ES (.Continue pos) xCt.F:=by with_unfolding_all exact tX
def iC(he:DE K mg X ES e p.F):DS K mg X ES (.Return (some e) pos) (aw p).F:=by with_unfolding_all exact IG he
def kz(he:DE K mg X ES e p.F)(hs:swapsWith e none pos.line X.env=pure false:=by rfl):DS K mg X ES (.Expr e pos) (bB p).F:=by with_unfolding_all exact EU he hs
def kG(hc:DT K mg X ES c t.F)(ha:DSs K mg X ES sts x.F)(hb:DSs K mg X ES sts' y.F):DS K mg X ES (.If c sts sts' pos) (xIf t x y).F:=by with_unfolding_all exact Lq hc ha hb
def Fm{i:Nat}{x:Str}(hN:X.N.Nodup)(hi:X.N[i]?=some x)(hx:Loc X.env.scope x)(hf:X.fn x=true\/X.env.scope.names.lookup x=some .local):DG K mg X ES (.Name x pos) (gtN i).F:=Fs hN hi hx hf
def FG:DGs K mg X ES [] dw.F:=Dp
def Bd(h1:DG K mg X (λ_=>E0) e g.F)(h2:DGs K mg X (λ_=>E0) es gs.F)(hs:(assignEach (e::es) X.env).map (·.2)=assign e X.env::(assignEach es X.env).map (·.2):=by rfl):DGs K mg X (λ_=>E0) (e::es) (aT g gs).F:=BO h1 h2 hs
def JJ(hK:X.K=K)(hc:X.calm=true)(h:DGs K mg X (λ_=>E0) es gs.F)(hn:(assignEach es X.env).length=n:=by rfl)(hst:(assignEach es X.env).findIdx? (·.1)=none:=by rfl):DG K mg X (λ_=>E0) (.Tuple es k pos) (gtT n gs).F:=Ha hK hc h hn hst
def ZG.weak(hg:DG K mg X (λ_=>E0) e g.F):DG K mg X ES e (gtX g).F:=DG.weak hg
def Dr(he:DE K mg X ES e p.F)(hg:DG K mg X ES a g.F)(hs:swapsWithSole [a] e pos.line X.env=pure false:=by rfl)(hw:swappedStores [a] e X.env=pure none:=by rfl)(h1:(assignEach [a] X.env).map (·.2)=[assign a X.env]:=by rfl):DS K mg X ES (.Assign [a] e pos) (gh p g).F:=by with_unfolding_all exact yW he hg hs hw h1
def Et(he:DE K mg X ES e p.F)(ho:DE K mg X ES o (af j).F)(hi:DE K mg X ES i q.F)(hs':rm X r')(hd:nX K mg r' w.F)(hs:swapsWithSole [.Subscript o i p1] e pos.line X.env=pure false:=by rfl)(hw:swappedStores [.Subscript o i p1] e X.env=pure none:=by rfl)(h1:(assignEach [.Subscript o i p1] X.env).map (·.2)=[assign (.Subscript o i p1) X.env]:=by rfl)
 (ha:∀v,assign (.Subscript o i p1) X.env v=(do
  let ov <- holding [v] (eval o X.env)
  let iv <- holding [v,ov] (eval i X.env)
  standAt p1
  holding [v,ov,iv] (setItem ov iv v)
  release [v,ov,iv] []):=by intro _;rfl):DS K mg X ES (.Assign [.Subscript o i p1] e pos) (fS j w q p).F:=by with_unfolding_all exact yW he (Jt ho hi hs' hd ha) hs hw h1
def G1{ow:Bool}{i:Nat}{x:Str}{r_:Pos}(hN:X.N.Nodup)(hi:X.N[i]?=some x)(hx:Loc X.env.scope x)(he:DE K mg X ES e p.F)(hs:swapsWith e (some (.Name x r_)) pos.line X.env=pure false)(hf:X.fn x=true\/X.env.scope.names.lookup x=some .local):DS K mg X ES (.Assign [.Name x r_] e pos) (ay ow i p).F:=by with_unfolding_all exact Jd hN hi hx he hs hf
def JA{i j:Nat}{x y:Str}{px py pt:Pos}{kt k2 pt2}(hN:X.N.Nodup)(ha:DA K mg X ES [a,b] A.F)(hc:X.calm=true:=by rfl)(hi:X.N[i]?=some x:=by rfl)(hj:X.N[j]?=some y:=by rfl)(hij:i≠j:=by decide)(hx:X.env.scope.names.lookup x=some .local:=by rfl)(hy:X.env.scope.names.lookup y=some .local:=by rfl)(hw:swappedStores [.Tuple [.Name x px,.Name y py] kt pt] (.Tuple [a,b] k2 pt2) X.env=pure (some [x,y]):=by rfl)(hs:swapsWithSole [.Tuple [.Name x px,.Name y py] kt pt] (.Tuple [a,b] k2 pt2) pos.line X.env=pure false:=by rfl):DS K mg X ES (.Assign [.Tuple [.Name x px,.Name y py] kt pt] (.Tuple [a,b] k2 pt2) pos) (nM i j A).F:=by with_unfolding_all exact Hk hc hN hi hj hij hx hy ha hw hs
def Ky{i:Nat}{x:Str}{op:Operator}{ti:TIp}{r_:Pos}{k:PO2}(hN:X.N.Nodup)(he:DE K mg X ES e p.F)(ho:PIp X op ti)(hd:IpD K mg ti k.F)(hi:X.N[i]?=some x:=by rfl)(hx:Loc X.env.scope x:=by first |exact Or.inl rfl |exact Or.inr rfl)(hf:X.fn x=true\/X.env.scope.names.lookup x=some .local:=by first |exact .inl rfl |exact .inr rfl |assumption):DS K mg X ES (.AugAssign (.Name x r_) op e pos) (AI i k p).F:=by with_unfolding_all exact HR hN hi hx he ho hd hf
def Ag{x:Str}{C:Addr}{E:XK}{np cpos:Pos}(hc:X.calm=true)(hR:Rz X E)(hg:Gl X x)(hm:mg x=some (.ref C))(hq:W.excIn X.K C kR "ValueError.__new__"=true)(ha:DA K mg X (λ_=>E) (e::es) A.F)(hk:X.mg=mg:=by rfl)(he:starEach (e::es) X.env=(false,eval e X.env)::starEach es X.env:=by rfl)(i_:(backTo cpos (starEach es X.env)).any (·.1)=false:=by rfl)(hd:(x==("__debug__" : Str))=false:=by decide):DS K mg X (λ_=>E) (.Raise (some (.Call (.Name x np) (e::es) [] cpos)) none pos) (ek x A).F:=by with_unfolding_all exact A7 hc hR hg hm hq ha hk he i_ hd
def JH(hK:X.K=K)(he:DE K mg X ES e p.F):DI K mg X ES tg e (cu p).F:=by with_unfolding_all exact J8 hK he
def yo(hg:Gl X "range")(hm:mg "range"=none)(ha:DA K mg X ES [a] A.F)(hk:X.mg=mg:=by rfl)(hs:starEach [a] X.env=[(false,eval a X.env)]:=by rfl):DI K mg X ES tg (.Call (.Name "range" p0) [a] [] pos) (ke A).F:=by with_unfolding_all exact xQ hg hm ha hk hs
def xO(hg:Gl X "range")(hm:mg "range"=none)(ha:DA K mg X ES [a,b] A.F)(hk:X.mg=mg:=by rfl)(hs:starEach [a,b] X.env=[(false,eval a X.env),(false,eval b X.env)]:=by rfl)(hs2:starEach [b] X.env=[(false,eval b X.env)]:=by rfl):DI K mg X ES tg (.Call (.Name "range" p0) [a,b] [] pos) (vZ A).F:=by with_unfolding_all exact yd hg hm ha hk hs hs2
def Eg(hK:X.K=K)(hg:Gl X "enumerate")(hm:mg "enumerate"=none)(ha:DA K mg X ES [a] A.F)(hk:X.mg=mg:=by rfl)(hs:starEach [a] X.env=[(false,eval a X.env)]:=by rfl):DI K mg X ES (.Tuple elts x1 tp) (.Call (.Name "enumerate" p0) [a] [] pos) (wI A).F:=by with_unfolding_all exact DY hK hg hm ha hk hs
def Ir(hK:X.K=K)(hg:Gl X "zip")(hm:mg "zip"=none)(ha:DA K mg X ES [a,b] A.F)(hk:X.mg=mg:=by rfl)(hs:starEach [a,b] X.env=[(false,eval a X.env),(false,eval b X.env)]:=by rfl)(hs2:starEach [b] X.env=[(false,eval b X.env)]:=by rfl):DI K mg X ES (.Tuple elts x1 tp) (.Call (.Name "zip" p0) [a,b] [] pos) (vN A).F:=by with_unfolding_all exact Kq hK hg hm ha hk hs hs2
def l9(hp:PassesOwn (model X.prog X.w) X.A X.env X.xe)(hc:X.calm=true)(hi:DI K mg X ES tg a_ I.F)(hg:DG K mg X ES tg g.F)(hb:DSs K mg X ES sts x.F)(hs:∀x,foldedSetIterable a_ X.env x=pure x:=by intro _;rfl):DS K mg X ES (.For tg a_ sts [] pos) (fH I g x).F:=by with_unfolding_all exact IM hp hc hi hg hb hs
def B4(hp:PassesOwn (model X.prog X.w) X.A X.env X.xe)(hc:DT K mg X ES c t.F)(hb:DSs K mg X ES sts x.F):DS K mg X ES (.While c sts [] pos) (xWh t x).F:=by with_unfolding_all exact B8 hp hc hb
def Mc{scope:Scope}(M:List Str)(kn:List (Str×NameKind))(N:List Str)(sub:Qk){hsb:(sub.filterMap id).Nodup}(hc:X.calm=true)(hi:DI K mg X ES tg a_ I.F)(hg:∀cl C s₂ H fp,DG K mg (aC X N scope cl C s₂ H fp) (λ_=>E0) tg g.F)(he:∀cl C s₂ H fp,DE K mg (aC X N scope cl C s₂ H fp) (λ_=>E0) k_ p.F)(hM:X.N=M)(hkn:X.env.scope.names=kn)(f_:dE M scope.names sub N=true)(hk:scope.kind=.function)(t_:∀x∈scope.names,x.2 ≠ .cell)(b_:∀x∈scope.names,x.2=.local->scope.names.lookup x.1=some .local)(p_:fb kn scope.names=true)(u_:sub.length=N.length)(hs:∀x,foldedSetIterable a_ X.env x=pure x):DE K mg X ES (.ListComp k_ [⟨tg,a_,[],0⟩] scope pos) (pLC I sub hsb g qY p).F:=by with_unfolding_all exact Nk M kn N sub hc hi hg he hM hkn f_ hk t_ b_ p_ u_ hs
def EX{scope:Scope}(M:List Str)(kn:List (Str×NameKind))(N:List Str)(sub:Qk){hsb:(sub.filterMap id).Nodup}(hc:X.calm=true)(hi:DI K mg X ES tg a_ I.F)(hg:∀cl C s₂ H fp,DG K mg (aC X N scope cl C s₂ H fp) (λ_=>E0) tg g.F)(ht:∀cl C s₂ H fp,DT K mg (aC X N scope cl C s₂ H fp) (λ_=>E0) c t.F)(he:∀cl C s₂ H fp,DE K mg (aC X N scope cl C s₂ H fp) (λ_=>E0) k_ p.F)(hM:X.N=M)(hkn:X.env.scope.names=kn)(f_:dE M scope.names sub N=true)(hk:scope.kind=.function)(t_:∀x∈scope.names,x.2 ≠ .cell)(b_:∀x∈scope.names,x.2=.local->scope.names.lookup x.1=some .local)(p_:fb kn scope.names=true)(u_:sub.length=N.length)(hs:∀x,foldedSetIterable a_ X.env x=pure x):DE K mg X ES (.ListComp k_ [⟨tg,a_,[c],0⟩] scope pos) (pLC I sub hsb g t p).F:=by with_unfolding_all exact FO M kn N sub hc hi hg ht he hM hkn f_ hk t_ b_ p_ u_ hs
def NG{ow:Bool}{px spos:Pos}{iT:Nat}{xT:Str}{scope:Scope}(M:List Str)(kn:List (Str×NameKind))(N:List Str)(sub:Qk){hsb:(sub.filterMap id).Nodup}(hc:X.calm=true)(hN:X.N.Nodup)(hix:X.N[iT]?=some xT)(hxl:Loc X.env.scope xT)(hi:DI K mg X ES tg a_ I.F)(hg:∀cl C s₂ H fp,DG K mg (aC X N scope cl C s₂ H fp) (λ_=>E0) tg g.F)(he:∀cl C s₂ H fp,DE K mg (aC X N scope cl C s₂ H fp) (λ_=>E0) k_ p.F)(hsw:swapsWith (.ListComp k_ [⟨tg,a_,[],0⟩] scope pos) (some (.Name xT px)) spos.line X.env=pure true)(hM:X.N=M)(hkn:X.env.scope.names=kn)(f_:dE M scope.names sub N=true)(hk:scope.kind=.function)(t_:∀x∈scope.names,x.2 ≠ .cell)(b_:∀x∈scope.names,x.2=.local->scope.names.lookup x.1=some .local)(p_:fb kn scope.names=true)(u_:sub.length=N.length)(hs:∀x,foldedSetIterable a_ X.env x=pure x)(hf:X.fn xT=true\/X.env.scope.names.lookup xT=some .local):DS K mg X ES (.Assign [.Name xT px] (.ListComp k_ [⟨tg,a_,[],0⟩] scope pos) spos) (ay ow iT (pLC I sub hsb g qY p)).F:=by with_unfolding_all exact Nn M kn N sub hc hN hix hxl hi hg he hsw hM hkn f_ hk t_ b_ p_ u_ hs hf
def mi{j:Nat}{name:Str}{id:String}{apos cpos:Pos}{r':V->List V->Hp->VK->Prop}{k:PMm}(hK:X.K=K)(slot:Slot "list" name id)(hty:typeOf (.builtin id)=pure (.type "method_descriptor"))(hm:MtM X id r')(hd:MtD K mg r' k.F)(ho:DE K mg X ES o (af j).F)(ha:DA K mg X ES (e::es) A.F)(hbase:attributeBase o name X.env (eval o X.env)=eval o X.env:=by rfl)(hfew:((backTo cpos (starEach (e::es) X.env)).all (λx=>!x.1)&&(backToKw cpos (keywordEach [] X.env)).all (λx=>x.1.isSome)&&decide ((e::es).length+([]:List Keyword).length+(if ([]:List Keyword).isEmpty then 0 else 1)<30))=true:=by rfl)(hline:(apos.endLine==cpos.line)=true:=by rfl)(hs:starEach (e::es) X.env=(false,eval e X.env)::starEach es X.env:=by rfl)(i_:(backTo cpos (starEach es X.env)).any (·.1)=false:=by rfl):DE K mg X ES (.Call (.Attribute o name apos) (e::es) [] cpos) (eU j k A).F:=by with_unfolding_all exact de_m hK slot hty hm hd ho ha hbase hfew hline hs i_
def FJ{name:Str}{id:String}{apos cpos:Pos}{r':V->List V->Hp->VK->Prop}{k:PMv}(hK:X.K=K)(slot:Slot "list" name id)(hty:typeOf (.builtin id)=pure (.type "method_descriptor"))(hm:MtM X id r')(hd:MtD K mg r' k.F)(ho:DE K mg X ES o p.F)(ha:DA K mg X ES (e::es) A.F)(hbase:attributeBase o name X.env (eval o X.env)=eval o X.env:=by rfl)(hfew:((backTo cpos (starEach (e::es) X.env)).all (λx=>!x.1)&&(backToKw cpos (keywordEach [] X.env)).all (λx=>x.1.isSome)&&decide ((e::es).length+([]:List Keyword).length+(if ([]:List Keyword).isEmpty then 0 else 1)<30))=true:=by rfl)(hline:(apos.endLine==cpos.line)=true:=by rfl)(hs:starEach (e::es) X.env=(false,eval e X.env)::starEach es X.env:=by rfl)(i_:(backTo cpos (starEach es X.env)).any (·.1)=false:=by rfl):DE K mg X ES (.Call (.Attribute o name apos) (e::es) [] cpos) (qc k p A).F:=by with_unfolding_all exact de_m hK slot hty hm hd ho ha hbase hfew hline hs i_
def uo:DO K mg X ES none oN.F:=E4
def uw(he:DE K mg X ES e p.F):DO K mg X ES (some e) (oS p).F:=by with_unfolding_all exact Ek he
def rl{l u:POp}{lo hi:Option Expr}{p2:Pos}(hK:X.K=K)(he:DE K mg X ES e p.F)(hl:DO K mg X ES lo l.F)(hu:DO K mg X ES hi u.F):DE K mg X ES (.Subscript e (.Slice lo hi none p2) pos) (pSl p l u).F:=by with_unfolding_all exact Cp hK he hl hu
def Lh:DE K mg X ES (.Dict [] [] pos) pD0.F:=by with_unfolding_all exact Ln
def zy{cn n:Str}{C:Addr}{i:Nat}{body suite:List Stmt}{b₀:Stmt}{np hpos:Pos}{mro:List Str}(T:X.Top)(hN:X.N.Nodup)(hi:X.N[i]?=some n)(hl:X.env.kindOf n=some .local)(hg:Gl X cn)(hm:mg cn=some (.ref C))(hh:XHand K C)(hmro:∀c∈mro,∀Ce,mg c=some (.ref Ce)->W.mroIn K Ce (.ref C)=some true)(hb:∀(pn:Qi) (xe:Qj) (ES':L2.St->XK),eu (cxT X pn xe) ES'->DSs K mg (cxT X pn xe) ES' body x.F)(hs:∀ea,DSs K mg (gi X ea) (λ_=>E0) (b₀::suite) y.F)(hK:X.K=K:=by rfl)(hk:X.mg=mg:=by rfl)(hd:(cn==("__debug__" : Str))=false:=by decide):DS K mg X ES (.Try body [.ExceptHandler (some (.Name cn np)) (some n) (b₀::suite) hpos] [] [] pos) (wF mro i x y).F:=by with_unfolding_all exact Jc T hN hi hl hg hm hh hmro hb hs hK hk hd
def zA:OpD K mg (λx y H Q=>rI0 (λi j=>.int (i+j)) x y H Q\/(oB x y H Q\/(kE K x y H Q\/kx K x y H Q))) aN.F:=Hi
def Gr:OpD K mg (rI CMulA λi j=>.int (i*j)) bu.F:=GN
def KO:OpD K mg (rI CDivB λi j=>.int (i.fdiv j)) jK.F:=Hu
def Ks:OpD K mg (rI (λ_ j=>j≠0) λi j=>.int (i.fmod j)) cL.F:=IQ
def J2:OpD K mg (rI nU λi j=>.int (i^j.toNat)) nK.F:=Iy
def C9:OpD K mg (rI0 λi j=>.bl (decide (i<j))) bLt.F:=LN
def Cv:OpD K mg (rI0 λi j=>.bl (decide (j<i))) bGt.F:=MZ
def Dh:OpD K mg (rI0 λi j=>.bl (decide (j<=i))) bGe.F:=NI
def Ib:OpD K mg BN rW.F:=En
def M3:OpD K mg (λx y H Q=>vo K x y H Q\/vj K x y H Q) bIx.F:=F2
def CS:OpD K mg (vp K) bEq.F:=GF
def Ni:OpD K mg (vX K) bNe.F:=GQ
def MC:OpD K mg (rIn K false) bIn.F:=(xu false)
def Jf:OpD K mg (rIn K true) jG.F:=(xu true)
def Mk:OpD K mg (λx y H Q=>y=.non/\Q (.bl (decide (x=.non))) H) bIs.F:=EF
def HA:OpD K mg (λx y H Q=>y=.non/\Q (.bl (!decide (x=.non))) H) vI.F:=Ab
def G8:bq K mg (λxs H Q=>(∃p ys,xs=[.ref p]/\(SqL K H p ys\/SqT K H p ys)/\Q (.int ys.length) H)\/(∃z,xs=[.str z]/\z.length<=sizeLine/\Q (.int z.length) H)) bf.F:=Hq
def IA:bq K mg (λxs H Q=>∃i,xs=[.int i]/\Q (.int (if i<0 then -i else i)) H) qb.F:=GH
def FX:bq K mg (λxs H Q=>∃i j,xs=[.int i,.int j]/\Q (.int (if j<i then j else i)) H) sW.F:=EO
def zI:bq K mg (λxs H Q=>∃(a:Addr) (bs:List Bool),xs=[.ref a]/\SqL K H a (bs.map V.bl)/\Q (.bl (bs.all id)) H) p8.F:=Iv
def yi:bq K mg (λxs H Q=>∃(a:Addr) (ns:List Int),xs=[.ref a]/\SqL K H a (ns.map V.int)/\Q (.int ns.sum) H) qf.F:=Kw
def u4:bq K mg (λxs H Q=>∃p ys,xs=[.ref p]/\(SqL K H p ys\/SqT K H p ys)/\∀l,H l=none->Q (.ref l) (upd H l (.lst ys))) jH.F:=E9
def BJ:bq K mg (λxs H Q=>∃p ys,xs=[.ref p]/\((SqL K H p ys/\∀l,H l=none->Q (.ref l) (upd H l (.tup ys)))\/(SqT K H p ys/\Q (.ref p) H))) eK.F:=AM
def Ju:bq K mg (λxs H Q=>(∃i,xs=[.int i]/\Q (.int i) H)\/∃k,xs=[.bl k]/\Q (.int (if k then 1 else 0)) H) pX.F:=JT
def IK(ok:KitsOk K mg kt):bq K mg (λxs H Q=>(∃x c t v b,xs=[x,c]/\TyX K H x t/\eO c=some v/\W.kitOne K t v=some b/\Q (.bl b) H)\/
 (∃x tp cs t vs b,xs=[x,.ref tp]/\SqT K H tp cs/\TyX K H x t/\cs.mapM eO=some vs/\W.kitAny K t vs=some b/\Q (.bl b) H)) (aj kt).F:=GR ok
def ik:MtD K mg nV bC.F:=xr
def A4:MtD K mg (kB K) gj.F:=BP
def yS:MtD K mg (iN K) gp.F:=yy
def EI:nX K mg vS seL.F:=Fx
def Hf:IpD K mg (ipI λi j=>i+j) zV.F:=FV
def Gn:UnD K mg (rU λi=>.int (-i)) gq.F:=Jp
variable{P:Program}{w:World}{base:Heap}{fx:Str}{h_:Stmt}{k n m:Nat}{ps N:List Str}{ms:List Bool}
def okP(D:Def K mg fx h_)(S:FnScope N ps (ak h_))
 (hb:∀(kV doc pm:Value) (an:Option Addr) (cdv ct:Value) (us:List Value),us.length=ps.length->bindArgs (W.fnOf fx fx (bj h_) (aG h_) (ak h_) .none kV doc pm an cdv ct) ⟨us,[]⟩=pure (ps.zip us))
 (e_:∀(f:Addr) (cdv:Value) (A:Around) (outer:List Env) (s:Shared) (H:Hp) (E:XK),Room k (A.deeper (envOfC fx (ak h_) s.heap.objs.size f cdv))->
  DSs K mg (df (CX1 P w) P w K mg base N fx (ak h_) f cdv A outer s H E) (λ_=>E) (aG h_) x.F) (hn:ps.length=n) (hm:N.length=m):Callee P w K mg base fx (k+1) ps (spD K mg n (fnP ms m x).F):=by
 subst hn hm;with_unfolding_all exact D.okD S hb e_
def okX(D:Def K mg fx h_)(S:FnScope N ps (ak h_))
 (hb:∀(kV doc pm:Value) (an:Option Addr) (cdv ct:Value) (us:List Value),us.length=ps.length->bindArgs (W.fnOf fx fx (bj h_) (aG h_) (ak h_) .none kV doc pm an cdv ct) ⟨us,[]⟩=pure (ps.zip us))
 (e_:∀(f:Addr) (cdv:Value) (A:Around) (outer:List Env) (s:Shared) (H:Hp) (E:XK),Room k (A.deeper (envOfC fx (ak h_) s.heap.objs.size f cdv))->
  DSs K mg (df (CX1 P w) P w K mg base N fx (ak h_) f cdv A outer s H E) (λ_=>E) (aG h_) x.F) (hn:ps.length=n) (hm:N.length=m):Callee P w K mg base fx (k+1) ps (spD K mg n (PFx.of ms m x).F):=by
 subst hn hm;with_unfolding_all exact D.okD S hb e_
def ok0(D:Def K mg fx h_)(S:FnScope N ps (ak h_))
 (hb:∀(kV doc pm:Value) (an:Option Addr) (cdv ct:Value) (us:List Value),us.length=ps.length->bindArgs (W.fnOf fx fx (bj h_) (aG h_) (ak h_) .none kV doc pm an cdv ct) ⟨us,[]⟩=pure (ps.zip us)) (hn:ps.length=n:=by rfl):Callee P w K mg base fx (k+1) ps (spD K mg n (PFx.none ms).F):=by
 subst hn;exact D.okD (F:=λ_ _=>.stuck) S hb λ_ _ _ _ _ _ _ _=>zg
end
def IE(b:Bool)(ms:List Bool)(v:Val)(vs:List Val):sls (b::ms) (v::vs)=sl1 b v::sls ms vs:=rfl
def Ds:sls [] []=[]:=rfl
def LR(v:Val):sl1 true v=.mu v:=rfl
def MY(v:Val):sl1 false v=.sh v:=rfl
section
variable(e:E3)
def EN:okA e [] []=true:=rfl
def Hw(i:Nat)(ms:List Bool)(ts:List Tm):okA e (true::ms) (.bor i::ts)=(((e[i]?).bind Sl.mv).isSome && !(iu i ts)&&okA e ms ts):=rfl
def Ku(v:Val)(ms:List Bool)(ts:List Tm):okA e (false::ms) (.val v::ts)=okA e ms ts:=rfl
def A6(i:Nat):iu i []=false:=rfl
def Jh(i:Nat)(v:Val)(ts:List Tm):iu i (.val v::ts)=iu i ts:=rfl
def yU:aU e [] []=[]:=rfl
def FA(v:Val)(ms:List Bool)(ts:List Tm):aU e (false::ms) (.val v::ts)=aU e ms ts:=rfl
def HF(t:Tm)(ms:List Bool)(ts:List Tm):aU e (true::ms) (t::ts)=aU e ms ts:=by cases t <;> rfl
end
def zw:bg [] []=[]:=rfl
def Fe(b:Bool)(t:Tm)(ms:List Bool)(ts:List Tm):bg (b::ms) (t::ts)=nE b t::bg ms ts:=rfl
def Dq(i:Nat):nE true (.bor i)=some i:=rfl
def JY(t:Tm):nE false t=none:=by cases t <;> rfl
def Bt(e:E3):aY [] [] e=e:=rfl
def H0(o:Option Nat)(sub:Qk)(s:Sl)(i e:E3):aY (o::sub) (s::i) e=aY sub i (fo o s e):=rfl
theorem Eo(i:Nat)(v:Val)(e:E3):fo (some i) (.mu v) e=match e[i]? with
 |some t=>e.set i (t.re v)
 |none=>e:=rfl
def JX(s:Sl)(e:E3):fo none s e=e:=rfl
def Ar(vs:List Val):aJ [] vs=[]:=rfl
def Hd(ms:List Bool)(v:Val)(vs:List Val):aJ (true::ms) (v::vs)=.mu v::aJ ms vs:=rfl
def JU(ms:List Bool)(vs:List Val):aJ (false::ms) vs=.no::aJ ms vs:=by cases vs <;> rfl
def Ea(e:E3):muV [] e=some []:=by cases e <;> rfl
def Ld(ms:List Bool)(v:Val)(e:E3):muV (true::ms) (.mu v::e)=(muV ms e).map (v :: ·):=rfl
def NO(ms:List Bool)(s:Sl)(e:E3):muV (false::ms) (s::e)=muV ms e:=by cases s <;> rfl
def yR(v:Val):kq (.val v)=flatV v:=rfl
def xX(v:Val):kq (.new v)=cJ v:=rfl
def xN(xs:List Val):cJ (.lst xs)=flatVs xs:=rfl
def eX:flatVs []=true:=by simp [flatVs]
def d7(v:Val)(vs:List Val):flatVs (v::vs)=(flatV v&&flatVs vs):=by simp [flatVs]
def jF(i:Int):flatV (.int i)=true:=by simp [flatV]
def AS(i:Bool):flatV (.bl i)=true:=by simp [flatV]
def pv(i:Str):flatV (.str i)=true:=by simp [flatV]
def yq:flatV .non=true:=by simp [flatV]
def jX(xs:List Val):flatV (.tup xs)=flatVs xs:=by simp [flatV]
def fI(h0:0<=i)(h:l[i.toNat]?=some x):atI l i=some x:=by have hl:=(x_.mp h).1;unfold atI ixN;rw[if_pos h0,if_pos (by omega)];exact h
def jO(h0:0<=i)(h:i.toNat<n):ixN n i=some i.toNat:=by unfold ixN;rw[if_pos h0,if_pos (by omega)]
section
variable(a b c d e f g h:α)(l:List α)
def ati0:atI (a::l) 0=some a:=fI (by decide) rfl
def ati1:atI (a::b::l) 1=some b:=fI (by decide) rfl
def ati2:atI (a::b::c::l) 2=some c:=fI (by decide) rfl
def ati3:atI (a::b::c::d::l) 3=some d:=fI (by decide) rfl
def ati4:atI (a::b::c::d::e::l) 4=some e:=fI (by decide) rfl
def ati5:atI (a::b::c::d::e::f::l) 5=some f:=fI (by decide) rfl
def ati6:atI (a::b::c::d::e::f::g::l) 6=some g:=fI (by decide) rfl
def ati7:atI (a::b::c::d::e::f::g::h::l) 7=some h:=fI (by decide) rfl
end
def ixn0(n:Nat):ixN (n+1) 0=some 0:=jO (i:=0) (by decide) (by show 0<n+_;omega)
def ixn1(n:Nat):ixN (n+2) 1=some 1:=jO (i:=1) (by decide) (by show 1<n+_;omega)
def ixn2(n:Nat):ixN (n+3) 2=some 2:=jO (i:=2) (by decide) (by show 2<n+_;omega)
def ixn3(n:Nat):ixN (n+4) 3=some 3:=jO (i:=3) (by decide) (by show 3<n+_;omega)
theorem KU(xs:List Val)(k:Int)(v:Val):seL.G (.lst xs) (.int k) v=match ixN xs.length k with
 |some j=>some (.lst (xs.set j v))
 |none=>none:=rfl
mutual
def vq:Val->Val->Bool
 |.non,.non=>true
 |.bl a,.bl b=>a==b
 |.bl a,.int j=>(if a then 1 else 0)==j
 |.int i,.bl b=>i==(if b then 1 else 0)
 |.int i,.int j=>i==j
 |.str x,.str y=>x==y
 |.tup xs,.tup ys=>vqs xs ys
 |.lst xs,.lst ys=>vqs xs ys
 |_,_=>false
def vqs:List Val->List Val->Bool
 | [],[]=>true
 |x::xs,y::ys=>vq x y&&vqs xs ys
 |_,_=>false
end
mutual
def wfV:Nat->Val->Bool
 |_,.non=>true
 |_,.bl _=>true
 |_,.int _=>true
 |_,.str x=>PyData.strOk x
 |k+1,.tup xs=>dH k xs
 |k+1,.lst xs=>dH k xs
 |_,_=>false
def dH:Nat->List Val->Bool
 |_,[]=>true
 |k,x::xs=>wfV k x&&dH k xs
end
mutual
def fR:Val->PyData
 |.bl b=>.bool b
 |.int i=>.int i
 |.str x=>.str x
 |.tup xs=>.tuple (dX xs)
 |.lst xs=>.list (dX xs)
 |_=>.none
def dX:List Val->List PyData
 | []=>[]
 |x::xs=>fR x::dX xs
end
mutual
theorem nr:∀(k:Nat) (v:Val),wfV k v=true->(∀j,k<j->cG j v=some (fR v))/\(fR v).canLay0=true/\(fR v).depth<=k
 |k,.non,_=>⟨λj hj=>by cases j with |zero=>exact absurd hj (OZ _) |succ j=>rfl,rfl,Oa _⟩
 |k,.bl b,_=>⟨λj hj=>by cases j with |zero=>exact absurd hj (OZ _) |succ j=>rfl,rfl,Oa _⟩
 |k,.int b,_=>⟨λj hj=>by cases j with |zero=>exact absurd hj (OZ _) |succ j=>rfl,rfl,Oa _⟩
 |k,.str b,w=>⟨λj hj=>by cases j with |zero=>exact absurd hj (OZ _) |succ j=>rfl,by cases k <;> exact w,Oa _⟩
 |0,.tup xs,w=>absurd w y_
 |0,.lst xs,w=>absurd w y_
 |
  k+1,.tup xs,w=>by
  obtain⟨h1,h2,h3⟩:=kU k xs w;exact⟨λj hj=>by cases j with |zero=>exact absurd hj (OZ _) |succ j=>simp only[cG,fR,h1 j (Nat.lt_of_succ_lt_succ hj),Option.map_some],h2,by simpa [fR,PyData.depth] using h3⟩
 |
  k+1,.lst xs,w=>by
  obtain⟨h1,h2,h3⟩:=kU k xs w;exact⟨λj hj=>by cases j with |zero=>exact absurd hj (OZ _) |succ j=>simp only[cG,fR,h1 j (Nat.lt_of_succ_lt_succ hj),Option.map_some],h2,by simpa [fR,PyData.depth] using h3⟩
 |k,.ty _,w=>by cases k <;> exact absurd w y_
 |k,.glb _,w=>by cases k <;> exact absurd w y_
 |k,.exc _,w=>by cases k <;> exact absurd w y_
 |k,.kl _,w=>by cases k <;> exact absurd w y_
 |k,.dct _,w=>by cases k <;> exact absurd w y_
 |k,.set _,w=>by cases k <;> exact absurd w y_
theorem kU:∀(k:Nat) (vs:List Val),dH k vs=true->(∀j,k<j->d8 j vs=some (dX vs))/\PyData.canLayAll0 (dX vs)=true/\PyData.depthAll (dX vs)<=k
 |k,[],_=>⟨λj hj=>by simp [d8,dX],rfl,Oa _⟩
 |
  k,v::vs,w=>by
  have w':(wfV k v&&dH k vs)=true:=w;rw[C_] at w';obtain⟨h1,h2,h3⟩:=nr k v w'.1;obtain⟨i1,i2,i3⟩:=kU k vs w'.2;exact⟨λj hj=>by simp [d8,dX,h1 j hj,i1 j hj],by simp [dX,PyData.canLayAll0,h2,i2],Nat.max_le.mpr ⟨h3,i3⟩⟩
end
mutual
theorem xM:∀(k:Nat) (v u:Val),wfV k v=true->wfV k u=true->PyData.eqv (fR v) (fR u)=vq v u
 |
  k,v,u,hv,hu=>by
  cases v <;> first |(cases k <;> exact absurd hv y_) |skip
  all_goals (cases u <;> first |(cases k <;> exact absurd hu y_) |rfl |(cases k with |zero=>exact absurd hv y_ |succ k=>exact uX k _ _ hv hu))
theorem uX:∀(k:Nat) (v u:List Val),dH k v=true->dH k u=true->PyData.eqvAll (dX v) (dX u)=vqs v u
 |_,[],[],_,_=>rfl
 |_,[],_::_,_,_=>rfl
 |_,_::_,[],_,_=>rfl
 |
  k,x::xs,y::ys,hv,hu=>by
  have h1:(wfV k x&&dH k xs)=true:=hv;have h2:(wfV k y&&dH k ys)=true:=hu;rw[C_] at h1 h2;show (PyData.eqv (fR x) (fR y)&&PyData.eqvAll (dX xs) (dX ys))=(vq x y&&vqs xs ys);rw[xM k x y h1.1 h2.1,uX k xs ys h1.2 h2.2]
end
def JB(hk:k<=160)(hx:wfV k x=true)(hy:wfV k y=true):cm x y=some (vq x y):=by obtain⟨h1,h2,h3⟩:=nr k x hx;obtain⟨i1,i2,i3⟩:=nr k y hy;unfold cm;rw[h1 164 (by omega),i1 164 (by omega)];dsimp only;rw[if_pos ⟨gW h2 (by omega),gW i2 (by omega)⟩,xM k x y hx hy]
def Mq(hx:wfV 60 x=true)(hy:wfV 60 y=true):cm x y=some (vq x y):=JB (by decide) hx hy
mutual
theorem uV:∀(k:Nat) (v:Val),wfV k v=true->vq v v=true
 |
  k,v,hv=>by
  cases v <;> first |(cases k <;> exact absurd hv y_) |rfl |exact beq_self_eq_true _ |(cases k with |zero=>exact absurd hv y_ |succ k=>exact sE k _ hv)
theorem sE:∀(k:Nat) (v:List Val),dH k v=true->vqs v v=true
 |_,[],_=>rfl
 |
  k,x::xs,hv=>by
  have h1:(wfV k x&&dH k xs)=true:=hv;rw[C_] at h1;show (vq x x&&vqs xs xs)=true;rw[uV k x h1.1,sE k xs h1.2];rfl
end
noncomputable def fV(q:Rat):Val:=.tup [.int q.num,.int q.den]
structure Bx where
 l:Rat
 t:Rat
 w:Rat
 h:Rat
structure Bx.Ok(b:Bx):Prop where
 w:0<b.w
 h:0<b.h
structure Bx.Sz(n:Nat)(b:Bx):Prop where
 l:L2.Sz n b.l
 t:L2.Sz n b.t
 w:L2.Sz n b.w
 h:L2.Sz n b.h
noncomputable def bV(b:Bx):Val:=.tup [fV b.l,fV b.t,fV b.w,fV b.h]
noncomputable def knV:Val->Bool
 |.exc _=>false
 |v=>(tyC v).isSome
noncomputable def cz:Nat->Val->Bool
 |k+1,.tup xs=>xs.all (cz k)
 |_,v=>knV v
noncomputable def gv:Val->Bool
 |.int _=>true
 |_=>false
noncomputable def aM:Val->Bool
 |.tup [.int a,.int b]=>decide (1<=b)&&decide (Int.gcd a b=1)
 |_=>false
noncomputable def ji:Val->Bool
 |.tup (.int a::_)=>decide (0<a)
 |_=>false
noncomputable def bt:Val->Bool
 |.tup [a,b,c,d]=>aM a&&(aM b&&(aM c&&(aM d&&(ji c&&ji d))))
 |_=>false
noncomputable def eR:Val->Bool
 |.int i=>decide (1<=i)
 |_=>false
noncomputable def eP:Val->Bool
 |.tup _=>true
 |_=>false
def Nm(h1:1<=b)(h2:Int.gcd a b=1):Val.tup [.int a,.int b]=fV ((a:Rat)/(b:Rat)):=by
 have hb:b≠0:=by omega
 have h:=qt (a:=a) hb;have s:=Fr.self (by omega) h2;unfold fV;rw[<- h.1,<- h.2,s.1,s.2]
def jg(q:Rat):aM (fV q)=true:=by
 show (decide (1<=(q.den:Int))&&decide (Int.gcd q.num q.den=1))=true
 have:=q.den_pos
 rw[NX (by omega),NX (uJ q)];rfl
def yZ(h:aM d=true):∃q,d=fV q:=by
 unfold aM at h;split at h
 .simp only[C_,Pb] at h;exact⟨_,Nm h.1 h.2⟩
 .cases h
def uO(q:Rat):ji (fV q)=decide (0<q):=by show decide (0<q.num)=decide (0<q);rw[decide_eq_decide];exact DR
def zU(h:b.Ok):bt (bV b)=true:=by show (aM (fV b.l)&&(aM (fV b.t)&&(aM (fV b.w)&&(aM (fV b.h)&&(ji (fV b.w)&&ji (fV b.h))))))=true;rw[jg,jg,jg,jg,uO,uO,NX h.w,NX h.h];rfl
def Jw(b:Bx):cz 2 (bV b)=true:=by simp [bV,fV,cz,knV,tyC]
theorem nS(P:E3->Prop):∀(vs acc:List Val) (e:E3),P e->(∀v∈vs,∀e,P e->∃e1 t e2,g v e=some e1/\F e1=.ok t e2/\bP e2 t=some (e2,f v)/\P e2)->acc.length+vs.length<=16777216->∃e',P e'/\lcV g cY F vs acc e=.ok (acc++vs.map f) e'
 | [],acc,e,hp,_,_=>⟨e,hp,by simp [lcV]⟩
 |
  v::vs,acc,e,hp,hf,hl=>by
  obtain⟨e1,t,e2,q1,q2,q3,q4⟩:=hf v (G_ ..) e hp;obtain⟨e',p',q5⟩:=nS P vs (acc++[f v]) e2 q4 (λu hu=>hf u (A_ _ hu)) (by simp at hl ⊢;omega);refine⟨e',p',?_⟩;unfold lcV;rw[if_pos (by simp at hl;omega),q1];simp only[cY,dD,OL,q2,q3,q5];simp
noncomputable def rgV(k:Nat):List Val:=(List.range k).map λj=>Val.int (j:Nat)
def Fc(h:k<1000000):gy [.int (k:Nat)]=some (rgV k):=by simp only[gy];rw[if_pos (⟨by omega,by omega⟩:RgB _),PL];unfold oz rgV;simp only[Int.zero_add]
def iH(h0:0<=i)(h:i<1000000):gy [.int i]=some (rgV i.toNat):=by
 have:=Fc (k:=i.toNat) (by omega)
 rwa [show ((i.toNat:Nat):Int)=i from by omega] at this
theorem oT(f:α->Val)(st:σ->α->σ)(P:σ->E3->Prop):∀(l:List α) (s:σ) (e:E3),P s e->(∀a∈l,∀s e,P s e->∃e1 e2,g (f a) e=some e1/\(B e1=.nx e2\/B e1=.ct e2)/\P (st s a) e2)->∃e',P (l.foldl st s) e'/\cT g B (l.map f) e=.nx e'
 | [],s,e,hp,_=>⟨e,hp,rfl⟩
 |
  a::l,s,e,hp,hf=>by
  obtain⟨e1,e2,q1,q2,q3⟩:=hf a (G_ ..) s e hp;obtain⟨e',p',q4⟩:=oT f st P l (st s a) e2 q3 λu hu=>hf u (A_ _ hu);refine⟨e',p',?_⟩;rw[E_,bA,q1];rcases q2 with q2 |q2 <;> simp only[q2,mI,Mx,q4]
theorem dO(fv fw:α->Val)(P:E3->Prop):∀(l:List α) (acc:List Val) (e:E3),P e->(∀a∈l,∀e,P e->∃e1 t e2,g (fv a) e=some e1/\F e1=.ok t e2/\bP e2 t=some (e2,fw a)/\P e2)->acc.length+l.length<=16777216->∃e',P e'/\lcV g qY.G F (l.map fv) acc e=.ok (acc++l.map fw) e'
 | [],acc,e,hp,_,_=>⟨e,hp,by simp [lcV]⟩
 |
  v::vs,acc,e,hp,hf,hl=>by
  obtain⟨e1,t,e2,q1,q2,q3,q4⟩:=hf v (G_ ..) e hp;obtain⟨e',p',q5⟩:=dO fv fw P vs (acc++[fw v]) e2 q4 (λu hu=>hf u (A_ _ hu)) (by simp at hl ⊢;omega);refine⟨e',p',?_⟩;rw[E_];unfold lcV;have cy:qY.G=cY:=rfl;rw[cy] at q5 ⊢;rw[if_pos (by simp at hl;omega),q1];simp only[cY,dD,OL,q2,q3,q5];simp
def Ic(v:Val):inS (.mu v)=.mu v:=rfl
def F8(v:Val):inS (.sh v)=.sh v:=rfl
theorem lI(k:Nat):∀xs:List Val,dH k xs=xs.all (wfV k)
 | []=>by simp [dH]
 |x::xs=>by simp [dH,lI k xs]
def Dl(i:Nat)(v:Val)(e:E3):fo (some i) (.sh v) e=e:=rfl
noncomputable def qV(ms:List Bool)(r:SR3):R3F:=match r with
 |.nx e=>(match muV ms e with |some mv=>.ok (.val .non) mv |none=>.stuck)
 |.rt r e=>(match muV ms e with |some mv=>.ok r mv |none=>.stuck)
 |.exc c e=>(match muV ms e with |some mv=>.exc c mv |none=>.stuck)
 |_=>.stuck
def vx(h:vs.length=ms.length):(fnP ms N c).G vs=qV ms (c.G (sls ms vs++List.replicate (N-vs.length) .no)):=by rw[aF,if_pos h];rfl
def bN(ms:List Bool)(r:Rt)(e:E3):qV ms (.rt r e)=match muV ms e with |some mv=>.ok r mv |none=>.stuck:=rfl
def aP{Q:SR3->Prop}(I:E3->Prop){a b:PSt}{e:E3}(h1:∃e1,a.G e=.nx e1/\I e1)(h2:∀e1,I e1->Q (b.G e1)):Q ((ao a b).G e):=by obtain⟨e1,q,i⟩:=h1;rw[CM,q];exact h2 e1 i
def sm8(h:m.natAbs<1099511627776):Sm 8000 m:=K_ (show m.natAbs<2^40 from h) (Oz (by decide) (by decide))
def uq{m:Int}(h:0<m):(0:Rat)<(m:Rat):=Rat.intCast_pos.mpr h
def AJ{a b:Int}(h1:0<a)(h2:0<b):(0:Rat)<(a:Rat)/(b:Rat):=by rw[Rat.div_def];exact Rat.mul_pos (uq h1) (Rat.inv_pos.mpr (uq h2))
def xY(xs ys:List Val):aN.G (.lst xs) (.lst ys)=if xs.length+ys.length<=16777216 then .new (.lst (xs++ys)) else .stuck:=rfl
theorem ar1{α:Type}{P:List α->Prop}(h:∀a,P [a]):∀us:List α,us.length=1->P us
 | [a],_=>h a
theorem ar2{α:Type}{P:List α->Prop}(h:∀a b,P [a,b]):∀us:List α,us.length=2->P us
 | [a,b],_=>h a b
theorem ar3{α:Type}{P:List α->Prop}(h:∀a b c,P [a,b,c]):∀us:List α,us.length=3->P us
 | [a,b,c],_=>h a b c
theorem ar4{α:Type}{P:List α->Prop}(h:∀a b c d,P [a,b,c,d]):∀us:List α,us.length=4->P us
 | [a,b,c,d],_=>h a b c d
theorem ar5{α:Type}{P:List α->Prop}(h:∀a b c d e,P [a,b,c,d,e]):∀us:List α,us.length=5->P us
 | [a,b,c,d,e],_=>h a b c d e
section
variable{P:Nat->Prop}{h:AH}
def K2(r:Rk P h ws us):lkD us k=some v->∃d,lkD ws k=some d/\Rd P h d v:=
 r.ind (M:=λws us=>lkD us k=some v->∃d,lkD ws k=some d/\Rd P h d v) (λq=>by cases q) (λ{k2 d v2 ds vs} r _ ih q=>by
  unfold lkD at q ih ⊢;rw[OD] at q ⊢;dsimp only at q ⊢;by_cases hk:k2=k
  .rw[NX hk] at q ⊢;cases q;exact⟨d,rfl,r⟩
  .rw[L_ hk] at q ⊢;exact ih q)
def DM(r:Rk P h ws us):us.map (·.1)=ws.map (·.1):=
 r.ind (M:=λws us=>us.map (·.1)=ws.map (·.1)) rfl λ_ _ ih=>by rw[E_,E_,ih]
def Hr(r:Rk P h ws us):ws.length=us.length:=
 r.ind (M:=λws us=>ws.length=us.length) rfl λ_ _ ih=>Og (· + 1) ih
def Ji(r:Rk P h ws us)(q:Rk P h ws' us'):Rk P h (ws++ws') (us++us'):=
 r.ind (M:=λws us=>Rk P h (ws++ws') (us++us')) q λr _ ih=>.cons r ih
def Kp(rd:Rd P h d v)(r:Rk P h ws us):Rk P h (jf ws k d) (jf us k v):=by
 unfold jf;rw[sN (DM r)];by_cases hc:(ws.any λkv=>decide (kv.1=k))=true
 .rw[if_pos hc,if_pos hc];exact r.ind (M:=λws us=>Rk P h (ws.map λkv=>if kv.1=k then (kv.1,d) else kv) (us.map λkv=>if kv.1=k then (kv.1,v) else kv)) .nil (λ{k2 d2 v2 ds vs} r _ ih=>by
   rw[E_,E_];dsimp only;by_cases hk:k2=k
   .rw[if_pos hk,if_pos hk];exact .cons rd ih
   .rw[if_neg hk,if_neg hk];exact .cons r ih)
 .rw[if_neg hc,if_neg hc];exact Ji r (.cons rd .nil)
def IW:∀{ks:List Key}{ds:List D}{vs:List Val},Rds P h ds vs->Rk P h (ks.zip ds) (ks.zip vs):=by
 intro ks;induction ks with
 |nil=>intro ds vs _;exact .nil
 |
  cons k ks ih=>
  intro ds vs r;cases r with
  |nil=>exact .nil
  |cons r rr=>exact .cons r (ih rr)
end
def BC:Val->Val->Bv:=λx y=>match x with
 |.dct kvs=>(match y with
  |.str k=>(match lkD kvs (.inr k) with
   |some v=>.val v
   |none=>.stuck)
  |_=>.stuck)
 |_=>.stuck
def GK:RO rh BC:=λP h d1 d2 v1 v2 r1 r2=>by
 unfold BC;split
 .rename_i kvs;split
  .rename_i k;split
   .rename_i v q;obtain⟨n,ws,rfl,e,rk⟩:=r1.dct;obtain rfl:=r2.str;obtain⟨d,q1,rd⟩:=K2 rk q;refine⟨d,?_,rd⟩;unfold rh;dsimp only;rw[e];dsimp only;rw[q1]
   .trivial
  .trivial
 .trivial
def dZ:PO2:=⟨rh,BC,GK⟩
theorem NF(kvs:List (Key×Val))(k:Str):dZ.G (.dct kvs) (.str k)=match lkD kvs (.inr k) with
 |some v=>.val v
 |none=>.stuck:=rfl
def sD:Val->Val->Val->Option Val:=λo i v=>match o with
 |.dct kvs=>(match i with
  |.str k=>if kvs.length<16777216 then some (.dct (jf kvs (.inr k) v)) else none
  |_=>none)
 |_=>none
def Iz:vy wD sD:=λP h n o u di vi d v u' np e hf r ri rd q=>by
 unfold sD at q;split at q
 .rename_i kvs;split at q
  .rename_i k;split at q
   .rename_i hl;cases q;obtain rfl:=ri.str;cases r with
    |dct rk=>rename_i ws;refine⟨.dct (jf ws (.inr k) d),?_,trivial,.dct (Kp rd rk)⟩;unfold wD;dsimp only;rw[e];dsimp only;rw[if_pos (by rw[Hr rk];exact hl)]
   .cases q
  .cases q
 .cases q
def seD:PSe:=⟨wD,sD,Iz⟩
def vM(ks:List Str)(A:MA3):ME3:=λe=>(A e).bind λts e1=>match dem e1 ts with
 |some (e2,vs)=>if ks.length=vs.length then .ok (.new (.dct ((ks.map Sum.inr).zip vs))) e2 else .stuck
 |none=>.stuck
def ER(ks:List Str)(hA:RA A A3):RE (mf ks A) (vM ks A3):=λX h0 L ns e ae h S hl=>by
 have SG:=S.grow (.dct []);have p:=hA (Xn X h.length) h0 ns e ae (h++[.dct []]) SG;unfold vM mf;cases q:A3 e with
 |stuck=>trivial
 |exc c e'=>rw[q] at p;obtain⟨h',ns',y,a,S'⟩:=p;exact⟨h',ns',by rw[y];rfl,(Stp.grow _).trans S a,S'.weak λn z=>.inl z⟩
 |
  ok ts e1=>
  rw[q] at p;obtain⟨ds,h1,ns1,y,a1,S1,r1⟩:=p;rw[y];show Po X h0 ns e ae h (relE X h0 L ae) _ (match dem e1 ts with
   |some (e2,vs)=>if ks.length=vs.length then .ok (.new (.dct ((ks.map Sum.inr).zip vs))) e2 else .stuck
   |none=>.stuck)
  cases qd:dem e1 ts with
  |none=>trivial
  |
   some w=>
   obtain⟨e2,vs⟩:=w;dsimp only;by_cases d_:ks.length=vs.length
   .rw[if_pos d_];obtain⟨j_,S2,a2,r2⟩:=iR S1 r1 qd;have hk:h1[h.length]?=some (.dct []):=a1.keep _ _ vf λ⟨i,s,z,_⟩=>SG.nx i _ z (.inr rfl);have A:=((Stp.grow (.dct [])).trans S a1).trans S a2;have hlt:=cp hk;have mv:Mov (Oc (Xn X h.length) j_) (Oc (Xn X h.length) j_) h1 (h1.set h.length (.dct ((ks.map Sum.inr).zip ds))):=λm o p q=>⟨p,by have:m≠h.length:=λz=>p.1 (.inr z);rw[bp this];exact q⟩;have S3:Sat (Xn X h.length) h0 j_ e2 ae (h1.set h.length (.dct ((ks.map Sum.inr).zip ds))):=⟨S2.l1,S2.l2,by rw[NU];exact S2.lh,λm z=>by rw[NU];exact S2.xl m z,S2.inj,S2.nx,λj s qj=>(S2.sl j s qj).mono mv λm o qm qo=>by have:m≠h.length:=λz=>S2.nx j m qm (.inr z);rw[bp this];exact qo⟩;have A3':Stp ns e h j_ e2 (h1.set h.length (.dct ((ks.map Sum.inr).zip ds))):=⟨by rw[NU];exact A.len,λm o qm hm=>by have:m≠h.length:=N2 (cp qm);rw[bp this];exact A.keep m o qm hm,A.nw,A.lk,A.lk',A.mu,A.mu'⟩;refine⟨.ref h.length,_,j_,?_,A3',S3.weak λn z=>.inl z,h.length,_,rfl,hl,λz=>Ow _ (S.xl _ z),bH hlt,trivial,S3,.dct ((IW r2).mono mv)⟩;show (match h1[h.length]? with
     |some (.dct [])=>if ks.length=ds.length then R.ok (D.ref h.length) (h1.set h.length (.dct ((ks.map Sum.inr).zip ds))) else .stuck
     |_=>.stuck)=_
    rw[hk];dsimp only;rw[if_pos (by rw[r2.len];exact d_)]
   .rw[if_neg d_];trivial
def p7(ks:List Str)(a:PAs):PEx:=⟨mf ks a.F,vM ks a.G,ER ks a.ok⟩
theorem mr(e:E3)(ks:List Str)(a:PAs):(p7 ks a).G e=(a.G e).bind λts e1=>match dem e1 ts with
 |some (e2,vs)=>if ks.length=vs.length then .ok (.new (.dct ((ks.map Sum.inr).zip vs))) e2 else .stuck
 |none=>.stuck:=rfl
section
variable{K:W.Frag}{mg:Qh}{X:Cx}{ES:L2.St->XK}{a b:Expr}{p q:PEx}{pos:Pos}
def va(hu:X.A.units+1<cLine)(ha:DE K mg X ES a p.F)(hb:DE K mg X ES b q.F)(hs:wQ b):DE K mg X ES (.Subscript a b pos) (pOp dZ p q).F:=by with_unfolding_all exact Eu hu ha hb hs
def gO(hv:DE K mg X ES v F)(hr:PPs X pos ks vs (tps K mg ES prs)):PPs X pos (some (.Constant (.str k) j kp)::ks) (v::vs) (tps K mg ES ((k,F)::prs)):=by with_unfolding_all exact AA hv hr
def uv(hp:PPs X pos keys values (tps K mg ES prs))(h1:ks=prs.map (·.1):=by rfl)(h2:A.F=aL prs:=by rfl)(hn:ks.Nodup:=by decide)(hall:keys.all (·.isSome)=true:=by rfl)(hl:keys.length=values.length:=by rfl)(h0:keys≠[]:=by intro h;cases h)(h15:keys.length<=15:=by decide)(hp15:prs.length<=15:=by decide):DE K mg X ES (.Dict keys values pos) (p7 ks A).F:=by subst h1;show DE K mg X ES (.Dict keys values pos) (mf (prs.map (·.1)) A.F);rw[h2];with_unfolding_all exact Ee hp hall hl h0 h15 hn hp15
end
def ky(k:Nat):(rgV k).length=k:=by unfold rgV;rw[w_,OK]
def rM(xs:List Val)(n:Nat):fc xs none (some (n:Int))=xs.take n:=by
 unfold fc;rw[HT.sIx_none,HT.sIx_nat,List.drop_zero,Nat.sub_zero];by_cases h:n<=xs.length
 .rw[Nat.min_eq_left h]
 .rw[Nat.min_eq_right (by omega),OS (z_ _),OS (by omega)]
def B2(xs:List Val)(n:Nat):fc xs (some (n:Int)) none=xs.drop n:=by
 unfold fc;rw[HT.sIx_none,HT.sIx_nat];by_cases h:n<=xs.length
 .rw[Nat.min_eq_left h,OS (by rw[List.length_drop];exact z_ _)]
 .rw[Nat.min_eq_right (by omega),List.drop_of_length_le (z_ _),List.drop_of_length_le (by omega),O7]
def Fu(xs:List Val):fc xs none (some (-1))=xs.dropLast:=by unfold fc;rw[HT.sIx_none,List.drop_zero,Nat.sub_zero,List.dropLast_eq_take];show xs.take (if (-1:Int)<0 then ((-1:Int)+(xs.length:Int)).toNat else min (-1:Int).toNat xs.length)=_;rw[if_pos (by decide)];congr 1;omega
def mJ(xs:List Val)(lo hi:Option Int):aSl (.lst xs) lo hi=.new (.lst (fc xs lo hi)):=rfl
def Lu(xs:List Val)(lo hi:Option Int):aSl (.kl xs) lo hi=.new (.lst (fc xs lo hi)):=rfl
noncomputable def pU(n:Nat)(u:jm):MG3:=λv e=>match v with
 |.tup vs=>if vs.length=n then u vs e else none
 |.lst vs=>if vs.length=n then u vs e else none
 |_=>none
section
variable{gs:MGs}{gs3:jm}
def rg_u(n:Nat)(hs:RGs gs gs3):RG (gU λds ae h=>if ds.length=n then gs ds ae h else .stuck) (pU n gs3):=λX h0 ns e ae h d v e' S r q=>by
 unfold pU at q;split at q
 .split at q
  .rename_i hn;obtain⟨ds,rfl,r2⟩:=ShR.tup (.inl r);obtain⟨ae1,ns1,p1,S1,a1⟩:=hs _ _ _ _ _ _ _ _ _ S r2 q;refine⟨ae1,ns1,?_,S1,a1⟩;unfold gU;dsimp only;rw[if_pos (by rw[r2.len];exact hn)];exact p1
  .cases q
 .split at q
  .rename_i hn;obtain⟨m,ds,rfl,_,eq,r2⟩:=ShR.lst (.inl r);obtain⟨ae1,ns1,p1,S1,a1⟩:=hs _ _ _ _ _ _ _ _ _ S r2 q;refine⟨ae1,ns1,?_,S1,a1⟩;unfold gU;dsimp only;rw[eq];dsimp only;rw[if_pos (by rw[r2.len];exact hn)];exact p1
  .cases q
 .cases q
end
noncomputable def gtU(n:Nat)(a:PGs):PGt:=⟨gU λds ae h=>if ds.length=n then a.F ds ae h else .stuck,pU n a.G,rg_u n a.ok⟩
section
variable{e:E3}
def g_uL(n:Nat)(a:PGs)(vs:List Val):(gtU n a).G (.lst vs) e=if vs.length=n then a.G vs e else none:=rfl
end
section
variable{K:W.Frag}{mg:Qh}{X:Cx}{es:List Expr}{gs:PGs}{pos:Pos}
def HU{k n:Nat}(hK:X.K=K)(hc:X.calm=true)(h:DGs K mg X (λ_=>E0) es gs.F)(hn:(assignEach es X.env).length=n:=by rfl)(hst:(assignEach es X.env).findIdx? (·.1)=none:=by rfl):DG K mg X (λ_=>E0) (.Tuple es k pos) (gtU n gs).F:=IX hK hc h hn hst
end
def zP:List Val->Bv:=λvs=>match vs with
 | [.int j]=>if -(2^62)<=j/\j<=16777216 then .new (.lst (rgV j.toNat)) else .stuck
 |_=>.stuck
def Jr:RFn nW zP:=λP h ds vs r=>by
 unfold zP;split
 .obtain⟨d,hd,rr1⟩:=eA r;subst hd;split
  .rename_i j hb;have e:=rr1.int;subst e;refine⟨.lst (zY j),by unfold nW;dsimp only;rw[if_pos hb],trivial,.lst ?_⟩;unfold zY rgV;generalize List.range j.toNat=l;induction l with
   |nil=>exact .nil
   |cons i l ih=>exact .cons (.int _) ih
  .trivial
 .trivial
noncomputable def gQ:PBf:=⟨nW,zP,Jr⟩
def wC{j:Int}(h:-(2^62)<=j/\j<=16777216):gQ.G [.int j]=.new (.lst (rgV j.toNat)):=if_pos h
section
variable{K:W.Frag}{mg:Qh}{X:Cx}{ES:L2.St->XK}{a:Expr}{A:PAs}{pos q2 p1 p2:Pos}
def Il(hc:X.calm=true)(hl:Gl X "list")(hml:mg "list"=none)(hg:Gl X "range")(hm:mg "range"=none)(ha:DA K mg X ES [a] A.F)(hk:X.mg=mg:=by rfl)(hs:starEach [a] X.env=[(false,eval a X.env)]:=by rfl)
 (hs1:starEach [.Call (.Name "range" p2) [a] [] q2] X.env=[(false,eval (.Call (.Name "range" p2) [a] [] q2) X.env)]:=by rfl):
 DE K mg X ES (.Call (.Name "list" p1) [.Call (.Name "range" p2) [a] [] q2] [] pos) (pFn gQ A).F:=by with_unfolding_all exact Gm hc hl hml hg hm ha hk hs hs1
end
def sT(o_:Bool)(n:Str)(kvs:List (Str×Int)):Val->Val->Bv:=λx y=>match x,y with
 |.str k,.glb m=>if m=n then .val (.bl (o_ ^^ (lkS kvs k).isSome)) else .stuck
 |_,_=>.stuck
def nq(n:Str)(kvs:List (Str×Int)):Val->Val->Bv:=λx y=>match x,y with
 |.glb m,.str k=>(match lkS kvs k with
  |some i=>if m=n then .val (.int i) else .stuck
  |none=>.stuck)
 |_,_=>.stuck
def G4(o_:Bool)(n:Str)(kvs:List (Str×Int)):RO (qW o_ n kvs) (sT o_ n kvs):=λP h d1 d2 v1 v2 r1 r2=>by
 unfold sT;split
 .split
  .rename_i hm;obtain rfl:=r1.str;obtain rfl:=r2.glb;exact⟨_,by unfold qW;dsimp only;rw[if_pos hm],.bl _⟩
  .trivial
 .trivial
def FR(n:Str)(kvs:List (Str×Int)):RO (ng n kvs) (nq n kvs):=λP h d1 d2 v1 v2 r1 r2=>by
 unfold nq;split
 .split
  .rename_i i e;split
   .rename_i hm;obtain rfl:=r1.glb;obtain rfl:=r2.str;exact⟨_,by unfold ng;dsimp only;rw[e];dsimp only;rw[if_pos hm],.int _⟩
   .trivial
  .trivial
 .trivial
def vm(n:Str)(kvs:List (Str×Int)):PO2:=⟨qW true n kvs,sT true n kvs,G4 true n kvs⟩
def md(n:Str)(kvs:List (Str×Int)):PO2:=⟨ng n kvs,nq n kvs,FR n kvs⟩
def sx(n:Str)(kvs:List (Str×Int))(k:Str):(vm n kvs).G (.str k) (.glb n)=.val (.bl (!(lkS kvs k).isSome)):=by show sT true n kvs (.str k) (.glb n)=_;unfold sT;dsimp only;rw[if_pos rfl];cases (lkS kvs k).isSome <;> rfl
def zi{n:Str}{kvs:List (Str×Int)}{k:Str}{i:Int}(h:lkS kvs k=some i):(md n kvs).G (.glb n) (.str k)=.val (.int i):=by show nq n kvs (.glb n) (.str k)=_;unfold nq;dsimp only;rw[h];dsimp only;rw[if_pos rfl]
section
variable{K:W.Frag}{mg:Qh}{n:Str}{kvs:List (Str×Int)}
def ED:OpD K mg (Co true mg n kvs) (vm n kvs).F:=Ey true
def EZ:OpD K mg (wg mg n kvs) (md n kvs).F:=Bk
end
theorem nO{g:MG3}{c:MT3}{F:ME3}{α:Type}(pz:α->Bool)(fv fw:α->Val)(P:E3->Prop):∀(l:List α) (acc:List Val) (e:E3),P e->(∀a∈l,∀e,P e->∃e1 e2,g (fv a) e=some e1/\c e1=.ok (pz a) e2/\P e2/\(pz a=true->∃t e3,F e2=.ok t e3/\bP e3 t=some (e3,fw a)/\P e3))->acc.length+l.length<=16777216->∃e',P e'/\lcV g c F (l.map fv) acc e=.ok (acc++(l.filter pz).map fw) e'
 | [],acc,e,hp,_,_=>⟨e,hp,by simp [lcV]⟩
 |
  a::l,acc,e,hp,hf,hl=>by
  obtain⟨e1,e2,q1,q2,q3,q4⟩:=hf a (G_ ..) e hp;rw[I_] at hl;cases hz:pz a with
  |false=>obtain⟨e',p',q⟩:=nO pz fv fw P l acc e2 q3 (λu hu=>hf u (A_ _ hu)) (by omega);refine⟨e',p',?_⟩;rw[hz] at q2;rw[E_];unfold lcV;rw[if_pos (by omega),q1];simp only[q2,dD,OG,Pg,q];rw[List.filter_cons_of_neg (by rw[hz];exact y_)]
  |true=>obtain⟨t,e3,r1,r2,r3⟩:=q4 hz;obtain⟨e',p',q⟩:=nO pz fv fw P l (acc++[fw a]) e3 r3 (λu hu=>hf u (A_ _ hu)) (by simp;omega);refine⟨e',p',?_⟩;rw[hz] at q2;rw[E_];unfold lcV;rw[if_pos (by omega),q1];simp only[q2,dD,OL,r1,r2,q];rw[List.filter_cons_of_pos hz,E_,OA];rfl
def mF(xs:List Int):(xs.map Val.int).all nh=true:=by rw[List.all_map,NY];intro x _;rfl
def qT(xs:List Int)(a:Int):((xs.map Val.int).any λd=>eq1 d (.int a))=xs.contains a:=by
 induction xs with
 |nil=>rfl
 |cons x xs ih=>rw[E_,OF,ih,List.contains_cons];congr 1;show (x==a)=(a==x);rw[Bool.eq_iff_iff,Oj,Oj];exact⟨Eq.symm,Eq.symm⟩
def zt(xs:List Int)(a:Int):jG.G (.int a) (.lst (xs.map .int))=.val (.bl (!xs.contains a)):=by show aIn true (.int a) (.lst (xs.map .int))=_;unfold aIn;dsimp only [Val.items];rw[if_pos ⟨rfl,mF xs⟩,qT];rfl
def Cm(xs:List Int)(a:Int):bIn.G (.int a) (.lst (xs.map .int))=.val (.bl (xs.contains a)):=by show aIn false (.int a) (.lst (xs.map .int))=_;unfold aIn;dsimp only [Val.items];rw[if_pos ⟨rfl,mF xs⟩,qT];rfl
section
variable{X:Cx}{K:W.Frag}{mg:Qh}{ES:L2.St->XK}{e:Expr}{es:List Expr}{A:PAs}{pos:Pos}{x:PSt}
variable{P:Program}{w:World}{base:Heap}{fx:Str}{h_:Stmt}{k n m:Nat}{ps N:List Str}{ms:List Bool}
def okPU(D:Def K mg fx h_)(S:FnScope N ps (ak h_))
 (hb:∀(kV doc pm:Value) (an:Option Addr) (cdv ct:Value) (us:List Value),us.length=ps.length->bindArgs (W.fnOf fx fx (bj h_) (aG h_) (ak h_) .none kV doc pm an cdv ct) ⟨us,[]⟩=pure (ps.zip us))
 (e_:∀(f:Addr) (cdv:Value) (A:Around) (outer:List Env) (s:Shared) (H:Hp) (E:XK),RoomU k (A.deeper (envOfC fx (ak h_) s.heap.objs.size f cdv))->
  DSs K mg (fY (CX1 P w) P w K mg base N fx (ak h_) f cdv A outer s H E) (λ_=>E) (aG h_) x.F) (hn:ps.length=n) (hm:N.length=m):CalleeU P w K mg base fx (k+1) ps (spD K mg n (fnP ms m x).F):=by
 subst hn hm;with_unfolding_all exact D.okDU S hb e_
def o7{f:PFn}{y:Str}{p0:Pos}(C:CalleeU X.prog X.w X.K X.mg X.base y k ps (spD K mg n f.F))(hr:RoomU k X.A)(hg:Gl X y)(hx:eu X ES)(ha:DA K mg X ES (e::es) A.F)(hn:f.ms.length=n:=by rfl)(hdb:(y==("__debug__" : Str))=false:=by decide)(he:starEach (e::es) X.env=(false,eval e X.env)::starEach es X.env:=by rfl)(hpl:(backTo pos (starEach es X.env)).any (·.1)=false:=by rfl):DE K mg X ES (.Call (.Name y p0) (e::es) [] pos) (ai f A).F:=by subst hn;with_unfolding_all exact Cb C hr hg hx ha hdb he hpl
end
def DF(i j:Nat)(a:PEx):(nM i j (aa a (aa (aK ag) ag))).F=(ao (ay false i a) (ay true j (aK ag))).F:=by
 funext ae h;show tI i j (jb a.F (jb (eFn cQ kS) kS)) ae h=(fk a.F (gN i) ae h).then (fk (eFn cQ kS) (gN j))
 unfold tI jb;rw[show fk a.F (gN i) ae h=(a.F ae h).toS ae λd h1=>(gN i d ae h1).toS ae λc_ h2=>.nx c_ h2 from rfl];cases a.F ae h with
 |ok d h1=>rfl
 |exc c h1=>rfl
 |stuck=>rfl
def Cu(i j:Nat)(a:PEx):PSt:=⟨(nM i j (aa a (aa (aK ag) ag))).F,(ao (ay false i a) (ay true j (aK ag))).G,by rw[DF];exact (ao (ay false i a) (ay true j (aK ag))).ok⟩
def KC(i j:Nat)(a:PEx)(e:E3):(Cu i j a).G e=(ao (ay false i a) (ay true j (aK ag))).G e:=rfl
section
variable{K:W.Frag}{mg:Qh}{X:Cx}{ES:L2.St->XK}{e:Expr}{es:List Expr}{p:PEx}{A:PAs}{pos:Pos}
def zcF{f:PFn}{x:Str}{p0:Pos}{k j n:Nat}{ps:List Str}(C:Callee X.prog X.w X.K X.mg X.base x j ps (spD K mg n f.F))(hr:Room k X.A)(ha:DA K mg X ES (e::es) A.F)(hk:j<=k:=by omega)(hg:Gl X x:=by exact rfl)(hx:eu X ES:=by first |exact tV Nz |exact lj |assumption)(hn:f.ms.length=n:=by rfl)(hdb:(x==("__debug__" : Str))=false:=by decide)(he:starEach (e::es) X.env=(false,eval e X.env)::starEach es X.env:=by rfl)(hpl:(backTo pos (starEach es X.env)).any (·.1)=false:=by rfl):DE K mg X ES (.Call (.Name x p0) (e::es) [] pos) (ai f A).F:=AD C (hr.mono hk) hg hx ha hn hdb he hpl
def zsS{ow:Bool}(i:Nat){x:Str}{r_:Pos}(hN:X.N.Nodup)(he:DE K mg X ES e p.F)(hi:X.N[i]?=some x:=by exact rfl)(hx:Loc X.env.scope x:=by first |exact Or.inl rfl |exact Or.inr rfl)(hs:swapsWith e (some (.Name x r_)) pos.line X.env=pure false:=by rfl)(hf:X.fn x=true\/X.env.scope.names.lookup x=some .local:=by first |exact .inl rfl |exact .inr rfl |assumption):DS K mg X ES (.Assign [.Name x r_] e pos) (ay ow i p).F:=G1 hN hi hx he hs hf
def zgN(i:Nat){x:Str}(hN:X.N.Nodup)(hi:X.N[i]?=some x:=by exact rfl)(hx:Loc X.env.scope x:=by first |exact Or.inl rfl |exact Or.inr rfl)(hf:X.fn x=true\/X.env.scope.names.lookup x=some .local:=by first |exact .inl rfl |exact .inr rfl |assumption):DG K mg X ES (.Name x pos) (gtN i).F:=Fm hN hi hx hf
end
open PySem PySem.Spec PyProof.Rows L2 PySem.W
noncomputable def adr(K:Frag)(x:Str):Addr:=match nsIn K mainGlobals x with
 |some (some (.ref a))=>a
 |_=>0
noncomputable def jI(K:Frag)(x:Str):Bool:=match nsIn K mainGlobals x with
 |some (some (.ref _))=>true
 |_=>false
noncomputable def vt(K:Frag)(x:Str):Bool:=match nsIn K mainGlobals x with
 |some none=>true
 |_=>false
noncomputable def xcB(K:Frag)(C:Addr):Bool:=(clsIn K C).isSome&&(findIn K (.ref C) "__getattribute__" == some (some (.builtin "BaseException.__getattribute__"))&&(findIn K (.ref C) "__getattr__" == some none&&(findIn K (.ref C) "__class__" == some (some (.builtin "object.__class__"))&&(specialIn K (.builtin "object.__class__") "__get__" == some (some (.builtin "getset_descriptor.__get__"))&&(takesIn K (.builtin "object.__class__")==some true&&(mroIn K C (.type "object")==some true&&mroIn K C (.type "BaseException")==some true))))))
noncomputable def hdB(K:Frag)(C:Addr):Bool:=typeIn K (.ref C)==some (.type "type")&&((clsIn K C).isSome&&mroIn K C (.type "BaseException")==some true)
noncomputable def clA(K:Frag):Cl->Value
 |.b n=>.type n
 |.o x=>.ref (adr K x)
noncomputable def Bf(K:Frag):Cl->Bool
 |.b _=>true
 |.o x=>jI K x
noncomputable def Bh(K:Frag)(p:Cl×Cl×Bool):Bool:=kitOne K (clA K p.1) (clA K p.2.1)==some p.2.2&&(Bf K p.1&&Bf K p.2.1)
noncomputable def xkB(K:Frag):Cl->Bool
 |.b _=>true
 |.o x=>xcB K (adr K x)
noncomputable def vB:D->Value->Bool
 |.int i,.int j _=>i==j
 |.str x,.str y _=>x==y
 |.non,.none=>true
 |.bl b,.bool c=>b==c
 |_,_=>false
noncomputable def dV:D->V
 |.int i=>.int i
 |.str x=>.str x
 |.bl b=>.bl b
 |_=>.non
noncomputable def pY:List D->List Value->Bool
 | [],[]=>true
 |d::ds,v::vs=>vB d v&&pY ds vs
 |_,_=>false
noncomputable def gcB(K:Frag)(x:Str):D->Bool
 |.tup ds=>(match nsIn K mainGlobals x with
  |some (some (.ref a))=>(match K.lookup a with
   |some ⟨.type "tuple",_,.seq its _,_⟩=>decide (its.size<=1000)&&pY ds its.toList
   |_=>false)
  |_=>false)
 |d=>match nsIn K mainGlobals x with
  |some (some v)=>vB d v
  |_=>false
noncomputable def bFn:List String:=["abs", "all", "any", "isinstance", "len", "max", "min", "sorted", "sum"]
def bTy:List String:=["bool", "dict", "int", "list", "set", "str", "tuple", "ValueError"]
noncomputable def bIt:List String:=["range", "zip", "enumerate"]
def JF:(bFn.all λn=>bootBuiltins (Str.ofString n)==some (.builtin n))=true:=by decide
def KD:(bTy.all λn=>bootBuiltins (Str.ofString n)==some (.type n))=true:=by decide
def boF{n:String}(h:bFn.contains n=true):bootBuiltins (Str.ofString n)=some (.builtin n):=Oj.mp (NY.mp JF n (Oo.mp h))
def boT{n:String}(h:bTy.contains n=true):bootBuiltins (Str.ofString n)=some (.type n):=Oj.mp (NY.mp KD n (Oo.mp h))
structure Tb where
 us:List Str
 rs:List Str
 hs:List (Str×List Str)
 kt:jh
 gs:List (Str×D)
noncomputable def Tb.ok(b:Tb)(K:Frag):Bool:=(bFn++(bTy++bIt)).all (λn=>vt K (Str.ofString n))&&(b.us.all (jI K)&&(b.rs.all (λx=>excIn K (adr K x) kR "ValueError.__new__" && jI K x)&&(b.hs.all (λp=>hdB K (adr K p.1)&&p.2.all λc=>mroIn K (adr K c) (.ref (adr K p.1))==some true&&jI K c)&&(b.kt.all (λp=>Bh K p&&xkB K p.1)&&b.gs.all λp=>gcB K p.1 p.2))))
structure Tx(b:Tb)(K:Frag)(mg:Qh):Prop where
 n:∀{n:String},(bFn++(bTy++bIt)).contains n=true->mg (Str.ofString n)=none
 m:∀{x:Str},b.us.contains x=true->mg x=some (.ref (adr K x))
 x:∀{x:Str},b.rs.contains x=true->excIn K (adr K x) kR "ValueError.__new__"=true
 h:∀{x:Str}{l:List Str},(x,l)∈b.hs->XHand K (adr K x)/\∀c∈l,∀Ce,mg c=some (.ref Ce)->mroIn K Ce (.ref (adr K x))=some true
 k:KitsOk K mg b.kt
 g:∀{x:Str}{d:D},b.gs.lookup x=some d->GC K mg x d
section
variable{K:Frag}{h:Heap}{mg:Qh}{x:Str}(X:K.In h)(G:h.Ns mainGlobals mg)
include X G
def pS(e:jI K x=true):mg x=some (.ref (adr K x)):=by
 unfold jI at e;split at e
 .rename_i a q;unfold adr;rw[q];exact mg_of X G q
 .cases e
def C0(e:vt K x=true):mg x=none:=by
 unfold vt at e;split at e
 .rename_i q;exact mg_none_of X G q
 .cases e
omit X G in
def Me{C:Addr}(e:xcB K C=true):XCls K C:=by simp only[xcB,C_,Oj] at e;obtain⟨e1,e2,e3,e4,e5,e6,e7,e8⟩:=e;exact⟨e1,e2,e3,e4,e5,e6,e7,e8⟩
def C4{c:Cl}{v:Value}(e:Bf K c=true)(q:ClV mg c v):v=clA K c:=by
 cases c with
 |b n=>exact q
 |o y=>obtain⟨a,rfl,m⟩:=q;rw[pS X G (show jI K y=true from e)] at m;cases m;rfl
omit X G in
def ye{d:D}{v:Value}(e:vB d v=true):RelV (dV d) v/\∀ρ H,RelD K mg ρ H d (dV d):=by
 unfold vB at e;split at e
 .cases Oj.mp e;exact⟨⟨_,rfl⟩,λ_ _=>.int _⟩
 .cases Oj.mp e;exact⟨⟨_,rfl⟩,λ_ _=>.str _⟩
 .exact⟨rfl,λ_ _=>.non⟩
 .cases Oj.mp e;exact⟨rfl,λ_ _=>.bl _⟩
 .cases e
omit X G in
theorem uK:∀{ds:List D}{vs:List Value},pY ds vs=true->Vals (ds.map dV) vs/\∀ρ H,RelDs K mg ρ H ds (ds.map dV)
 | [],[],_=>⟨.nil,λ_ _=>.nil⟩
 |
  d::ds,v::vs,e=>by
  rw[pY,C_] at e;obtain⟨a1,a2⟩:=ye (K:=K) (mg:=mg) e.1;obtain⟨b1,b2⟩:=uK e.2;exact⟨.cons a1 b1,λρ H=>.cons (a2 ρ H) (b2 ρ H)⟩
 | [],_::_,e=>nomatch e
 |_::_,[],e=>nomatch e
def MW{d:D}(e:gcB K x d=true):GC K mg x d:=by
 unfold gcB at e;split at e
 .rename_i ds;split at e
  .rename_i a q;split at e
   .rename_i dd its n sl l;rw[C_] at e;obtain⟨v1,v2⟩:=uK (K:=K) (mg:=mg) e.2;exact Ge X G q l (J_ (of_decide_eq_true e.1) (by decide)) v1 v2
   .cases e
  .cases e
 .split at e
  .rename_i v q;obtain⟨v1,v2⟩:=ye (K:=K) (mg:=mg) e;exact⟨_,_,mg_of X G q,v1,v2⟩
  .cases e
omit X G in
theorem yF{d:D}:∀{l:List (Str×D)},l.lookup x=some d->(x,d)∈l
 | [],h=>nomatch h
 |
  (y,e)::l,h=>by
  rw[OQ] at h;split at h
  .rename_i q;cases h;rw[Oj.mp q];exact G_
  .exact A_ _ (yF h)
def M0{b:Tb}(e:b.ok K=true):Tx b K mg:=by
 unfold Tb.ok at e;simp only[C_] at e;obtain⟨e1,e2,e3,e4,e5,e6⟩:=e;simp only[NY,C_] at e1 e2 e3 e4 e5 e6;refine⟨λh=>C0 X G (e1 _ (Oo.mp h)),λh=>pS X G (e2 _ (Oo.mp h)),λh=>(e3 _ (Oo.mp h)).1,λh=>?_,⟨λp hp t v h1 h2=>?_,λp hp x C e' m=>?_⟩,λh=>MW X G (e6 _ (yF h))⟩
 .obtain⟨a1,a2⟩:=e4 _ h;refine⟨?_,λc hc Ce m=>?_⟩
  .simp only[hdB,C_,Oj] at a1;exact⟨a1.1,a1.2.1,a1.2.2⟩
  .obtain⟨b1,b2⟩:=a2 c hc;rw[pS X G b2] at m;cases m;exact Oj.mp b1
 .obtain⟨a1,_⟩:=e5 p hp;simp only[Bh,C_,Oj] at a1;rw[C4 X G a1.2.1 h1,C4 X G a1.2.2 h2];exact a1.1
 .obtain⟨a1,a2⟩:=e5 p hp;simp only[Bh,C_,Oj] at a1;have a3:=a1.2.1;rw[e'] at a2 a3;rw[pS X G (show jI K x=true from a3)] at m;cases m;exact Me a2
end
def dNm(s:Stmt):Str:=match s with
 |.FunctionDef n ..=>n
 |_=>""
def AllD(K:Frag)(mg:Qh)(top:Nat->Stmt):List Nat->Prop
 | []=>True
 |i::l=>Def K mg (dNm (top i)) (top i)/\AllD K mg top l
theorem AllD.get{K:Frag}{mg:Qh}{top:Nat->Stmt}:∀{l:List Nat},AllD K mg top l->∀i,l.contains i=true->Def K mg (dNm (top i)) (top i)
 | [],_,i,h=>nomatch h
 |
  j::l,⟨a,b⟩,i,h=>by
  rcases NZ.mp (Oo.mp h) with rfl |h
  .exact a
  .exact b.get i (Oo.mpr h)
def Tx.e{b:Tb}{K:Frag}{mg:Qh}{x:Str}(T:Tx b K mg)(h:b.us.contains x=true):∃a,mg x=some (.ref a):=⟨_,T.m h⟩
structure Ty(b:Tb)(top:Nat->Stmt)(ds:List Nat)(K:Frag)(mg:Qh):Prop extends Tx b K mg where
 d:AllD K mg top ds
noncomputable def scB(N P:List Str)(sc:Scope):Bool:=decide (sc.kind=.function)&&(!sc.isCoroutine&&(!sc.isGenerator&&(decide N.Nodup&&(decide (N.take P.length=P)&&(P.all (λx=>decide (sc.names.lookup x=some .local\/sc.names.lookup x=some .cell))&&sc.names.all λy=>decide (y.2 ≠ .free))))))
def aB{N P:List Str}{sc:Scope}(e:scB N P sc=true):FnScope N P sc:=by simp only[scB,C_,Pb,NY,Bool.not_eq_true'] at e;obtain⟨e1,e2,e3,e4,e5,e6,e7⟩:=e;exact⟨e1,e2,e3,e4,e5,e6,e7⟩
section
variable{K:W.Frag}{mg:Qh}{X:Cx}{ES:L2.St->XK}{c tg a_ k_:Expr}{p:PEx}{t:PTs}{x:PSt}{g:PGt}{I:PIt}{pos:Pos}
def lO{scope:Scope}(M:List Str)(kn:List (Str×NameKind))(N:List Str)(sub:Qk){hsb:(sub.filterMap id).Nodup}(hi:DI K mg X ES tg a_ I.F)(hg:N.Nodup->∀cl C s₂ H fp,DG K mg (aC X N scope cl C s₂ H fp) (λ_=>E0) tg g.F)(he:N.Nodup->∀cl C s₂ H fp,DE K mg (aC X N scope cl C s₂ H fp) (λ_=>E0) k_ p.F)(hnd:N.Nodup:=by decide)(hc:X.calm=true:=by rfl)(hM:X.N=M:=by rfl)(hkn:X.env.scope.names=kn:=by rfl)(f_:dE M scope.names sub N=true:=by decide)(hk:scope.kind=.function:=by rfl)(t_:∀x∈scope.names,x.2 ≠ .cell:=by decide)(b_:∀x∈scope.names,x.2=.local->scope.names.lookup x.1=some .local:=by decide)(p_:fb kn scope.names=true:=by decide)(u_:sub.length=N.length:=by rfl)(hs:∀x,foldedSetIterable a_ X.env x=pure x:=by intro _;rfl):DE K mg X ES (.ListComp k_ [⟨tg,a_,[],0⟩] scope pos) (pLC I sub hsb g qY p).F:=Mc M kn N sub hc hi (hg hnd) (he hnd) hM hkn f_ hk t_ b_ p_ u_ hs
def Iw{scope:Scope}(M:List Str)(kn:List (Str×NameKind))(N:List Str)(sub:Qk){hsb:(sub.filterMap id).Nodup}(hi:DI K mg X ES tg a_ I.F)(hg:N.Nodup->∀cl C s₂ H fp,DG K mg (aC X N scope cl C s₂ H fp) (λ_=>E0) tg g.F)(ht:N.Nodup->∀cl C s₂ H fp,DT K mg (aC X N scope cl C s₂ H fp) (λ_=>E0) c t.F)(he:N.Nodup->∀cl C s₂ H fp,DE K mg (aC X N scope cl C s₂ H fp) (λ_=>E0) k_ p.F)(hnd:N.Nodup:=by decide)(hc:X.calm=true:=by rfl)(hM:X.N=M:=by rfl)(hkn:X.env.scope.names=kn:=by rfl)(f_:dE M scope.names sub N=true:=by decide)(hk:scope.kind=.function:=by rfl)(t_:∀x∈scope.names,x.2 ≠ .cell:=by decide)(b_:∀x∈scope.names,x.2=.local->scope.names.lookup x.1=some .local:=by decide)(p_:fb kn scope.names=true:=by decide)(u_:sub.length=N.length:=by rfl)(hs:∀x,foldedSetIterable a_ X.env x=pure x:=by intro _;rfl):DE K mg X ES (.ListComp k_ [⟨tg,a_,[c],0⟩] scope pos) (pLC I sub hsb g t p).F:=EX M kn N sub hc hi (hg hnd) (ht hnd) (he hnd) hM hkn f_ hk t_ b_ p_ u_ hs
def BG{ow:Bool}{px spos:Pos}{iT:Nat}{xT:Str}{scope:Scope}(hN:X.N.Nodup)(M:List Str)(kn:List (Str×NameKind))(N:List Str)(sub:Qk){hsb:(sub.filterMap id).Nodup}(hi:DI K mg X ES tg a_ I.F)(hg:N.Nodup->∀cl C s₂ H fp,DG K mg (aC X N scope cl C s₂ H fp) (λ_=>E0) tg g.F)(he:N.Nodup->∀cl C s₂ H fp,DE K mg (aC X N scope cl C s₂ H fp) (λ_=>E0) k_ p.F)(hsw:swapsWith (.ListComp k_ [⟨tg,a_,[],0⟩] scope pos) (some (.Name xT px)) spos.line X.env=pure true:=by rfl)(hnd:N.Nodup:=by decide)(hc:X.calm=true:=by rfl)(hix:X.N[iT]?=some xT:=by rfl)(hxl:Loc X.env.scope xT:=by first |exact Or.inl rfl |exact Or.inr rfl)(hM:X.N=M:=by rfl)(hkn:X.env.scope.names=kn:=by rfl)(f_:dE M scope.names sub N=true:=by decide)(hk:scope.kind=.function:=by rfl)(t_:∀x∈scope.names,x.2 ≠ .cell:=by decide)(b_:∀x∈scope.names,x.2=.local->scope.names.lookup x.1=some .local:=by decide)(p_:fb kn scope.names=true:=by decide)(u_:sub.length=N.length:=by rfl)(hs:∀x,foldedSetIterable a_ X.env x=pure x:=by intro _;rfl)(hf:X.fn xT=true\/X.env.scope.names.lookup xT=some .local:=by first |exact .inl rfl |exact .inr rfl |assumption):DS K mg X ES (.Assign [.Name xT px] (.ListComp k_ [⟨tg,a_,[],0⟩] scope pos) spos) (ay ow iT (pLC I sub hsb g qY p)).F:=NG M kn N sub hc hN hix hxl hi (hg hnd) (he hnd) hsw hM hkn f_ hk t_ b_ p_ u_ hs hf
end
section
variable{K:W.Frag}{mg:Qh}{P:Program}{w:World}{base:Heap}{fx:Str}{h_:Stmt}{k n m:Nat}{ps N:List Str}{ms:List Bool}{x:PSt}
def aO(D:Def K mg fx h_)(S:FnScope N ps (ak h_))
 (hb:∀(kV doc pm:Value) (an:Option Addr) (cdv ct:Value) (us:List Value),us.length=ps.length->bindArgs (W.fnOf fx fx (bj h_) (aG h_) (ak h_) .none kV doc pm an cdv ct) ⟨us,[]⟩=pure (ps.zip us))
 (e_:N.Nodup->∀(f:Addr) (cdv:Value) (A:Around) (outer:List Env) (s:Shared) (H:Hp) (E:XK),Room k (A.deeper (envOfC fx (ak h_) s.heap.objs.size f cdv))->
  DSs K mg (df (CX1 P w) P w K mg base N fx (ak h_) f cdv A outer s H E) (λ_=>E) (aG h_) x.F) (hn:ps.length=n:=by rfl) (hm:N.length=m:=by rfl):Callee P w K mg base fx (k+1) ps (spD K mg n (fnP ms m x).F):=okP D S hb (e_ S.nd) hn hm
def AO(D:Def K mg fx h_)(S:FnScope N ps (ak h_))
 (hb:∀(kV doc pm:Value) (an:Option Addr) (cdv ct:Value) (us:List Value),us.length=ps.length->bindArgs (W.fnOf fx fx (bj h_) (aG h_) (ak h_) .none kV doc pm an cdv ct) ⟨us,[]⟩=pure (ps.zip us))
 (e_:N.Nodup->∀(f:Addr) (cdv:Value) (A:Around) (outer:List Env) (s:Shared) (H:Hp) (E:XK),Room k (A.deeper (envOfC fx (ak h_) s.heap.objs.size f cdv))->
  DSs K mg (df (CX1 P w) P w K mg base N fx (ak h_) f cdv A outer s H E) (λ_=>E) (aG h_) x.F) (hn:ps.length=n:=by rfl) (hm:N.length=m:=by rfl):Callee P w K mg base fx (k+1) ps (spD K mg n (PFx.of ms m x).F):=okX D S hb (e_ S.nd) hn hm
end
section
variable{K:Frag}{h:Heap}{mg:Qh}(X:K.In h)(G:h.Ns mainGlobals mg)
include X G
def HP(e:BR.all (vt K)=true)(P:Addr)(q:Str):¬ BV K mg P q:=λ⟨x,f,oc,od,fd,sl,c,a1,a2,a3,_⟩=>by
 have:=C0 X G (NY.mp e x a1)
 rw[a3] at this;cases this
end
def zc{K:W.Frag}{mg:Qh}:nX K mg vJ seD.F:=D5
structure TyD(dn:Str)(kvs:List (Str×Int))(w:World)(b:Tb)(top:Nat->Stmt)(ds:List Nat)(K:W.Frag)(mg:Qh):Prop extends Ty b top ds K mg where
 kd:KDict w K mg dn kvs
section
variable{K:W.Frag}{mg:Qh}{P:Program}{w:World}{base:Heap}{fx:Str}{h_:Stmt}{k n m:Nat}{ps N:List Str}{ms:List Bool}{x:PSt}
def LY(D:Def K mg fx h_)(S:FnScope N ps (ak h_))
 (hb:∀(kV doc pm:Value) (an:Option Addr) (cdv ct:Value) (us:List Value),us.length=ps.length->bindArgs (W.fnOf fx fx (bj h_) (aG h_) (ak h_) .none kV doc pm an cdv ct) ⟨us,[]⟩=pure (ps.zip us))
 (e_:N.Nodup->∀(f:Addr) (cdv:Value) (A:Around) (outer:List Env) (s:Shared) (H:Hp) (E:XK),RoomU k (A.deeper (envOfC fx (ak h_) s.heap.objs.size f cdv))->
  DSs K mg (fY (CX1 P w) P w K mg base N fx (ak h_) f cdv A outer s H E) (λ_=>E) (aG h_) x.F) (hn:ps.length=n:=by rfl) (hm:N.length=m:=by rfl):CalleeU P w K mg base fx (k+1) ps (spD K mg n (fnP ms m x).F):=okPU D S hb (e_ S.nd) hn hm
end
end L3
namespace Wb
open L2
noncomputable def lc(qs:List Rat)(c:Nat):Nat:=qs.foldl (λc q=>Nat.lcm c q.den) c
noncomputable def gc(ws:List Int)(g:Nat):Nat:=ws.foldl (λg w=>Int.gcd (g:Int) w) g
noncomputable def wh(L:Nat)(qs:List Rat):List Int:=qs.map λq=>q.num*((L/q.den:Nat):Int)
noncomputable def ws(qs:List Rat):List Int:=wh (lc qs 1) qs
def dv(qs:List Rat):Nat:=gc (ws qs) 0
end Wb
namespace L3
open PySem L2
def fh(b:Bx):Rat:=if b.w<b.h then b.h/b.w else b.w/b.h
noncomputable def shL(s l:Rat)(W:Int):Int->List Int->List (Rat×Rat)
 |_,[]=>[]
 |a,w::ws=>(s+l*((a:Rat)/(W:Rat)),l*((w:Rat)/(W:Rat)))::shL s l W (a+w) ws
theorem oy(s l:Rat)(W:Int):∀(ws:List Int) (a:Int),(shL s l W a ws).length=ws.length
 | [],_=>rfl
 |w::ws,a=>by unfold shL;rw[I_,I_,oy s l W ws (a+w)]
noncomputable def fO(b:Bx)(way:Str)(ws:List Int):List Bx:=if way="across" then (shL b.l b.w ws.sum 0 ws).map λp=>⟨p.1,b.t,p.2,b.h⟩ else (shL b.t b.h ws.sum 0 ws).map λp=>⟨b.l,p.1,b.w,p.2⟩
theorem iY:∀{l:List Int},(∀w∈l,1<=w)->(l.length:Int)<=l.sum
 | [],_=>by simp
 |
  x::l,h=>by
  rw[Of,I_]
  have:=h x (G_ ..)
  have:=iY (l:=l) λw hw=>h w (A_ _ hw)
  omega
theorem uU:∀(ws:List Int) (a:Int),0<=a->(∀w∈ws,1<=w)->a+ws.sum<=W->p∈shL s l W a ws->∃a' w:Int,0<=a'/\a'<=W/\1<=w/\w<=W/\p=(s+l*((a':Rat)/(W:Rat)),l*((w:Rat)/(W:Rat)))
 | [],_,_,_,_,h=>nomatch h
 |
  w::ws,a,ha,hw,hs,h=>by
  have h1:=hw w (G_ ..);have h2:=iY (l:=ws) λx hx=>hw x (A_ _ hx);rw[Of] at hs;unfold shL at h;rcases NZ.mp h with rfl |h
  .exact⟨a,w,ha,by omega,h1,by omega,rfl⟩
  .exact uU ws (a+w) (by omega) (λx hx=>hw x (A_ _ hx)) (by omega) h
def sv(hb:b.Ok)(hs:b.Sz n)(hw:∀w∈ws,1<=w)(mW:Sm m ws.sum)(h:b'∈fO b way ws):b'.Ok/\b'.Sz (n+(n+m)+1):=by
 have key:∀(s l:Rat),Sz n s->Sz n l->0<l->∀p∈shL s l ws.sum 0 ws,Sz (n+(n+m)+1) p.1/\Sz (n+(n+m)+1) p.2/\0<p.2:=by intro s l hs hl l0 p hp;obtain⟨a',w,h1,h2,h3,h4,rfl⟩:=uU ws 0 (by omega) hw (by omega) hp;have z1:Sz m ((a':Rat)/(ws.sum:Rat)):=Sz.div (by omega) (mW.of_le (by omega)) mW m (z_ _) (z_ _);have z2:Sz m ((w:Rat)/(ws.sum:Rat)):=Sz.div (by omega) (mW.of_le (by omega)) mW m (z_ _) (z_ _);exact⟨hs.add (hl.mul z1),(hl.mul z2).mono (by omega),Rat.mul_pos l0 (AJ (by omega) (by omega))⟩
 unfold fO at h;split at h
 .obtain⟨p,hp,rfl⟩:=Oe.mp h;obtain⟨k1,k2,k3⟩:=key _ _ hs.l hs.w hb.1 p hp;exact⟨⟨k3,hb.2⟩,⟨k1,hs.t.mono (by omega),k2,hs.h.mono (by omega)⟩⟩
 .obtain⟨p,hp,rfl⟩:=Oe.mp h;obtain⟨k1,k2,k3⟩:=key _ _ hs.t hs.h hb.2 p hp;exact⟨⟨hb.1,k3⟩,⟨hs.l.mono (by omega),k1,hs.w.mono (by omega),k2⟩⟩
noncomputable def cW(b:Bx)(way:Str)(u v:Int):Bx:=(fO b way [u,v]).headD b
noncomputable def c7(b:Bx)(way:Str)(u v:Int):Bx:=((fO b way [u,v]).drop 1).headD b
def rj(b:Bx)(way:Str)(u v:Int):fO b way [u,v]=[cW b way u v,c7 b way u v]:=by unfold cW c7 fO;split <;> rfl
def Fj(hb:b.Ok)(hs:b.Sz n)(hu:1<=u)(hv:1<=v)(mW:Sm m (u+v)):(cW b way u v).Ok/\(cW b way u v).Sz (n+(n+m)+1):=by refine sv (way:=way) (ws:=[u,v]) hb hs ?_ (by simpa using mW) (by rw[rj];exact G_ ..);intro w hw;simp at hw;omega
def FF(hb:b.Ok)(hs:b.Sz n)(hu:1<=u)(hv:1<=v)(mW:Sm m (u+v)):(c7 b way u v).Ok/\(c7 b way u v).Sz (n+(n+m)+1):=by refine sv (way:=way) (ws:=[u,v]) hb hs ?_ (by simpa using mW) (by rw[rj];simp);intro w hw;simp at hw;omega
noncomputable def liV(l:List Int):Val:=.lst (l.map .int)
noncomputable def bU(ws:List Int)(i:Int):Int:=ws.getD i.toNat 0
def Inr(ws nums:List Int):Prop:=∀i∈nums,0<=i/\i<(ws.length:Nat)
def wt(ws l:List Int):Int:=(l.map (bU ws)).sum
def Dc{ws:List Int}{i:Int}(h0:0<=i)(h1:i<(ws.length:Nat)):atI (ws.map Val.int) i=some (.int (bU ws i)):=by
 have hi:i.toNat<ws.length:=by omega
 refine fI h0 ?_;rw[N4,M_ hi];unfold bU;rw[Ou,M_ hi];rfl
def sV{ws:List Int}{i:Int}(h0:0<=i)(h1:i<(ws.length:Nat)):bU ws i∈ws:=by
 have hi:i.toNat<ws.length:=by omega
 unfold bU;rw[Ou,M_ hi];exact List.getElem_mem hi
def C5(hw:∀w∈ws,1<=w)(hr:Inr ws l):(l.length:Int)<=wt ws l:=by
 have:=iY (l:=l.map (bU ws)) λw h=>by obtain⟨i,hi,rfl⟩:=Oe.mp h;exact hw _ (sV (hr i hi).1 (hr i hi).2)
 rw[w_] at this;exact this
def HI(ws l r:List Int):wt ws (l++r)=wt ws l+wt ws r:=by unfold wt;rw[Ox,List.sum_append]
def Aq{l r:List Int}(h:l.Perm r):l.sum=r.sum:=by
 induction h with
 |nil=>rfl
 |cons x _ ih=>rw[Of,Of,ih]
 |swap x y l=>rw[Of,Of,Of,Of];omega
 |trans _ _ h1 h2=>rw[h1,h2]
def iD(h:l.Perm r):wt ws l=wt ws r:=Aq (h.map _)
def rst(nums l:List Int):List Int:=nums.filter λx=>!l.contains x
structure Lot(nums l:List Int):Prop where
 sub:l.Sublist nums
 ne:l≠[]
 lt:l.length<nums.length
def Lot.mono(h:Lot p l)(s:p.Sublist q):Lot q l:=⟨h.sub.trans s,h.ne,K_ h.lt s.length_le⟩
def Lot.more(h:Lot p l)(x:Int):Lot (p++[x]) (l++[x]):=⟨h.sub.append (List.Sublist.refl _),by simp,by have:=h.lt;simp;omega⟩
def Lot.self(h:p≠[])(x:Int):Lot (p++[x]) p:=⟨List.sublist_append_left ..,h,by simp⟩
def lV(h:l.Sublist nums):nums.Nodup->(l++rst nums l).Perm nums:=by
 induction h with
 |slnil=>intro _;exact .nil
 |
  cons a s ih=>
  intro nd;rw[OJ] at nd;rename_i l nums;have ha:¬ a∈l:=λz=>nd.1 (s.subset z);have e:rst (a::nums) l=a::rst nums l:=by unfold rst;rw[List.filter_cons_of_pos];simp [ha]
  rw[e];exact List.perm_middle.trans ((ih nd.2).cons a)
 |
  cons_cons a s ih=>
  intro nd;rw[OJ] at nd;rename_i l nums;have e:rst (a::nums) (a::l)=rst nums l:=by unfold rst;rw[List.filter_cons_of_neg (by simp)];refine List.filter_congr λx hx=>?_;have:x≠a:=λz=>nd.1 (z ▸ hx);simp [this]
  rw[e];exact (ih nd.2).cons a
def uC(h:Lot nums l)(nd:nums.Nodup):Lot nums (rst nums l):=by have p:=(lV h.sub nd).length_eq;rw[F_] at p;have h1:=h.lt;have h2:=N5.mpr h.ne;refine⟨List.filter_sublist,λz=>?_,by omega⟩;rw[z,Od] at p;omega
def Cr(nd:nums.Nodup)(k:Nat):rst nums (nums.take k)=nums.drop k:=by
 have e:rst nums (nums.take k)=(nums.take k++nums.drop k).filter λx=>!(nums.take k).contains x:=by rw[PY];rfl
 rw[e,List.filter_append];have nd':(nums.take k++nums.drop k).Nodup:=by rw[PY];exact nd
 rw[List.nodup_append] at nd';have h1:(nums.take k).filter (λx=>!(nums.take k).contains x)=[]:=by rw[List.filter_eq_nil_iff];intro x hx;simp [hx]
 have h2:(nums.drop k).filter (λx=>!(nums.take k).contains x)=nums.drop k:=by rw[List.filter_eq_self];intro x hx;have:¬ x∈nums.take k:=λz=>nd'.2.2 x z x hx rfl;simp [this]
 rw[h1,h2];rfl
def fN:List (List Int)->List Int->List (List Int)
 |L,[]=>L
 |L,x::rest=>fN (L++L.map λl=>l++[x]) rest
def cM(kind:Str)(nums:List Int):List (List Int):=if kind="order" then (List.range' 1 (nums.length-1)).map λi=>nums.take i else match nums with
 | []=>[]
 |x::rest=>(fN [[x]] rest).dropLast
theorem jl:∀(rest p:List Int) (M:List (List Int)),p≠[]->(∀l∈M,Lot p l)->∃M',fN (M++[p]) rest=M'++[p++rest]/\(∀l∈M',Lot (p++rest) l)/\(rest≠[]->M'≠[])/\(M≠[]->M'≠[])
 | [],p,M,hp,hM=>⟨M,by unfold fN;rw[Oh],by simpa using hM,λz=>absurd rfl z,λz=>z⟩
 |
  x::rest,p,M,hp,hM=>by
  obtain⟨M',q1,q2,q3,q4⟩:=jl rest (p++[x]) (M++[p]++M.map λl=>l++[x]) (by simp) (λl hl=>by
   rcases OY.mp hl with hl |hl
   .rcases OY.mp hl with hl |hl
    .exact (hM l hl).mono (List.sublist_append_left ..)
    .rw[OT] at hl;subst hl;exact .self hp x
   .obtain⟨l',h',rfl⟩:=Oe.mp hl;exact (hM l' h').more x)
  refine⟨M',?_,by rw[OA] at q2;exact q2,λ_=>q4 (by simp),λ_=>q4 (by simp)⟩;unfold fN;rw[<- show (M++[p]++(M.map λl=>l++[x]))++[p++[x]]=M++[p]++(M++[p]).map (λl=>l++[x]) by simp,q1];simp
def Bb(h:l∈cM kind nums):Lot nums l:=by
 unfold cM at h;split at h
 .obtain⟨i,hi,rfl⟩:=Oe.mp h;rw[List.mem_range'_1] at hi;refine⟨List.take_sublist ..,λz=>?_,by rw[Pf];omega⟩
  have:=Og List.length z
  rw[Pf,Od] at this;omega
 .split at h
  .exact nomatch h
  .rename_i x rest;obtain⟨M',q1,q2,_,_⟩:=jl rest [x] [] (by simp) (λ_ z=>nomatch z);rw[N7] at q1;rw[q1,List.dropLast_concat] at h;exact q2 l h
def ET(h:2<=nums.length):cM kind nums≠[]:=by
 unfold cM;split
 .intro z
  have:=Og List.length z
  rw[w_,List.length_range',Od] at this;omega
 .split
  .simp at h
  .rename_i x rest;obtain⟨M',q1,_,q3,_⟩:=jl rest [x] [] (by simp) (λ_ z=>nomatch z);rw[N7] at q1;rw[q1,List.dropLast_concat];exact q3 (by rintro rfl;simp at h)
theorem pq:∀(rest:List Int) (L:List (List Int)),(fN L rest).length=L.length*2^rest.length
 | [],L=>by simp [fN]
 |
  x::rest,L=>by
  unfold fN;rw[pq rest,F_,w_,I_,Nat.pow_succ,<- Nat.two_mul,Py 2,Nat.mul_assoc,Py 2]
def lu(h:nums.length<=10):(cM kind nums).length<=1000:=by
 unfold cM;split
 .rw[w_,List.length_range'];omega
 .split
  .simp
  .rename_i x rest;rw[I_] at h;rw[List.length_dropLast,pq];have:2^rest.length<=2^9:=Oz (by decide) (by omega);simp;omega
def cuV(c:Str×List Int×List Int):Val:=.tup [.str c.1,liV c.2.1,liV c.2.2]
def fJ(nums l:List Int):List (Str×List Int×List Int):=[("across",l,rst nums l),("down",l,rst nums l)]
def aE(kind:Str)(nums:List Int):List (Str×List Int×List Int):=(cM kind nums).flatMap (fJ nums)
def mx(x y:Rat):Rat:=if x<y then y else x
def iz(f:Bx->List Int->Rat)(ws:List Int)(b:Bx)(c:Str×List Int×List Int):Rat:=mx (f (cW b c.1 (wt ws c.2.1) (wt ws c.2.2)) c.2.1) (f (c7 b c.1 (wt ws c.2.1) (wt ws c.2.2)) c.2.2)
def eS(o:Option Rat)(q:Rat):Option Rat:=match o with
 |none=>some q
 |some p=>if q<p then some q else some p
def bst(kind:Str)(ws:List Int):Nat->Bx->List Int->Rat
 |0,b,_=>fh b
 |k+1,b,nums=>if nums.length=1 then fh b else ((aE kind nums).foldl (λo c=>eS o (iz (bst kind ws k) ws b c)) none).getD 0
def mU(o:Option Rat)(q:Rat):∃p,eS o q=some p:=by
 unfold eS;split
 .exact⟨_,rfl⟩
 .split <;> exact⟨_,rfl⟩
theorem oU(f:α->Rat):∀(l:List α) (p:Rat),∃q,l.foldl (λo c=>eS o (f c)) (some p)=some q
 | [],p=>⟨p,rfl⟩
 |
  c::l,p=>by
  obtain⟨q,e⟩:=mU (some p) (f c);rw[P1,e];exact oU f l q
def ur(f:α->Rat)(h:l≠[]):∃q,l.foldl (λo c=>eS o (f c)) none=some q:=by
 cases l with
 |nil=>exact absurd rfl h
 |cons c l=>rw[P1];exact oU f l _
structure CutOk(nums:List Int)(c:Str×List Int×List Int):Prop where
 way:c.1="across" \/ c.1="down"
 one:Lot nums c.2.1
 two:Lot nums c.2.2
 rest:c.2.2=rst nums c.2.1
def iO(nd:nums.Nodup)(h:c∈aE kind nums):CutOk nums c:=by
 obtain⟨l,hl,hc⟩:=List.mem_flatMap.mp h;have lo:=Bb hl;unfold fJ at hc;rcases NZ.mp hc with rfl |hc
 .exact⟨.inl rfl,lo,uC lo nd,rfl⟩
 .rw[OT] at hc;subst hc;exact⟨.inr rfl,lo,uC lo nd,rfl⟩
def ox(h:2<=nums.length):aE kind nums≠[]:=by
 have:=ET (kind:=kind) h
 unfold aE;cases e:cM kind nums with
 |nil=>exact absurd e this
 |cons l ls=>rw[List.flatMap_cons];unfold fJ;simp
inductive Tr(ws:List Int):Bx->List Int->Val->Rat->Prop
 |leaf (b:Bx) (i:Int):Tr ws b [i] (.int i) (fh b)
 |node {b:Bx}{way:Str}{l r:List Int}{t1 t2:Val}{q1 q2:Rat} (hw:way="across" \/ way="down") (h1:Tr ws (cW b way (wt ws l) (wt ws r)) l t1 q1) (h2:Tr ws (c7 b way (wt ws l) (wt ws r)) r t2 q2):Tr ws b (l++r) (.tup [.str way,.tup [t1,t2]]) (mx q1 q2)
def Tr.flat(h:Tr ws b l t q):flatV t=true:=by
 induction h with
 |leaf=>exact jF _
 |node _ _ _ ih1 ih2=>simp [jX,d7,eX,pv,ih1,ih2]
open PySem PySem.Spec PyProof.Rows L2
section
variable{kind:Str}{ws nums:List Int}{bd:Rat}{b:Bx}{k:Nat}
def thn(ws:List Int)(b:Bx)(i:Int)(nums:List Int):Rat:=fh b*((bU ws i:Rat)/(wt ws nums:Rat))
def brw(f:Bx->List Int->Option Val)(ws:List Int)(b:Bx)(c:Str×List Int×List Int):Option (Bool×Val):=match f (cW b c.1 (wt ws c.2.1) (wt ws c.2.2)) c.2.1 with
 |some p=>some (false,p)
 |none=>match f (c7 b c.1 (wt ws c.2.1) (wt ws c.2.2)) c.2.2 with
  |some p=>some (true,p)
  |none=>none
def rwV(r:Bool×Val):Val:=.tup [.int (if r.1 then 1 else 0),r.2]
def brg(kind:Str)(ws:List Int)(bd:Rat):Nat->Bx->List Int->Option Val
 |0,_,_=>none
 |
  k+1,b,nums=>if nums.length=1 then (if fh b<bd then none else some (.tup [.str "shape"])) else
  match nums.find? λi=>!decide (thn ws b i nums<bd) with
  |some i=>some (.tup [.str "thin",.int i])
  |none=>if ((aE kind nums).all λc=>(brw (brg kind ws bd k) ws b c).isSome)=true then some (.tup [.str "cases",.tup ((aE kind nums).map λc=>rwV ((brw (brg kind ws bd k) ws b c).getD (false,.non)))]) else none
def lK(c:Str×List Int×List Int)(r:Bool):List Int:=if r then c.2.2 else c.2.1
def oo(ws:List Int)(b:Bx)(c:Str×List Int×List Int)(r:Bool):Bx:=if r then c7 b c.1 (wt ws c.2.1) (wt ws c.2.2) else cW b c.1 (wt ws c.2.1) (wt ws c.2.2)
def Pap(kind:Str):Nat->List Int->Val->Prop
 |0,_,_=>False
 |k+1,nums,v=>(nums.length=1/\v=.tup [.str "shape"])\/(∃i∈nums,v=.tup [.str "thin",.int i])\/(nums.length≠1/\∃g:Str×List Int×List Int->Bool×Val,v=.tup [.str "cases",.tup ((aE kind nums).map λc=>rwV (g c))]/\∀c∈aE kind nums,Pap kind k (lK c (g c).1) (g c).2)
inductive Brs(kind:Str)(ws:List Int)(bd:Rat):Nat->Bx->List Int->Val->Bool->Prop
 |sh {k:Nat}{b:Bx}{nums:List Int}:nums.length=1->Brs kind ws bd (k+1) b nums (.tup [.str "shape"]) (!decide (fh b<bd))
 |th {k:Nat}{b:Bx}{nums:List Int}{i:Int}:i∈nums->Brs kind ws bd (k+1) b nums (.tup [.str "thin",.int i]) (!decide (thn ws b i nums<bd))
 |cs {k:Nat}{b:Bx}{nums:List Int} (g:Str×List Int×List Int->Bool×Val) (t:Str×List Int×List Int->Bool):nums.length≠1->(∀c∈aE kind nums,Brs kind ws bd k (oo ws b c (g c).1) (lK c (g c).1) (g c).2 (t c))->Brs kind ws bd (k+1) b nums (.tup [.str "cases",.tup ((aE kind nums).map λc=>rwV (g c))]) ((aE kind nums).all t)
def BH{f:Bx->List Int->Option Val}{c:Str×List Int×List Int}{r:Bool×Val}(h:brw f ws b c=some r):f (oo ws b c r.1) (lK c r.1)=some r.2:=by
 unfold brw at h;split at h
 .rename_i e;cases h;exact e
 .split at h
  .rename_i e;cases h;exact e
  .cases h
theorem mj:∀{k:Nat}{b:Bx}{nums:List Int}{v:Val},brg kind ws bd k b nums=some v->Pap kind k nums v/\Brs kind ws bd k b nums v true
 |0,_,_,_,h=>nomatch h
 |
  k+1,b,nums,v,h=>by
  unfold brg at h;split at h
  .rename_i h1;split at h
   .cases h
   .rename_i h2;cases h
    have:=Brs.sh (kind:=kind) (ws:=ws) (bd:=bd) (k:=k) (b:=b) h1
    rw[L_ h2] at this;exact⟨.inl ⟨h1,rfl⟩,this⟩
  .rename_i h1;split at h
   .rename_i i e;cases h
    have:=Brs.th (kind:=kind) (ws:=ws) (bd:=bd) (k:=k) (b:=b) (Pq e)
    rw[List.find?_some e] at this;exact⟨.inr (.inl ⟨i,Pq e,rfl⟩),this⟩
   .split at h
    .rename_i ha;cases h;rw[NY] at ha;have key:∀c∈aE kind nums,brg kind ws bd k (oo ws b c ((brw (brg kind ws bd k) ws b c).getD (false,.non)).1) (lK c ((brw (brg kind ws bd k) ws b c).getD (false,.non)).1)=some ((brw (brg kind ws bd k) ws b c).getD (false,.non)).2:=λc hc=>by obtain⟨r,e⟩:=Oi.mp (ha c hc);rw[e];exact BH e
     refine⟨.inr (.inr ⟨h1,λc=>(brw (brg kind ws bd k) ws b c).getD (false,.non),rfl,λc hc=>(mj (key c hc)).1⟩),?_⟩
     have:=Brs.cs (kind:=kind) (ws:=ws) (bd:=bd) (k:=k) (b:=b) (λc=>(brw (brg kind ws bd k) ws b c).getD (false,.non)) (λ_=>true) h1 λc hc=>(mj (key c hc)).2
     rw[NY.mpr λ_ _=>rfl] at this;exact this
    .cases h
theorem uR(f:α->Rat):∀(l:List α) (o:Option Rat) (q:Rat),l.foldl (λo c=>eS o (f c)) o=some q->(∀p,o=some p->q<=p)/\∀c∈l,q<=f c
 | [],o,q,h=>⟨λp e=>by rw[List.foldl_nil] at h;rw[h] at e;cases e;exact Qd,λ_ z=>nomatch z⟩
 |
  c::l,o,q,h=>by
  rw[P1] at h;obtain⟨p,e⟩:=mU o (f c);rw[e] at h;obtain⟨h1,h2⟩:=uR f l (some p) q h;have hp:=h1 p rfl;have m1:p<=f c/\∀x,o=some x->p<=x:=by
   unfold eS at e;split at e
   .cases e;exact⟨Qd,λ_ z=>nomatch z⟩
   .split at e
    .rename_i x hx;cases e;exact⟨Qd,λy z=>by cases z;exact Rat.le_of_lt hx⟩
    .rename_i x hx;cases e;exact⟨P8.mp hx,λy z=>by cases z;exact Qd⟩
  refine⟨λx z=>Rat.le_trans hp (m1.2 x z),λd hd=>?_⟩;rcases NZ.mp hd with rfl |hd
  .exact Rat.le_trans hp m1.1
  .exact h2 d hd
theorem k8:∀{k:Nat}{b:Bx}{nums:List Int},nums.Nodup->nums≠[]->nums.length<=k->bd<=bst kind ws k b nums->∃v,brg kind ws bd k b nums=some v
 |0,_,nums,_,h0,hk,_=>absurd (N5.mpr h0) (by omega)
 |
  k+1,b,nums,nd,h0,hk,hb=>by
  have h0':=N5.mpr h0;unfold brg;unfold bst at hb;split
  .rename_i h1;rw[if_pos h1] at hb;rw[if_neg (P8.mpr hb)];exact⟨_,rfl⟩
  .rename_i h1;rw[if_neg h1] at hb;split
   .exact⟨_,rfl⟩
   .obtain⟨q,e⟩:=ur (λc=>iz (bst kind ws k) ws b c) (ox (kind:=kind) (nums:=nums) (by omega));rw[e] at hb;have le:=(uR _ _ _ _ e).2;rw[if_pos]
    .exact⟨_,rfl⟩
    .rw[NY];intro c hc;have co:=iO nd hc;have l1:=co.one.lt;have l2:=co.two.lt;have hm:=Rat.le_trans hb (le c hc);unfold brw;split
     .rfl
     .rename_i e1;split
      .rfl
      .rename_i e2;exfalso;unfold iz mx at hm;split at hm
       .obtain⟨v,hv⟩:=k8 (co.two.sub.nodup nd) co.two.ne (by omega) hm;rw[hv] at e2;cases e2
       .obtain⟨v,hv⟩:=k8 (co.one.sub.nodup nd) co.one.ne (by omega) hm;rw[hv] at e1;cases e1
end
end L3
namespace KK
open PySem PySem.Spec PyProof.Rows L2 L3
def top(i:Nat):Stmt:=PySem.Challenge.pw_weightrooms_k59_papers_refused.main.body.getD i (.Pass ⟨0,0,0,0⟩)
def aq:jh:=[((.o "NoFraction"),(.o "NoBox"),false),((.o "NoBox"),(.o "NoBox"),true),((.o "NoWay"),(.o "NoBox"),false),((.o "NoWeights"),(.o "NoBox"),false),((.o "TooMany"),(.o "NoBox"),false),((.o "NoKind"),(.o "NoBox"),false),((.o "NoFraction"),(.o "NoCut"),false),((.o "NoBox"),(.o "NoCut"),false),((.o "NoWay"),(.o "NoCut"),false),((.o "NoWeights"),(.o "NoCut"),false),((.o "TooMany"),(.o "NoCut"),false),((.o "NoKind"),(.o "NoCut"),false),((.o "NoFraction"),(.o "NoFraction"),true),((.o "NoBox"),(.o "NoFraction"),false),((.o "NoWay"),(.o "NoFraction"),false),((.o "NoWeights"),(.o "NoFraction"),false),((.o "TooMany"),(.o "NoFraction"),false),((.o "NoKind"),(.o "NoFraction"),false),((.o "NoFraction"),(.o "NoKind"),false),((.o "NoBox"),(.o "NoKind"),false),((.o "NoWay"),(.o "NoKind"),false),((.o "NoWeights"),(.o "NoKind"),false),((.o "TooMany"),(.o "NoKind"),false),((.o "NoKind"),(.o "NoKind"),true),((.o "NoFraction"),(.o "NoName"),false),((.o "NoBox"),(.o "NoName"),false),((.o "NoWay"),(.o "NoName"),false),((.o "NoWeights"),(.o "NoName"),false),((.o "TooMany"),(.o "NoName"),false),((.o "NoKind"),(.o "NoName"),false),((.o "NoFraction"),(.o "NoRow"),false),((.o "NoBox"),(.o "NoRow"),false),((.o "NoWay"),(.o "NoRow"),false),((.o "NoWeights"),(.o "NoRow"),false),((.o "TooMany"),(.o "NoRow"),false),((.o "NoKind"),(.o "NoRow"),false),((.o "NoFraction"),(.o "NoRule"),false),((.o "NoBox"),(.o "NoRule"),false),((.o "NoWay"),(.o "NoRule"),false),((.o "NoWeights"),(.o "NoRule"),false),((.o "TooMany"),(.o "NoRule"),false),((.o "NoKind"),(.o "NoRule"),false),((.o "NoFraction"),(.o "NoText"),false),((.o "NoBox"),(.o "NoText"),false),((.o "NoWay"),(.o "NoText"),false),((.o "NoWeights"),(.o "NoText"),false),((.o "TooMany"),(.o "NoText"),false),((.o "NoKind"),(.o "NoText"),false),((.o "NoFraction"),(.o "NoThing"),false),((.o "NoBox"),(.o "NoThing"),false),((.o "NoWay"),(.o "NoThing"),false),((.o "NoWeights"),(.o "NoThing"),false),((.o "TooMany"),(.o "NoThing"),false),((.o "NoKind"),(.o "NoThing"),false),((.o "NoFraction"),(.o "NoTree"),false),((.o "NoBox"),(.o "NoTree"),false),((.o "NoWay"),(.o "NoTree"),false),((.o "NoWeights"),(.o "NoTree"),false),((.o "TooMany"),(.o "NoTree"),false),((.o "NoKind"),(.o "NoTree"),false),((.o "NoFraction"),(.o "NoWay"),false),((.o "NoBox"),(.o "NoWay"),false),((.o "NoWay"),(.o "NoWay"),true),((.o "NoWeights"),(.o "NoWay"),false),((.o "TooMany"),(.o "NoWay"),false),((.o "NoKind"),(.o "NoWay"),false),((.o "NoFraction"),(.o "NoWeights"),false),((.o "NoBox"),(.o "NoWeights"),false),((.o "NoWay"),(.o "NoWeights"),false),((.o "NoWeights"),(.o "NoWeights"),true),((.o "TooMany"),(.o "NoWeights"),false),((.o "NoKind"),(.o "NoWeights"),false),((.o "NoFraction"),(.o "Taken"),false),((.o "NoBox"),(.o "Taken"),false),((.o "NoWay"),(.o "Taken"),false),((.o "NoWeights"),(.o "Taken"),false),((.o "TooMany"),(.o "Taken"),false),((.o "NoKind"),(.o "Taken"),false),((.o "NoFraction"),(.o "TooMany"),false),((.o "NoBox"),(.o "TooMany"),false),((.o "NoWay"),(.o "TooMany"),false),((.o "NoWeights"),(.o "TooMany"),false),((.o "TooMany"),(.o "TooMany"),true),((.o "NoKind"),(.o "TooMany"),false),((.o "NoFraction"),(.o "Unknown"),false),((.o "NoBox"),(.o "Unknown"),false),((.o "NoWay"),(.o "Unknown"),false),((.o "NoWeights"),(.o "Unknown"),false),((.o "TooMany"),(.o "Unknown"),false),((.o "NoKind"),(.o "Unknown"),false),((.o "NoFraction"),(.b "ValueError"),true),((.o "NoBox"),(.b "ValueError"),true),((.o "NoWay"),(.b "ValueError"),true),((.o "NoWeights"),(.b "ValueError"),true),((.o "TooMany"),(.b "ValueError"),true),((.o "NoKind"),(.b "ValueError"),true),((.b "NoneType"),(.b "bool"),false),((.b "bool"),(.b "bool"),true),((.b "int"),(.b "bool"),false),((.b "str"),(.b "bool"),false),((.b "tuple"),(.b "bool"),false),((.b "list"),(.b "bool"),false),((.b "dict"),(.b "bool"),false),((.b "NoneType"),(.b "int"),false),((.b "bool"),(.b "int"),true),((.b "int"),(.b "int"),true),((.b "str"),(.b "int"),false),((.b "tuple"),(.b "int"),false),((.b "list"),(.b "int"),false),((.b "dict"),(.b "int"),false),((.b "NoneType"),(.b "list"),false),((.b "bool"),(.b "list"),false),((.b "int"),(.b "list"),false),((.b "str"),(.b "list"),false),((.b "tuple"),(.b "list"),false),((.b "list"),(.b "list"),true),((.b "dict"),(.b "list"),false),((.b "NoneType"),(.b "str"),false),((.b "bool"),(.b "str"),false),((.b "int"),(.b "str"),false),((.b "str"),(.b "str"),true),((.b "tuple"),(.b "str"),false),((.b "list"),(.b "str"),false),((.b "dict"),(.b "str"),false),((.b "NoneType"),(.b "tuple"),false),((.b "bool"),(.b "tuple"),false),((.b "int"),(.b "tuple"),false),((.b "str"),(.b "tuple"),false),((.b "tuple"),(.b "tuple"),true),((.b "list"),(.b "tuple"),false),((.b "dict"),(.b "tuple"),false)]
def eB:List Str:=["NoFraction", "NoBox", "NoWay", "NoWeights", "TooMany", "NoKind"]
def aH:List (Str×Int):=[("order",6),("any",5)]
noncomputable def iK:D:=(.int 40)
noncomputable def yg:D:=(.tup [(.str "across"),(.str "down")])
abbrev tb:Tb:=⟨["RoomError", "NoFraction", "NoBox", "NoWay", "NoWeights", "TooMany", "NoTree", "NoRule", "NoKind", "NoName", "Taken", "Unknown", "NoThing", "NoCut", "NoText", "NoRow"],["NoFraction", "NoBox", "NoWay", "NoWeights", "TooMany", "NoKind"],[("RoomError",eB)],aq,[("MOST_WEIGHTS",iK),("WAYS",yg)]⟩
abbrev TT(w:World)(K:W.Frag)(mg:Qh):Prop:=TyD "MOST_THINGS" aH w tb top [18,19,20,21,22,23,24,25,26,30,31,32,33,34,35,36,37,38,39,42,43,44,45,46,47,48,49,51,53,54,55,56,57,58,59,60,61,63,64,65,66,67,68,69,70] K mg
section
variable{P:Program}{w:World}{K:W.Frag}{mg:Qh}{base:Heap}
noncomputable def ip:PEx:=rE iK (.int 40) (λ_ _=>.int _)
def mB(e:E3):ip.G e=.ok (.val (.int 40)) e:=rfl
noncomputable def n9:PEx:=rE yg (.tup [(.str "across"),(.str "down")]) (λ_ _=>.tup (.cons (.str _) (.cons (.str _) .nil)))
def FP(e:E3):n9.G e=.ok (.val (.tup [(.str "across"),(.str "down")])) e:=rfl
def dI(s:String):Lean.TSyntax `term:=⟨Lean.mkIdent (s.replace "%" "").toName⟩
def dA(f:String)(a:Lean.TSyntax `term):Lean.TSyntax `term:=Lean.Syntax.mkApp (dI f) #[a]
def dF:List (Lean.TSyntax `tactic)->Lean.MacroM (Lean.TSyntax `tactic)
 | []=>`(tactic|fail)
 |a::l=>do `(tactic|first | $a:tactic | $(<- dF l):tactic)
def dL(f:String->Lean.MacroM (Lean.TSyntax `tactic)):List String->Lean.MacroM (List (Lean.TSyntax `tactic))
 | []=>pure []
 |s::l=>do return (<- f s)::(<- dL f l)
set_option hygiene false in
def dQ(ap:String->Lean.TSyntax `term)(s:String):Lean.MacroM (Lean.TSyntax `tactic):=match (s.splitOn ";").map ap with
 | [d,c,a,b]=>`(tactic|((case d=>with_reducible exact $d);(case c=>exact $c);(case a=>exact $a);(case b=>exact $b)))
 |d::c::_=>`(tactic|((case d=>with_reducible exact $d);(case c=>exact $c)))
 |_=>`(tactic|fail)
set_option hygiene false in
def dR(ap:String->Lean.TSyntax `term)(g:String):Lean.MacroM (Lean.TSyntax `tactic):=match g.splitOn ":" with
 | [r]=>`(tactic|refine $(ap r))
 |r::l=>do `(tactic|(refine' $(ap r);$(<- dF (<- dL (dQ ap) l)):tactic))
 | []=>`(tactic|fail)
set_option hygiene false in
local macro_rules | `('d')=>do
 let h <- `(?_)
 let u <- `(_)
 let R:=dI "rfl"
 let qA <- `(?a)
 let qB <- `(?b)
 let qC <- `(?c)
 let qD <- `(?d)
 let qp <- `((λ_ _=>rfl))
 let ap:=λ(s:String)=>let w:=s.splitOn " ";Lean.Syntax.mkApp (dI (w.getD 0 "")) (((w.getD 1 "").toList.map λc=>([('1',dI "hr.u100"),('8',dI "hr.u180"),('A',qA),('B',qB),('C',qC),('D',qD),('G',dI "T.kd"),('K',dI "T.k"),('_',u),('b',dA "%boT" R),('f',dA "%boF" R),('g',dA "T.g" R),('i',dI "ih"),('k',dA "T.n" R),('m',dA "T.m" R),('n',dI "nd"),('o',dI "%xo"),('p',qp),('r',R),('t',dI "T"),('u',dA "%Cz" (dI "hr")),('v',dA "%rG" u),('x',dA "T.x" R),('z',dI "%rz1")].lookup c).getD h).toArray)
 let rd:=λ(s:String)=>dL (dR ap) (s.splitOn "|")
 let e0 <- `(tactic|refine zcF (by $(<- dF (<- rd "%ih|qL t|sM t|lg t|jD t|sJ t|jT t|mY t|wM t|pO t|pH t|kJ t|og t|nc t|uh t|qJ t|rC t|Ao t|xv t|tU t|ue t|wa t|pQ t|xU t|zh t|vE t|xa t|pK t|sS t|mH t|iL t_|lZ t|vY t|rR t|tQ t|m5 ti|jL t_|sH t|rn ti|kI ti|pB t_|xg t|pP t|ug t")):tactic) hr ?_)
 let e3 <- `(tactic|exact Hs rfl (by first |exact T.e rfl |exact T.kd.ex))
 `(by repeat' $(<- dF ((<- rd "%rG _|iS|yu|cZ ??|aA ??|cD ?|zsS _n?|kG ???|iC ?|yk ?|sC ?|Jb|KS|EL|I0 ?")++[e0,e3]++(<- rd "%NP CD??:M3;ixK r:EZ;Di rrrG|GS CD??:Cv;CW:Dh;CY:C9;CQ:CS;eqDK r8:Ni;neDK r8:ED;DU rrrG:Jf;J6 r:HA;Ex:Mk;HZ|jk CDrkf?:G8;Ng r:IA;Bw:yi;oH rr:FX;yz r:IK K;NA r|C3 CD??:Ks;Fp:KO;zW:zA;xJ r:J2;Ga:Gr;Ia:Ib;HD|pD CDrkb?:BJ;E2 r:u4;yQ r:Ju;yI|HQ CD??:Dh;CY:CS;eqDK r8:Cv;CW:C9;CQ:MC;inK r|FJ rABCD??:yS;Im r1;PySem.F.slot_list_count;PySem.F.type_list_count:A4;Gu r1;PySem.F.slot_list_index;PySem.F.type_list_index|mi rABCDv?:ik;ia;PySem.F.slot_list_append;PySem.F.type_list_append|MX CD?:Gn;GO|Ky n?CD:Hf;Iu|Et ?v?CD:zc;zN u:EI;BY|ZG.weak ?|zt_w ?|Jy ??|Lh|va u??p|Nl rg|M9 ???|Il rrkrk?|Io|KG ?|IZ ?|rl r???|Nr rkb|zgN _n|JJ rr?|HU rr?|Bd ??|FG|Eg rrk?|yo rk?|xO rk?|JH r?|Ir rrk?|uo|uw ?|Dr ??|ub|kz ?|l9 or???|JA n?|Ag rzrmx?|B4 o??|rL ?|BZ r?|Jo ??|DZ ?|L9 ??|IJ ?"))):tactic)
def mG:PSt:=
 (aw (p7 ["cells", "at", "left"] (aa (pFn jH (aa (pSl (af 0) oN (oS (ah 63))) ag)) (aa (ah 0) (aa (ah 0) ag)))))
def eV:PFn:=fnP [false] 1 mG
def tL:eV.ms=[false]:=rfl
def qL(T:TT w K mg):Callee P w K mg base "_law_feed" 1 ["_law_script"] (spD K mg 1 eV.F):=aO (T.d.get 63 rfl) (aB (N:=["_law_script"]) (by decide)) (λ_ _ _ _ _ _=>ar1 λ_=>rfl) λnd _ _ _ _ _ _ _ hr=>(cD (iC (uv (gO (pD (yQ (K:=K) rfl) u4 rfl (T.n rfl) (by first |exact boF rfl |exact boT rfl) (cZ (rl rfl (rG 0) uo (uw iS)) yu)) (gO iS (gO iS ve))))))
def m7:PSt:=
 (ao (xIf (qOf (pOp bGt (pOp dZ (af 0) (ar "left")) (ah 0))) (ao (ay false 2 (pOp cL (pOp dZ (af 0) (ar "left")) (af 1)))
  (ao (fS 0 seD (ar "left") (pOp jK (pOp dZ (af 0) (ar "left")) (af 1)))
  (aw (af 2)))) xNx)
  (ao (ay false 3 (pOp dZ (af 0) (ar "at")))
  (ao (fS 0 seD (ar "at") (pOp aN (af 3) (ah 1)))
  (ao (ay false 4 (af 3))
  (ao (xIf (qOf (pOp bGt (pFn bf (aa (pOp dZ (af 0) (ar "cells")) ag)) (ah 0))) (ay false 4 (pOp bIx (pOp dZ (af 0) (ar "cells")) (pOp cL (af 3) (pFn bf (aa (pOp dZ (af 0) (ar "cells")) ag))))) xNx)
  (ao (xIf (qAn (qOf (pOp bGe (af 4) (pOp nK (ah 10) (ah 18)))) (qOf (pOp bLt (af 3) (pFn bf (aa (pOp dZ (af 0) (ar "cells")) ag))))) (ao (fS 0 seD (ar "left") (pOp jK (af 4) (af 1)))
  (aw (pOp cL (af 4) (af 1)))) xNx)
  (ao (ay false 5 (pOp cL (pOp bu (pOp aN (pOp aN (pOp aN (pOp cL (af 4) (ah 1000003)) (pOp bu (pOp bu (ah 61) (af 3)) (af 3))) (pOp bu (ah 7) (af 3))) (ah 1)) (ah 48271)) (ah 999983)))
  (aw (pOp cL (pOp jK (pOp cL (pOp bu (pOp cL (pOp aN (pOp bu (af 5) (ah 69623)) (pOp bu (ah 7919) (af 3))) (ah 1999993)) (ah 16811)) (ah 524287)) (ah 5)) (af 1))))))))))
def au:PFn:=fnP [true,false] 6 m7
def ud:au.ms=[true,false]:=rfl
def sM(T:TT w K mg):Callee P w K mg base "_law_draw" 1 ["_law_feed_here", "_law_many"] (spD K mg 2 au.F):=aO (T.d.get 64 rfl) (aB (N:=["_law_feed_here", "_law_many", "_law_found", "_law_at", "_law_cell", "_law_number"]) (by decide)) (λ_ _ _ _ _ _=>ar2 λ_ _=>rfl) λnd _ _ _ _ _ _ _ hr=>'d'
def dS:PSt:=
 (ao (ay true 1 (aK (aa (av (aa (ah 0) (aa (ah 1) ag))) (aa (av (aa (ah 0) (aa (ah 1) ag))) (aa (av (aa (ah 3) (aa (ah 1) ag))) (aa (av (aa (ah 2) (aa (ah 1) ag))) ag))))))
  (ao (ay false 2 (ai au (aa (af 0) (aa (ah 4) ag))))
  (ao (ay false 3 (pOp bIx (aK (aa (av (aa (ah 2) (aa (ah 4) ag))) (aa (av (aa (ah 1) (aa (ah 0) ag))) (aa (av (aa (ah 1) (aa (pUn gq (ah 2)) ag))) (aa (ah 5) (aa eE (aa (ar "1") (aa (av (aa (pBl true) (aa (ah 1) ag))) (aa (av (aa (ah 1) (aa (ah 1) (aa (ah 1) ag)))) (aa (aK (aa (ah 1) (aa (ah 1) ag))) (aa (av (aa (ah 0) (aa (ah 2) ag))) ag))))))))))) (ai au (aa (af 0) (aa (ah 10) ag)))))
  (ao (fS 1 seL (af 2) (af 3))
  (ao (xIf (qOf (pOp bEq (ai au (aa (af 0) (aa (ah 3) ag))) (ah 0))) (ao (ay true 1 (aK (aa (av (aa (ah 0) (aa (ah 1) ag))) (aa (av (aa (ah 0) (aa (ah 1) ag))) (aa (av (aa (ah 3) (aa (ah 1) ag))) (aa (av (aa (ah 2) (aa (ah 1) ag))) ag))))))
  (fS 1 seL (pOp aN (ah 2) (ai au (aa (af 0) (aa (ah 2) ag)))) (pOp bIx (aK (aa (av (aa (ah 0) (aa (ah 1) ag))) (aa (av (aa (pUn gq (ah 1)) (aa (ah 3) ag))) ag))) (ai au (aa (af 0) (aa (ah 2) ag)))))) xNx)
  (ao (ay true 4 (aK (aa (pFn eK (aa (af 1) ag)) (aa (pFn eK (aa (af 1) ag)) (aa (pFn eK (aa (af 1) ag)) (aa (pFn jH (aa (af 1) ag)) (aa (pFn eK (aa (pSl (af 1) oN (oS (ah 3))) ag)) (aa (pFn eK (aa (pOp aN (af 1) (pSl (af 1) oN (oS (ah 1)))) ag)) (aa eE (aa (av ag) (aa (ah 7) (aa (ar "room") ag))))))))))))
  (ao (fS 4 seL (ah 8) (av (aa (av (aa (ah 0) (aa (ah 1) ag))) (aa (av (aa (ah 0) (aa (ah 1) ag))) (aa (av (aa (pUn gq (ah 1)) (aa (ah 3) ag))) (aa (av (aa (pUn gq (ah 2)) (aa (ah 1) ag))) ag))))))
  (ao (fS 4 seL (ah 3) (aK (aa (av (aa (ah 0) (aa (ah 1) ag))) (aa (av (aa (ah 0) (aa (ah 1) ag))) (aa (av (aa (ah 1) (aa (ah 1) ag))) (aa (av (aa (ah 1) (aa (ah 1) ag))) ag))))))
  (ao (fS 4 seL (ah 4) (av (aa (av (aa (ah 0) (aa (ah 1) ag))) (aa (av (aa (ah 0) (aa (ah 1) ag))) (aa (av (aa (ah 1) (aa (ah 1) ag))) ag)))))
  (ao (fS 4 seL (ah 5) (av (aa (av (aa (ah 0) (aa (ah 1) ag))) (aa (av (aa (ah 0) (aa (ah 1) ag))) (aa (av (aa (ah 1) (aa (ah 1) ag))) (aa (av (aa (ah 1) (aa (ah 1) ag))) (aa (av (aa (ah 1) (aa (ah 1) ag))) ag)))))))
  (aw (pOp bIx (af 4) (ai au (aa (af 0) (aa (ah 10) ag)))))))))))))))
def dP:PFn:=fnP [true] 5 dS
def l7:dP.ms=[true]:=rfl
def lg(T:TT w K mg):Callee P w K mg base "_law_odd_room" 2 ["_law_feed_here"] (spD K mg 1 dP.F):=aO (T.d.get 65 rfl) (aB (N:=["_law_feed_here", "_law_box", "_law_at", "_law_bad", "_law_some"]) (by decide)) (λ_ _ _ _ _ _=>ar1 λ_=>rfl) λnd _ _ _ _ _ _ _ hr=>'d'
def cR:PSt:=
 (ao (ay true 1 (pLC (ke (aa (pOp aN (ah 1) (ai au (aa (af 0) (aa (ah 5) ag)))) ag)) [none,some 0] (by decide) (gtN 0) qY (pOp aN (ah 1) (ai au (aa (af 1) (aa (ah 9) ag))))))
  (ao (ay false 2 (ai au (aa (af 0) (aa (pFn bf (aa (af 1) ag)) ag))))
  (ao (fS 1 seL (af 2) (pOp bIx (aK (aa (ah 0) (aa (pUn gq (ah 1)) (aa (pBl true) (aa eE (aa (ar "2") (aa (av (aa (ah 1) ag)) (aa (aK (aa (ah 1) ag)) (aa (pUn gq (pOp nK (ah 10) (ah 20))) ag))))))))) (ai au (aa (af 0) (aa (ah 8) ag)))))
  (aw (pOp bIx (aK (aa (af 1) (aa (af 1) (aa (af 1) (aa (aK ag) (aa (av (aa (ah 1) (aa (ah 2) ag))) (aa eE (aa (ah 3) (aa (ar "12") (aa pD0 ag)))))))))) (ai au (aa (af 0) (aa (ah 9) ag))))))))
def cS:PFn:=fnP [true] 3 cR
def jE:cS.ms=[true]:=rfl
def jD(T:TT w K mg):Callee P w K mg base "_law_odd_weights" 2 ["_law_feed_here"] (spD K mg 1 cS.F):=aO (T.d.get 66 rfl) (aB (N:=["_law_feed_here", "_law_weights", "_law_at"]) (by decide)) (λ_ _ _ _ _ _=>ar1 λ_=>rfl) λnd _ _ _ _ _ _ _ hr=>(aA (BG nd ["_law_feed_here", "_law_weights", "_law_at"] (ak (top 66)).names ["_law_k", "_law_feed_here"] [none,some 0] 'd' (λnd _ _ _ _ _=>'d') (λnd _ _ _ _ _=>'d')) 'd')
noncomputable def my:PSt:=
 (aw (fu (pFn (aj aq) (aa (af 0) (aa (pTy "int") ag))) (qH (pFn (aj aq) (aa (af 0) (aa (pTy "bool") ag))))))
noncomputable def bW:PFn:=fnP [false] 1 my
def uf:bW.ms=[false]:=rfl
def sJ(T:TT w K mg):Callee P w K mg base "is_whole" 1 ["thing"] (spD K mg 1 bW.F):=aO (T.d.get 18 rfl) (aB (N:=["thing"]) (by decide)) (λ_ _ _ _ _ _=>ar1 λ_=>rfl) λnd _ _ _ _ _ _ _ hr=>'d'
def cN:PSt:=
 (nM 0 1 (aa (af 1) (aa (pOp cL (af 0) (af 1)) ag)))
def gD:PSt:=
 (ao (nM 0 1 (aa (pFn qb (aa (af 0) ag)) (aa (pFn qb (aa (af 1) ag)) ag)))
  (ao (xWh (qOf (pOp bNe (af 1) (ah 0))) (cN))
  (aw (af 0))))
def bG:PFn:=fnP [false,false] 2 gD
def kK:bG.ms=[false,false]:=rfl
def jT(T:TT w K mg):Callee P w K mg base "common_divisor" 1 ["one", "other"] (spD K mg 2 bG.F):=aO (T.d.get 19 rfl) (aB (N:=["one", "other"]) (by decide)) (λ_ _ _ _ _ _=>ar2 λ_ _=>rfl) λnd _ _ _ _ _ _ _ hr=>'d'
def jB:PSt:=
 (ao (xIf (qO (qNo (qOf (pFn (aj aq) (aa (af 0) (aa (pTy "tuple") ag))))) (qOf (pOp bNe (pFn bf (aa (af 0) ag)) (ah 2)))) (aw (pBl false)) xNx)
  (ao (gh (af 0) (gtX (gtT 2 (aT (gtN 1) (aT (gtN 2) dw)))))
  (ao (xIf (qO (qNo (qOf (ai bW (aa (af 1) ag)))) (qNo (qOf (ai bW (aa (af 2) ag))))) (aw (pBl false)) xNx)
  (aw (fu (pOp bGe (af 2) (ah 1)) (pOp bEq (ai bG (aa (af 1) (aa (af 2) ag))) (ah 1)))))))
def cB:PFn:=fnP [false] 3 jB
def oC:cB.ms=[false]:=rfl
def mY(T:TT w K mg):Callee P w K mg base "is_fraction" 2 ["thing"] (spD K mg 1 cB.F):=aO (T.d.get 20 rfl) (aB (N:=["thing", "top", "bottom"]) (by decide)) (λ_ _ _ _ _ _=>ar1 λ_=>rfl) λnd _ _ _ _ _ _ _ hr=>'d'
def rX:PSt:=
 (ao (xIf (qO (qNo (qOf (pFn (aj aq) (aa (af 0) (aa (pTy "tuple") ag))))) (qOf (pOp bNe (pFn bf (aa (af 0) ag)) (ah 4)))) (aw (pBl false)) xNx)
  (ao (xIf (qNo (qOf (pFn p8 (aa (pLC (cu (af 0)) [none] (by decide) (gtN 0) qY (ai cB (aa (af 0) ag))) ag)))) (aw (pBl false)) xNx)
  (aw (fu (pOp bGt (pOp bIx (pOp bIx (af 0) (ah 2)) (ah 0)) (ah 0)) (pOp bGt (pOp bIx (pOp bIx (af 0) (ah 3)) (ah 0)) (ah 0))))))
def gH:PFn:=fnP [false] 1 rX
def yV:gH.ms=[false]:=rfl
def wM(T:TT w K mg):Callee P w K mg base "is_box" 3 ["thing"] (spD K mg 1 gH.F):=aO (T.d.get 30 rfl) (aB (N:=["thing"]) (by decide)) (λ_ _ _ _ _ _=>ar1 λ_=>rfl) λnd _ _ _ _ _ _ _ hr=>(aA 'd' (aA (kG (rL (sC (jk (allK (K:=K) rfl rfl) zI rfl (T.n rfl) (by first |exact boF rfl |exact boT rfl) (cZ (lO ["thing"] (ak (top 30)).names ["part"] [none] 'd' (λnd _ _ _ _ _=>'d') (λnd _ _ _ _ _=>'d')) 'd')))) 'd' 'd') 'd'))
def kO:PSt:=
 (xIf (qNo (qOf (ai gH (aa (af 0) ag)))) (ek "NoBox" (aa (ar "this is no box") ag)) xNx)
def bL:PFn:=fnP [false] 1 kO
def tw:bL.ms=[false]:=rfl
def pO(T:TT w K mg):Callee P w K mg base "check_box" 4 ["thing"] (spD K mg 1 bL.F):=aO (T.d.get 31 rfl) (aB (N:=["thing"]) (by decide)) (λ_ _ _ _ _ _=>ar1 λ_=>rfl) λnd _ _ _ _ _ _ _ hr=>'d'
noncomputable def kN:PSt:=
 (aw (fu (ai bW (aa (af 0) ag)) (pOp bGe (af 0) (ah 1))))
noncomputable def dm:PFn:=fnP [false] 1 kN
def sy:dm.ms=[false]:=rfl
def pH(T:TT w K mg):Callee P w K mg base "is_weight" 2 ["thing"] (spD K mg 1 dm.F):=aO (T.d.get 34 rfl) (aB (N:=["thing"]) (by decide)) (λ_ _ _ _ _ _=>ar1 λ_=>rfl) λnd _ _ _ _ _ _ _ hr=>'d'
def ij:PSt:=
 (ao (xIf (qO (qNo (qOf (pFn (aj aq) (aa (af 0) (aa (pTy "list") ag))))) (qOf (pOp bEq (pFn bf (aa (af 0) ag)) (ah 0)))) (ek "NoWeights" (aa (ar "this is no list of weights") ag)) xNx)
  (ao (xIf (qNo (qOf (pFn p8 (aa (pLC (cu (af 0)) [none] (by decide) (gtN 0) qY (ai dm (aa (af 0) ag))) ag)))) (ek "NoWeights" (aa (ar "a weight is a whole number from 1 on") ag)) xNx)
  (xIf (qOf (pOp bGt (pFn bf (aa (af 0) ag)) ip)) (ek "TooMany" (aa (ar "these are more weights than forty") ag)) xNx)))
def bx:PFn:=fnP [false] 1 ij
def lR:bx.ms=[false]:=rfl
def kJ(T:TT w K mg):Callee P w K mg base "check_weights" 3 ["thing"] (spD K mg 1 bx.F):=aO (T.d.get 35 rfl) (aB (N:=["thing"]) (by decide)) (λ_ _ _ _ _ _=>ar1 λ_=>rfl) λnd _ _ _ _ _ _ _ hr=>(aA 'd' (aA (kG (rL (sC (jk (allK (K:=K) rfl rfl) zI rfl (T.n rfl) (by first |exact boF rfl |exact boT rfl) (cZ (lO ["thing"] (ak (top 35)).names ["weight"] [none] 'd' (λnd _ _ _ _ _=>'d') (λnd _ _ _ _ _=>'d')) 'd')))) 'd' 'd') 'd'))
def gK:PSt:=
 (xIf (qO (qNo (qOf (pFn (aj aq) (aa (af 0) (aa (pTy "str") ag))))) (qOf (pOp (vm "MOST_THINGS" aH) (af 0) (de "MOST_THINGS")))) (ek "NoKind" (aa (ar "this is no kind of trees") ag)) xNx)
noncomputable def bM:PFn:=fnP [false] 1 gK
def pL:bM.ms=[false]:=rfl
def og(T:TT w K mg):Callee P w K mg base "check_kind" 1 ["kind"] (spD K mg 1 bM.F):=aO (T.d.get 42 rfl) (aB (N:=["kind"]) (by decide)) (λ_ _ _ _ _ _=>ar1 λ_=>rfl) λnd _ _ _ _ _ _ _ hr=>'d'
def cC:PSt:=
 (ao (bB (ai bL (aa (af 0) ag)))
  (ao (bB (ai bx (aa (af 1) ag)))
  (ao (bB (ai bM (aa (af 2) ag)))
  (xIf (qOf (pOp bGt (pFn bf (aa (af 1) ag)) (pOp (md "MOST_THINGS" aH) (de "MOST_THINGS") (af 2)))) (ek "TooMany" (aa (ar "these are more things than the kind is asked of") ag)) xNx))))
def aS:PFn:=fnP [false,false,false] 3 cC
def oq:aS.ms=[false,false,false]:=rfl
def nc(T:TT w K mg):Callee P w K mg base "check_asked" 5 ["room", "weights", "kind"] (spD K mg 3 aS.F):=aO (T.d.get 43 rfl) (aB (N:=["room", "weights", "kind"]) (by decide)) (λ_ _ _ _ _ _=>ar3 λ_ _ _=>rfl) λnd _ _ _ _ _ _ _ hr=>'d'
def oQ:PSt:=
 (aw (pOp bLt (pOp bu (pOp bIx (af 0) (ah 0)) (pOp bIx (af 1) (ah 1))) (pOp bu (pOp bIx (af 1) (ah 0)) (pOp bIx (af 0) (ah 1)))))
def bY:PFn:=fnP [false,false] 2 oQ
def vP:bY.ms=[false,false]:=rfl
def uh(T:TT w K mg):Callee P w K mg base "is_less" 1 ["one", "other"] (spD K mg 2 bY.F):=aO (T.d.get 25 rfl) (aB (N:=["one", "other"]) (by decide)) (λ_ _ _ _ _ _=>ar2 λ_ _=>rfl) λnd _ _ _ _ _ _ _ hr=>'d'
def mq:PSt:=
 (ao (bB (ai bL (aa (af 0) ag)))
  (ao (xIf (qOf (ai bY (aa (pOp bIx (af 0) (ah 2)) (aa (pOp bIx (af 0) (ah 3)) ag)))) (aw (ar "down")) xNx)
  (aw (ar "across"))))
def fi:PFn:=fnP [false] 1 mq
def ua:fi.ms=[false]:=rfl
def qJ(T:TT w K mg):Callee P w K mg base "long_way" 5 ["box"] (spD K mg 1 fi.F):=aO (T.d.get 36 rfl) (aB (N:=["box"]) (by decide)) (λ_ _ _ _ _ _=>ar1 λ_=>rfl) λnd _ _ _ _ _ _ _ hr=>'d'
def mM:PSt:=
 (ao (xIf (qOf (pOp bEq (af 1) (ah 0))) (ek "NoFraction" (aa (ar "a fraction has no bottom of 0") ag)) xNx)
  (ao (ay false 2 (ai bG (aa (af 0) (aa (af 1) ag))))
  (ao (xIf (qOf (pOp bLt (af 1) (ah 0))) (ay false 2 (pUn gq (af 2))) xNx)
  (aw (av (aa (pOp jK (af 0) (af 2)) (aa (pOp jK (af 1) (af 2)) ag)))))))
def bI:PFn:=fnP [false,false] 3 mM
def tW:bI.ms=[false,false]:=rfl
def rC(T:TT w K mg):Callee P w K mg base "fraction" 2 ["top", "bottom"] (spD K mg 2 bI.F):=aO (T.d.get 21 rfl) (aB (N:=["top", "bottom", "divisor"]) (by decide)) (λ_ _ _ _ _ _=>ar2 λ_ _=>rfl) λnd _ _ _ _ _ _ _ hr=>'d'
def xP:PSt:=
 (aw (ai bI (aa (pOp bu (pOp bIx (af 0) (ah 0)) (pOp bIx (af 1) (ah 1))) (aa (pOp bu (pOp bIx (af 0) (ah 1)) (pOp bIx (af 1) (ah 0))) ag))))
def iM:PFn:=fnP [false,false] 2 xP
def E7:iM.ms=[false,false]:=rfl
def Ao(T:TT w K mg):Callee P w K mg base "over" 3 ["one", "other"] (spD K mg 2 iM.F):=aO (T.d.get 24 rfl) (aB (N:=["one", "other"]) (by decide)) (λ_ _ _ _ _ _=>ar2 λ_ _=>rfl) λnd _ _ _ _ _ _ _ hr=>'d'
def uT:PSt:=
 (ao (xIf (qOf (pOp bEq (ai fi (aa (af 0) ag)) (ar "across"))) (aw (ai iM (aa (pOp bIx (af 0) (ah 2)) (aa (pOp bIx (af 0) (ah 3)) ag)))) xNx)
  (aw (ai iM (aa (pOp bIx (af 0) (ah 3)) (aa (pOp bIx (af 0) (ah 2)) ag)))))
def fB:PFn:=fnP [false] 1 uT
def BD:fB.ms=[false]:=rfl
def xv(T:TT w K mg):Callee P w K mg base "shape" 6 ["box"] (spD K mg 1 fB.F):=aO (T.d.get 37 rfl) (aB (N:=["box"]) (by decide)) (λ_ _ _ _ _ _=>ar1 λ_=>rfl) λnd _ _ _ _ _ _ _ hr=>'d'
def mz:PSt:=
 (ay false 2 (pOp aN (af 2) (pLC (cu (af 2)) [none,some 3] (by decide) (gtN 0) qY (pOp aN (af 0) (aK (aa (af 1) ag))))))
def jW:PSt:=
 (ao (xIf (qOf (pOp bEq (af 1) (ar "order"))) (aw (pLC (vZ (aa (ah 1) (aa (pFn bf (aa (af 0) ag)) ag))) [none,some 0] (by decide) (gtN 0) qY (pSl (af 1) oN (oS (af 0))))) xNx)
  (ao (ay false 2 (aK (aa (pSl (af 0) oN (oS (ah 1))) ag)))
  (ao (fH (cu (pSl (af 0) (oS (ah 1)) oN)) (gtN 3) (mz))
  (aw (pSl (af 2) oN (oS (pUn gq (ah 1))))))))
def c6:PFn:=fnP [false,false] 4 jW
def wH:c6.ms=[false,false]:=rfl
def tU(T:TT w K mg):Callee P w K mg base "lots_of" 1 ["numbers", "kind"] (spD K mg 2 c6.F):=aO (T.d.get 46 rfl) (aB (N:=["numbers", "kind", "lots", "number"]) (by decide)) (λ_ _ _ _ _ _=>ar2 λ_ _=>rfl) λnd _ _ _ _ _ _ _ hr=>(aA (kG 'd' (cD (iC (lO ["numbers", "kind", "lots", "number"] (ak (top 46)).names ["many", "numbers"] [none,some 0] 'd' (λnd _ _ _ _ _=>'d') (λnd _ _ _ _ _=>'d')))) 'd') (aA 'd' (aA (l9 xo rfl 'd' 'd' (cD (zsS 2 nd (C3 (xJ (K:=K) rfl) zA 'd' (lO ["numbers", "kind", "lots", "number"] (ak (top 46)).names ["lot", "number"] [none,some 3] 'd' (λnd _ _ _ _ _=>'d') (λnd _ _ _ _ _=>'d')))))) 'd')))
def js:PSt:=
 (bB (eU 2 bC (aa (av (aa (af 4) (aa (pFn jH (aa (af 3) ag)) (aa (pLC (cu (af 0)) [none,some 3] (by decide) (gtN 0) (qOf (pOp jG (af 0) (af 1))) (af 0)) ag)))) ag)))
def fX:PSt:=
 (fH (cu n9) (gtN 4) (js))
def pA:PSt:=
 (ao (ay true 2 (aK ag))
  (ao (fH (cu (ai c6 (aa (af 0) (aa (af 1) ag)))) (gtN 3) (fX))
  (aw (af 2))))
def dG:PFn:=fnP [false,false] 5 pA
def vD:dG.ms=[false,false]:=rfl
def ue(T:TT w K mg):Callee P w K mg base "cuts_of" 2 ["numbers", "kind"] (spD K mg 2 dG.F):=aO (T.d.get 47 rfl) (aB (N:=["numbers", "kind", "cuts", "lot", "way"]) (by decide)) (λ_ _ _ _ _ _=>ar2 λ_ _=>rfl) λnd _ _ _ _ _ _ _ hr=>(aA 'd' (aA (l9 xo rfl 'd' 'd' (cD (l9 xo rfl 'd' 'd' (cD (kz (mi rfl PD PF ia ik 'd' (cZ (yk (cZ 'd' (cZ 'd' (cZ (Iw ["numbers", "kind", "cuts", "lot", "way"] (ak (top 47)).names ["number", "lot"] [none,some 3] 'd' (λnd _ _ _ _ _=>'d') (λnd _ _ _ _ _=>'d') (λnd _ _ _ _ _=>'d')) 'd')))) 'd'))))))) 'd'))
noncomputable def rq:PSt:=
 (aw (fu (pFn (aj aq) (aa (af 0) (aa (pTy "str") ag))) (pOp bIn (af 0) n9)))
noncomputable def gG:PFn:=fnP [false] 1 rq
def xA:gG.ms=[false]:=rfl
def wa(T:TT w K mg):Callee P w K mg base "is_way" 1 ["thing"] (spD K mg 1 gG.F):=aO (T.d.get 32 rfl) (aB (N:=["thing"]) (by decide)) (λ_ _ _ _ _ _=>ar1 λ_=>rfl) λnd _ _ _ _ _ _ _ hr=>'d'
noncomputable def kQ:PSt:=
 (xIf (qNo (qOf (ai gG (aa (af 0) ag)))) (ek "NoWay" (aa (ar "this is no way") ag)) xNx)
noncomputable def eh:PFn:=fnP [false] 1 kQ
def qP:eh.ms=[false]:=rfl
def pQ(T:TT w K mg):Callee P w K mg base "check_way" 2 ["way"] (spD K mg 1 eh.F):=aO (T.d.get 33 rfl) (aB (N:=["way"]) (by decide)) (λ_ _ _ _ _ _=>ar1 λ_=>rfl) λnd _ _ _ _ _ _ _ hr=>'d'
def vg:PSt:=
 (aw (ai bI (aa (pOp aN (pOp bu (pOp bIx (af 0) (ah 0)) (pOp bIx (af 1) (ah 1))) (pOp bu (pOp bIx (af 1) (ah 0)) (pOp bIx (af 0) (ah 1)))) (aa (pOp bu (pOp bIx (af 0) (ah 1)) (pOp bIx (af 1) (ah 1))) ag))))
def iU:PFn:=fnP [false,false] 2 vg
def AV:iU.ms=[false,false]:=rfl
def xU(T:TT w K mg):Callee P w K mg base "added" 3 ["one", "other"] (spD K mg 2 iU.F):=aO (T.d.get 22 rfl) (aB (N:=["one", "other"]) (by decide)) (λ_ _ _ _ _ _=>ar2 λ_ _=>rfl) λnd _ _ _ _ _ _ _ hr=>'d'
def uL:PSt:=
 (aw (ai bI (aa (pOp bu (pOp bIx (af 0) (ah 0)) (pOp bIx (af 1) (ah 0))) (aa (pOp bu (pOp bIx (af 0) (ah 1)) (pOp bIx (af 1) (ah 1))) ag))))
def fD:PFn:=fnP [false,false] 2 uL
def BX:fD.ms=[false,false]:=rfl
def zh(T:TT w K mg):Callee P w K mg base "times" 3 ["one", "other"] (spD K mg 2 fD.F):=aO (T.d.get 23 rfl) (aB (N:=["one", "other"]) (by decide)) (λ_ _ _ _ _ _=>ar2 λ_ _=>rfl) λnd _ _ _ _ _ _ _ hr=>'d'
def ie:PSt:=
 (ao (ay false 7 (ai iU (aa (af 0) (aa (ai fD (aa (af 1) (aa (ai bI (aa (af 4) (aa (af 3) ag))) ag))) ag))))
  (ao (bB (eU 5 bC (aa (av (aa (af 7) (aa (ai fD (aa (af 1) (aa (ai bI (aa (af 6) (aa (af 3) ag))) ag))) ag))) ag)))
  (AI 4 zV (af 6))))
def sY:PSt:=
 (ao (ay false 3 (pFn qf (aa (af 2) ag)))
  (ao (ay false 4 (ah 0))
  (ao (ay true 5 (aK ag))
  (ao (fH (cu (af 2)) (gtN 6) (ie))
  (aw (af 5))))))
def fm:PFn:=fnP [false,false,false] 8 sY
def xI:fm.ms=[false,false,false]:=rfl
def vE(T:TT w K mg):Callee P w K mg base "shares" 4 ["start", "length", "weights"] (spD K mg 3 fm.F):=aO (T.d.get 38 rfl) (aB (N:=["start", "length", "weights", "whole", "ahead", "found", "weight", "begin"]) (by decide)) (λ_ _ _ _ _ _=>ar3 λ_ _ _=>rfl) λnd _ _ _ _ _ _ _ hr=>'d'
def rK:PSt:=
 (ao (bB (ai bL (aa (af 0) ag)))
  (ao (bB (ai eh (aa (af 1) ag)))
  (ao (bB (ai bx (aa (af 2) ag)))
  (ao (gh (af 0) (gtX (gtT 4 (aT (gtN 3) (aT (gtN 4) (aT (gtN 5) (aT (gtN 6) dw)))))))
  (ao (xIf (qOf (pOp bEq (af 1) (ar "across"))) (aw (pLC (cu (ai fm (aa (af 3) (aa (af 5) (aa (af 2) ag))))) [none,none,some 4,some 6] (by decide) (gtT 2 (aT (gtN 0) (aT (gtN 1) dw))) qY (av (aa (af 0) (aa (af 2) (aa (af 1) (aa (af 3) ag))))))) xNx)
  (aw (pLC (cu (ai fm (aa (af 4) (aa (af 6) (aa (af 2) ag))))) [none,none,some 3,some 5] (by decide) (gtT 2 (aT (gtN 0) (aT (gtN 1) dw))) qY (av (aa (af 2) (aa (af 0) (aa (af 3) (aa (af 1) ag))))))))))))
def fG:PFn:=fnP [false,false,false] 7 rK
def xC:fG.ms=[false,false,false]:=rfl
def xa(T:TT w K mg):Callee P w K mg base "parted" 5 ["box", "way", "weights"] (spD K mg 3 fG.F):=aO (T.d.get 39 rfl) (aB (N:=["box", "way", "weights", "left", "top", "wide", "high"]) (by decide)) (λ_ _ _ _ _ _=>ar3 λ_ _ _=>rfl) λnd _ _ _ _ _ _ _ hr=>(aA 'd' (aA 'd' (aA 'd' (aA 'd' (aA (kG 'd' (cD (iC (lO ["box", "way", "weights", "left", "top", "wide", "high"] (ak (top 39)).names ["begin", "length", "top", "high"] [none,none,some 4,some 6] 'd' (λnd _ _ _ _ _=>'d') (λnd _ _ _ _ _=>'d')))) 'd') (cD (iC (lO ["box", "way", "weights", "left", "top", "wide", "high"] (ak (top 39)).names ["begin", "length", "left", "wide"] [none,none,some 3,some 5] 'd' (λnd _ _ _ _ _=>'d') (λnd _ _ _ _ _=>'d')))))))))
def kM:PSt:=
 (aw (pFn qf (aa (pLC (cu (af 0)) [none,some 1] (by decide) (gtN 0) qY (pOp bIx (af 1) (af 0))) ag)))
def bZ:PFn:=fnP [false,false] 2 kM
def sA:bZ.ms=[false,false]:=rfl
def pK(T:TT w K mg):Callee P w K mg base "weight_of" 1 ["numbers", "weights"] (spD K mg 2 bZ.F):=aO (T.d.get 49 rfl) (aB (N:=["numbers", "weights"]) (by decide)) (λ_ _ _ _ _ _=>ar2 λ_ _=>rfl) λnd _ _ _ _ _ _ _ hr=>(cD (iC (jk (oH (K:=K) rfl rfl) yi rfl (T.n rfl) (by first |exact boF rfl |exact boT rfl) (cZ (lO ["numbers", "weights"] (ak (top 49)).names ["number", "weights"] [none,some 1] 'd' (λnd _ _ _ _ _=>'d') (λnd _ _ _ _ _=>'d')) 'd'))))
def ml:PSt:=
 (ao (gh (af 0) (gtX (gtT 3 (aT (gtN 3) (aT (gtN 4) (aT (gtN 5) dw))))))
  (aw (ai fG (aa (af 1) (aa (af 3) (aa (aK (aa (ai bZ (aa (af 4) (aa (af 2) ag))) (aa (ai bZ (aa (af 5) (aa (af 2) ag))) ag))) ag))))))
def cH:PFn:=fnP [false,false,false] 6 ml
def tR:cH.ms=[false,false,false]:=rfl
def sS(T:TT w K mg):Callee P w K mg base "parts_by" 6 ["cut", "room", "weights"] (spD K mg 3 cH.F):=aO (T.d.get 48 rfl) (aB (N:=["cut", "room", "weights", "way", "first", "second"]) (by decide)) (λ_ _ _ _ _ _=>ar3 λ_ _ _=>rfl) λnd _ _ _ _ _ _ _ hr=>'d'
def iI:PSt:=
 (xIf (qOf (ai bY (aa (af 1) (aa (af 2) ag)))) (ay false 1 (af 2)) xNx)
def jC:PSt:=
 (ao (ay false 1 (pOp bIx (af 0) (ah 0)))
  (ao (fH (cu (af 0)) (gtN 2) (iI))
  (aw (af 1))))
def dk:PFn:=fnP [false] 3 jC
def nJ:dk.ms=[false]:=rfl
def mH(T:TT w K mg):Callee P w K mg base "greatest_of" 2 ["fractions"] (spD K mg 1 dk.F):=aO (T.d.get 26 rfl) (aB (N:=["fractions", "found", "one"]) (by decide)) (λ_ _ _ _ _ _=>ar1 λ_=>rfl) λnd _ _ _ _ _ _ _ hr=>'d'
def cX(s:PFx [false,false,false,false]):PSt:=
 (ao (gh (ai cH (aa (af 5) (aa (af 0) (aa (af 1) ag)))) (gtX (gtU 2 (aT (gtN 6) (aT (gtN 7) dw)))))
  (ao (ay false 8 (ai s.fn (aa (af 6) (aa (af 1) (aa (af 2) (aa (pOp bIx (af 5) (ah 1)) ag))))))
  (ao (xIf (qAn (qOf (pOp vI (af 4) eE)) (qNo (qOf (ai bY (aa (pOp bIx (af 8) (ah 0)) (aa (pOp bIx (af 4) (ah 0)) ag)))))) xCt xNx)
  (ao (ay false 9 (ai s.fn (aa (af 7) (aa (af 1) (aa (af 2) (aa (pOp bIx (af 5) (ah 2)) ag))))))
  (ao (ay false 10 (ai dk (aa (aK (aa (pOp bIx (af 8) (ah 0)) (aa (pOp bIx (af 9) (ah 0)) ag))) ag)))
  (xIf (qO (qOf (pOp bIs (af 4) eE)) (qOf (ai bY (aa (af 10) (aa (pOp bIx (af 4) (ah 0)) ag))))) (ay false 4 (av (aa (af 10) (aa (av (aa (pOp bIx (af 5) (ah 0)) (aa (av (aa (pOp bIx (af 8) (ah 1)) (aa (pOp bIx (af 9) (ah 1)) ag))) ag))) ag)))) xNx))))))
def ef(s:PFx [false,false,false,false]):PSt:=
 (ao (xIf (qOf (pOp bEq (pFn bf (aa (af 3) ag)) (ah 1))) (aw (av (aa (ai fB (aa (af 0) ag)) (aa (pOp bIx (af 3) (ah 0)) ag)))) xNx)
  (ao (ay false 4 eE)
  (ao (fH (cu (ai dG (aa (af 3) (aa (af 2) ag)))) (gtN 5) (cX s))
  (aw (af 4)))))
def cK:Nat->PFx [false,false,false,false]
 |0=>PFx.none [false,false,false,false]
 |n+1=>PFx.of [false,false,false,false] 11 (ef (cK n))
theorem iL(T:TT w K mg):∀n,Callee P w K mg base "best_tree" (8+n) ["room", "weights", "kind", "numbers"] (spD K mg 4 (cK n).F)
 |0=>ok0 (T.d.get 45 rfl) (aB (N:=["room", "weights", "kind", "numbers", "best", "cut", "first", "second", "one", "other", "greatest"]) (by decide)) (λ_ _ _ _ _ _=>ar4 λ_ _ _ _=>rfl)
 |
  n+1=>by
  have ih:=iL T n;show Callee _ _ _ _ _ _ _ _ (spD _ _ _ (PFx.of [false,false,false,false] 11 (ef (cK n))).F);exact AO (k:=8+n) (T.d.get 45 rfl) (aB (N:=["room", "weights", "kind", "numbers", "best", "cut", "first", "second", "one", "other", "greatest"]) (by decide)) (λ_ _ _ _ _ _=>ar4 λ_ _ _ _=>rfl) λnd _ _ _ _ _ _ _ hr=>'d'
def fU:PSt:=
 (ao (bB (ai aS (aa (af 0) (aa (af 1) (aa (af 2) ag)))))
  (aw (ai (cK 7).fn (aa (af 0) (aa (af 1) (aa (af 2) (aa (pFn gQ (aa (pFn bf (aa (af 1) ag)) ag)) ag)))))))
def bR:PFn:=fnP [false,false,false] 3 fU
def nL:bR.ms=[false,false,false]:=rfl
def lZ(T:TT w K mg):Callee P w K mg base "least_worst" 16 ["room", "weights", "kind"] (spD K mg 3 bR.F):=aO (T.d.get 44 rfl) (aB (N:=["room", "weights", "kind"]) (by decide)) (λ_ _ _ _ _ _=>ar3 λ_ _ _=>rfl) λnd _ _ _ _ _ _ _ hr=>'d'
def rO:PSt:=
 (aw (qH (ai bY (aa (ai fB (aa (af 0) ag)) (aa (pOp bIx (af 1) (ah 2)) ag)))))
def fF:PFn:=fnP [false,false] 2 rO
def xF:fF.ms=[false,false]:=rfl
def vY(T:TT w K mg):Callee P w K mg base "is_far" 7 ["room", "asked"] (spD K mg 2 fF.F):=aO (T.d.get 56 rfl) (aB (N:=["room", "asked"]) (by decide)) (λ_ _ _ _ _ _=>ar2 λ_ _=>rfl) λnd _ _ _ _ _ _ _ hr=>'d'
def mQ:PSt:=
 (aw (ai fD (aa (ai fB (aa (af 0) ag)) (aa (ai bI (aa (af 1) (aa (af 2) ag))) ag))))
def eY:PFn:=fnP [false,false,false] 3 mQ
def tS:eY.ms=[false,false,false]:=rfl
def rR(T:TT w K mg):Callee P w K mg base "thinness" 7 ["room", "weight", "whole"] (spD K mg 3 eY.F):=aO (T.d.get 51 rfl) (aB (N:=["room", "weight", "whole"]) (by decide)) (λ_ _ _ _ _ _=>ar3 λ_ _ _=>rfl) λnd _ _ _ _ _ _ _ hr=>'d'
def oI:PSt:=
 (ao (gh (af 3) (gtX (gtT 3 (aT (gtN 4) (aT (gtN 5) (aT (gtN 6) dw))))))
  (aw (qH (ai bY (aa (ai eY (aa (af 1) (aa (pOp bIx (af 4) (af 0)) (aa (ai bZ (aa (af 2) (aa (af 4) ag))) ag)))) (aa (af 6) ag))))))
def eJ:PFn:=fnP [false,false,false,false] 7 oI
def wd:eJ.ms=[false,false,false,false]:=rfl
def tQ(T:TT w K mg):Callee P w K mg base "is_thin" 8 ["number", "room", "numbers", "asked"] (spD K mg 4 eJ.F):=aO (T.d.get 55 rfl) (aB (N:=["number", "room", "numbers", "asked", "weights", "kind", "bound"]) (by decide)) (λ_ _ _ _ _ _=>ar4 λ_ _ _ _=>rfl) λnd _ _ _ _ _ _ _ hr=>'d'
def iF(s:PFx [false,false,false]):PSt:=
 (ao (ay false 5 (ai s.fn (aa (af 4) (aa (pOp bIx (af 0) (pOp aN (af 3) (ah 1))) (aa (af 2) ag)))))
  (xIf (qOf (pOp vI (af 5) eE)) (aw (av (aa (af 3) (aa (af 5) ag)))) xNx))
def jA(s:PFx [false,false,false]):PSt:=
 (ao (fH (wI (aa (ai cH (aa (af 0) (aa (af 1) (aa (pOp bIx (af 2) (ah 0)) ag)))) ag)) (gtX (gtT 2 (aT (gtN 3) (aT (gtN 4) dw)))) (iF s))
  (aw eE))
def bc(s:PFx [false,false,false]):PFn:=fnP [false,false,false] 6 (jA s)
def nu(s:PFx [false,false,false]):(bc s).ms=[false,false,false]:=rfl
def m5(T:TT w K mg){s:PFx [false,false,false]}{k:Nat}(ih:Callee P w K mg base "barring" k ["room", "numbers", "asked"] (spD K mg 3 s.F))(hk:10<=k:=by omega):Callee P w K mg base "barring_row" (k+1) ["cut", "room", "asked"] (spD K mg 3 (bc s).F):=aO (T.d.get 58 rfl) (aB (N:=["cut", "room", "asked", "at", "part", "paper"]) (by decide)) (λ_ _ _ _ _ _=>ar3 λ_ _ _=>rfl) λnd _ _ _ _ _ _ _ hr=>'d'
def eQ(s:PFx [false,false,false]):PSt:=
 (xIf (qOf (ai eJ (aa (af 3) (aa (af 0) (aa (af 1) (aa (af 2) ag)))))) (aw (av (aa (ar "thin") (aa (af 3) ag)))) xNx)
def dh(s:PFx [false,false,false]):PSt:=
 (ao (ay false 6 (ai (bc s) (aa (af 5) (aa (af 0) (aa (af 2) ag)))))
  (ao (xIf (qOf (pOp bIs (af 6) eE)) (aw eE) xNx)
  (bB (eU 4 bC (aa (af 6) ag)))))
def h9(s:PFx [false,false,false]):PSt:=
 (ao (xIf (qOf (pOp bEq (pFn bf (aa (af 1) ag)) (ah 1))) (aw (pIf (qOf (ai fF (aa (af 0) (aa (af 2) ag)))) (av (aa (ar "shape") ag)) eE)) xNx)
  (ao (fH (cu (af 1)) (gtN 3) (eQ s))
  (ao (ay true 4 (aK ag))
  (ao (fH (cu (ai dG (aa (af 1) (aa (pOp bIx (af 2) (ah 1)) ag)))) (gtN 5) (dh s))
  (aw (av (aa (ar "cases") (aa (pFn eK (aa (af 4) ag)) ag))))))))
def c5:Nat->PFx [false,false,false]
 |0=>PFx.none [false,false,false]
 |n+1=>PFx.of [false,false,false] 7 (h9 (c5 n))
theorem jL(T:TT w K mg):∀n,Callee P w K mg base "barring" (10+2*n) ["room", "numbers", "asked"] (spD K mg 3 (c5 n).F)
 |0=>ok0 (T.d.get 57 rfl) (aB (N:=["room", "numbers", "asked", "number", "rows", "cut", "row"]) (by decide)) (λ_ _ _ _ _ _=>ar3 λ_ _ _=>rfl)
 |
  n+1=>by
  have ih:=jL T n;show Callee _ _ _ _ _ _ (10+2*n+1+1) _ (spD _ _ _ (PFx.of [false,false,false] 7 (h9 (c5 n))).F);exact AO (k:=10+2*n+1) (T.d.get 57 rfl) (aB (N:=["room", "numbers", "asked", "number", "rows", "cut", "row"]) (by decide)) (λ_ _ _ _ _ _=>ar3 λ_ _ _=>rfl) λnd _ _ _ _ _ _ _ hr=>'d'
def jt:PSt:=
 (ao (ay false 3 (pOp bIx (ai bR (aa (af 0) (aa (af 1) (aa (af 2) ag)))) (ah 0)))
  (aw (ai (c5 7).fn (aa (af 0) (aa (pFn gQ (aa (pFn bf (aa (af 1) ag)) ag)) (aa (av (aa (af 1) (aa (af 2) (aa (af 3) ag)))) ag))))))
def cE:PFn:=fnP [false,false,false] 4 jt
def tM:cE.ms=[false,false,false]:=rfl
def sH(T:TT w K mg):Callee P w K mg base "paper_of" 25 ["room", "weights", "kind"] (spD K mg 3 cE.F):=aO (T.d.get 53 rfl) (aB (N:=["room", "weights", "kind", "bound"]) (by decide)) (λ_ _ _ _ _ _=>ar3 λ_ _ _=>rfl) λnd _ _ _ _ _ _ _ hr=>'d'
def eT:PSt:=
 (ao (ay false 1 (aK (aa (pFn (aj aq) (aa (af 0) (aa (de "NoBox") ag))) (aa (pFn (aj aq) (aa (af 0) (aa (de "NoWeights") ag))) (aa (pFn (aj aq) (aa (af 0) (aa (de "TooMany") ag))) ag)))))
  (ao (ay false 1 (pOp aN (af 1) (aK (aa (pFn (aj aq) (aa (af 0) (aa (de "NoKind") ag))) (aa (pFn (aj aq) (aa (af 0) (aa (de "NoRule") ag))) (aa (pFn (aj aq) (aa (af 0) (aa (de "NoThing") ag))) ag))))))
  (ao (ay false 1 (pOp aN (af 1) (aK (aa (pFn (aj aq) (aa (af 0) (aa (de "NoCut") ag))) (aa (pFn (aj aq) (aa (af 0) (aa (de "NoText") ag))) (aa (pFn (aj aq) (aa (af 0) (aa (de "NoRow") ag))) ag))))))
  (ao (ay false 1 (pOp aN (af 1) (aK (aa (pFn (aj aq) (aa (af 0) (aa (de "NoName") ag))) (aa (pFn (aj aq) (aa (af 0) (aa (de "Taken") ag))) (aa (pFn (aj aq) (aa (af 0) (aa (de "Unknown") ag))) ag))))))
  (ao (ay false 1 (pOp aN (af 1) (aK (aa (pFn (aj aq) (aa (af 0) (aa (de "NoFraction") ag))) (aa (pFn (aj aq) (aa (af 0) (aa (de "NoWay") ag))) (aa (pFn (aj aq) (aa (af 0) (aa (de "NoTree") ag))) ag))))))
  (ao (ay false 2 (aK (aa (ar "box") (aa (ar "weights") (aa (ar "many") (aa (ar "kind") (aa (ar "rule") (aa (ar "thing") (aa (ar "cut") (aa (ar "text") (aa (ar "row") (aa (ar "name") (aa (ar "taken") (aa (ar "unknown") ag))))))))))))))
  (ao (ay false 2 (pOp aN (af 2) (aK (aa (ar "fraction") (aa (ar "way") (aa (ar "tree") ag))))))
  (ao (xIf (qO (qOf (pOp bNe (qc gp (af 1) (aa (pBl true) ag)) (ah 1))) (qNo (qOf (pFn (aj aq) (aa (af 0) (aa (pTy "ValueError") ag)))))) (aw (ar "odd")) xNx)
  (aw (pOp bIx (af 2) (qc gj (af 1) (aa (pBl true) ag))))))))))))
def aZ:PFn:=fnP [false] 3 eT
def tZ:aZ.ms=[false]:=rfl
def jJ(T:TT w K mg):CalleeU P w K mg base "_law_word" 1 ["_law_error"] (spD K mg 1 aZ.F):=LY (T.d.get 67 rfl) (aB (N:=["_law_error", "_law_some", "_law_words"]) (by decide)) (λ_ _ _ _ _ _=>ar1 λ_=>rfl) λnd _ _ _ _ _ _ _ hr=>'d'
def l6(s:PFx [false,false,false,false]):PSt:=
 (ao (xIf (qO (qNo (qOf (pFn (aj aq) (aa (af 0) (aa (pTy "tuple") ag))))) (qOf (pOp bNe (pFn bf (aa (af 0) ag)) (ah 2)))) (aw (pBl false)) xNx)
  (ao (gh (af 0) (gtX (gtT 2 (aT (gtN 4) (aT (gtN 5) dw)))))
  (ao (xIf (qO (qNo (qOf (ai bW (aa (af 4) ag)))) (qOf (pOp jG (af 4) (av (aa (ah 0) (aa (ah 1) ag)))))) (aw (pBl false)) xNx)
  (aw (ai s.fn (aa (af 5) (aa (pOp bIx (ai cH (aa (af 1) (aa (af 2) (aa (pOp bIx (af 3) (ah 0)) ag)))) (af 4)) (aa (pOp bIx (af 1) (pOp aN (af 4) (ah 1))) (aa (af 3) ag)))))))))
def c8(s:PFx [false,false,false,false]):PFn:=fnP [false,false,false,false] 6 (l6 s)
def tJ(s:PFx [false,false,false,false]):(c8 s).ms=[false,false,false,false]:=rfl
def rn(T:TT w K mg){s:PFx [false,false,false,false]}{k:Nat}(ih:Callee P w K mg base "bars" k ["paper", "room", "numbers", "asked"] (spD K mg 4 s.F))(hk:10<=k:=by omega):Callee P w K mg base "row_bars" (k+1) ["row", "cut", "room", "asked"] (spD K mg 4 (c8 s).F):=aO (T.d.get 61 rfl) (aB (N:=["row", "cut", "room", "asked", "at", "paper"]) (by decide)) (λ_ _ _ _ _ _=>ar4 λ_ _ _ _=>rfl) λnd _ _ _ _ _ _ _ hr=>'d'
def cq(s:PFx [false,false,false,false]):PSt:=
 (xIf (qNo (qOf (ai (c8 s) (aa (af 5) (aa (af 6) (aa (af 1) (aa (af 3) ag))))))) (aw (pBl false)) xNx)
def eW(s:PFx [false,false,false,false]):PSt:=
 (ao (ay false 4 (ai dG (aa (af 2) (aa (pOp bIx (af 3) (ah 1)) ag))))
  (ao (xIf (qOf (pOp bNe (pFn bf (aa (af 0) ag)) (pFn bf (aa (af 4) ag)))) (aw (pBl false)) xNx)
  (ao (fH (vN (aa (af 0) (aa (af 4) ag))) (gtX (gtT 2 (aT (gtN 5) (aT (gtN 6) dw)))) (cq s))
  (aw (pBl true)))))
def bF(s:PFx [false,false,false,false]):PFn:=fnP [false,false,false,false] 7 (eW s)
def lF(s:PFx [false,false,false,false]):(bF s).ms=[false,false,false,false]:=rfl
def kI(T:TT w K mg){s:PFx [false,false,false,false]}{k:Nat}(ih:Callee P w K mg base "bars" k ["paper", "room", "numbers", "asked"] (spD K mg 4 s.F))(hk:10<=k:=by omega):Callee P w K mg base "all_cases_bar" (k+2) ["rows", "room", "numbers", "asked"] (spD K mg 4 (bF s).F):=aO (T.d.get 60 rfl) (aB (N:=["rows", "room", "numbers", "asked", "cuts", "row", "cut"]) (by decide)) (λ_ _ _ _ _ _=>ar4 λ_ _ _ _=>rfl) λnd _ _ _ _ _ _ _ hr=>'d'
def a8(s:PFx [false,false,false,false]):PSt:=
 (ao (xIf (qNo (qOf (pFn (aj aq) (aa (af 0) (aa (pTy "tuple") ag))))) (aw (pBl false)) xNx)
  (ao (xIf (qOf (pOp bEq (pFn bf (aa (af 0) ag)) (ah 1))) (aw (fu (pOp bEq (pOp bIx (af 0) (ah 0)) (ar "shape")) (fu (pOp bEq (pFn bf (aa (af 2) ag)) (ah 1)) (ai fF (aa (af 1) (aa (af 3) ag)))))) xNx)
  (ao (xIf (qOf (pOp bNe (pFn bf (aa (af 0) ag)) (ah 2))) (aw (pBl false)) xNx)
  (ao (gh (af 0) (gtX (gtT 2 (aT (gtN 4) (aT (gtN 5) dw)))))
  (ao (xIf (qOf (pOp bEq (af 4) (ar "thin"))) (aw (fu (ai bW (aa (af 5) ag)) (fu (pOp bIn (af 5) (af 2)) (ai eJ (aa (af 5) (aa (af 1) (aa (af 2) (aa (af 3) ag)))))))) xNx)
  (ao (xIf (qOf (pOp bEq (af 4) (ar "cases"))) (aw (fu (pOp bGt (pFn bf (aa (af 2) ag)) (ah 1)) (fu (pFn (aj aq) (aa (af 5) (aa (pTy "tuple") ag))) (ai (bF s) (aa (af 5) (aa (af 1) (aa (af 2) (aa (af 3) ag)))))))) xNx)
  (aw (pBl false))))))))
def bz:Nat->PFx [false,false,false,false]
 |0=>PFx.none [false,false,false,false]
 |n+1=>PFx.of [false,false,false,false] 6 (a8 (bz n))
theorem pB(T:TT w K mg):∀n,Callee P w K mg base "bars" (10+3*n) ["paper", "room", "numbers", "asked"] (spD K mg 4 (bz n).F)
 |0=>ok0 (T.d.get 59 rfl) (aB (N:=["paper", "room", "numbers", "asked", "word", "held"]) (by decide)) (λ_ _ _ _ _ _=>ar4 λ_ _ _ _=>rfl)
 |
  n+1=>by
  have ih:=pB T n;show Callee _ _ _ _ _ _ (10+3*n+2+1) _ (spD _ _ _ (PFx.of [false,false,false,false] 6 (a8 (bz n))).F);exact AO (k:=10+3*n+2) (T.d.get 59 rfl) (aB (N:=["paper", "room", "numbers", "asked", "word", "held"]) (by decide)) (λ_ _ _ _ _ _=>ar4 λ_ _ _ _=>rfl) λnd _ _ _ _ _ _ _ hr=>'d'
def lE:PSt:=
 (ao (bB (ai aS (aa (af 0) (aa (af 1) (aa (af 2) ag)))))
  (aw (ai (bz 7).fn (aa (af 4) (aa (af 0) (aa (pFn gQ (aa (pFn bf (aa (af 1) ag)) ag)) (aa (av (aa (af 1) (aa (af 2) (aa (af 3) ag)))) ag)))))))
def dN:PFn:=fnP [false,false,false,false,false] 5 lE
def x9:dN.ms=[false,false,false,false,false]:=rfl
def xg(T:TT w K mg):Callee P w K mg base "stands" 32 ["room", "weights", "kind", "bound", "paper"] (spD K mg 5 dN.F):=aO (T.d.get 54 rfl) (aB (N:=["room", "weights", "kind", "bound", "paper"]) (by decide)) (λ_ _ _ _ _ _=>ar5 λ_ _ _ _ _=>rfl) λnd _ _ _ _ _ _ _ hr=>'d'
def iq:PSt:=
 (ao (ay true 4 (aK ag))
  (ao (wF eB 5 (bB (eU 4 bC (aa (pOp bIx (aK (aa (ar "odd") (aa (ar "told") ag))) (pFn pX (aa (pFn (aj aq) (aa (ai cE (aa (af 0) (aa (af 1) (aa (af 2) ag)))) (aa (pTy "tuple") ag))) ag))) ag))) (bB (eU 4 bC (aa (ai aZ (aa (af 5) ag)) ag))))
  (ao (wF eB 5 (bB (eU 4 bC (aa (pOp bIx (aK (aa (ar "odd") (aa (ar "told") ag))) (pFn pX (aa (pFn (aj aq) (aa (ai dN (aa (af 0) (aa (af 1) (aa (af 2) (aa (av (aa (ah 3) (aa (ah 2) ag))) (aa (af 3) ag)))))) (aa (pTy "bool") ag))) ag))) ag))) (bB (eU 4 bC (aa (ai aZ (aa (af 5) ag)) ag))))
  (aw (af 4)))))
def bX:PFn:=fnP [false,false,false,false] 6 iq
def r9:bX.ms=[false,false,false,false]:=rfl
def pP(T:TT w K mg):Callee P w K mg base "_law_asked" 33 ["_law_room", "_law_weights", "_law_kind", "_law_paper"] (spD K mg 4 bX.F):=aO (T.d.get 68 rfl) (aB (N:=["_law_room", "_law_weights", "_law_kind", "_law_paper", "_law_words", "e"]) (by decide)) (λ_ _ _ _ _ _=>ar4 λ_ _ _ _=>rfl) λnd _ _ _ _ _ _ _ hr=>(aA 'd' (aA (zy (i:=5) pV nd rfl rfl rfl (T.m rfl) (T.h (.head _)).1 (T.h (.head _)).2 (λ_ _ _ hx=>'d') (λ_=>(cD (kz (mi rfl PD PF ia ik 'd' (cZ (o7 (jJ T) (hr.toU _ (by omega)) rfl lj 'd') 'd')))))) (aA (zy (i:=5) pV nd rfl rfl rfl (T.m rfl) (T.h (.head _)).1 (T.h (.head _)).2 (λ_ _ _ hx=>'d') (λ_=>(cD (kz (mi rfl PD PF ia ik 'd' (cZ (o7 (jJ T) (hr.toU _ (by omega)) rfl lj 'd') 'd')))))) 'd')))
def gR:PSt:=
 (ao (Cu 1 2 (av (aa (av (aa (ah 0) (aa (ah 1) ag))) (aa (av (aa (pUn gq (ah 1)) (aa (ah 2) ag))) (aa (av (aa (pOp aN (ah 1) (ai au (aa (af 0) (aa (ah 9) ag)))) (aa (ah 1) ag))) (aa (av (aa (ah 1) (aa (ah 3) ag))) ag))))))
  (ao (xIf (qOf (pOp bEq (ai au (aa (af 0) (aa (ah 4) ag))) (ah 0))) (ao (ay false 1 (ai dP (aa (af 0) ag)))
  (bB (eU 2 bC (aa (ar "box") ag)))) xNx)
  (ao (ay false 3 (pOp bIx (aK (aa (ar "order") (aa (ar "any") ag))) (ai au (aa (af 0) (aa (ah 2) ag)))))
  (ao (ay false 4 (pOp dZ (p7 ["order", "any"] (aa (ah 6) (aa (ah 5) ag))) (af 3)))
  (ao (ay false 5 (pOp bIx (aK (aa (pOp aN (ah 1) (ai au (aa (af 0) (aa (ah 3) ag)))) (aa (pOp aN (ah 1) (ai au (aa (af 0) (aa (ah 3) ag)))) (aa (ah 1) (aa (ah 2) (aa (ah 3) (aa (af 4) ag))))))) (ai au (aa (af 0) (aa (ah 6) ag)))))
  (ao (ay false 6 (pLC (ke (aa (af 5) ag)) [none] (by decide) (gtN 0) qY (pOp aN (ah 1) (pOp cL (pOp aN (pOp bu (ah 7) (af 0)) (ah 3)) (ah 5)))))
  (ao (ay false 7 (ai au (aa (af 0) (aa (ah 8) ag))))
  (ao (xIf (qOf (pOp bLt (af 7) (ah 2))) (ao (ay false 6 (ai cS (aa (af 0) ag)))
  (bB (eU 2 bC (aa (ar "weights") ag)))) xNx)
  (ao (xIf (qOf (pOp bEq (af 7) (ah 2))) (ao (ay false 6 (pOp rW (aK (aa (ah 1) ag)) (pOp aN (ah 41) (ai au (aa (af 0) (aa (ah 2) ag))))))
  (bB (eU 2 bC (aa (ar "many") ag)))) xNx)
  (ao (ay false 8 (pOp bGt (af 7) (ah 5)))
  (ao (xIf (qTr (af 8)) (ay false 6 (pLC (ke (aa (pOp bIx (aK (aa (pOp aN (af 4) (ah 1)) (aa (ah 40) ag))) (ai au (aa (af 0) (aa (ah 2) ag)))) ag)) [none] (by decide) (gtN 0) qY (pOp aN (ah 1) (af 0)))) xNx)
  (ao (xIf (qOf (pOp bEq (ai au (aa (af 0) (aa (ah 4) ag))) (ah 0))) (ao (ay false 3 (pOp bIx (aK (aa (ar "") (aa (ar "Order") (aa (ar "any ") (aa (ar "all") (aa (ar "across") (aa (ar "orders") (aa (ar "an") ag)))))))) (ai au (aa (af 0) (aa (ah 7) ag)))))
  (bB (eU 2 bC (aa (ar "kind") ag)))) xNx)
  (ao (xIf (qTr (af 8)) (bB (eU 2 bC (aa (ar "many") ag))) xNx)
  (ao (ay false 9 (pOp bIx (aK (aa eE (aa (av ag) (aa (ah 5) (aa (ar "cases") (aa (av (aa (ar "cases") (aa (av ag) ag))) (aa (aK (aa (av (aa (ar "shape") ag)) ag)) (aa (av (aa (ar "thin") (aa (ah 0) ag))) (aa (av (aa (ar "shape") ag)) ag))))))))) (ai au (aa (af 0) (aa (ah 8) ag)))))
  (aw (pOp bEq (ai bX (aa (af 1) (aa (af 6) (aa (af 3) (aa (af 9) ag))))) (pOp rW (aK (aa (pOp bIx (pOp aN (af 2) (aK (aa (ar "told") ag))) (ah 0)) ag)) (ah 2))))))))))))))))))
def hX:PFn:=fnP [true] 10 gR
def vk:hX.ms=[true]:=rfl
def ug(T:TT w K mg):Callee P w K mg base "_law_one" 34 ["_law_feed_here"] (spD K mg 1 hX.F):=aO (T.d.get 69 rfl) (aB (N:=["_law_feed_here", "_law_room", "_law_due", "_law_kind", "_law_most", "_law_many", "_law_weights", "_law_way", "_law_wide", "_law_paper"]) (by decide)) (λ_ _ _ _ _ _=>ar1 λ_=>rfl) λnd _ _ _ _ _ _ _ hr=>(aA 'd' (aA 'd' (aA 'd' (aA (zsS 4 nd (va (Cz hr) (uv (gO iS (gO iS ve))) 'd' (λ_ _=>rfl))) (aA 'd' (aA (BG nd ["_law_feed_here", "_law_room", "_law_due", "_law_kind", "_law_most", "_law_many", "_law_weights", "_law_way", "_law_wide", "_law_paper"] (ak (top 69)).names ["_law_k"] [none] 'd' (λnd _ _ _ _ _=>'d') (λnd _ _ _ _ _=>'d')) (aA 'd' (aA 'd' (aA 'd' (aA 'd' (aA (kG 'd' (cD (BG nd ["_law_feed_here", "_law_room", "_law_due", "_law_kind", "_law_most", "_law_many", "_law_weights", "_law_way", "_law_wide", "_law_paper"] (ak (top 69)).names ["_law_k"] [none] 'd' (λnd _ _ _ _ _=>'d') (λnd _ _ _ _ _=>'d'))) 'd') 'd')))))))))))
def mD:PSt:=
 (xIf (qNo (qOf (ai hX (aa (af 1) ag)))) (aw (pBl false)) xNx)
def CG:PSt:=
 (ao (ay true 1 (ai eV (aa (af 0) ag)))
  (ao (fH (ke (aa (pOp aN (ah 4) (pFn sW (aa (ah 5) (aa (pFn bf (aa (af 0) ag)) ag)))) ag)) (gtN 2) (mD))
  (aw (pBl true))))
def qg:PFn:=fnP [false] 3 CG
def DC(T:TT w K mg):Callee P w K mg base "law" 35 ["_law_script"] (spD K mg 1 qg.F):=aO (T.d.get 70 rfl) (aB (N:=["_law_script", "_law_feed_here", "_law_bout"]) (by decide)) (λ_ _ _ _ _ _=>ar1 λ_=>rfl) λnd _ _ _ _ _ _ _ hr=>'d'
end
def fdD(cs:List Int)(a l:Int):Val:=.dct [(.inr "cells",.lst (cs.map .int)),(.inr "at",.int a),(.inr "left",.int l)]
def Fd(n:Nat)(v:Val):Prop:=∃cs a l,v=fdD cs a l/\0<=a/\a<=n
def Fd.mono{n m:Nat}{v:Val}(h:Fd n v)(q:n<=m):Fd m v:=by obtain⟨cs,a,l,e,h0,h1⟩:=h;exact⟨cs,a,l,e,h0,by omega⟩
def gu(cs:List Int)(a l:Int):dZ.G (fdD cs a l) (.str "cells")=.val (.lst (cs.map .int)):=rfl
def me(cs:List Int)(a l:Int):dZ.G (fdD cs a l) (.str "at")=.val (.int a):=rfl
def iZ(cs:List Int)(a l:Int):dZ.G (fdD cs a l) (.str "left")=.val (.int l):=rfl
def iQ(cs:List Int)(a l x:Int):seD.G (fdD cs a l) (.str "at") (.int x)=some (fdD cs x l):=rfl
def gM(cs:List Int)(a l x:Int):seD.G (fdD cs a l) (.str "left") (.int x)=some (fdD cs a x):=rfl
def qr:nK.G (.int 10) (.int 18)=.val (.int (10^18)):=Ct ⟨by decide,by decide,by decide⟩
def jd{a m:Int}(h:0<m):0<=a.fmod m/\a.fmod m<m:=⟨Int.fmod_nonneg_of_pos a h,Int.fmod_lt_of_pos a h⟩
set_option hygiene false in
local macro_rules | `(tactic|simp![$args,*])=>do
 let l <- ("% dD G5 MJ J4 LO Mj K1 Jm mI Ml NC Bs wz JQ Gk Iq Hz H9 JC Je HE Dy B9 JG KJ KP Hy E8 HS K7 NB v_bl Np Na v_ty Ny v_un v_op NH JE v_fn L8 NQ Nd NJ v_if c_of c_tr c_an c_o c_no x_nx x_ct L5 DL FU EB Ik CM x_if Mi Mn Mv LZ Ez Aj Ai g_n g_sn g_sc g_t g_x HB Ly K8 Lp Fh MU MR K6 Lz NK IF Gz Li M5 BB Gh L6 Nu Mo Ii HV IP Ih KR LW LG kj v_lc Ke F5 Km o_n o_s v_sl v_d0 LV fx_G Nq k_lt k_gt k_ge Lr LJ k_ix Hb xt M1 k_eq k_ne MD k_is MN Mz NL Ma NR M6 Kr FE Ht zT oZ List.getElem?_cons_zero List.getElem?_cons_succ List.set_cons_zero List.set_cons_succ List.length_cons List.length_nil Option.bind_some Option.map_some Option.isSome_some if_true if_false Bool.not_true Bool.not_false Bool.and_true Bool.true_and Bool.and_false Bool.false_and Bool.or_true Bool.true_or Bool.or_false Nat.reduceLeDiff Nat.reduceLT Nat.reduceAdd Nat.reduceSub Nat.zero_add Nat.sub_self List.cons_append List.nil_append List.append_nil List.replicate reduceCtorEq Bool.false_eq_true List.all_cons List.all_nil List.isEmpty_nil List.map_cons List.map_nil Int.reduceBEq Int.reduceLT Int.reduceAdd Int.reduceSub Int.cast_ofNat_Int IE Ds Hw Ku EN A6 Jh yU FA HF Fe zw Dq JY Bt H0 Eo JX Ar Hd JU Ea Ld NO LR MY yR xX xN eX d7 jF AS pv yq jX ati0 ati1 ati2 ati3 ati4 ati5 ati6 ati7 ixn0 ixn1 ixn2 ixn3 KU bQ Ic F8 Int.reduceNeg Dl xY g_uL mr NF tL ud l7 jE uf kK oC yV tw sy lR pL oq vP ua tW E7 BD wH vD xA qP AV BX xI xC sA tR nJ nL xF tS wd nu tM tZ tJ lF x9 r9 vk mB FP".splitOn " ").tail.mapM λs=>`(Lean.Parser.Tactic.simpLemma| $(Lean.mkIdent s.toName):term)
 `(tactic|simp only[$(l.toArray),*,$args,*])
def DB{ns:List Int}(hl:ns.length<=63):∃v,eV.G [.kl (ns.map .int)]=.ok (.new v) []/\Fd 0 v:=by
 refine⟨fdD ns 0 0,?_,ns,0,0,rfl,by omega,by omega⟩;unfold eV;rw[aF];unfold mG;have e:aSl (.kl (ns.map Val.int)) none (some 63)=.new (.lst (ns.map Val.int)):=by
  have:=Lu (ns.map Val.int) none (some ((63:Nat):Int))
  rw[rM,OS (by rw[w_];exact hl)] at this;exact this
 have c:Val.items (.lst (ns.map Val.int))=some (ns.map Val.int):=rfl;simp![mr,e,c];rfl
def aQ{n:Nat}{v:Val}{m:Int}(f:Fd n v)(hn:n<=1000000000)(h0:0<m)(hm:Sm 8000 m):∃r v',au.G [v,.int m]=.ok (.val (.int r)) [v']/\Fd (n+1) v'/\0<=r/\r<m:=by
 obtain⟨cs,a,l,rfl,a0,a1⟩:=f;have m0:m≠0:=by omega
 have d1:=λi=>gY (i:=i) m0;have d2:=λi=>qw (i:=i) (CDivB.of m0 hm);unfold au;rw[aF];unfold m7;have x1:bu.G (.int 61) (.int a)=.val (.int (61*a)):=cF (CMulA.left (by decide) (by decide));have x2:bu.G (.int (61*a)) (.int a)=.val (.int (61*a*a)):=cF (CMulA.right (by omega) (by omega));have x3:bu.G (.int 7) (.int a)=.val (.int (7*a)):=cF (CMulA.left (by decide) (by decide));have x4:∀x:Int,bu.G (.int x) (.int 48271)=.val (.int (x*48271)):=λx=>cF (CMulA.right (by decide) (by decide));have x5:∀x:Int,bu.G (.int x) (.int 69623)=.val (.int (x*69623)):=λx=>cF (CMulA.right (by decide) (by decide));have x6:bu.G (.int 7919) (.int a)=.val (.int (7919*a)):=cF (CMulA.left (by decide) (by decide));have x7:∀x:Int,bu.G (.int x) (.int 16811)=.val (.int (x*16811)):=λx=>cF (CMulA.right (by decide) (by decide));have y1:∀x:Int,cL.G (.int x) (.int 1000003)=.val (.int (x.fmod 1000003)):=λx=>gY (by decide);have y2:∀x:Int,cL.G (.int x) (.int 999983)=.val (.int (x.fmod 999983)):=λx=>gY (by decide);have y3:∀x:Int,cL.G (.int x) (.int 1999993)=.val (.int (x.fmod 1999993)):=λx=>gY (by decide);have y4:∀x:Int,cL.G (.int x) (.int 524287)=.val (.int (x.fmod 524287)):=λx=>gY (by decide);have y5:∀x:Int,jK.G (.int x) (.int 5)=.val (.int (x.fdiv 5)):=λx=>qw (CDivB.of (by decide) (sm8 (by decide)));by_cases hc:0<l
 .have hc':decide (0<l)=true:=NX hc;refine⟨l.fmod m,fdD cs a (l.fdiv m),?_,⟨cs,a,_,rfl,a0,by omega⟩,jd h0⟩;simp![hc',d1,d2,gu,me,iZ,iQ,gM]
 .have hc':decide (0<l)=false:=L_ hc;have l_:∀x:Int,∃r v',(R3F.ok (Rt.val (.int (x.fmod m))) [fdD cs (a+1) l]:R3F)=.ok (.val (.int r)) [v']/\Fd (n+1) v'/\0<=r/\r<m:=λx=>⟨_,_,rfl,⟨cs,_,_,rfl,by omega,by omega⟩,jd h0⟩;have z18:((10:Int)^18)=1000000000000000000:=by decide
  by_cases hl:0<cs.length
  .have r:=jd (a:=a) (m:=(cs.length:Nat)) (by omega);have hi:(a.fmod (cs.length:Nat)).toNat<cs.length:=by omega
   have at1:atI (cs.map Val.int) (a.fmod (cs.length:Nat))=some (.int cs[(a.fmod (cs.length:Nat)).toNat]):=fI r.1 (by rw[N4,M_ hi];rfl);have l1:decide ((0:Int)<((cs.length:Nat):Int))=true:=NX (by omega);have e1:cL.G (.int a) (.int (cs.length:Nat))=.val (.int (a.fmod (cs.length:Nat))):=gY (by omega);by_cases hb:(10^18:Int)<=cs[(a.fmod (cs.length:Nat)).toNat]
   .have hb':=NX hb;by_cases ha:a<(cs.length:Nat)
    .have ha':=NX ha;refine⟨(cs[(a.fmod (cs.length:Nat)).toNat]).fmod m,fdD cs (a+1) ((cs[(a.fmod (cs.length:Nat)).toNat]).fdiv m),?_,⟨cs,_,_,rfl,by omega,by omega⟩,jd h0⟩;simp![hc',d1,d2,gu,me,iZ,iQ,gM,w_,l1,e1,at1,qr,hb',ha']
    .have ha':=L_ ha;simp![hc',d1,d2,gu,me,iZ,iQ,gM,w_,l1,e1,at1,qr,hb',ha',x1,x2,x3,x4,x5,x6,x7,y1,y2,y3,y4,y5];exact l_ _
   .have hb':=L_ hb;simp![hc',d1,d2,gu,me,iZ,iQ,gM,w_,l1,e1,at1,qr,hb',x1,x2,x3,x4,x5,x6,x7,y1,y2,y3,y4,y5];exact l_ _
  .have l1:decide ((0:Int)<((cs.length:Nat):Int))=false:=L_ (by omega);have hb':decide ((10^18:Int)<=a)=false:=L_ (by rw[z18];omega);simp![hc',d1,d2,gu,me,iZ,iQ,gM,w_,l1,qr,hb',x1,x2,x3,x4,x5,x6,x7,y1,y2,y3,y4,y5];exact l_ _
def DK(a:Int):(if a<0 then -a else a)=((a.natAbs:Nat):Int):=by split <;> omega
theorem rQ:∀(n one j':Nat),j'<=n->(xWh (qOf (pOp bNe (af 1) (ah 0))) cN).G [.sh (.int (one:Nat)),.sh (.int (j':Nat))]=.nx [.sh (.int (Nat.gcd one j':Nat)),.sh (.int 0)]
 |
  n,one,0,_=>by
  rw[x_wh];simp![dD];rw[Nat.gcd_zero_right];try rfl
 |0,one,j'+1,hl=>absurd hl (by omega)
 |
  n+1,one,j'+1,hl=>by
  rw[x_wh];have e:((((j'+1:Nat):Int)==0))=false:=by rw[N3];omega
  have e1:cL.G (.int (one:Nat)) (.int ((j'+1:Nat):Int))=.val (.int (((one:Nat):Int).fmod ((j'+1:Nat):Int))):=gY (by omega);have e2:((one:Nat):Int).fmod ((j'+1:Nat):Int)=((one % (j'+1):Nat):Int):=by rw[Pl _ (by omega)];rfl
  have ih:=rQ n (j'+1) (one % (j'+1)) (by have:=Nat.mod_lt one (show j'+1>0 by omega);omega);rw[Fr.euc] at ih;rw[e2] at e1;have bb:cN.G [.sh (.int (one:Nat)),.sh (.int ((j'+1:Nat):Int))]=.nx [.sh (.int ((j'+1:Nat):Int)),.sh (.int ((one % (j'+1):Nat):Int))]:=by unfold cN;simp![e1]
  simp![e,bb,ih]
def cP(a b:Int):bG.G [.int a,.int b]=.ok (.val (.int (Int.gcd a b:Nat))) []:=by
 unfold bG;rw[aF];unfold gD
 have:=rQ b.natAbs a.natAbs b.natAbs (z_ _)
 simp![DK,this];rfl
def dq{a b:Int}(hb:b≠0)(hs:Sm 8000 b):bI.G [.int a,.int b]=.ok (.val (fV ((a:Rat)/(b:Rat)))) []:=by
 unfold bI;rw[aF];unfold mM;have e:(b==0)=false:=by rw[N3];exact hb
 have c:∀x,CDivB x (Fr.dv a b):=λx=>CDivB.of (Fr.dv_ne hb) (hs.of_le (by rw[Fr.dv_abs];exact Nat.le_of_dvd (by omega) (Nat.gcd_dvd_right a.natAbs b.natAbs)));have k1:=qw (c a);have k2:=qw (c b);have hh:=qt (a:=a) hb;have l_:Val.tup [.int (a.fdiv (Fr.dv a b)),.int (b.fdiv (Fr.dv a b))]=fV ((a:Rat)/(b:Rat)):=by unfold fV;rw[<- hh.1,<- hh.2];rfl
 by_cases hn:b<0
 .have hd:Fr.dv a b=-((Int.gcd a b:Nat):Int):=by unfold Fr.dv;rw[if_pos hn]
  rw[hd] at k1 k2 l_;simp![e,cP,NX hn,k1,k2,l_]
 .have hd:Fr.dv a b=((Int.gcd a b:Nat):Int):=by unfold Fr.dv;rw[if_neg hn]
  rw[hd] at k1 k2 l_;simp![e,cP,L_ hn,k1,k2,l_]
def BE{p q:Rat}{n m:Nat}(hp:Sz n p)(hq:Sz m q)(h:n+m<=8000):iU.G [fV p,fV q]=.ok (.val (fV (p+q))) []:=by have c1:=cF (CMulA.of hp.top hq.bot (by omega) (by omega));have c2:=cF (CMulA.of hq.top hp.bot (by omega) (by omega));have c3:=cF (CMulA.of hp.bot hq.bot (by omega) (by omega));have fe:=dq (a:=p.num*q.den+q.num*p.den) (b:=p.den*q.den) (OW (bS p) (bS q)) ((hp.bot.mul hq.bot).mono h);rw[<- uN] at fe;unfold iU;rw[aF];unfold vg;rw[show fV p=.tup [.int p.num,.int p.den] from rfl,show fV q=.tup [.int q.num,.int q.den] from rfl];simp![c1,c2,c3,fe]
def lb{p q:Rat}{n m:Nat}(hp:Sz n p)(hq:Sz m q)(h:n+m<=8000):fD.G [fV p,fV q]=.ok (.val (fV (p*q))) []:=by have c1:=cF (CMulA.of hp.top hq.top (by omega) (by omega));have c2:=cF (CMulA.of hp.bot hq.bot (by omega) (by omega));have fe:=dq (a:=p.num*q.num) (b:=p.den*q.den) (OW (bS p) (bS q)) ((hp.bot.mul hq.bot).mono h);rw[<- u6] at fe;unfold fD;rw[aF];unfold uL;rw[show fV p=.tup [.int p.num,.int p.den] from rfl,show fV q=.tup [.int q.num,.int q.den] from rfl];simp![c1,c2,fe]
def dg{p q:Rat}{n m:Nat}(hp:Sz n p)(hq:Sz m q)(h1:n<=100000)(h2:m<=100000):bY.G [fV p,fV q]=.ok (.val (.bl (decide (p<q)))) []:=by have c1:=cF (CMulA.of hp.top hq.bot h1 h2);have c2:=cF (CMulA.of hq.top hp.bot h2 h1);unfold bY;rw[aF];unfold oQ;rw[show fV p=.tup [.int p.num,.int p.den] from rfl,show fV q=.tup [.int q.num,.int q.den] from rfl];simp![c1,c2];rw[show decide (p.num*(q.den:Int)<q.num*(p.den:Int))=decide (p<q) from decide_eq_decide.mpr (Kf p q).symm]
def kC{v:Val}(hk:knV v=true):(aj aq).G [v,.ty "tuple"]=.val (.bl (eP v)):=by cases v <;> first |rfl |cases hk
def d6{v:Val}(hk:knV v=true):bW.G [v]=.ok (.val (.bl (gv v))) []:=by unfold bW;rw[aF];unfold my;cases v <;> first |rfl |cases hk
def sR(v:Val):eP v=false\/∃xs,v=.tup xs:=by cases v <;> first |exact .inr ⟨_,rfl⟩ |exact .inl rfl
def lA(v:Val):gv v=false\/∃i,v=.int i:=by cases v <;> first |exact .inr ⟨_,rfl⟩ |exact .inl rfl
def K9{v:Val}(h:eP v=false):aM v=false:=by cases v <;> first |rfl |cases h
def NN{v:Val}(h:eP v=false):bt v=false:=by cases v <;> first |rfl |cases h
def Ja{a b:Val}(h:gv a=false):aM (.tup [a,b])=false:=by cases a <;> first |rfl |cases h
def Kc{i:Int}{b:Val}(h:gv b=false):aM (.tup [.int i,b])=false:=by cases b <;> first |rfl |cases h
def Mp{xs:List Val}(hl:xs.length≠2):aM (.tup xs)=false:=by
 unfold aM;split
 .rename_i e;injection e with e;subst e;exact absurd rfl hl
 .rfl
def Mm{xs:List Val}(hl:xs.length≠4):bt (.tup xs)=false:=by
 unfold bt;split
 .rename_i e;injection e with e;subst e;exact absurd rfl hl
 .rfl
def CZ{k:Nat}{v:Val}(ha:cz k v=true)(h:eP v=false):knV v=true:=by
 cases v with
 |tup xs=>cases h
 |_=>cases k <;> exact ha
def nD{v:Val}(ha:cz 1 v=true):cB.G [v]=.ok (.val (.bl (aM v))) []:=by
 unfold cB;rw[aF];unfold jB;rcases sR v with ht |⟨xs,rfl⟩
 .have it:=kC (CZ ha ht);rw[ht] at it;simp![it,K9 ht]
 have it:=kC (v:=.tup xs) rfl;by_cases hl:xs.length=2
 .match xs,hl,ha with
  |
   [a,b],_,ha=>
   have ha':(knV a&&(knV b&&true))=true:=by simpa [cz] using ha
   simp only[C_] at ha';have w1:=d6 ha'.1;have w2:=d6 ha'.2.1;rcases lA a with h1 |⟨i,rfl⟩
   .rw[h1] at w1;simp![it,eP,w1,Ja h1]
   rcases lA b with h2 |⟨j,rfl⟩
   .rw[h2] at w2;simp![it,eP,w1,gv,w2,Kc h2]
   have f:aM (.tup [.int i,.int j])=(decide (1<=j)&&decide (Int.gcd i j=1)):=rfl;have g:((((Int.gcd i j:Nat):Int)==1):Bool)=decide (Int.gcd i j=1):=by rw[Bool.eq_iff_iff,Oj,Pb];omega
   by_cases hj:1<=j
   .simp![it,eP,w1,w2,gv,cP,NX hj,f,g]
   .simp![it,eP,w1,w2,gv,cP,L_ hj,f,g]
 .have e:(((xs.length:Nat):Int)==2)=false:=by rw[N3];omega
  simp![it,eP,e,Mp hl]
def o6{v:Val}(ha:cz 2 v=true):gH.G [v]=.ok (.val (.bl (bt v))) []:=by
 unfold gH;rw[aF];unfold rX;rcases sR v with ht |⟨xs,rfl⟩
 .have it:=kC (CZ ha ht);rw[ht] at it;simp![it,NN ht]
 have it:=kC (v:=.tup xs) rfl;by_cases hl:xs.length=4
 .match
   xs,hl,ha with
  |
   [a,b,c,d],_,ha=>
   have e1:bt (.tup [a,b,c,d])=(aM a&&(aM b&&(aM c&&(aM d&&(ji c&&ji d))))):=rfl;have bl4:∀x y z w:Bool,jR [.bl x,.bl y,.bl z,.bl w]=some [x,y,z,w]:=λ_ _ _ _=>rfl;obtain⟨e',⟨s',rfl,_⟩,lc⟩:=nS (g:=(gtN 0).G) (F:=(ai cB (aa (af 0) ag)).G) (f:=λv=>.bl (aM v)) (λe=>∃s,e=[s]/\s.pl=true) [a,b,c,d] [] [.no] ⟨.no,rfl,rfl⟩ (by
    rintro v hv e ⟨s,rfl,hs⟩;have hv':cz 1 v=true:=NY.mp (by simpa [cz] using ha) v hv;refine⟨[.sh v],.val (.bl (aM v)),[.sh v],?_,?_,rfl,⟨_,rfl,rfl⟩⟩
    .simp![hs]
    .simp![nD hv']) (by simp)
   have cy:cY=qY.G:=rfl;rw[cy,N7] at lc;simp only[E_,Ov] at lc;cases hA:(aM a&&(aM b&&(aM c&&aM d))) with
   |
    true=>
    simp only[C_] at hA;obtain⟨p,rfl⟩:=yZ hA.2.2.1;obtain⟨q,rfl⟩:=yZ hA.2.2.2;rw[hA.1,hA.2.1,hA.2.2.1,hA.2.2.2] at e1 lc;have e2:bt (.tup [a,b,fV p,fV q])=(decide (0<p.num)&&decide (0<q.num)):=by rw[e1];rfl
    rw[e2];have i1:(fV p).items=some [.int p.num,.int p.den]:=rfl;have i2:(fV q).items=some [.int q.num,.int q.den]:=rfl;by_cases hp:0<p.num
    .simp![it,eP,lc,bQ,bl4,id,i1,i2,NX hp]
    .simp![it,eP,lc,bQ,bl4,id,i1,L_ hp]
   |
    false=>
    have e2:bt (.tup [a,b,c,d])=false:=by rw[e1];revert hA;generalize aM a=a',aM b=b',aM c=c',aM d=d',(ji c&&ji d)=z;revert a' b' c' d' z;decide
    rw[e2];simp![it,eP,lc,bQ,bl4,id,hA]
 .have e:(((xs.length:Nat):Int)==4)=false:=by rw[N3];omega
  simp![it,eP,e,Mm hl]
def jP{v:Val}(ha:cz 2 v=true):bL.G [v]=if bt v=true then .ok (.val .non) [] else .exc "NoBox" []:=by
 unfold bL;rw[aF];unfold kO;cases h:bt v with
 |true=>simp![o6 ha,h]
 |false=>simp![o6 ha,h]
def cU{b:Bx}(hb:b.Ok):bL.G [bV b]=.ok (.val .non) []:=by rw[jP (Jw b),zU hb];rfl
def Lb{v:Val}(h:gv v=false):eR v=false:=by cases v <;> first |rfl |cases h
def BL(v:Val):d4 v=false\/∃xs,v=.lst xs:=by cases v <;> first |exact .inr ⟨_,rfl⟩ |exact .inl rfl
def rf{v:Val}(hk:knV v=true):dm.G [v]=.ok (.val (.bl (eR v))) []:=by
 have w:=d6 hk;unfold dm;rw[aF];unfold kN;rcases lA v with h |⟨i,rfl⟩
 .rw[h] at w;simp![w,Lb h]
 .simp![w,gv];rfl
def uF{v:Val}(hk:knV v=true):(aj aq).G [v,.ty "list"]=.val (.bl (d4 v)):=by cases v <;> first |rfl |cases hk
noncomputable def gL(v:Val):R3F:=match v with
 |.lst xs=>if xs=[] then .exc "NoWeights" [] else if xs.all eR=true then (if xs.length<=40 then .ok (.val .non) [] else .exc "TooMany" []) else .exc "NoWeights" []
 |_=>.exc "NoWeights" []
def KI{v:Val}(h:d4 v=false):gL v=.exc "NoWeights" []:=by cases v <;> first |rfl |cases h
noncomputable def gP:Val->Bool
 |.lst xs=>decide (xs.length<=1000)&&xs.all knV
 |v=>knV v
def FN{v:Val}(h:gP v=true)(hl:d4 v=false):knV v=true:=by cases v <;> first |(cases hl;done) |exact h
theorem jr(f:Val->Bool):∀xs:List Val,jR (xs.map λv=>.bl (f v))=some (xs.map f)
 | []=>rfl
 |x::xs=>by show (jR (xs.map λv=>.bl (f v))).map (f x :: ·)=_;rw[jr f xs];rfl
def je(f:Val->Bool)(xs:List Val):(xs.map f).all id=xs.all f:=by rw[List.all_map];rfl
def gz{v:Val}(ha:gP v=true):bx.G [v]=gL v:=by
 unfold bx;rw[aF];unfold ij;rcases BL v with hv |⟨xs,rfl⟩
 .have il:=uF (FN ha hv);rw[hv] at il;rw[KI hv];simp![il]
 .have ha':xs.length<=1000/\xs.all knV=true:=by simpa [gP] using ha
  have il:=uF (v:=.lst xs) rfl;unfold gL;dsimp only;by_cases h0:xs=[]
  .subst h0;simp![il]
  .have e0:(((xs.length:Nat):Int)==0)=false:=by rw[N3];intro z;exact h0 (List.length_eq_zero_iff.mp (by omega))
   rw[if_neg h0];obtain⟨e',p',lc⟩:=nS (g:=(gtN 0).G) (F:=(ai dm (aa (af 0) ag)).G) (f:=λv=>.bl (eR v)) (λe=>∃s,e=[s]/\s.pl=true) xs [] [.no] ⟨.no,rfl,rfl⟩ (by
    rintro v hv e ⟨s,rfl,hs⟩;refine⟨[.sh v],.val (.bl (eR v)),[.sh v],?_,?_,rfl,⟨_,rfl,rfl⟩⟩
    .simp![hs]
    .simp![rf (NY.mp ha'.2 v hv)]) (by simp;omega)
   obtain⟨s',rfl,_⟩:=p';have cy:cY=qY.G:=rfl;rw[cy,N7] at lc;have d_:(xs.map λv=>Val.bl (eR v)).length<=16777216:=by rw[w_];omega
   by_cases hw:xs.all eR=true
   .rw[if_pos hw];by_cases h40:xs.length<=40
    .have hd:decide ((40:Int)<((xs.length:Nat):Int))=false:=L_ (by omega);rw[if_pos h40];simp![il,e0,bQ,lc,d_,jr,je,hw,hd]
    .have hd:decide ((40:Int)<((xs.length:Nat):Int))=true:=NX (by omega);rw[if_neg h40];simp![il,e0,bQ,lc,d_,jr,je,hw,hd]
   .have hw':xs.all eR=false:=Bool.eq_false_iff.mpr hw;rw[if_neg hw];simp![il,e0,bQ,lc,d_,jr,je,hw']
def mS{ws:List Int}(h0:ws≠[])(h1:∀w∈ws,1<=w)(h2:ws.length<=40):bx.G [.lst (ws.map .int)]=.ok (.val .non) []:=by
 have ha:gP (.lst (ws.map .int))=true:=by simp only[gP,C_,Pb,w_];exact⟨by omega,by rw[NY];intro v hv;obtain⟨w,_,rfl⟩:=Oe.mp hv;rfl⟩
 rw[gz ha];unfold gL;dsimp only;rw[if_neg (by intro z;exact h0 (List.map_eq_nil_iff.mp z)),if_pos (by rw[NY];intro v hv;obtain⟨w,hw,rfl⟩:=Oe.mp hv;exact NX (h1 w hw)),if_pos (by rw[w_];exact h2)]
def sg{p q:Rat}(hq:q≠0):p/q=((p.num*q.den:Int):Rat)/((p.den*q.num:Int):Rat):=by
 have h1:=gF (bS p);have h2:=gF (bS q);have h3:q.num≠0:=λz=>hq (P9.mp z);have h4:=gF h3
 conv=>lhs;rw[gn p,gn q]
 rw[P7,P7];simp only[Rat.div_def,Rat.inv_mul_rev,Rat.inv_inv];rw[Rat.mul_assoc,Rat.mul_assoc,Rat.mul_comm (((p.den:Int):Rat))⁻¹,Rat.mul_assoc]
def vb{p q:Rat}{n m:Nat}(hp:Sz n p)(hq:Sz m q)(h0:0<q)(h:n+m<=8000):iM.G [fV p,fV q]=.ok (.val (fV (p/q))) []:=by
 have c1:=cF (CMulA.of hp.top hq.bot (by omega) (by omega));have c2:=cF (CMulA.of hp.bot hq.top (by omega) (by omega));have hq0:q≠0:=λz=>by rw[z] at h0;exact absurd h0 (by decide)
 have hn:q.num≠0:=λz=>hq0 (P9.mp z);have fe:=dq (a:=p.num*q.den) (b:=p.den*q.num) (OW (bS p) hn) ((hp.bot.mul hq.top).mono h);rw[<- sg hq0] at fe;unfold iM;rw[aF];unfold xP;rw[show fV p=.tup [.int p.num,.int p.den] from rfl,show fV q=.tup [.int q.num,.int q.den] from rfl];simp![c1,c2,fe]
def B1(b:Bx):Str:=if b.w<b.h then "down" else "across"
def tN{b:Bx}{n:Nat}(hb:b.Ok)(hs:b.Sz n)(h:n<=8000):fi.G [bV b]=.ok (.val (.str (B1 b))) []:=by
 have cb:=cU hb;have il:=dg hs.w hs.h (by omega) (by omega);have ib:(bV b).items=some [fV b.l,fV b.t,fV b.w,fV b.h]:=rfl;unfold fi B1;rw[aF];unfold mq;by_cases hl:b.w<b.h
 .rw[if_pos hl];rw[NX hl] at il;simp![cb,ib,il]
 .rw[if_neg hl];rw[L_ hl] at il;simp![cb,ib,il]
def zd:cm (.str "down") (.str "across")=some false:=by rw[L3.eq_str (by decide) (by decide)];exact Og some (by decide)
def xR:cm (.str "across") (.str "across")=some true:=by rw[L3.eq_str (by decide) (by decide)];exact Og some (by decide)
def lH{b:Bx}{n:Nat}(hb:b.Ok)(hs:b.Sz n)(h:n+n<=8000):fB.G [bV b]=.ok (.val (fV (fh b))) []:=by
 have lw:=tN hb hs (by omega);have ib:(bV b).items=some [fV b.l,fV b.t,fV b.w,fV b.h]:=rfl;have o1:=vb hs.w hs.h hb.2 h;have o2:=vb hs.h hs.w hb.1 h;unfold fB fh;rw[aF];unfold uT;unfold B1 at lw;by_cases hl:b.w<b.h
 .rw[if_pos hl] at lw ⊢;simp![lw,ib,o1,o2,zd]
 .rw[if_neg hl] at lw ⊢;simp![lw,ib,o1,o2,xR]
def Sz.over{p q:Rat}{n m:Nat}(hp:Sz n p)(hq:Sz m q)(h0:0<q):Sz (n+m) (p/q):=by
 have hq0:q≠0:=λz=>by rw[z] at h0;exact absurd h0 (by decide)
 have hn:q.num≠0:=λz=>hq0 (P9.mp z);rw[sg hq0];exact Sz.div (OW (bS p) hn) (hp.top.mul hq.bot) (hp.bot.mul hq.top) (n+m) (z_ _) (z_ _)
def lY{b:Bx}{n:Nat}(hb:b.Ok)(hs:b.Sz n):Sz (n+n) (fh b):=by
 unfold fh;split
 .exact Sz.over hs.h hs.w hb.1
 .exact Sz.over hs.w hs.h hb.2
def tD{p q:Rat}{n m:Nat}(hp:Sz n p)(hq:Sz m q)(h1:n<=100000)(h2:m<=100000):dk.G [.lst [fV p,fV q]]=.ok (.val (fV (if p<q then q else p))) []:=by
 have l1:=dg hp hp h1 h1;have l2:=dg hp hq h1 h2;rw[L_ (Rat.lt_irrefl:¬ p<p)] at l1;unfold dk;rw[aF];unfold jC iI;by_cases hl:p<q
 .rw[NX hl] at l2;rw[if_pos hl];simp![bA,l1,l2]
 .rw[L_ hl] at l2;rw[if_neg hl];simp![bA,l1,l2]
noncomputable def prV(p:Rat×Rat):Val:=.tup [fV p.1,fV p.2]
theorem u5{s l:Rat}{n m:Nat}{W:Int}{wv:Val}(hs:Sz n s)(hl:Sz n l)(hW:0<W)(mW:Sm m W)(h:n+n+m<=8000):∀(ws:List Int) (a:Int) (acc:List (Rat×Rat)) (s6 s7:Sl),s6.pl=true->s7.pl=true->0<=a->(∀w∈ws,0<=w)->a+ws.sum<=W->acc.length+ws.length<=16777216->∃s6' s7',cT (gtN 6).G ie.G (ws.map .int) [.sh (fV s),.sh (fV l),.sh wv,.sh (.int W),.sh (.int a),.ow (.lst (acc.map prV)),s6,s7]=.nx [.sh (fV s),.sh (fV l),.sh wv,.sh (.int W),.sh (.int (a+ws.sum)),.ow (.lst ((acc++shL s l W a ws).map prV)),s6',s7']
 | [],a,acc,s6,s7,h6,h7,ha,hw,hsum,d_=>⟨s6,s7,by rw[Ov,kj,List.sum_nil,Int.add_zero];unfold shL;rw[Oh]⟩
 |
  w::ws,a,acc,s6,s7,h6,h7,ha,hw,hsum,d_=>by
  have hw0:=hw w (G_ ..);have hws:0<=ws.sum:=by
   have:∀l:List Int,(∀w∈l,0<=w)->0<=l.sum:=by
    intro l;induction l with
    |nil=>intro _;simp
    |cons x l ih=>intro hx;rw[Of];have:=hx x (G_ ..);have:=ih λw hw=>hx w (A_ _ hw);omega
   exact this ws λx hx=>hw x (A_ _ hx)
  rw[Of] at hsum;rw[I_] at d_;have sa:Sm m a:=mW.of_le (by omega);have sw:Sm m w:=mW.of_le (by omega);have f1:=dq (a:=a) (b:=W) (by omega) (mW.mono (by omega));have f2:=dq (a:=w) (b:=W) (by omega) (mW.mono (by omega));have z1:Sz m ((a:Rat)/(W:Rat)):=Sz.div (by omega) sa mW m (z_ _) (z_ _);have z2:Sz m ((w:Rat)/(W:Rat)):=Sz.div (by omega) sw mW m (z_ _) (z_ _);have t1:=lb hl z1 (by omega);have t2:=lb hl z2 (by omega);have ad:=BE hs (hl.mul z1) (by omega);have ll:(acc.map prV).length<16777216:=by rw[w_];omega
  obtain⟨t6,t7,ih⟩:=u5 (wv:=wv) hs hl hW mW h ws (a+w) (acc++[(s+l*((a:Rat)/(W:Rat)),l*((w:Rat)/(W:Rat)))]) (.sh (.int w)) (.sh (fV (s+l*((a:Rat)/(W:Rat))))) rfl rfl (by omega) (λx hx=>hw x (A_ _ hx)) (by omega) (by simp;omega);refine⟨t6,t7,?_⟩;have g1:(gtN 6).G (.int w) [.sh (fV s),.sh (fV l),.sh wv,.sh (.int W),.sh (.int a),.ow (.lst (acc.map prV)),s6,s7]=some [.sh (fV s),.sh (fV l),.sh wv,.sh (.int W),.sh (.int a),.ow (.lst (acc.map prV)),.sh (.int w),s7]:=by simp![h6]
  have b1:ie.G [.sh (fV s),.sh (fV l),.sh wv,.sh (.int W),.sh (.int a),.ow (.lst (acc.map prV)),.sh (.int w),s7]=.nx [.sh (fV s),.sh (fV l),.sh wv,.sh (.int W),.sh (.int (a+w)),.ow (.lst ((acc++[(s+l*((a:Rat)/(W:Rat)),l*((w:Rat)/(W:Rat)))]).map prV)),.sh (.int w),.sh (fV (s+l*((a:Rat)/(W:Rat))))]:=by unfold ie;rw[Ox];simp![h7,f1,f2,t1,t2,ad,ll,prV]
  rw[E_,bA,g1];simp only[b1,mI];rw[ih,Of];rw[show shL s l W a (w::ws)=(s+l*((a:Rat)/(W:Rat)),l*((w:Rat)/(W:Rat)))::shL s l W (a+w) ws from rfl,OA,show a+w+ws.sum=a+(w+ws.sum) by omega];rfl
def oY{s l:Rat}{n m:Nat}{ws:List Int}(hs:Sz n s)(hl:Sz n l)(hw:∀w∈ws,0<=w)(h0:0<ws.sum)(mW:Sm m ws.sum)(h:n+n+m<=8000)(d_:ws.length<=1000):fm.G [fV s,fV l,.lst (ws.map .int)]=.ok (.new (.lst ((shL s l ws.sum 0 ws).map prV))) []:=by obtain⟨s6,s7,lo⟩:=u5 (wv:=.lst (ws.map .int)) hs hl h0 mW h ws 0 [] .no .no rfl rfl (by omega) hw (by omega) (by simp;omega);rw[N7,Ov] at lo;unfold fm;rw[aF];unfold sY;simp![lo]
def Kn{way:Str}(hw:way="across" \/ way="down"):eh.G [.str way]=.ok (.val .non) []:=by
 have i1:∀x:Str,(aj aq).G [.str x,.ty "str"]=.val (.bl true):=λ_=>rfl;have i2:bIn.G (.str way) (.tup [.str "across",.str "down"])=.val (.bl true):=by rcases hw with rfl |rfl <;> rfl
 have e1:gG.G [.str way]=.ok (.val (.bl true)) []:=by unfold gG;rw[aF];unfold rq;simp![i1,i2]
 unfold eh;rw[aF];unfold kQ;simp![e1]
def xH{b:Bx}{n m:Nat}{way:Str}{ws:List Int}(hb:b.Ok)(hs:b.Sz n)(hway:way="across" \/ way="down")(h0:ws≠[])(hw:∀w∈ws,1<=w)(mW:Sm m ws.sum)(h:n+n+m<=8000)(d_:ws.length<=40):fG.G [bV b,.str way,.lst (ws.map .int)]=.ok (.new (.lst ((fO b way ws).map bV))) []:=by
 have cw:=mS h0 hw d_;have cy:=Kn hway;have sp:0<ws.sum:=by
  cases ws with
  |nil=>exact absurd rfl h0
  |
   cons x l=>
   rw[Of]
   have:=hw x (G_ ..)
   have:∀l:List Int,(∀w∈l,1<=w)->0<=l.sum:=by
    intro l;induction l with
    |nil=>intro _;simp
    |cons x l ih=>intro hx;rw[Of];have:=hx x (G_ ..);have:=ih λw hw=>hx w (A_ _ hw);omega
   have:=this l λx hx=>hw x (A_ _ hx)
   omega
 have cb:bL.G [.tup [fV b.l,fV b.t,fV b.w,fV b.h]]=.ok (.val .non) []:=cU hb;have sh1:=oY hs.l hs.w (λw z=>by have:=hw w z;omega) sp mW h (by omega);have sh2:=oY hs.t hs.h (λw z=>by have:=hw w z;omega) sp mW h (by omega);show fG.G [.tup [fV b.l,fV b.t,fV b.w,fV b.h],.str way,.lst (ws.map .int)]=_;unfold fG fO;rw[aF];unfold rK;rcases hway with rfl |rfl
 .rw[if_pos (rfl:("across" : Str)="across")];have ln:=oy b.l b.w ws.sum ws 0;obtain⟨e',⟨s,t,rfl,_,_⟩,lc⟩:=dO (g:=(gtT 2 (aT (gtN 0) (aT (gtN 1) dw))).G) (F:=(av (aa (af 0) (aa (af 2) (aa (af 1) (aa (af 3) ag))))).G) prV (λp=>bV ⟨p.1,b.t,p.2,b.h⟩) (λe=>∃s t,e=[s,t,.sh (fV b.t),.sh (fV b.h)]/\s.pl=true/\t.pl=true) (shL b.l b.w ws.sum 0 ws) [] [.no,.no,.sh (fV b.t),.sh (fV b.h)] ⟨.no,.no,rfl,rfl,rfl⟩ (by
   rintro p hp e ⟨s,t,rfl,hs,ht⟩;refine⟨[.sh (fV p.1),.sh (fV p.2),.sh (fV b.t),.sh (fV b.h)],.val (bV ⟨p.1,b.t,p.2,b.h⟩),[.sh (fV p.1),.sh (fV p.2),.sh (fV b.t),.sh (fV b.h)],?_,?_,rfl,⟨_,_,rfl,rfl,rfl⟩⟩
   .simp![prV,hs,ht]
   .simp![bV]) (by rw[ln,Od];omega)
  rw[N7] at lc;have ll:((shL b.l b.w ws.sum 0 ws).map λp=>bV ⟨p.1,b.t,p.2,b.h⟩).length<=16777216:=by rw[w_,ln];omega
  rw[OI,show (bV ∘ λp:Rat×Rat=>(⟨p.1,b.t,p.2,b.h⟩:Bx))=λp=>bV ⟨p.1,b.t,p.2,b.h⟩ from rfl];simp![cb,cy,cw,xR,sh1,lc,ll]
 .have hne:¬ (("down" : Str)="across"):=by decide
  rw[if_neg hne];have ln:=oy b.t b.h ws.sum ws 0;obtain⟨e',⟨s,t,rfl,_,_⟩,lc⟩:=dO (g:=(gtT 2 (aT (gtN 0) (aT (gtN 1) dw))).G) (F:=(av (aa (af 2) (aa (af 0) (aa (af 3) (aa (af 1) ag))))).G) prV (λp=>bV ⟨b.l,p.1,b.w,p.2⟩) (λe=>∃s t,e=[s,t,.sh (fV b.l),.sh (fV b.w)]/\s.pl=true/\t.pl=true) (shL b.t b.h ws.sum 0 ws) [] [.no,.no,.sh (fV b.l),.sh (fV b.w)] ⟨.no,.no,rfl,rfl,rfl⟩ (by
   rintro p hp e ⟨s,t,rfl,hs,ht⟩;refine⟨[.sh (fV p.1),.sh (fV p.2),.sh (fV b.l),.sh (fV b.w)],.val (bV ⟨b.l,p.1,b.w,p.2⟩),[.sh (fV p.1),.sh (fV p.2),.sh (fV b.l),.sh (fV b.w)],?_,?_,rfl,⟨_,_,rfl,rfl,rfl⟩⟩
   .simp![prV,hs,ht]
   .simp![bV]) (by rw[ln,Od];omega)
  rw[N7] at lc;have ll:((shL b.t b.h ws.sum 0 ws).map λp=>bV ⟨b.l,p.1,b.w,p.2⟩).length<=16777216:=by rw[w_,ln];omega
  rw[OI,show (bV ∘ λp:Rat×Rat=>(⟨b.l,p.1,b.w,p.2⟩:Bx))=λp=>bV ⟨b.l,p.1,b.w,p.2⟩ from rfl];simp![cb,cy,cw,zd,sh2,lc,ll]
def La{ws nums:List Int}(hr:Inr ws nums)(hl:nums.length<=1000):∃s,lcV (gtN 0).G qY.G (pOp bIx (af 1) (af 0)).G (nums.map .int) [] [.no,.sh (.lst (ws.map .int))]=.ok ((nums.map (bU ws)).map Val.int) [s,.sh (.lst (ws.map .int))]:=by
 obtain⟨e',⟨s,rfl,_⟩,lc⟩:=dO (g:=(gtN 0).G) (F:=(pOp bIx (af 1) (af 0)).G) Val.int (λi=>.int (bU ws i)) (λe=>∃s,e=[s,.sh (.lst (ws.map .int))]/\s.pl=true) nums [] [.no,.sh (.lst (ws.map .int))] ⟨.no,rfl,rfl⟩ (by
  rintro i hi e ⟨s,rfl,hs⟩;have a1:=Dc (hr i hi).1 (hr i hi).2;refine⟨[.sh (.int i),.sh (.lst (ws.map .int))],.val (.int (bU ws i)),[.sh (.int i),.sh (.lst (ws.map .int))],?_,?_,rfl,⟨_,rfl,rfl⟩⟩
  .simp![hs]
  .simp![a1]) (by simp;omega)
 rw[N7,show nums.map (λi=>Val.int (bU ws i))=(nums.map (bU ws)).map Val.int by rw[OI];rfl] at lc;exact⟨s,lc⟩
def gB{ws nums:List Int}(hr:Inr ws nums)(hl:nums.length<=1000):bZ.G [liV nums,liV ws]=.ok (.val (.int (wt ws nums))) []:=by
 obtain⟨s,lc⟩:=La hr hl;have ll:((nums.map (bU ws)).map Val.int).length<=16777216:=by rw[w_,w_];omega
 show bZ.G [.lst (nums.map .int),.lst (ws.map .int)]=_;unfold bZ wt;rw[aF];unfold kM;simp![bQ,lc,ll]
theorem pk{B:PSt}(hB:B=(ay false 2 (pOp aN (af 2) (pLC (cu (af 2)) [none,some 3] (by decide) (gtN 0) qY (pOp aN (af 0) (aK (aa (af 1) ag))))))){nv kv:Val}:∀(rest:List Int) (L:List (List Int)) (s3:Sl),s3.pl=true->L.length*2^rest.length<=1000000->(∀l∈L,l.length+rest.length<=1000)->∃s3',cT (gtN 3).G B.G (rest.map .int) [.sh nv,.sh kv,.sh (.lst (L.map liV)),s3]=.nx [.sh nv,.sh kv,.sh (.lst ((fN L rest).map liV)),s3']
 | [],L,s3,h3,hb,hl=>⟨s3,by rw[Ov,kj];rfl⟩
 |
  x::rest,L,s3,h3,hb,hl=>by
  rw[I_,Nat.pow_succ] at hb;have hpow:1<=2^rest.length:=Nat.one_le_two_pow;have hb1:L.length<=1000000:=J_ (Nat.le_mul_of_pos_right _ (Nat.mul_pos hpow (by decide))) hb;have hll:(L++L.map λl=>l++[x]).length=L.length+L.length:=by rw[F_,w_]
  obtain⟨s',ih⟩:=pk hB (nv:=nv) (kv:=kv) rest (L++L.map λl=>l++[x]) (.sh (.int x)) rfl (by
   rw[hll,<- Nat.two_mul,Py 2,Nat.mul_assoc,Py 2];exact hb) (λl h=>by
   rcases OY.mp h with h |h
   .have:=hl l h
    rw[I_] at this;omega
   .obtain⟨l',h',rfl⟩:=Oe.mp h
    have:=hl l' h'
    rw[I_] at this;rw[F_];show l'.length+1+_<=_;omega)
  refine⟨s',?_⟩;have g1:(gtN 3).G (.int x) [.sh nv,.sh kv,.sh (.lst (L.map liV)),s3]=some [.sh nv,.sh kv,.sh (.lst (L.map liV)),.sh (.int x)]:=by simp![h3]
  obtain⟨e',⟨s,rfl,_⟩,lc⟩:=dO (g:=(gtN 0).G) (F:=(pOp aN (af 0) (aK (aa (af 1) ag))).G) liV (λl=>liV (l++[x])) (λe=>∃s,e=[s,.sh (.int x)]/\s.pl=true) L [] [.no,.sh (.int x)] ⟨.no,rfl,rfl⟩ (by
   rintro l h e ⟨s,rfl,hs⟩;have ll:=hl l h;have cl:(l.map Val.int).length+1<=16777216:=by rw[w_];omega
   have e2:liV (l++[x])=.lst (l.map .int++[.int x]):=by unfold liV;rw[Ox];rfl
   refine⟨[.sh (liV l),.sh (.int x)],.new (liV (l++[x])),[.sh (liV l),.sh (.int x)],?_,?_,rfl,⟨_,rfl,rfl⟩⟩
   .simp![hs]
   .rw[e2];simp![liV,cl]) (by rw[Od];omega)
  rw[N7] at lc;have c1:(L.map λl=>liV (l++[x])).length<=16777216:=by rw[w_];omega
  have c2:(L.map liV).length+(L.map λl=>liV (l++[x])).length<=16777216:=by rw[w_,w_];omega
  have hcat:L.map liV++(L.map λl=>liV (l++[x]))=(L++L.map λl=>l++[x]).map liV:=by simp
  have b1:B.G [.sh nv,.sh kv,.sh (.lst (L.map liV)),.sh (.int x)]=.nx [.sh nv,.sh kv,.sh (.lst (L.map liV++(L.map λl=>liV (l++[x])))),.sh (.int x)]:=by rw[hB];simp![bQ,lc,c1,c2]
  rw[hcat] at b1;rw[E_,bA,g1];simp only[b1,mI];exact ih
def KQ:cm (.str "order") (.str "order")=some true:=by rw[L3.eq_str (by decide) (by decide)];exact Og some (by decide)
def Gs:cm (.str "any") (.str "order")=some false:=by rw[L3.eq_str (by decide) (by decide)];exact Og some (by decide)
def Ei{n:Nat}(h:n<=1000):n8 [.int 1,.int (n:Nat)]=some ((List.range' 1 (n-1)).map λi=>Val.int (i:Nat)):=by unfold n8;dsimp only;rw[if_pos ⟨⟨by decide,by decide⟩,⟨by omega,by omega⟩⟩];unfold oz;rw[List.range'_eq_map_range,OI,show (((n:Nat):Int)-1).toNat=n-1 by omega];congr 1
def Dz{nums:List Int}(hl:nums.length<=1000):∃s,lcV (gtN 0).G qY.G (pSl (af 1) oN (oS (af 0))).G ((List.range' 1 (nums.length-1)).map λi=>Val.int (i:Nat)) [] [.no,.sh (.lst (nums.map .int))]=.ok ((cM "order" nums).map liV) [s,.sh (.lst (nums.map .int))]:=by
 obtain⟨e',⟨s,rfl,_⟩,lc⟩:=dO (g:=(gtN 0).G) (F:=(pSl (af 1) oN (oS (af 0))).G) (λi:Nat=>Val.int (i:Nat)) (λi=>liV (nums.take i)) (λe=>∃s,e=[s,.sh (.lst (nums.map .int))]/\s.pl=true) (List.range' 1 (nums.length-1)) [] [.no,.sh (.lst (nums.map .int))] ⟨.no,rfl,rfl⟩ (by
  rintro i hi e ⟨s,rfl,hs⟩;have sl:aSl (.lst (nums.map Val.int)) none (some ((i:Nat):Int))=.new (.lst ((nums.take i).map .int)):=by rw[mJ,rM,List.map_take]
  refine⟨[.sh (.int (i:Nat)),.sh (.lst (nums.map .int))],.new (liV (nums.take i)),[.sh (.int (i:Nat)),.sh (.lst (nums.map .int))],?_,?_,rfl,⟨_,rfl,rfl⟩⟩
  .simp![hs]
  .simp![liV,sl]) (by simp;omega)
 rw[N7] at lc;refine⟨s,?_⟩;rw[lc];unfold cM;rw[if_pos rfl,OI];rfl
def wU{nums:List Int}{kind:Str}(hk:kind="order" \/ kind="any")(h2:nums≠[])(hl:nums.length<=10):c6.G [liV nums,.str kind]=.ok (.new (.lst ((cM kind nums).map liV))) []:=by
 have d_:=lu (kind:=kind) hl;rcases hk with rfl |rfl
 .obtain⟨s,lc⟩:=Dz (nums:=nums) (by omega);have rg:=Ei (n:=nums.length) (by omega);have ll:((cM "order" nums).map liV).length<=16777216:=by rw[w_];omega
  have lm:((nums.map Val.int).length:Nat)=nums.length:=w_ ..;show c6.G [.lst (nums.map .int),.str "order"]=_;unfold c6;rw[aF];unfold jW;simp![KQ,lm,rg,bQ,lc,ll]
 .match nums,h2 with
  |
   x::rest,h2=>
   rw[I_] at hl;obtain⟨s',q4⟩:=pk (B:=mz) rfl (nv:=.lst ((x::rest).map .int)) (kv:=.str "any") rest [[x]] .no rfl (by have:2^rest.length<=2^9:=Oz (by decide) (by omega);simp;omega) (by intro l hl';rw[OT] at hl';subst hl';simp;omega);have s1:aSl (.lst (Val.int x::rest.map .int)) none (some 1)=.new (liV [x]):=by rw[mJ,show (some 1:Option Int)=some ((1:Nat):Int) from rfl,rM];rfl
   have s2:aSl (.lst (Val.int x::rest.map .int)) (some 1) none=.new (.lst (rest.map .int)):=by rw[mJ,show (some 1:Option Int)=some ((1:Nat):Int) from rfl,B2];rfl
   have s3:aSl (.lst ((fN [[x]] rest).map liV)) none (some (-1))=.new (.lst ((cM "any" (x::rest)).map liV)):=by rw[mJ,Fu];unfold cM;rw[if_neg (by decide),List.map_dropLast]
   show c6.G [.lst ((x::rest).map .int),.str "any"]=_;unfold c6;rw[aF];unfold jW;rw[show [[x]].map liV=[liV [x]] from rfl,show (x::rest).map Val.int=Val.int x::rest.map Val.int from rfl] at q4;simp![Gs,s1,s2,q4,s3]
def GD(nums l:List Int)(hl:nums.length<=1000):∃s,lcV (gtN 0).G (qOf (pOp jG (af 0) (af 1))).G (af 0).G (nums.map .int) [] [.no,.sh (liV l)]=.ok ((rst nums l).map .int) [s,.sh (liV l)]:=by
 obtain⟨e',⟨s,rfl,_⟩,lc⟩:=nO (g:=(gtN 0).G) (c:=(qOf (pOp jG (af 0) (af 1))).G) (F:=(af 0).G) (λx=>!l.contains x) Val.int Val.int (λe=>∃s,e=[s,.sh (liV l)]/\s.pl=true) nums [] [.no,.sh (liV l)] ⟨.no,rfl,rfl⟩ (by
  rintro x hx e ⟨s,rfl,hs⟩;have k1:jG.G (.int x) (liV l)=.val (.bl (!l.contains x)):=zt l x;refine⟨[.sh (.int x),.sh (liV l)],[.sh (.int x),.sh (liV l)],?_,?_,⟨_,rfl,rfl⟩,λ_=>⟨.val (.int x),[.sh (.int x),.sh (liV l)],?_,rfl,⟨_,rfl,rfl⟩⟩⟩
  .simp![hs]
  .simp![k1]
  .simp![dD]) (by rw[Od];omega)
 rw[N7] at lc;exact⟨s,lc⟩
def Gp{nums l:List Int}{kv:Val}{acc:List (Str×List Int×List Int)}{s4:Sl}(h4:s4.pl=true)(hl:nums.length<=1000)(ha:acc.length<=1000000):fX.G [.sh (liV nums),.sh kv,.ow (.lst (acc.map cuV)),.sh (liV l),s4]=.nx [.sh (liV nums),.sh kv,.ow (.lst ((acc++fJ nums l).map cuV)),.sh (liV l),.sh (.str "down")]:=by
 obtain⟨s,lc⟩:=GD nums l hl;have lr:((rst nums l).map Val.int).length<=16777216:=by
  rw[w_]
  have:=List.length_filter_le (λx=>!l.contains x) nums
  show (nums.filter _).length<=_;omega
 have it:(liV l).items=some (l.map .int):=rfl;have sq:dB (.val (.lst (nums.map .int)))=dB (.val (liV nums)):=rfl;have b1:∀(acc:List (Str×List Int×List Int)) (way:Str),acc.length<=1000001->js.G [.sh (liV nums),.sh kv,.ow (.lst (acc.map cuV)),.sh (liV l),.sh (.str way)]=.nx [.sh (liV nums),.sh kv,.ow (.lst ((acc++[(way,l,rst nums l)]).map cuV)),.sh (liV l),.sh (.str way)]:=by
  intro acc way ha;have la:(acc.map cuV).length<16777216:=by rw[w_];omega
  have e2:(acc++[(way,l,rst nums l)]).map cuV=acc.map cuV++[.tup [.str way,.lst (l.map .int),.lst ((rst nums l).map .int)]]:=by rw[Ox];rfl
  rw[e2];unfold js;unfold liV at lc ⊢;simp![xt,bQ,lc,lr,la]
 unfold fX;have e3:acc++fJ nums l=(acc++[(("across" : Str),l,rst nums l)])++[(("down" : Str),l,rst nums l)]:=by unfold fJ;simp
 rw[e3];have c1:=b1 acc "across" (by omega);have c2:=b1 (acc++[(("across" : Str),l,rst nums l)]) "down" (by rw[F_];show acc.length+1<=_;omega);simp![bA,h4,c1,c2]
def gf{nums:List Int}{kind:Str}(hk:kind="order" \/ kind="any")(h2:nums≠[])(hl:nums.length<=10):dG.G [liV nums,.str kind]=.ok (.new (.lst ((aE kind nums).map cuV))) []:=by
 have lo:=wU hk h2 hl;have ln:=lu (kind:=kind) hl;have fold:∀(ls:List (List Int)) (acc:List (Str×List Int×List Int)) (s3 s4:Sl),s3.pl=true->s4.pl=true->acc.length+2*ls.length<=1000000->∃s3' s4',cT (gtN 3).G fX.G (ls.map liV) [.sh (liV nums),.sh (.str kind),.ow (.lst (acc.map cuV)),s3,s4]=.nx [.sh (liV nums),.sh (.str kind),.ow (.lst ((acc++ls.flatMap (fJ nums)).map cuV)),s3',s4']:=by
  intro ls;induction ls with
  |nil=>intro acc s3 s4 _ _ _;exact⟨s3,s4,by rw[Ov,kj,List.flatMap_nil,Oh]⟩
  |
   cons l ls ih=>
   intro acc s3 s4 h3 h4 hb;rw[I_] at hb;have g1:(gtN 3).G (liV l) [.sh (liV nums),.sh (.str kind),.ow (.lst (acc.map cuV)),s3,s4]=some [.sh (liV nums),.sh (.str kind),.ow (.lst (acc.map cuV)),.sh (liV l),s4]:=by simp![h3]
   have b2:=Gp (kv:=.str kind) (nums:=nums) (l:=l) (acc:=acc) h4 (by omega) (by omega);obtain⟨t3,t4,q⟩:=ih (acc++fJ nums l) (.sh (liV l)) (.sh (.str "down")) rfl rfl (by rw[F_];show acc.length+2+_<=_;omega);refine⟨t3,t4,?_⟩;rw[E_,bA,g1];simp only[b2,mI];rw[q,List.flatMap_cons,OA]
 obtain⟨s3,s4,fr⟩:=fold (cM kind nums) [] .no .no rfl rfl (by rw[Od];omega);rw[N7,Ov] at fr;unfold dG aE;rw[aF];unfold pA;simp![lo,fr]
def iA{c:Str×List Int×List Int}{b:Bx}{ws:List Int}{n m:Nat}(hb:b.Ok)(hs:b.Sz n)(hway:c.1="across" \/ c.1="down")(r1:Inr ws c.2.1)(r2:Inr ws c.2.2)(l1:c.2.1.length<=1000)(l2:c.2.2.length<=1000)(h1:1<=wt ws c.2.1)(h2:1<=wt ws c.2.2)(mW:Sm m (wt ws c.2.1+wt ws c.2.2))(h:n+n+m<=8000):cH.G [cuV c,bV b,liV ws]=.ok (.new (.lst [bV (cW b c.1 (wt ws c.2.1) (wt ws c.2.2)),bV (c7 b c.1 (wt ws c.2.1) (wt ws c.2.2))])) []:=by have w1:=gB r1 l1;have w2:=gB r2 l2;have pe:=xH (ws:=[wt ws c.2.1,wt ws c.2.2]) hb hs hway (by simp) (by intro w hw;simp at hw;omega) (m:=m) (by simpa using mW) h (by simp);rw[rj,E_,E_,Ov,E_,E_,Ov] at pe;show cH.G [.tup [.str c.1,liV c.2.1,liV c.2.2],bV b,liV ws]=_;unfold cH;rw[aF];unfold ml;simp![w1,w2,pe]
structure Ok51(ws nums:List Int)(b:Bx)(n m:Nat):Prop where
 ne:nums≠[]
 nd:nums.Nodup
 inr:Inr ws nums
 len:nums.length<=10
 mw:Sm m (wt ws nums)
 ok:b.Ok
 sz:b.Sz n
 bd:(n+m+1)*2^nums.length<=4000
def Ok51.nm{ws nums:List Int}{b:Bx}{n m:Nat}(h:Ok51 ws nums b n m):n+m+1<=2000:=by have h1:=N5.mpr h.ne;have h2:2^1<=2^nums.length:=Oz (by decide) h1;have h3:=h.bd;have:(n+m+1)*2^1<=4000:=J_ (Pn _ h2) h3;omega
structure Sub51(ws nums:List Int)(b:Bx)(n m:Nat)(c:Str×List Int×List Int):Prop where
 w1:1<=wt ws c.2.1
 w2:1<=wt ws c.2.2
 sm:Sm m (wt ws c.2.1+wt ws c.2.2)
 o1:Ok51 ws c.2.1 (cW b c.1 (wt ws c.2.1) (wt ws c.2.2)) (n+(n+m)+1) m
 o2:Ok51 ws c.2.2 (c7 b c.1 (wt ws c.2.1) (wt ws c.2.2)) (n+(n+m)+1) m
def Ok51.cut{ws nums:List Int}{b:Bx}{n m:Nat}(h:Ok51 ws nums b n m)(hw:∀w∈ws,1<=w){c:Str×List Int×List Int}(hc:CutOk nums c):Sub51 ws nums b n m c:=by
 have r1:Inr ws c.2.1:=λi hi=>h.inr i (hc.one.sub.subset hi);have r2:Inr ws c.2.2:=λi hi=>h.inr i (hc.two.sub.subset hi);have l1:=N5.mpr hc.one.ne;have l2:=N5.mpr hc.two.ne;have g1:=C5 hw r1;have g2:=C5 hw r2;have es:wt ws c.2.1+wt ws c.2.2=wt ws nums:=by rw[<- HI];have p:=lV hc.one.sub h.nd;rw[<- hc.rest] at p;exact iD p
 have sm:Sm m (wt ws c.2.1+wt ws c.2.2):=by rw[es];exact h.mw
 have k1:=Fj (way:=c.1) h.ok h.sz (by omega:1<=wt ws c.2.1) (by omega:1<=wt ws c.2.2) sm;have k2:=FF (way:=c.1) h.ok h.sz (by omega:1<=wt ws c.2.1) (by omega:1<=wt ws c.2.2) sm;have bd:∀l:List Int,Lot nums l->(n+(n+m)+1+m+1)*2^l.length<=4000:=by intro l hl;have h1:=hl.lt;have h2:2^(l.length+1)<=2^nums.length:=Oz (by decide) h1;have h3:=h.bd;have h4:(n+m+1)*2^(l.length+1)<=4000:=J_ (Pn _ h2) h3;rw[Nat.pow_succ,Py (2^l.length),<- Nat.mul_assoc] at h4;rw[show n+(n+m)+1+m+1=(n+m+1)*2 by omega];exact h4
 have hl:=h.len;have q1:=hc.one.lt;have q2:=hc.two.lt;exact⟨by omega,by omega,sm,⟨hc.one.ne,h.nd.sublist hc.one.sub,r1,by omega,sm.of_le (by omega),k1.1,k1.2,bd _ hc.one⟩,⟨hc.two.ne,h.nd.sublist hc.two.sub,r2,by omega,sm.of_le (by omega),k2.1,k2.2,bd _ hc.two⟩⟩
def yb{nums:List Int}(nd:nums.Nodup){c:Str×List Int×List Int}(h:c∈aE "order" nums):c.2.1++c.2.2=nums:=by
 have hc:=iO nd h;obtain⟨l,hl,hc'⟩:=List.mem_flatMap.mp h;unfold cM at hl;rw[if_pos rfl] at hl;obtain⟨i,_,rfl⟩:=Oe.mp hl;have e:c.2.1=nums.take i:=by
  unfold fJ at hc';rcases NZ.mp hc' with rfl |hc'
  .rfl
  .rw[OT] at hc';subst hc';rfl
 rw[hc.rest,e,Cr nd,PY]
def Gv(kind:Str)(ws nums:List Int)(b:Bx)(o:Option Rat)(bv:Val):Prop:=match o with
 |none=>bv=.non
 |some q=>∃t ls,bv=.tup [fV q,t]/\Sz 4000 q/\ls.Perm nums/\(kind="order"->ls=nums)/\Tr ws b ls t q
def CB(q:Rat):L3.flatV (fV q)=true:=by unfold fV;simp [jX,d7,eX,jF]
def Lg{x y:Rat}{n:Nat}(hx:Sz n x)(hy:Sz n y):Sz n (mx x y):=by
 unfold mx;split
 .exact hy
 .exact hx
def Lx{x y:Rat}:¬ mx x y<x:=by
 unfold mx;split
 .rename_i h;exact P8.mpr (Rat.le_of_lt h)
 .exact Rat.lt_irrefl
theorem kf{kind:Str}{ws:List Int}{m:Nat}(hk:kind="order" \/ kind="any")(hw:∀w∈ws,1<=w):∀(k:Nat) (nums:List Int) (b:Bx) (n:Nat),Ok51 ws nums b n m->nums.length<=k->∃t ls,(cK k).G [bV b,liV ws,.str kind,liV nums]=.ok (.val (.tup [fV (bst kind ws k b nums),t])) []/\Sz 4000 (bst kind ws k b nums)/\ls.Perm nums/\(kind="order"->ls=nums)/\Tr ws b ls t (bst kind ws k b nums)
 |0,nums,b,n,H,hl=>absurd (N5.mpr H.ne) (by omega)
 |
  k+1,nums,b,n,H,hl=>by
  have nm:=H.nm;show ∃t ls,(PFx.of [false,false,false,false] 11 (ef (cK k))).G [bV b,liV ws,.str kind,liV nums]=_/\_;by_cases h1:nums.length=1
  .have eb:bst kind ws (k+1) b nums=fh b:=by unfold bst;rw[if_pos h1]
   rw[eb]
   match nums,h1 with
   |[i],_=>have sh:=lH H.ok H.sz (by omega);refine⟨.int i,[i],?_,(lY H.ok H.sz).mono (by omega),List.Perm.refl _,λ_=>rfl,.leaf b i⟩;rw[dW];unfold ef;show (if _ then _ else _)=_;have it:(liV [i])=.lst [.int i]:=rfl;rw[it];simp![sh]
  .have hl2:2<=nums.length:=by have:=N5.mpr H.ne;omega
   have hne:((((nums.map Val.int).length:Nat):Int)==1)=false:=by rw[N3,w_];omega
   have ce:=gf hk H.ne H.len;obtain⟨q,eq⟩:=ur (λc=>iz (bst kind ws k) ws b c) (ox (kind:=kind) hl2);have eb:bst kind ws (k+1) b nums=q:=by unfold bst;rw[if_neg h1,eq];rfl
   obtain⟨e',⟨bv,s5,s6,s7,s8,s9,s10,rfl,_,hbv⟩,fr⟩:=oT (g:=(gtN 5).G) (B:=(cX (cK k)).G) cuV (λo c=>eS o (iz (bst kind ws k) ws b c)) (λo e=>∃bv s5 s6 s7 s8 s9 s10,e=[.sh (bV b),.sh (liV ws),.sh (.str kind),.sh (liV nums),.sh bv,s5,s6,s7,s8,s9,s10]/\(s5.pl=true/\s6.pl=true/\s7.pl=true/\s8.pl=true/\s9.pl=true/\s10.pl=true)/\Gv kind ws nums b o bv) (aE kind nums) none [.sh (bV b),.sh (liV ws),.sh (.str kind),.sh (liV nums),.sh .non,.no,.no,.no,.no,.no,.no] ⟨_,_,_,_,_,_,_,rfl,⟨rfl,rfl,rfl,rfl,rfl,rfl⟩,rfl⟩ (by
    rintro c hc o e ⟨bv,s5,s6,s7,s8,s9,s10,rfl,⟨g5,g6,g7,g8,g9,g10⟩,hbv⟩;have co:=iO H.nd hc;have su:=H.cut hw co;have d_:=H.len;have q1:=co.one.lt;have q2:=co.two.lt;have pb:=iA (c:=c) H.ok H.sz co.way su.o1.inr su.o2.inr (by omega) (by omega) su.w1 su.w2 su.sm (by omega);obtain⟨t1,l1,e1,z1,p1,c1,r1⟩:=kf hk hw k c.2.1 _ _ su.o1 (by omega);obtain⟨t2,l2,e2,z2,p2,c2,r2⟩:=kf hk hw k c.2.2 _ _ su.o2 (by omega);have ic:(cuV c).items=some [.str c.1,liV c.2.1,liV c.2.2]:=rfl;have fl1:L3.flatVs [fV (bst kind ws k (cW b c.1 (wt ws c.2.1) (wt ws c.2.2)) c.2.1),t1]=true:=by simp [d7,eX,CB,r1.flat]
    have fl2:L3.flatVs [fV (bst kind ws k (c7 b c.1 (wt ws c.2.1) (wt ws c.2.2)) c.2.2),t2]=true:=by simp [d7,eX,CB,r2.flat]
    have tr:Tr ws b (l1++l2) (.tup [.str c.1,.tup [t1,t2]]) (iz (bst kind ws k) ws b c):=by
     refine Tr.node co.way ?_ ?_
     .rw[iD p1,iD p2];exact r1
     .rw[iD p1,iD p2];exact r2
    have pm:(l1++l2).Perm nums:=by have p:=lV co.one.sub H.nd;rw[<- co.rest] at p;exact (p1.append p2).trans p
    have oc:kind="order"->l1++l2=nums:=λz=>by rw[c1 z,c2 z];subst z;exact yb H.nd hc
    have zz:Sz 4000 (iz (bst kind ws k) ws b c):=Lg z1 z2;have gr:=tD z1 z2 (by omega) (by omega);rw[show (if bst kind ws k (cW b c.1 (wt ws c.2.1) (wt ws c.2.2)) c.2.1<bst kind ws k (c7 b c.1 (wt ws c.2.1) (wt ws c.2.2)) c.2.2 then bst kind ws k (c7 b c.1 (wt ws c.2.1) (wt ws c.2.2)) c.2.2 else bst kind ws k (cW b c.1 (wt ws c.2.1) (wt ws c.2.2)) c.2.1)=iz (bst kind ws k) ws b c from rfl] at gr;have hge:¬ iz (bst kind ws k) ws b c<bst kind ws k (cW b c.1 (wt ws c.2.1) (wt ws c.2.2)) c.2.1:=Lx;generalize hb1:cW b c.1 (wt ws c.2.1) (wt ws c.2.2)=b1 at *;generalize hb2:c7 b c.1 (wt ws c.2.1) (wt ws c.2.2)=b2 at *;generalize hx1:bst kind ws k b1 c.2.1=x1 at *;generalize hx2:bst kind ws k b2 c.2.2=x2 at *;generalize s_:iz (bst kind ws k) ws b c=cd at *;refine⟨[.sh (bV b),.sh (liV ws),.sh (.str kind),.sh (liV nums),.sh bv,.sh (cuV c),s6,s7,s8,s9,s10],?_⟩;have gg:(gtN 5).G (cuV c) [.sh (bV b),.sh (liV ws),.sh (.str kind),.sh (liV nums),.sh bv,s5,s6,s7,s8,s9,s10]=some [.sh (bV b),.sh (liV ws),.sh (.str kind),.sh (liV nums),.sh bv,.sh (cuV c),s6,s7,s8,s9,s10]:=by simp![g5]
    cases o with
    |none=>have hbv':bv=.non:=hbv;subst hbv';refine⟨[.sh (bV b),.sh (liV ws),.sh (.str kind),.sh (liV nums),.sh (.tup [fV cd,.tup [.str c.1,.tup [t1,t2]]]),.sh (cuV c),.sh (bV b1),.sh (bV b2),.sh (.tup [fV x1,t1]),.sh (.tup [fV x2,t2]),.sh (fV cd)],gg,.inl ?_,_,_,_,_,_,_,_,rfl,⟨rfl,rfl,rfl,rfl,rfl,rfl⟩,_,_,rfl,zz,pm,oc,tr⟩;unfold cX;simp![pb,e1,e2,gr,ic,fl1,fl2,g6,g7,g8,g9,g10]
    |
     some p=>
     obtain⟨t0,l0,rfl,z0,p0,c0,r0⟩:=hbv;have il:=dg z1 z0 (by omega) (by omega);by_cases hx:x1<p
     .rw[NX hx] at il;have ig:=dg zz z0 (by omega) (by omega);by_cases hy:cd<p
      .rw[NX hy] at ig;have ms:eS (some p) cd=some cd:=if_pos hy;rw[ms];refine⟨[.sh (bV b),.sh (liV ws),.sh (.str kind),.sh (liV nums),.sh (.tup [fV cd,.tup [.str c.1,.tup [t1,t2]]]),.sh (cuV c),.sh (bV b1),.sh (bV b2),.sh (.tup [fV x1,t1]),.sh (.tup [fV x2,t2]),.sh (fV cd)],gg,.inl ?_,_,_,_,_,_,_,_,rfl,⟨rfl,rfl,rfl,rfl,rfl,rfl⟩,_,_,rfl,zz,pm,oc,tr⟩;unfold cX;simp![pb,e1,e2,gr,ic,fl1,fl2,il,ig,g6,g7,g8,g9,g10]
      .rw[L_ hy] at ig;have ms:eS (some p) cd=some p:=if_neg hy;rw[ms];refine⟨[.sh (bV b),.sh (liV ws),.sh (.str kind),.sh (liV nums),.sh (.tup [fV p,t0]),.sh (cuV c),.sh (bV b1),.sh (bV b2),.sh (.tup [fV x1,t1]),.sh (.tup [fV x2,t2]),.sh (fV cd)],gg,.inl ?_,_,_,_,_,_,_,_,rfl,⟨rfl,rfl,rfl,rfl,rfl,rfl⟩,_,_,rfl,z0,p0,c0,r0⟩;unfold cX;simp![pb,e1,e2,gr,ic,fl1,fl2,il,ig,g6,g7,g8,g9,g10]
     .rw[L_ hx] at il;have hy:¬ cd<p:=P8.mpr (Rat.le_trans (P8.mp hx) (P8.mp hge));have ms:eS (some p) cd=some p:=if_neg hy;rw[ms];refine⟨[.sh (bV b),.sh (liV ws),.sh (.str kind),.sh (liV nums),.sh (.tup [fV p,t0]),.sh (cuV c),.sh (bV b1),.sh (bV b2),.sh (.tup [fV x1,t1]),s9,s10],gg,.inr ?_,_,_,_,_,_,_,_,rfl,⟨rfl,rfl,rfl,rfl,g9,g10⟩,_,_,rfl,z0,p0,c0,r0⟩;unfold cX;simp![pb,e1,ic,fl1,il,g6,g7,g8])
   rw[eq] at hbv;obtain⟨t,ls,rfl,z,pm,oc,tr⟩:=hbv;rw[eb];refine⟨t,ls,?_,z,pm,oc,tr⟩;rw[dW];unfold ef;have it:(liV nums)=.lst (nums.map .int):=rfl;rw[it] at fr ce ⊢;simp![hne,ce,fr]
def FI{l:List Int}(h:∀x∈l,1<=x){y:Int}(hy:y∈l):y<=l.sum:=by
 induction l with
 |nil=>cases hy
 |
  cons a l ih=>
  have hn:=iY (l:=l) λx hx=>h x (A_ _ hx);rw[Of];rcases NZ.mp hy with rfl |hy
  .omega
  .have:=ih (λx hx=>h x (A_ _ hx)) hy
   have:=h a (G_ ..)
   omega
def oF{b:Bx}{bd:Rat}{n β:Nat}{x y:Val}(hb:b.Ok)(hs:b.Sz n)(h:n+n<=8000)(zb:Sz β bd)(hβ:β<=8000):fF.G [bV b,.tup [x,y,fV bd]]=.ok (.val (.bl (!decide (fh b<bd)))) []:=by have e1:=lH hb hs h;have e2:=dg (lY hb hs) zb (by omega) (by omega);unfold fF;rw[aF];unfold rO;simp![e1,e2]
def zf{ws nums:List Int}{i:Int}(hw:∀w∈ws,1<=w)(hr:Inr ws nums)(hi:i∈nums):1<=bU ws i/\bU ws i<=wt ws nums:=by
 have h1:∀x∈nums.map (bU ws),1<=x:=λx hx=>by obtain⟨j,hj,rfl⟩:=Oe.mp hx;exact hw _ (sV (hr j hj).1 (hr j hj).2)
 exact⟨h1 _ (Qc hi),FI h1 (Qc hi)⟩
def Jq{ws nums:List Int}{b:Bx}{n m:Nat}{i:Int}(H:Ok51 ws nums b n m)(hw:∀w∈ws,1<=w)(hi:i∈nums):Sz m ((bU ws i:Rat)/(wt ws nums:Rat))/\Sz (n+n+m) (thn ws b i nums):=by
 have hq:=zf hw H.inr hi;have mw:(wt ws nums).natAbs<2^m:=H.mw;have sm1:Sm m (bU ws i):=by show (bU ws i).natAbs<2^m;omega
 have z1:=Sz.div (by omega) sm1 H.mw m (z_ _) (z_ _);exact⟨z1,(lY H.ok H.sz).mul z1⟩
def l8{ws nums:List Int}{b:Bx}{n m β:Nat}{bd:Rat}{y:Val}{i:Int}(H:Ok51 ws nums b n m)(hw:∀w∈ws,1<=w)(hi:i∈nums)(zb:Sz β bd)(hβ:β<=8000):eJ.G [.int i,bV b,liV nums,.tup [liV ws,y,fV bd]]=.ok (.val (.bl (!decide (thn ws b i nums<bd)))) []:=by
 have nm:=H.nm;have ln:=H.len;have hq:=zf hw H.inr hi;obtain⟨z1,z2⟩:=Jq H hw hi;have e1:=lH H.ok H.sz (by omega);have e2:=dq (a:=bU ws i) (b:=wt ws nums) (by omega) (H.mw.mono (by omega));have e3:=lb (lY H.ok H.sz) z1 (by omega);have e4:=dg z2 zb (by omega) (by omega);have e5:=gB H.inr (by omega:nums.length<=1000);have e6:=Dc (H.inr i hi).1 (H.inr i hi).2;have e7:eY.G [bV b,.int (bU ws i),.int (wt ws nums)]=.ok (.val (fV (thn ws b i nums))) []:=by unfold eY;rw[aF];unfold mQ;simp![e1,e2,e3];rfl
 unfold eJ;rw[aF];unfold oI;unfold liV at e5 ⊢;simp![e5,e6,e7,e4]
def oP(o:Option Val):Val:=o.getD .non
def EV{kind:Str}{ws:List Int}{bd:Rat}{k:Nat}{b:Bx}{nums:List Int}{v:Val}(h:brg kind ws bd k b nums=some v):∃l,v=.tup l:=by
 have:=(mj h).1
 cases k with
 |zero=>exact this.elim
 |succ k=>rcases this with ⟨_,rfl⟩ |⟨_,_,_,rfl⟩ |⟨_,_,rfl,_⟩ <;> exact⟨_,rfl⟩
def oR(o:Option (Bool×Val)):Val:=match o with
 |some r=>rwV r
 |none=>.non
def GZ{s:PFx [false,false,false]}{c:Str×List Int×List Int}{ws:List Int}{b:Bx}{n m:Nat}{bd:Rat}{kv:Val}{nums:List Int}{f:Bx->List Int->Option Val}(H:Ok51 ws nums b n m)(hw:∀w∈ws,1<=w)(hc:CutOk nums c)(hf:∀x l v,f x l=some v->∃l,v=.tup l)
 (e1:s.G [bV (cW b c.1 (wt ws c.2.1) (wt ws c.2.2)),liV c.2.1,.tup [liV ws,kv,fV bd]]=.ok (.val (oP (f (cW b c.1 (wt ws c.2.1) (wt ws c.2.2)) c.2.1))) [])
 (e2:s.G [bV (c7 b c.1 (wt ws c.2.1) (wt ws c.2.2)),liV c.2.2,.tup [liV ws,kv,fV bd]]=.ok (.val (oP (f (c7 b c.1 (wt ws c.2.1) (wt ws c.2.2)) c.2.2))) []):
 (bc s).G [cuV c,bV b,.tup [liV ws,kv,fV bd]]=.ok (.val (oR (brw f ws b c))) []:=by
 have S:=H.cut hw hc;have nm:=H.nm;have ln:=H.len;have l1:=hc.one.lt;have l2:=hc.two.lt;have pb:=iA H.ok H.sz hc.way S.o1.inr S.o2.inr (by omega) (by omega) S.w1 S.w2 S.sm (by omega);have ff:=hf (cW b c.1 (wt ws c.2.1) (wt ws c.2.2)) c.2.1;have fg:=hf (c7 b c.1 (wt ws c.2.1) (wt ws c.2.2)) c.2.2;unfold brw;generalize cW b c.1 (wt ws c.2.1) (wt ws c.2.2)=b1 at *;generalize c7 b c.1 (wt ws c.2.1) (wt ws c.2.2)=b2 at *;generalize f b1 c.2.1=o1 at *;generalize f b2 c.2.2=o2 at *;have ec:cuV c=.tup [.str c.1,liV c.2.1,liV c.2.2]:=rfl;rw[ec] at pb ⊢;generalize liV c.2.1=x1 at *;generalize liV c.2.2=x2 at *;generalize liV ws=xw at *;generalize bV b1=y1 at *;generalize bV b2=y2 at *;generalize fV bd=z at *;have en:n6 0 [y1,y2]=[.tup [.int 0,y1],.tup [.int 1,y2]]:=rfl;unfold bc;rw[aF];unfold jA iF;cases o1 with
 |some v=>obtain⟨l,rfl⟩:=ff v rfl;unfold oP at e1;simp![pb,en,bA,e1,Option.getD_some];rfl
 |
  none=>
  unfold oP at e1;cases o2 with
  |some v=>obtain⟨l,rfl⟩:=fg v rfl;unfold oP at e2;simp![pb,en,bA,e1,e2,Option.getD_some,PX];rfl
  |none=>unfold oP at e2;simp![pb,en,bA,e1,e2,PX];rfl
theorem oD{s:PFx [false,false,false]}{ws nums:List Int}{b:Bx}{n m β:Nat}{bd:Rat}{y:Val}(H:Ok51 ws nums b n m)(hw:∀w∈ws,1<=w)(zb:Sz β bd)(hβ:β<=8000):∀(l:List Int),(∀i∈l,i∈nums)->∀s3:Sl,s3.pl=true->(∃s3':Sl,s3'.pl=true/\(l.find? λi=>!decide (thn ws b i nums<bd))=none/\cT (gtN 3).G (eQ s).G (l.map .int) [.sh (bV b),.sh (liV nums),.sh (.tup [liV ws,y,fV bd]),s3,.no,.no,.no]=.nx [.sh (bV b),.sh (liV nums),.sh (.tup [liV ws,y,fV bd]),s3',.no,.no,.no])\/(∃i,(l.find? λi=>!decide (thn ws b i nums<bd))=some i/\cT (gtN 3).G (eQ s).G (l.map .int) [.sh (bV b),.sh (liV nums),.sh (.tup [liV ws,y,fV bd]),s3,.no,.no,.no]=.rt (.val (.tup [.str "thin",.int i])) [.sh (bV b),.sh (liV nums),.sh (.tup [liV ws,y,fV bd]),.sh (.int i),.no,.no,.no])
 | [],_,s3,h3=>.inl ⟨s3,h3,rfl,rfl⟩
 |
  i::l,hl,s3,h3=>by
  have e:=l8 (y:=y) H hw (hl i (G_ ..)) zb hβ;have ih:=oD H hw zb hβ l (λj hj=>hl j (A_ _ hj)) (s:=s) (y:=y) (.sh (.int i)) rfl;rw[E_,OD];generalize hd:(!decide (thn ws b i nums<bd))=d at *;have eb:(eQ s).G [.sh (bV b),.sh (liV nums),.sh (.tup [liV ws,y,fV bd]),.sh (.int i),.no,.no,.no]=if d=true then .rt (.val (.tup [.str "thin",.int i])) [.sh (bV b),.sh (liV nums),.sh (.tup [liV ws,y,fV bd]),.sh (.int i),.no,.no,.no] else .nx [.sh (bV b),.sh (liV nums),.sh (.tup [liV ws,y,fV bd]),.sh (.int i),.no,.no,.no]:=by unfold eQ;cases d <;> simp![e]
  have eg:(gtN 3).G (.int i) [.sh (bV b),.sh (liV nums),.sh (.tup [liV ws,y,fV bd]),s3,.no,.no,.no]=some [.sh (bV b),.sh (liV nums),.sh (.tup [liV ws,y,fV bd]),.sh (.int i),.no,.no,.no]:=by simp![h3]
  cases d with
  |true=>refine .inr ⟨i,rfl,?_⟩;rw[bA,eg];dsimp only;rw[eb,if_pos rfl];rfl
  |false=>rw[bA,eg];dsimp only;rw[eb,if_neg y_];exact ih
theorem oG{s:PFx [false,false,false]}{v0 v1 v2:Val}{s3:Sl}{g:Str×List Int×List Int->Option (Bool×Val)}:∀(l:List (Str×List Int×List Int)),(∀c∈l,(bc s).G [cuV c,v0,v2]=.ok (.val (oR (g c))) [])->∀(acc:List Val) (s5 s6:Sl),s5.pl=true->s6.pl=true->acc.length+l.length<=100000->((l.all λc=>(g c).isSome)=true/\∃s5' s6',cT (gtN 5).G (dh s).G (l.map cuV) [.sh v0,.sh v1,.sh v2,s3,.ow (.lst acc),s5,s6]=.nx [.sh v0,.sh v1,.sh v2,s3,.ow (.lst (acc++l.map λc=>rwV ((g c).getD (false,.non)))),s5',s6'])\/((l.all λc=>(g c).isSome)=false/\∃s4 s5' s6',cT (gtN 5).G (dh s).G (l.map cuV) [.sh v0,.sh v1,.sh v2,s3,.ow (.lst acc),s5,s6]=.rt (.val .non) [.sh v0,.sh v1,.sh v2,s3,s4,s5',s6'])
 | [],_,acc,s5,s6,_,_,_=>.inl ⟨rfl,s5,s6,by rw[Ov,Ov,Oh];rfl⟩
 |
  c::l,hr,acc,s5,s6,h5,h6,hl=>by
  rw[I_] at hl;have e:=hr c (G_ ..);have ll:acc.length<16777216:=by omega
  have eg:(gtN 5).G (cuV c) [.sh v0,.sh v1,.sh v2,s3,.ow (.lst acc),s5,s6]=some [.sh v0,.sh v1,.sh v2,s3,.ow (.lst acc),.sh (cuV c),s6]:=by simp![h5]
  rw[E_,ON,E_,bA,eg];dsimp only;cases hg:g c with
  |
   none=>
   rw[hg] at e;have e':(bc s).G [cuV c,v0,v2]=.ok (.val .non) []:=e;have eb:(dh s).G [.sh v0,.sh v1,.sh v2,s3,.ow (.lst acc),.sh (cuV c),s6]=.rt (.val .non) [.sh v0,.sh v1,.sh v2,s3,.ow (.lst acc),.sh (cuV c),.sh .non]:=by unfold dh;generalize cuV c=cv at *;simp![e',h6]
   refine .inr ⟨rfl,.ow (.lst acc),.sh (cuV c),.sh .non,?_⟩;rw[eb];rfl
  |
   some r=>
   rw[hg] at e;have e':(bc s).G [cuV c,v0,v2]=.ok (.val (.tup [.int (if r.1 then 1 else 0),r.2])) []:=e;have eb:(dh s).G [.sh v0,.sh v1,.sh v2,s3,.ow (.lst acc),.sh (cuV c),s6]=.nx [.sh v0,.sh v1,.sh v2,s3,.ow (.lst (acc++[rwV r])),.sh (cuV c),.sh (rwV r)]:=by unfold dh rwV;generalize cuV c=cv at *;generalize (if r.1 then (1:Int) else 0)=z at *;simp![e',h6,ll]
   rw[eb];have ih:=oG (s:=s) (v1:=v1) (s3:=s3) l (λd hd=>hr d (A_ _ hd)) (acc++[rwV r]) (.sh (cuV c)) (.sh (rwV r)) rfl rfl (by rw[F_,List.length_singleton];omega);rw[OA] at ih;exact ih
def AG{kind:Str}{nums:List Int}(h:nums.length<=10):(aE kind nums).length<=2000:=by
 have h1:=lu (kind:=kind) h;unfold aE;rw[List.length_flatMap];have:∀l:List (List Int),((l.map λa=>(fJ nums a).length).sum)=2*l.length:=λl=>by
  induction l with
  |nil=>rfl
  |cons a l ih=>rw[E_,Of,ih,I_];show 2+2*l.length=_;omega
 rw[this];omega
theorem jq{kind:Str}{ws:List Int}{m β:Nat}{bd:Rat}(hk:kind="order" \/ kind="any")(hw:∀w∈ws,1<=w)(zb:Sz β bd)(hβ:β<=8000):∀(k:Nat) (nums:List Int) (b:Bx) (n:Nat),Ok51 ws nums b n m->nums.length<=k->(c5 k).G [bV b,liV nums,.tup [liV ws,.str kind,fV bd]]=.ok (.val (oP (brg kind ws bd k b nums))) []
 |0,nums,b,n,H,hl=>absurd (N5.mpr H.ne) (by omega)
 |
  k+1,nums,b,n,H,hl=>by
  have nm:=H.nm;have ln:=H.len;have hp:=N5.mpr H.ne;have fa:=oF (x:=liV ws) (y:=.str kind) H.ok H.sz (by omega) zb hβ;have lq:((nums.map Val.int).length:Nat)=nums.length:=w_ ..;have itl:∀xs:List Val,(Val.lst xs).items=some xs:=λ_=>rfl;show (PFx.of [false,false,false] 7 (h9 (c5 k))).G [bV b,liV nums,.tup [liV ws,.str kind,fV bd]]=_;rw[dW];unfold h9 brg;by_cases h1:nums.length=1
  .have hd:(((nums.length:Nat):Int)==1)=true:=by rw[h1];rfl
   rw[if_pos h1];generalize fh b=q at *;by_cases hq:q<bd
   .rw[if_pos hq];rw[NX hq] at fa;unfold liV at *;simp![lq,hd,fa];rfl
   .rw[if_neg hq];rw[L_ hq] at fa;unfold liV at *;simp![lq,hd,fa];rfl
  .have hd:(((nums.length:Nat):Int)==1)=false:=by rw[N3];omega
   rw[if_neg h1];rcases oD (s:=c5 k) (y:=.str kind) H hw zb hβ nums (λ_ h=>h) .no rfl with ⟨s3,h3,e,fr⟩ |⟨i,e,fr⟩
   .rw[e];dsimp only;have co:=gf hk H.ne ln;have cl:=AG (kind:=kind) ln;have row:∀c∈aE kind nums,(bc (c5 k)).G [cuV c,bV b,.tup [liV ws,.str kind,fV bd]]=.ok (.val (oR (brw (brg kind ws bd k) ws b c))) []:=λc hc=>by have cc:=iO H.nd hc;have l1:=cc.one.lt;have l2:=cc.two.lt;have S:=H.cut hw cc;exact GZ H hw cc (λ_ _ _ h=>EV h) (jq hk hw zb hβ k _ _ _ S.o1 (by omega)) (jq hk hw zb hβ k _ _ _ S.o2 (by omega))
    rcases oG (v1:=liV nums) (s3:=s3) (aE kind nums) row [] .no .no rfl rfl (by rw[Od];omega) with ⟨ha,s5,s6,fr2⟩ |⟨ha,s4,s5,s6,fr2⟩
    .rw[if_pos ha];rw[N7] at fr2;generalize (aE kind nums).map cuV=cv at *;generalize hR:((aE kind nums).map λc=>rwV ((brw (brg kind ws bd k) ws b c).getD (false,.non)))=rv at *;have lr:rv.length<=16777216:=by rw[<- hR,w_];omega
     generalize fV bd=z at *;unfold liV at *;simp![lq,hd,itl,fr,co,fr2,lr];rfl
    .have hz:¬ (((aE kind nums).all λc=>(brw (brg kind ws bd k) ws b c).isSome)=true):=by rw[ha];exact y_
     rw[if_neg hz];generalize (aE kind nums).map cuV=cv at *;generalize fV bd=z at *;unfold liV at *;simp![lq,hd,itl,fr,co,fr2];rfl
   .rw[e];dsimp only;generalize fV bd=z at *;unfold liV at *;simp![lq,hd,itl,fr];rfl
def dU(xs:List Val):(aj aq).G [.tup xs,.ty "tuple"]=.val (.bl true):=rfl
def Mr(r:Bool):jG.G (.int (if r then 1 else 0)) (.tup [.int 0,.int 1])=.val (.bl false):=by show aIn true (.int (if r then 1 else 0)) (.tup [.int 0,.int 1])=_;unfold aIn;dsimp only [Val.items];rw[if_pos ⟨rfl,rfl⟩];cases r <;> rfl
def tT{s:PFx [false,false,false,false]}{c:Str×List Int×List Int}{ws nums:List Int}{b:Bx}{n m:Nat}{r t:Bool}{p kv z:Val}(H:Ok51 ws nums b n m)(hw:∀w∈ws,1<=w)(hc:CutOk nums c)(e:s.G [p,bV (oo ws b c r),liV (lK c r),.tup [liV ws,kv,z]]=.ok (.val (.bl t)) []):(c8 s).G [rwV (r,p),cuV c,bV b,.tup [liV ws,kv,z]]=.ok (.val (.bl t)) []:=by
 have S:=H.cut hw hc;have nm:=H.nm;have ln:=H.len;have l1:=hc.one.lt;have l2:=hc.two.lt;have pb:=iA H.ok H.sz hc.way S.o1.inr S.o2.inr (by omega) (by omega) S.w1 S.w2 S.sm (by omega);have ni:=Mr r;have iw:=d6 (v:=.int (if r then 1 else 0)) rfl;rw[show gv (.int (if r then 1 else 0))=true from rfl] at iw;have ec:cuV c=.tup [.str c.1,liV c.2.1,liV c.2.2]:=rfl;have er:rwV (r,p)=.tup [.int (if r then 1 else 0),p]:=rfl;rw[ec] at pb ⊢;rw[er];unfold oo lK at e;generalize cW b c.1 (wt ws c.2.1) (wt ws c.2.2)=b1 at *;generalize c7 b c.1 (wt ws c.2.1) (wt ws c.2.2)=b2 at *;unfold c8;rw[aF];unfold l6;cases r with
 |false=>rw[if_neg y_,if_neg y_] at e;rw[if_neg y_] at ni iw ⊢;generalize liV c.2.1=x1 at *;generalize liV c.2.2=x2 at *;generalize liV ws=xw at *;generalize bV b1=y1 at *;generalize bV b2=y2 at *;simp![dU,iw,ni,pb,e]
 |true=>rw[if_pos rfl,if_pos rfl] at e;rw[if_pos rfl] at ni iw ⊢;generalize liV c.2.1=x1 at *;generalize liV c.2.2=x2 at *;generalize liV ws=xw at *;generalize bV b1=y1 at *;generalize bV b2=y2 at *;simp![dU,iw,ni,pb,e]
theorem tE{s:PFx [false,false,false,false]}{v1 v3:Val}{s0 s2 s4:Sl}(g:Str×List Int×List Int->Bool×Val)(t:Str×List Int×List Int->Bool):∀(l:List (Str×List Int×List Int)),(∀c∈l,(c8 s).G [rwV (g c),cuV c,v1,v3]=.ok (.val (.bl (t c))) [])->∀(s5 s6:Sl),s5.pl=true->s6.pl=true->(l.all t=true/\∃s5' s6',cT (gtX (gtT 2 (aT (gtN 5) (aT (gtN 6) dw)))).G (cq s).G (l.map λc=>.tup [rwV (g c),cuV c]) [s0,.sh v1,s2,.sh v3,s4,s5,s6]=.nx [s0,.sh v1,s2,.sh v3,s4,s5',s6'])\/(l.all t=false/\∃s5' s6',cT (gtX (gtT 2 (aT (gtN 5) (aT (gtN 6) dw)))).G (cq s).G (l.map λc=>.tup [rwV (g c),cuV c]) [s0,.sh v1,s2,.sh v3,s4,s5,s6]=.rt (.val (.bl false)) [s0,.sh v1,s2,.sh v3,s4,s5',s6'])
 | [],_,s5,s6,_,_=>.inl ⟨rfl,s5,s6,rfl⟩
 |
  c::l,hr,s5,s6,h5,h6=>by
  have e:=hr c (G_ ..);have ih:=tE (s:=s) (s0:=s0) (s2:=s2) (s4:=s4) g t l (λd hd=>hr d (A_ _ hd)) (.sh (rwV (g c))) (.sh (cuV c)) rfl rfl;rw[E_,ON];generalize rwV (g c)=rv at *;generalize cuV c=cv at *;have eg:(gtX (gtT 2 (aT (gtN 5) (aT (gtN 6) dw)))).G (.tup [rv,cv]) [s0,.sh v1,s2,.sh v3,s4,s5,s6]=some [s0,.sh v1,s2,.sh v3,s4,.sh rv,.sh cv]:=by simp![h5,h6]
  rw[bA,eg];dsimp only;generalize t c=tc at *;have eb:(cq s).G [s0,.sh v1,s2,.sh v3,s4,.sh rv,.sh cv]=if tc=true then .nx [s0,.sh v1,s2,.sh v3,s4,.sh rv,.sh cv] else .rt (.val (.bl false)) [s0,.sh v1,s2,.sh v3,s4,.sh rv,.sh cv]:=by unfold cq;cases tc <;> simp![e]
  rw[eb];cases tc with
  |true=>rw[if_pos rfl];exact ih
  |false=>rw[if_neg y_];exact .inr ⟨rfl,_,_,rfl⟩
theorem sI(f h:α->Val):∀l:List α,List.zipWith (λx y=>Val.tup [x,y]) (l.map f) (l.map h)=l.map λc=>.tup [f c,h c]
 | []=>rfl
 |c::l=>by rw[E_,E_,E_,List.zipWith_cons_cons,sI f h l]
def sj{s:PFx [false,false,false,false]}{kind:Str}{ws nums:List Int}{b:Bx}{n m:Nat}{z:Val}{g:Str×List Int×List Int->Bool×Val}{t:Str×List Int×List Int->Bool}(hk:kind="order" \/ kind="any")(H:Ok51 ws nums b n m)(row:∀c∈aE kind nums,(c8 s).G [rwV (g c),cuV c,bV b,.tup [liV ws,.str kind,z]]=.ok (.val (.bl (t c))) []):(bF s).G [.tup ((aE kind nums).map λc=>rwV (g c)),bV b,liV nums,.tup [liV ws,.str kind,z]]=.ok (.val (.bl ((aE kind nums).all t))) []:=by
 have co:=gf hk H.ne H.len;have zp:=sI (λc=>rwV (g c)) cuV (aE kind nums);have lo:∀xs:List Val,fK (.lst xs)=some xs:=λ_=>rfl;have lt:∀xs:List Val,fK (.tup xs)=some xs:=λ_=>rfl;have l1:((aE kind nums).map λc=>rwV (g c)).length=(aE kind nums).length:=w_ ..;have l2:((aE kind nums).map cuV).length=(aE kind nums).length:=w_ ..;have zl:=tE (s:=s) (v1:=bV b) (v3:=.tup [liV ws,.str kind,z]) (s0:=.sh (.tup ((aE kind nums).map λc=>rwV (g c)))) (s2:=.sh (liV nums)) (s4:=.sh (.lst ((aE kind nums).map cuV))) g t (aE kind nums) row .no .no rfl rfl;rw[<- zp] at zl;generalize ((aE kind nums).map λc=>rwV (g c))=rv at *;generalize (aE kind nums).map cuV=cv at *;generalize (aE kind nums).length=k at *;have hd:((k:Int)==(k:Int))=true:=by rw[beq_self_eq_true]
 unfold bF;rw[aF];unfold eW;generalize liV nums=x2 at *;generalize liV ws=xw at *;rcases zl with ⟨ha,s5,s6,fr⟩ |⟨ha,s5,s6,fr⟩
 .rw[ha];simp![co,l1,l2,hd,lo,lt,fr]
 .rw[ha];simp![co,l1,l2,hd,lo,lt,fr]
def CT:cm (.str "shape") (.str "shape")=some true:=by rw[L3.eq_str (by decide) (by decide)];exact Og some (by decide)
def MK:cm (.str "thin") (.str "thin")=some true:=by rw[L3.eq_str (by decide) (by decide)];exact Og some (by decide)
def wJ:cm (.str "cases") (.str "thin")=some false:=by rw[L3.eq_str (by decide) (by decide)];exact Og some (by decide)
def vU:cm (.str "cases") (.str "cases")=some true:=by rw[L3.eq_str (by decide) (by decide)];exact Og some (by decide)
def vd{kind:Str}{ws:List Int}{m β:Nat}{bd:Rat}(hk:kind="order" \/ kind="any")(hw:∀w∈ws,1<=w)(zb:Sz β bd)(hβ:β<=8000){k:Nat}{b:Bx}{nums:List Int}{v:Val}{t:Bool}(h:Brs kind ws bd k b nums v t):∀n,Ok51 ws nums b n m->(bz k).G [v,bV b,liV nums,.tup [liV ws,.str kind,fV bd]]=.ok (.val (.bl t)) []:=by
 induction h with
 |
  @sh k b nums h1=>
  intro n H;have nm:=H.nm;have fa:=oF (x:=liV ws) (y:=.str kind) H.ok H.sz (by omega) zb hβ;have lq:((nums.map Val.int).length:Nat)=nums.length:=w_ ..;have hd:(((nums.length:Nat):Int)==1)=true:=by rw[h1];rfl
  show (PFx.of [false,false,false,false] 6 (a8 (bz k))).G _=_;rw[dW];unfold a8;unfold liV at *;generalize (!decide (fh b<bd))=d at *;simp![dU,CT,lq,hd,fa]
 |@th k b nums i hi=>intro n H;have ft:=l8 (y:=.str kind) H hw hi zb hβ;have iw:=d6 (v:=.int i) rfl;rw[show gv (.int i)=true from rfl] at iw;have ki:=Cm nums i;rw[Oo.mpr hi] at ki;show (PFx.of [false,false,false,false] 6 (a8 (bz k))).G _=_;rw[dW];unfold a8;unfold liV at *;generalize (!decide (thn ws b i nums<bd))=d at *;simp![dU,MK,iw,ki,ft]
 |
  @cs k b nums g t h1 hg ih=>
  intro n H;have hp:=N5.mpr H.ne;have lq:((nums.map Val.int).length:Nat)=nums.length:=w_ ..;have hd:decide ((1:Int)<((nums.length:Nat):Int))=true:=NX (by omega);have ac:=sj (s:=bz k) (z:=fV bd) (g:=g) (t:=t) hk H λc hc=>by
   have cc:=iO H.nd hc;have S:=H.cut hw cc;refine tT (r:=(g c).1) (p:=(g c).2) H hw cc (ih c hc (n+(n+m)+1) ?_);unfold oo lK;split
   .exact S.o2
   .exact S.o1
  show (PFx.of [false,false,false,false] 6 (a8 (bz k))).G _=_;rw[dW];unfold a8;unfold liV at *;generalize ((aE kind nums).map λc=>rwV (g c))=rv at *;generalize (aE kind nums).all t=d at *;simp![dU,wJ,vU,lq,hd,ac]
def o3(k:Nat)(x:Val)(xs:List Val):dH k (x::xs)=(wfV k x&&dH k xs):=by rw[lI,lI,ON]
def GW(k:Nat)(xs:List Val):wfV (k+1) (.lst xs)=dH k xs:=by simp [wfV]
def Du{kind:Str}{ws:List Int}{bd:Rat}{k:Nat}{b:Bx}{nums:List Int}{v:Val}{t:Bool}(h:Brs kind ws bd k b nums v t):Pap kind k nums v:=by
 induction h with
 |sh h1=>exact .inl ⟨h1,rfl⟩
 |th hi=>exact .inr (.inl ⟨_,hi,rfl⟩)
 |cs g t h1 hg ih=>exact .inr (.inr ⟨h1,g,rfl,ih⟩)
def aX(n:Nat):List Int:=(List.range n).map λi=>((i:Nat):Int)
def nt(n:Nat):rgV n=(aX n).map Val.int:=by unfold aX rgV;rw[OI];rfl
def EG{kind:Str}{mo:Int}(hk:kind="order" /\ mo=6\/kind="any" /\ mo=5):bM.G [.str kind]=.ok (.val .non) []:=by
 have i1:(aj aq).G [.str kind,.ty "str"]=.val (.bl true):=rfl;have i2:lkS aH kind=some mo:=by rcases hk with ⟨rfl,rfl⟩ |⟨rfl,rfl⟩ <;> decide +kernel
 unfold bM;rw[aF];unfold gK;simp![i1,sx,i2]
def rF{kind:Str}{mo:Int}{ws:List Int}{b:Bx}(hk:kind="order" /\ mo=6\/kind="any" /\ mo=5)(hw:∀w∈ws,1<=w)(h0:ws≠[])(hl:(ws.length:Int)<=mo)(ok:b.Ok):aS.G [bV b,.lst (ws.map .int),.str kind]=.ok (.val .non) []:=by
 have m6:mo<=6:=by rcases hk with ⟨_,rfl⟩ |⟨_,rfl⟩ <;> decide
 have cb:=cU ok;have cw:=mS h0 hw (by omega);have i1:(aj aq).G [.str kind,.ty "str"]=.val (.bl true):=rfl;have i2:lkS aH kind=some mo:=by rcases hk with ⟨rfl,rfl⟩ |⟨rfl,rfl⟩ <;> decide +kernel
 have kg:(md "MOST_THINGS" aH).G (.glb "MOST_THINGS") (.str kind)=.val (.int mo):=zi i2;have lw:((ws.map Val.int).length:Nat)=ws.length:=w_ ..;have hd:decide (mo<((ws.length:Nat):Int))=false:=L_ (by omega);have ko:=EG hk;unfold aS;rw[aF];unfold cC;simp![cb,cw,ko,kg,lw,hd]
def n5{kind:Str}{mo:Int}{ws:List Int}{b:Bx}{n m:Nat}(hk:kind="order" /\ mo=6\/kind="any" /\ mo=5)(hw:∀w∈ws,1<=w)(h0:ws≠[])(hl:(ws.length:Int)<=mo)(H:Ok51 ws (aX ws.length) b n m):∃t,bR.G [bV b,.lst (ws.map .int),.str kind]=.ok (.val (.tup [fV (bst kind ws 7 b (aX ws.length)),t])) []/\L3.flatV t=true:=by
 have m6:mo<=6:=by rcases hk with ⟨_,rfl⟩ |⟨_,rfl⟩ <;> decide
 have nl:(aX ws.length).length=ws.length:=by unfold aX;rw[w_,OK]
 obtain⟨t,ls,e,z,_,_,tr⟩:=kf (hk.imp And.left And.left) hw 7 (aX ws.length) b n H (by omega);refine⟨t,?_,tr.flat⟩;have ca:=rF hk hw h0 hl H.ok;have lw:((ws.map Val.int).length:Nat)=ws.length:=w_ ..;have lr:gQ.G [.int (ws.length:Nat)]=.new (.lst ((aX ws.length).map Val.int)):=by rw[wC ⟨by omega,by omega⟩,<- nt];rfl
 generalize bst kind ws 7 b (aX ws.length)=q at *;unfold liV at e;unfold bR;rw[aF];unfold fU;simp![ca,lw,lr,e]
def Au{kind:Str}{mo:Int}{ws:List Int}{b:Bx}{n m:Nat}(hk:kind="order" /\ mo=6\/kind="any" /\ mo=5)(hw:∀w∈ws,1<=w)(h0:ws≠[])(hl:(ws.length:Int)<=mo)(H:Ok51 ws (aX ws.length) b n m):∃p,cE.G [bV b,.lst (ws.map .int),.str kind]=.ok (.val p) []/\Brs kind ws (bst kind ws 7 b (aX ws.length)) 7 b (aX ws.length) p true:=by
 have m6:mo<=6:=by rcases hk with ⟨_,rfl⟩ |⟨_,rfl⟩ <;> decide
 have hk':kind="order" \/ kind="any":=hk.imp And.left And.left;have nl:(aX ws.length).length=ws.length:=by unfold aX;rw[w_,OK]
 obtain⟨t,le,_⟩:=n5 hk hw h0 hl H;obtain⟨_,_,_,z,_,_,_⟩:=kf hk' hw 7 (aX ws.length) b n H (by omega);obtain⟨p,hp⟩:=k8 (kind:=kind) (ws:=ws) (bd:=bst kind ws 7 b (aX ws.length)) (k:=7) (b:=b) H.nd H.ne (by omega) Qd;have br:=jq hk' hw z (by omega) 7 (aX ws.length) b n H (by omega);rw[hp] at br;refine⟨p,?_,(mj hp).2⟩;have lw:((ws.map Val.int).length:Nat)=ws.length:=w_ ..;have lr:gQ.G [.int (ws.length:Nat)]=.new (.lst ((aX ws.length).map Val.int)):=by rw[wC ⟨by omega,by omega⟩,<- nt];rfl
 clear hp;generalize bst kind ws 7 b (aX ws.length)=q at *;unfold liV oP at *;unfold cE;rw[aF];unfold jt;simp![le,lw,lr,br,Option.getD_some]
def uk(k:Str):bM.G [.str k]=if (lkS aH k).isSome=true then .ok (.val .non) [] else .exc "NoKind" []:=by
 have i1:(aj aq).G [.str k,.ty "str"]=.val (.bl true):=rfl;unfold bM;rw[aF];unfold gK;cases h:(lkS aH k).isSome with
 |true=>simp![i1,sx,h]
 |false=>simp![i1,sx,h]
def RfB(r w k:Val)(c:Str):Prop:=cE.G [r,w,k]=.exc c []/\∀z p,dN.G [r,w,k,z,p]=.exc c []
def qu{r w k:Val}{c:Str}(ca:aS.G [r,w,k]=.exc c []):RfB r w k c:=by
 have lw:bR.G [r,w,k]=.exc c []:=by unfold bR;rw[aF];unfold fU;simp![ca]
 refine⟨?_,λz p=>?_⟩
 .unfold cE;rw[aF];unfold jt;simp![lw]
 .unfold dN;rw[aF];unfold lE;simp![ca]
def zC{r w k:Val}(ha:cz 2 r=true)(hb:bt r=false):RfB r w k "NoBox":=by have cb:=jP ha;rw[hb,if_neg y_] at cb;refine qu ?_;unfold aS;rw[aF];unfold cC;simp![cb]
def yX{b:Bx}{w k:Val}{c:Str}(hb:b.Ok)(ha:gP w=true)(hc:gL w=.exc c []):RfB (bV b) w k c:=by have cb:=cU hb;have cw:=gz ha;rw[hc] at cw;refine qu ?_;unfold aS;rw[aF];unfold cC;simp![cb,cw]
def xb{b:Bx}{ws:List Int}{k:Str}(hb:b.Ok)(h0:ws≠[])(h1:∀w∈ws,1<=w)(h2:ws.length<=40)(hk:(lkS aH k).isSome=false):RfB (bV b) (liV ws) (.str k) "NoKind":=by have cb:=cU hb;have cw:=mS h0 h1 h2;have ck:=uk k;rw[hk,if_neg y_] at ck;refine qu ?_;unfold aS;rw[aF];unfold cC liV;simp![cb,cw,ck]
def vV{b:Bx}{ws:List Int}{k:Str}{n:Int}(hb:b.Ok)(h0:ws≠[])(h1:∀w∈ws,1<=w)(h2:ws.length<=40)(hk:lkS aH k=some n)(hn:n<(ws.length:Nat)):RfB (bV b) (liV ws) (.str k) "TooMany":=by have cb:=cU hb;have cw:=mS h0 h1 h2;have ck:=uk k;rw[hk] at ck;have ck':bM.G [.str k]=.ok (.val .non) []:=ck;have kg:(md "MOST_THINGS" aH).G (.glb "MOST_THINGS") (.str k)=.val (.int n):=zi hk;have lw:((ws.map Val.int).length:Nat)=ws.length:=w_ ..;have hd:decide (n<((ws.length:Nat):Int))=true:=NX hn;refine qu ?_;unfold aS;rw[aF];unfold cC liV;simp![cb,cw,ck',kg,lw,hd]
def Cq:aZ.G [.exc "NoBox"]=.ok (.val (.str "box")) []:=by have i0:(aj aq).G [.exc "NoBox",.glb "NoBox"]=.val (.bl true):=rfl;have i1:(aj aq).G [.exc "NoBox",.glb "NoWeights"]=.val (.bl false):=rfl;have i2:(aj aq).G [.exc "NoBox",.glb "TooMany"]=.val (.bl false):=rfl;have i3:(aj aq).G [.exc "NoBox",.glb "NoKind"]=.val (.bl false):=rfl;have i4:(aj aq).G [.exc "NoBox",.glb "NoRule"]=.val (.bl false):=rfl;have i5:(aj aq).G [.exc "NoBox",.glb "NoThing"]=.val (.bl false):=rfl;have i6:(aj aq).G [.exc "NoBox",.glb "NoCut"]=.val (.bl false):=rfl;have i7:(aj aq).G [.exc "NoBox",.glb "NoText"]=.val (.bl false):=rfl;have i8:(aj aq).G [.exc "NoBox",.glb "NoRow"]=.val (.bl false):=rfl;have i9:(aj aq).G [.exc "NoBox",.glb "NoName"]=.val (.bl false):=rfl;have i10:(aj aq).G [.exc "NoBox",.glb "Taken"]=.val (.bl false):=rfl;have i11:(aj aq).G [.exc "NoBox",.glb "Unknown"]=.val (.bl false):=rfl;have i12:(aj aq).G [.exc "NoBox",.glb "NoFraction"]=.val (.bl false):=rfl;have i13:(aj aq).G [.exc "NoBox",.glb "NoWay"]=.val (.bl false):=rfl;have i14:(aj aq).G [.exc "NoBox",.glb "NoTree"]=.val (.bl false):=rfl;have iv:(aj aq).G [.exc "NoBox",.ty "ValueError"]=.val (.bl true):=rfl;have ct:gp.G (.lst [.bl true,.bl false,.bl false,.bl false,.bl false,.bl false,.bl false,.bl false,.bl false,.bl false,.bl false,.bl false,.bl false,.bl false,.bl false]) [.bl true]=.val (.int 1):=rfl;have ix:gj.G (.lst [.bl true,.bl false,.bl false,.bl false,.bl false,.bl false,.bl false,.bl false,.bl false,.bl false,.bl false,.bl false,.bl false,.bl false,.bl false]) [.bl true]=.val (.int 0):=rfl;unfold aZ;rw[aF];unfold eT;simp![i0,i1,i2,i3,i4,i5,i6,i7,i8,i9,i10,i11,i12,i13,i14,iv,ct,ix]
def rV:aZ.G [.exc "NoWeights"]=.ok (.val (.str "weights")) []:=by have i0:(aj aq).G [.exc "NoWeights",.glb "NoBox"]=.val (.bl false):=rfl;have i1:(aj aq).G [.exc "NoWeights",.glb "NoWeights"]=.val (.bl true):=rfl;have i2:(aj aq).G [.exc "NoWeights",.glb "TooMany"]=.val (.bl false):=rfl;have i3:(aj aq).G [.exc "NoWeights",.glb "NoKind"]=.val (.bl false):=rfl;have i4:(aj aq).G [.exc "NoWeights",.glb "NoRule"]=.val (.bl false):=rfl;have i5:(aj aq).G [.exc "NoWeights",.glb "NoThing"]=.val (.bl false):=rfl;have i6:(aj aq).G [.exc "NoWeights",.glb "NoCut"]=.val (.bl false):=rfl;have i7:(aj aq).G [.exc "NoWeights",.glb "NoText"]=.val (.bl false):=rfl;have i8:(aj aq).G [.exc "NoWeights",.glb "NoRow"]=.val (.bl false):=rfl;have i9:(aj aq).G [.exc "NoWeights",.glb "NoName"]=.val (.bl false):=rfl;have i10:(aj aq).G [.exc "NoWeights",.glb "Taken"]=.val (.bl false):=rfl;have i11:(aj aq).G [.exc "NoWeights",.glb "Unknown"]=.val (.bl false):=rfl;have i12:(aj aq).G [.exc "NoWeights",.glb "NoFraction"]=.val (.bl false):=rfl;have i13:(aj aq).G [.exc "NoWeights",.glb "NoWay"]=.val (.bl false):=rfl;have i14:(aj aq).G [.exc "NoWeights",.glb "NoTree"]=.val (.bl false):=rfl;have iv:(aj aq).G [.exc "NoWeights",.ty "ValueError"]=.val (.bl true):=rfl;have ct:gp.G (.lst [.bl false,.bl true,.bl false,.bl false,.bl false,.bl false,.bl false,.bl false,.bl false,.bl false,.bl false,.bl false,.bl false,.bl false,.bl false]) [.bl true]=.val (.int 1):=rfl;have ix:gj.G (.lst [.bl false,.bl true,.bl false,.bl false,.bl false,.bl false,.bl false,.bl false,.bl false,.bl false,.bl false,.bl false,.bl false,.bl false,.bl false]) [.bl true]=.val (.int 1):=rfl;unfold aZ;rw[aF];unfold eT;simp![i0,i1,i2,i3,i4,i5,i6,i7,i8,i9,i10,i11,i12,i13,i14,iv,ct,ix]
def yL:aZ.G [.exc "TooMany"]=.ok (.val (.str "many")) []:=by have i0:(aj aq).G [.exc "TooMany",.glb "NoBox"]=.val (.bl false):=rfl;have i1:(aj aq).G [.exc "TooMany",.glb "NoWeights"]=.val (.bl false):=rfl;have i2:(aj aq).G [.exc "TooMany",.glb "TooMany"]=.val (.bl true):=rfl;have i3:(aj aq).G [.exc "TooMany",.glb "NoKind"]=.val (.bl false):=rfl;have i4:(aj aq).G [.exc "TooMany",.glb "NoRule"]=.val (.bl false):=rfl;have i5:(aj aq).G [.exc "TooMany",.glb "NoThing"]=.val (.bl false):=rfl;have i6:(aj aq).G [.exc "TooMany",.glb "NoCut"]=.val (.bl false):=rfl;have i7:(aj aq).G [.exc "TooMany",.glb "NoText"]=.val (.bl false):=rfl;have i8:(aj aq).G [.exc "TooMany",.glb "NoRow"]=.val (.bl false):=rfl;have i9:(aj aq).G [.exc "TooMany",.glb "NoName"]=.val (.bl false):=rfl;have i10:(aj aq).G [.exc "TooMany",.glb "Taken"]=.val (.bl false):=rfl;have i11:(aj aq).G [.exc "TooMany",.glb "Unknown"]=.val (.bl false):=rfl;have i12:(aj aq).G [.exc "TooMany",.glb "NoFraction"]=.val (.bl false):=rfl;have i13:(aj aq).G [.exc "TooMany",.glb "NoWay"]=.val (.bl false):=rfl;have i14:(aj aq).G [.exc "TooMany",.glb "NoTree"]=.val (.bl false):=rfl;have iv:(aj aq).G [.exc "TooMany",.ty "ValueError"]=.val (.bl true):=rfl;have ct:gp.G (.lst [.bl false,.bl false,.bl true,.bl false,.bl false,.bl false,.bl false,.bl false,.bl false,.bl false,.bl false,.bl false,.bl false,.bl false,.bl false]) [.bl true]=.val (.int 1):=rfl;have ix:gj.G (.lst [.bl false,.bl false,.bl true,.bl false,.bl false,.bl false,.bl false,.bl false,.bl false,.bl false,.bl false,.bl false,.bl false,.bl false,.bl false]) [.bl true]=.val (.int 2):=rfl;unfold aZ;rw[aF];unfold eT;simp![i0,i1,i2,i3,i4,i5,i6,i7,i8,i9,i10,i11,i12,i13,i14,iv,ct,ix]
def yP:aZ.G [.exc "NoKind"]=.ok (.val (.str "kind")) []:=by have i0:(aj aq).G [.exc "NoKind",.glb "NoBox"]=.val (.bl false):=rfl;have i1:(aj aq).G [.exc "NoKind",.glb "NoWeights"]=.val (.bl false):=rfl;have i2:(aj aq).G [.exc "NoKind",.glb "TooMany"]=.val (.bl false):=rfl;have i3:(aj aq).G [.exc "NoKind",.glb "NoKind"]=.val (.bl true):=rfl;have i4:(aj aq).G [.exc "NoKind",.glb "NoRule"]=.val (.bl false):=rfl;have i5:(aj aq).G [.exc "NoKind",.glb "NoThing"]=.val (.bl false):=rfl;have i6:(aj aq).G [.exc "NoKind",.glb "NoCut"]=.val (.bl false):=rfl;have i7:(aj aq).G [.exc "NoKind",.glb "NoText"]=.val (.bl false):=rfl;have i8:(aj aq).G [.exc "NoKind",.glb "NoRow"]=.val (.bl false):=rfl;have i9:(aj aq).G [.exc "NoKind",.glb "NoName"]=.val (.bl false):=rfl;have i10:(aj aq).G [.exc "NoKind",.glb "Taken"]=.val (.bl false):=rfl;have i11:(aj aq).G [.exc "NoKind",.glb "Unknown"]=.val (.bl false):=rfl;have i12:(aj aq).G [.exc "NoKind",.glb "NoFraction"]=.val (.bl false):=rfl;have i13:(aj aq).G [.exc "NoKind",.glb "NoWay"]=.val (.bl false):=rfl;have i14:(aj aq).G [.exc "NoKind",.glb "NoTree"]=.val (.bl false):=rfl;have iv:(aj aq).G [.exc "NoKind",.ty "ValueError"]=.val (.bl true):=rfl;have ct:gp.G (.lst [.bl false,.bl false,.bl false,.bl true,.bl false,.bl false,.bl false,.bl false,.bl false,.bl false,.bl false,.bl false,.bl false,.bl false,.bl false]) [.bl true]=.val (.int 1):=rfl;have ix:gj.G (.lst [.bl false,.bl false,.bl false,.bl true,.bl false,.bl false,.bl false,.bl false,.bl false,.bl false,.bl false,.bl false,.bl false,.bl false,.bl false]) [.bl true]=.val (.int 3):=rfl;unfold aZ;rw[aF];unfold eT;simp![i0,i1,i2,i3,i4,i5,i6,i7,i8,i9,i10,i11,i12,i13,i14,iv,ct,ix]
def jV(c:Str):Str:=if c="NoBox" then "box" else if c="NoWeights" then "weights" else if c="TooMany" then "many" else "kind"
def hZ{r w k p:Val}{c:Str}(h:RfB r w k c)(hc:c="NoBox" \/ c="NoWeights" \/ c="TooMany" \/ c="NoKind"):bX.G [r,w,k,p]=.ok (.new (.lst [.str (jV c),.str (jV c)])) []:=by
 have m:∀x:Str,x="NoBox" \/ x="NoWeights" \/ x="TooMany" \/ x="NoKind"->x∈eB:=by rintro x (rfl |rfl |rfl |rfl) <;> decide +kernel
 have w1:aZ.G [.exc c]=.ok (.val (.str (jV c))) []:=by
  rcases hc with rfl |rfl |rfl |rfl
  .exact Cq
  .exact rV
  .exact yL
  .exact yP
 have mc:=m c hc;obtain⟨h1,h2⟩:=h;have h3:=h2 (.tup [.int 3,.int 2]) p;clear h2 hc m;generalize jV c=wo at *;unfold bX;rw[aF];unfold iq;simp![nN,h1,h3,mc,w1]
def vR{r w k p:Val}{xs:List Val}{t:Bool}(h:cE.G [r,w,k]=.ok (.val (.tup xs)) [])(h2:dN.G [r,w,k,.tup [.int 3,.int 2],p]=.ok (.val (.bl t)) []):bX.G [r,w,k,p]=.ok (.new (.lst [.str "told",.str "told"])) []:=by have i1:∀xs:List Val,(aj aq).G [.tup xs,.ty "tuple"]=.val (.bl true):=λ_=>rfl;have i2:(aj aq).G [.bl t,.ty "bool"]=.val (.bl true):=rfl;unfold bX;rw[aF];unfold iq;simp![nN,h,h2,i1,i2]
def bx_a{a b c d:Val}(h:aM a=false):bt (.tup [a,b,c,d])=false:=by simp [bt,h]
def bx_b{a b c d:Val}(h:aM b=false):bt (.tup [a,b,c,d])=false:=by simp [bt,h]
def bx_c{a b c d:Val}(h:aM c=false):bt (.tup [a,b,c,d])=false:=by simp [bt,h]
def bx_d{a b c d:Val}(h:aM d=false):bt (.tup [a,b,c,d])=false:=by simp [bt,h]
def fV0(i j:Int):Val:=.tup [.int i,.int j]
structure Odd4(a b c d:Val):Prop where
 ka:cz 1 a=true
 kb:cz 1 b=true
 kc:cz 1 c=true
 kd:cz 1 d=true
 no:bt (.tup [a,b,c,d])=false
def orQ(n:Nat)(r:SR3):Prop:=∃x v' rt,(rt=.val x\/rt=.new x)/\Fd (n+6) v'/\cz 2 x=true/\bt x=false/\qV [true] r=.ok rt [v']
def tP{n:Nat}{v:Val}(f:Fd n v)(hn:n<=1000000):∃x v' rt,(rt=.val x\/rt=.new x)/\Fd (n+6) v'/\cz 2 x=true/\bt x=false/\dP.G [v]=.ok rt [v']:=by
 show ∃x v' rt,(rt=.val x\/rt=.new x)/\Fd (n+6) v'/\cz 2 x=true/\bt x=false/\(fnP [true] 5 dS).G [v]=.ok rt [v'];rw[vx rfl];show orQ n (dS.G _);unfold dS;rw[show sls [true] [v]++List.replicate (5-[v].length) .no=[.mu v,.no,.no,.no,.no] from rfl];have i01:∀i j:Int,fV0 i j=.tup [.int i,.int j]:=λ_ _=>rfl;refine aP (λe=>e=[.mu v,.ow (.lst [fV0 0 1,fV0 0 1,fV0 3 1,fV0 2 1]),.no,.no,.no]) ⟨_,by simp![i01],rfl⟩ ?_;rintro _ rfl;obtain⟨a,v1,e1,f1,a0,a1⟩:=aQ (m:=4) f (by omega) (by decide) (sm8 (by decide));refine aP (λe=>e=[.mu v1,.ow (.lst [fV0 0 1,fV0 0 1,fV0 3 1,fV0 2 1]),.sh (.int a),.no,.no]) ⟨_,by simp![e1],rfl⟩ ?_;rintro _ rfl;obtain⟨b,v2,e2,f2,b0,b1⟩:=aQ (m:=10) f1 (by omega) (by decide) (sm8 (by decide));refine aP (λe=>∃bad,cz 1 bad=true/\aM bad=false/\e=[.mu v2,.ow (.lst [fV0 0 1,fV0 0 1,fV0 3 1,fV0 2 1]),.sh (.int a),.sh bad,.no]) ?_ ?_
 .have at8:∀(q w e r t y u i o p:Val),atI [q,w,e,r,t,y,u,i,o,p] 8=some o:=λ_ _ _ _ _ _ _ _ _ _=>rfl;have at9:∀(q w e r t y u i o p:Val),atI [q,w,e,r,t,y,u,i,o,p] 9=some p:=λ_ _ _ _ _ _ _ _ _ _=>rfl;obtain rfl |rfl |rfl |rfl |rfl |rfl |rfl |rfl |rfl |rfl:b=0\/b=1\/b=2\/b=3\/b=4\/b=5\/b=6\/b=7\/b=8\/b=9:=by omega
  .exact⟨_,by simp![e2],.tup [.int 2,.int 4],rfl,rfl,rfl⟩
  .exact⟨_,by simp![e2],.tup [.int 1,.int 0],rfl,rfl,rfl⟩
  .exact⟨_,by simp![e2],.tup [.int 1,.int (-2)],rfl,rfl,rfl⟩
  .exact⟨_,by simp![e2],.int 5,rfl,rfl,rfl⟩
  .exact⟨_,by simp![e2],.non,rfl,rfl,rfl⟩
  .exact⟨_,by simp![e2],.str "1",rfl,rfl,rfl⟩
  .exact⟨_,by simp![e2],.tup [.bl true,.int 1],rfl,rfl,rfl⟩
  .exact⟨_,by simp![e2],.tup [.int 1,.int 1,.int 1],rfl,rfl,rfl⟩
  .exact⟨_,by simp![e2,at8],.lst [.int 1,.int 1],rfl,rfl,rfl⟩
  .exact⟨_,by simp![e2,at9],.tup [.int 0,.int 2],rfl,rfl,rfl⟩
 rintro _ ⟨bad,kb,nb,rfl⟩;refine aP (λe=>∃p q r s,Odd4 p q r s/\e=[.mu v2,.ow (.lst [p,q,r,s]),.sh (.int a),.sh bad,.no]) ?_ ?_
 .obtain rfl |rfl |rfl |rfl:a=0\/a=1\/a=2\/a=3:=by omega
  .exact⟨_,by simp![dD],bad,(fV0 0 1),(fV0 3 1),(fV0 2 1),⟨kb,rfl,rfl,rfl,bx_a nb⟩,rfl⟩
  .exact⟨_,by simp![dD],(fV0 0 1),bad,(fV0 3 1),(fV0 2 1),⟨rfl,kb,rfl,rfl,bx_b nb⟩,rfl⟩
  .exact⟨_,by simp![dD],(fV0 0 1),(fV0 0 1),bad,(fV0 2 1),⟨rfl,rfl,kb,rfl,bx_c nb⟩,rfl⟩
  .exact⟨_,by simp![dD],(fV0 0 1),(fV0 0 1),(fV0 3 1),bad,⟨rfl,rfl,rfl,kb,bx_d nb⟩,rfl⟩
 rintro _ ⟨p,q,r,s,od,rfl⟩;obtain⟨c,v3,e3,f3,c0,c1⟩:=aQ (m:=3) f2 (by omega) (by decide) (sm8 (by decide));refine aP (λe=>∃v p q r s,Fd (n+5) v/\Odd4 p q r s/\e=[.mu v,.ow (.lst [p,q,r,s]),.sh (.int a),.sh bad,.no]) ?_ ?_
 .by_cases hc:c=0
  .subst hc;obtain⟨g,v4,e4,f4,g0,g1⟩:=aQ (m:=2) f3 (by omega) (by decide) (sm8 (by decide));obtain⟨h,v5,e5,f5,h0,h1⟩:=aQ (m:=2) f4 (by omega) (by decide) (sm8 (by decide));obtain rfl |rfl:g=0\/g=1:=by omega
   .obtain rfl |rfl:h=0\/h=1:=by omega
    .exact⟨_,by simp![e3,e4,e5,i01],v5,fV0 0 1,fV0 0 1,fV0 0 1,fV0 2 1,f5,⟨rfl,rfl,rfl,rfl,rfl⟩,rfl⟩
    .exact⟨_,by simp![e3,e4,e5,i01],v5,fV0 0 1,fV0 0 1,fV0 3 1,fV0 0 1,f5,⟨rfl,rfl,rfl,rfl,rfl⟩,rfl⟩
   .obtain rfl |rfl:h=0\/h=1:=by omega
    .exact⟨_,by simp![e3,e4,e5,i01],v5,fV0 0 1,fV0 0 1,fV0 (-1) 3,fV0 2 1,f5,⟨rfl,rfl,rfl,rfl,rfl⟩,rfl⟩
    .exact⟨_,by simp![e3,e4,e5,i01],v5,fV0 0 1,fV0 0 1,fV0 3 1,fV0 (-1) 3,f5,⟨rfl,rfl,rfl,rfl,rfl⟩,rfl⟩
  .have hc':(c==0)=false:=by rw[N3];exact hc
   exact⟨_,by simp![e3,hc'],v3,p,q,r,s,f3.mono (by omega),od,rfl⟩
 rintro _ ⟨v,p,q,r,s,f,od,rfl⟩;have s3:aSl (.lst [p,q,r,s]) none (some 3)=.new (.lst [p,q,r]):=rfl;have s1:aSl (.lst [p,q,r,s]) none (some 1)=.new (.lst [p]):=rfl;have x8:ixN 10 8=some 8:=rfl;have x3:ixN 10 3=some 3:=rfl;have x4:ixN 10 4=some 4:=rfl;have x5:ixN 10 5=some 5:=rfl;have itl:∀xs:List Val,(Val.lst xs).items=some xs:=λ_=>rfl;refine aP (λe=>e=[.mu v,.ow (.lst [p,q,r,s]),.sh (.int a),.sh bad,.ow (.lst [.tup [p,q,r,s],.tup [p,q,r,s],.tup [p,q,r,s],.lst [p,q,r,s],.tup [p,q,r],.tup [p,q,r,s,p],.non,.tup [],.int 7,.str "room"])]) ⟨_,by simp![s3,s1,itl],rfl⟩ ?_;rintro _ rfl;refine aP (λe=>e=[.mu v,.ow (.lst [p,q,r,s]),.sh (.int a),.sh bad,.ow (.lst [.tup [p,q,r,s],.tup [p,q,r,s],.tup [p,q,r,s],.lst [p,q,r,s],.tup [p,q,r],.tup [p,q,r,s,p],.non,.tup [],.tup [fV0 0 1,fV0 0 1,fV0 (-1) 3,fV0 (-2) 1],.str "room"])]) ⟨_,by simp![x8,i01],rfl⟩ ?_;rintro _ rfl;refine aP (λe=>e=[.mu v,.ow (.lst [p,q,r,s]),.sh (.int a),.sh bad,.ow (.lst [.tup [p,q,r,s],.tup [p,q,r,s],.tup [p,q,r,s],.lst [fV0 0 1,fV0 0 1,fV0 1 1,fV0 1 1],.tup [p,q,r],.tup [p,q,r,s,p],.non,.tup [],.tup [fV0 0 1,fV0 0 1,fV0 (-1) 3,fV0 (-2) 1],.str "room"])]) ⟨_,by simp![x3,i01],rfl⟩ ?_;rintro _ rfl;refine aP (λe=>e=[.mu v,.ow (.lst [p,q,r,s]),.sh (.int a),.sh bad,.ow (.lst [.tup [p,q,r,s],.tup [p,q,r,s],.tup [p,q,r,s],.lst [fV0 0 1,fV0 0 1,fV0 1 1,fV0 1 1],.tup [fV0 0 1,fV0 0 1,fV0 1 1],.tup [p,q,r,s,p],.non,.tup [],.tup [fV0 0 1,fV0 0 1,fV0 (-1) 3,fV0 (-2) 1],.str "room"])]) ⟨_,by simp![x4,i01],rfl⟩ ?_;rintro _ rfl;refine aP (λe=>e=[.mu v,.ow (.lst [p,q,r,s]),.sh (.int a),.sh bad,.ow (.lst [.tup [p,q,r,s],.tup [p,q,r,s],.tup [p,q,r,s],.lst [fV0 0 1,fV0 0 1,fV0 1 1,fV0 1 1],.tup [fV0 0 1,fV0 0 1,fV0 1 1],.tup [fV0 0 1,fV0 0 1,fV0 1 1,fV0 1 1,fV0 1 1],.non,.tup [],.tup [fV0 0 1,fV0 0 1,fV0 (-1) 3,fV0 (-2) 1],.str "room"])]) ⟨_,by simp![x5,i01],rfl⟩ ?_;rintro _ rfl;obtain⟨d,v6,e6,f6,d0,d1⟩:=aQ (m:=10) f (by omega) (by decide) (sm8 (by decide));have at8:∀(q w e r t y u i o p:Val),atI [q,w,e,r,t,y,u,i,o,p] 8=some o:=λ_ _ _ _ _ _ _ _ _ _=>rfl;have at9:∀(q w e r t y u i o p:Val),atI [q,w,e,r,t,y,u,i,o,p] 9=some p:=λ_ _ _ _ _ _ _ _ _ _=>rfl;have kt:cz 2 (.tup [p,q,r,s])=true:=by show [p,q,r,s].all (cz 1)=true;simp [od.ka,od.kb,od.kc,od.kd]
 obtain rfl |rfl |rfl |rfl |rfl |rfl |rfl |rfl |rfl |rfl:d=0\/d=1\/d=2\/d=3\/d=4\/d=5\/d=6\/d=7\/d=8\/d=9:=by omega
 .exact⟨.tup [p,q,r,s],v6,_,.inl rfl,f6,kt,od.no,by simp![e6,bN]⟩
 .exact⟨.tup [p,q,r,s],v6,_,.inl rfl,f6,kt,od.no,by simp![e6,bN]⟩
 .exact⟨.tup [p,q,r,s],v6,_,.inl rfl,f6,kt,od.no,by simp![e6,bN]⟩
 .exact⟨.lst [fV0 0 1,fV0 0 1,fV0 1 1,fV0 1 1],v6,_,.inl rfl,f6,rfl,rfl,by simp![e6,bN]⟩
 .exact⟨.tup [fV0 0 1,fV0 0 1,fV0 1 1],v6,_,.inl rfl,f6,rfl,rfl,by simp![e6,bN]⟩
 .exact⟨.tup [fV0 0 1,fV0 0 1,fV0 1 1,fV0 1 1,fV0 1 1],v6,_,.inl rfl,f6,rfl,rfl,by simp![e6,bN]⟩
 .exact⟨.non,v6,_,.inl rfl,f6,rfl,rfl,by simp![e6,bN]⟩
 .exact⟨.tup [],v6,_,.inl rfl,f6,rfl,rfl,by simp![e6,bN]⟩
 .exact⟨.tup [fV0 0 1,fV0 0 1,fV0 (-1) 3,fV0 (-2) 1],v6,_,.inl rfl,f6,rfl,rfl,by simp![e6,at8,bN]⟩
 .exact⟨.str "room",v6,_,.inl rfl,f6,rfl,rfl,by simp![e6,at9,bN]⟩
def p20:nK.G (.int 10) (.int 20)=.val (.int 100000000000000000000):=Ct ⟨by decide,by decide,by decide⟩
def owQ(n:Nat)(r:SR3):Prop:=∃x v' rt,(rt=.val x\/rt=.new x)/\Fd (n+20) v'/\gP x=true/\gL x=.exc "NoWeights" []/\qV [true] r=.ok rt [v']
theorem lc9:∀(vs acc:List Val) (n:Nat) (v:Val) (s:Sl),Fd n v->s.pl=true->n+vs.length<=100000000->acc.length+vs.length<=16777216->∃(ws:List Int) (s':Sl) (v':Val),ws.length=vs.length/\(∀w∈ws,1<=w/\w<=9)/\Fd (n+vs.length) v'/\s'.pl=true/\lcV (gtN 0).G qY.G (pOp aN (ah 1) (ai au (aa (af 1) (aa (ah 9) ag)))).G vs acc [s,.mu v]=.ok (acc++ws.map .int) [s',.mu v']
 | [],acc,n,v,s,f,hs,_,_=>⟨[],s,v,rfl,(λ_ h=>nomatch h),f,hs,by simp [lcV]⟩
 |
  x::vs,acc,n,v,s,f,hs,hn,hl=>by
  rw[I_] at hn hl;obtain⟨a,v1,e1,f1,a0,a1⟩:=aQ (m:=9) f (by omega) (by decide) (sm8 (by decide));obtain⟨ws,s',v',q1,q2,q3,q4,q5⟩:=lc9 vs (acc++[.int (1+a)]) (n+1) v1 (.sh x) f1 rfl (by omega) (by rw[F_];show acc.length+1+_<=_;omega);refine⟨(1+a)::ws,s',v',by rw[I_,I_,q1],?_,by rw[I_,show n+(vs.length+1)=n+1+vs.length by omega];exact q3,q4,?_⟩
  .intro w hw;rcases NZ.mp hw with rfl |hw
   .omega
   .exact q2 w hw
  .have g1:(gtN 0).G x [s,.mu v]=some [.sh x,.mu v]:=by simp![hs]
   have F1:(pOp aN (ah 1) (ai au (aa (af 1) (aa (ah 9) ag)))).G [.sh x,.mu v]=.ok (.val (.int (1+a))) [.sh x,.mu v1]:=by simp![e1]
   have d1:bP [.sh x,.mu v1] (.val (.int (1+a)))=some ([.sh x,.mu v1],.int (1+a)):=rfl;unfold lcV;have cy:qY.G=cY:=rfl;rw[cy] at q5 ⊢;rw[if_pos (by omega),g1];simp only[cY,dD,OL,F1,d1,q5];simp
def MM{xs:List Val}{x:Val}(h:x∈xs)(hx:eR x=false):gL (.lst xs)=.exc "NoWeights" []:=by
 have h1:xs≠[]:=λz=>by rw[z] at h;exact nomatch h
 have h2:¬ xs.all eR=true:=λz=>by rw[NY] at z;rw[z x h] at hx;cases hx
 unfold gL;dsimp only;rw[if_neg h1,if_neg h2]
def nZ{n:Nat}{v:Val}(f:Fd n v)(hn:n<=1000000):∃x v' rt,(rt=.val x\/rt=.new x)/\Fd (n+20) v'/\gP x=true/\gL x=.exc "NoWeights" []/\cS.G [v]=.ok rt [v']:=by
 show ∃x v' rt,(rt=.val x\/rt=.new x)/\Fd (n+20) v'/\gP x=true/\gL x=.exc "NoWeights" []/\(fnP [true] 3 cR).G [v]=.ok rt [v'];rw[vx rfl];show owQ n (cR.G _);unfold cR;rw[show sls [true] [v]++List.replicate (3-[v].length) .no=[.mu v,.no,.no] from rfl];obtain⟨a,v1,e1,f1,a0,a1⟩:=aQ (m:=5) f (by omega) (by decide) (sm8 (by decide));have rg:=iH (i:=1+a) (by omega) (by omega);obtain⟨ws,s',v2,wl,wr,f2,_,lc⟩:=lc9 (rgV (1+a).toNat) [] (n+1) v1 .no f1 rfl (by rw[ky];omega) (by rw[ky,Od];omega);rw[ky] at wl f2;rw[N7] at lc;have lw:(ws.map Val.int).length<=16777216:=by rw[w_];omega
 refine aP (λe=>e=[.mu v2,.ow (.lst (ws.map .int)),.no]) ⟨_,by simp![e1,rg,bQ,lc,lw],rfl⟩ ?_;rintro _ rfl;have lm:((ws.map Val.int).length:Nat)=ws.length:=w_ ..;obtain⟨b,v3,e3,f3,b0,b1⟩:=aQ (m:=(ws.length:Nat)) f2 (by omega) (by omega) (sm8 (by omega));refine aP (λe=>e=[.mu v3,.ow (.lst (ws.map .int)),.sh (.int b)]) ⟨_,by simp![lm,e3],rfl⟩ ?_;rintro _ rfl;obtain⟨c,v4,e4,f4,c0,c1⟩:=aQ (m:=8) f3 (by omega) (by decide) (sm8 (by decide));have ixb:ixN (ws.map Val.int).length b=some b.toNat:=jO b0 (by rw[w_];omega);refine aP (λe=>∃bad,knV bad=true/\eR bad=false/\e=[.mu v4,.ow (.lst ((ws.map .int).set b.toNat bad)),.sh (.int b)]) ?_ ?_
 .obtain rfl |rfl |rfl |rfl |rfl |rfl |rfl |rfl:c=0\/c=1\/c=2\/c=3\/c=4\/c=5\/c=6\/c=7:=by omega
  .exact⟨_,by simp![e4,p20,ixb],.int 0,rfl,rfl,rfl⟩
  .exact⟨_,by simp![e4,p20,ixb],.int (-1),rfl,rfl,rfl⟩
  .exact⟨_,by simp![e4,p20,ixb],.bl true,rfl,rfl,rfl⟩
  .exact⟨_,by simp![e4,p20,ixb],.non,rfl,rfl,rfl⟩
  .exact⟨_,by simp![e4,p20,ixb],.str "2",rfl,rfl,rfl⟩
  .exact⟨_,by simp![e4,p20,ixb],.tup [.int 1],rfl,rfl,rfl⟩
  .exact⟨_,by simp![e4,p20,ixb],.lst [.int 1],rfl,rfl,rfl⟩
  .exact⟨_,by simp![e4,p20,ixb],.int (-100000000000000000000),rfl,rfl,rfl⟩
 rintro _ ⟨bad,kb,nb,rfl⟩;have hb:bad∈(ws.map Val.int).set b.toNat bad:=List.mem_set (by rw[w_];omega) _;have ka:gP (.lst ((ws.map Val.int).set b.toNat bad))=true:=by
  show (decide (((ws.map Val.int).set b.toNat bad).length<=1000)&&((ws.map Val.int).set b.toNat bad).all knV)=true;rw[NU,w_,NX (by omega),Bool.true_and,NY];intro x hx;rcases Pr hx with hx |rfl
  .obtain⟨w,_,rfl⟩:=Oe.mp hx;rfl
  .exact kb
 have na:=MM hb nb;generalize (ws.map Val.int).set b.toNat bad=L at *;obtain⟨d,v5,e5,f5,d0,d1⟩:=aQ (m:=9) f4 (by omega) (by decide) (sm8 (by decide));have f6:Fd (n+20) v5:=f5.mono (by omega);have at8:∀(q w e r t y u i o:Val),atI [q,w,e,r,t,y,u,i,o] 8=some o:=λ_ _ _ _ _ _ _ _ _=>rfl;obtain rfl |rfl |rfl |rfl |rfl |rfl |rfl |rfl |rfl:d=0\/d=1\/d=2\/d=3\/d=4\/d=5\/d=6\/d=7\/d=8:=by omega
 .exact⟨.lst L,v5,_,.inl rfl,f6,ka,na,by simp![e5,bN]⟩
 .exact⟨.lst L,v5,_,.inl rfl,f6,ka,na,by simp![e5,bN]⟩
 .exact⟨.lst L,v5,_,.inl rfl,f6,ka,na,by simp![e5,bN]⟩
 .exact⟨.lst [],v5,_,.inl rfl,f6,rfl,rfl,by simp![e5,bN]⟩
 .exact⟨.tup [.int 1,.int 2],v5,_,.inl rfl,f6,rfl,rfl,by simp![e5,bN]⟩
 .exact⟨.non,v5,_,.inl rfl,f6,rfl,rfl,by simp![e5,bN]⟩
 .exact⟨.int 3,v5,_,.inl rfl,f6,rfl,rfl,by simp![e5,bN]⟩
 .exact⟨.str "12",v5,_,.inl rfl,f6,rfl,rfl,by simp![e5,bN]⟩
 .exact⟨.dct [],v5,_,.inl rfl,f6,rfl,rfl,by simp![e5,at8,bN]⟩
def pp8(p:Val):Prop:=p=.non\/p=.tup []\/p=.int 5\/p=.str "cases" \/ p=.tup [.str "cases",.tup []]\/p=.lst [.tup [.str "shape"]]\/p=.tup [.str "thin",.int 0]\/p=.tup [.str "shape"]
def M4{kind:Str}{ws:List Int}{m β n:Nat}{bd:Rat}{b:Bx}{nums:List Int}{p:Val}(hk:kind="order" \/ kind="any")(hw:∀w∈ws,1<=w)(zb:Sz β bd)(hβ:β<=8000)(H:Ok51 ws nums b n m)(h0:(0:Int)∈nums)(hp:pp8 p):∃t,(bz 7).G [p,bV b,liV nums,.tup [liV ws,.str kind,fV bd]]=.ok (.val (.bl t)) []:=by
 have hpos:=N5.mpr H.ne;have lq:((nums.map Val.int).length:Nat)=nums.length:=w_ ..;rcases hp with rfl |rfl |rfl |rfl |rfl |rfl |rfl |rfl
 .refine⟨false,?_⟩;have i:(aj aq).G [.non,.ty "tuple"]=.val (.bl false):=rfl;show (PFx.of [false,false,false,false] 6 (a8 (bz 6))).G _=_;rw[dW];unfold a8;generalize fV bd=z;unfold liV;simp![i]
 .refine⟨false,?_⟩;show (PFx.of [false,false,false,false] 6 (a8 (bz 6))).G _=_;rw[dW];unfold a8;generalize fV bd=z;unfold liV;simp![dU]
 .refine⟨false,?_⟩;have i:(aj aq).G [.int 5,.ty "tuple"]=.val (.bl false):=rfl;show (PFx.of [false,false,false,false] 6 (a8 (bz 6))).G _=_;rw[dW];unfold a8;generalize fV bd=z;unfold liV;simp![i]
 .refine⟨false,?_⟩;have i:(aj aq).G [.str "cases",.ty "tuple"]=.val (.bl false):=rfl;show (PFx.of [false,false,false,false] 6 (a8 (bz 6))).G _=_;rw[dW];unfold a8;generalize fV bd=z;unfold liV;simp![i]
 .refine⟨false,?_⟩;show (PFx.of [false,false,false,false] 6 (a8 (bz 6))).G _=_;rw[dW];unfold a8;by_cases h1:nums.length=1
  .have hd:decide (1<((nums.length:Nat):Int))=false:=L_ (by omega);generalize fV bd=z;unfold liV;simp![dU,wJ,vU,lq,hd]
  .have hd:decide (1<((nums.length:Nat):Int))=true:=NX (by omega);have co:=gf hk H.ne H.len;have cn:aE kind nums≠[]:=ox (by omega);have cl:((0:Int)==((((aE kind nums).map cuV).length:Nat):Int))=false:=by
    rw[N3,w_]
    have:=N5.mpr cn
    omega
   have ac:(bF (bz 6)).G [.tup [],bV b,liV nums,.tup [liV ws,.str kind,fV bd]]=.ok (.val (.bl false)) []:=by unfold bF;rw[aF];unfold eW;generalize (aE kind nums).map cuV=cv at *;generalize fV bd=z at *;generalize liV nums=xn at *;generalize liV ws=xw at *;simp![co,cl]
   generalize fV bd=z at *;unfold liV at *;simp![dU,wJ,vU,lq,hd,ac]
 .refine⟨false,?_⟩;have i:(aj aq).G [.lst [.tup [.str "shape"]],.ty "tuple"]=.val (.bl false):=rfl;show (PFx.of [false,false,false,false] 6 (a8 (bz 6))).G _=_;rw[dW];unfold a8;generalize fV bd=z;unfold liV;simp![i]
 .exact⟨_,vd hk hw zb hβ (.th h0) n H⟩
 .by_cases h1:nums.length=1
  .exact⟨_,vd hk hw zb hβ (.sh h1) n H⟩
  .have hd:(((nums.length:Nat):Int)==1)=false:=by rw[N3];omega
   refine⟨false,?_⟩;show (PFx.of [false,false,false,false] 6 (a8 (bz 6))).G _=_;rw[dW];unfold a8;generalize fV bd=z;unfold liV;simp![dU,CT,lq,hd]
abbrev s1(x:Str):List Str:=[x]
def RmI(r:Val)(D:List Str):Prop:=(D=[]/\∃b:Bx,b.Ok/\b.Sz 10/\r=bV b)\/(D=s1 "box" /\ cz 2 r=true/\bt r=false)
def WtI(w:Val)(most:Int)(n_:Bool)(D:List Str):Prop:=(∃c:Str,(c="NoWeights" \/ c="TooMany")/\gP w=true/\gL w=.exc c []/\D=[jV c])\/(D=[]/\∃ws:List Int,w=liV ws/\ws≠[]/\(∀x∈ws,1<=x)/\ws.length<=40/\((n_=true/\most<(ws.length:Nat))\/(n_=false/\ws.length<=6/\(ws.length:Nat)<=most/\∀x∈ws,x<=5)))
def KdI(k:Str)(most:Int)(D:List Str):Prop:=(D=[]/\((k="order" /\ most=6)\/(k="any" /\ most=5)))\/(D=s1 "kind" /\ lkS aH k=none)
def Fo(n:Nat):(aX n).Nodup:=by unfold aX;rw[List.nodup_iff_pairwise_ne,List.pairwise_map];exact List.nodup_range.imp λh z=>h (Int.ofNat.inj z)
theorem C6{ws:List Int}(h1:∀x∈ws,1<=x)(h5:∀x∈ws,x<=5):∀l:List Int,Inr ws l->0<=wt ws l/\wt ws l<=5*(l.length:Nat)
 | [],_=>⟨by simp [wt],by simp [wt]⟩
 |
  i::l,h=>by
  obtain⟨p1,p2⟩:=C6 h1 h5 l λj hj=>h j (A_ _ hj);have hi:=h i (G_ ..);have hm:bU ws i∈ws:=by unfold bU;rw[Ou,M_ (by omega)];exact List.getElem_mem _
  have a:=h1 _ hm;have b:=h5 _ hm;rw[show wt ws (i::l)=bU ws i+wt ws l from by unfold wt;simp,I_];omega
theorem Dw{kind:Str}:∀{k:Nat}{nums:List Int}{v:Val},Pap kind k nums v->∃xs,v=.tup xs
 |0,_,_,h=>h.elim
 |
  k+1,_,_,h=>by
  rcases h with ⟨_,rfl⟩ |⟨_,_,rfl⟩ |⟨_,_,rfl,_⟩
  .exact⟨_,rfl⟩
  .exact⟨_,rfl⟩
  .exact⟨_,rfl⟩
def zq{kind:Str}{mo:Int}{ws:List Int}{b:Bx}{t:Bool}{p z:Val}(hk:kind="order" /\ mo=6\/kind="any" /\ mo=5)(hw:∀w∈ws,1<=w)(h0:ws≠[])(hl:(ws.length:Int)<=mo)(ok:b.Ok)(br:(bz 7).G [p,bV b,liV (aX ws.length),.tup [liV ws,.str kind,z]]=.ok (.val (.bl t)) []):dN.G [bV b,.lst (ws.map .int),.str kind,z,p]=.ok (.val (.bl t)) []:=by
 have m6:mo<=6:=by rcases hk with ⟨_,rfl⟩ |⟨_,rfl⟩ <;> decide
 have ca:=rF hk hw h0 hl ok;have lw:((ws.map Val.int).length:Nat)=ws.length:=w_ ..;have lr:gQ.G [.int (ws.length:Nat)]=.new (.lst ((aX ws.length).map Val.int)):=by rw[wC ⟨by omega,by omega⟩,<- nt];rfl
 unfold liV at br;unfold dN;rw[aF];unfold lE;simp![ca,lw,lr,br]
def El{r w:Val}{k:Str}{most:Int}{n_:Bool}{D1 D2 D3:List Str}(hr:RmI r D1)(hw:WtI w most n_ D2)(hk:KdI k most D3){p:Val}(hp:pp8 p):∃x rest,D1++D2++D3++(if n_=true then s1 "many" else [])++s1 "told"=x::rest/\bX.G [r,w,.str k,p]=.ok (.new (.lst [.str x,.str x])) []/\PyData.strOk x=true:=by
 rcases hr with ⟨rfl,b,hb,hs,rfl⟩ |⟨rfl,ha,hb⟩
 .rcases hw with ⟨c,hc,ha,hw,rfl⟩ |⟨rfl,ws,rfl,h0,h1,h2,hl⟩
  .exact⟨_,_,rfl,hZ (yX hb ha hw) (by rcases hc with rfl |rfl;exact .inr (.inl rfl);exact .inr (.inr (.inl rfl))),by rcases hc with rfl |rfl <;> decide +kernel⟩
  .rcases hk with ⟨rfl,hk⟩ |⟨rfl,hk⟩
   .have hkk:k="order" \/ k="any":=by rcases hk with ⟨h,_⟩ |⟨h,_⟩;exact .inl h;exact .inr h
    have hkm:lkS aH k=some most:=by rcases hk with ⟨rfl,rfl⟩ |⟨rfl,rfl⟩ <;> rfl
    rcases hl with ⟨rfl,hl⟩ |⟨rfl,h6,hl,h5⟩
    .exact⟨_,_,rfl,hZ (vV hb h0 h1 h2 hkm hl) (.inr (.inr (.inl rfl))),by decide⟩
    .have nl:(aX ws.length).length=ws.length:=by unfold aX;rw[w_,OK]
     have hin:Inr ws (aX ws.length):=λi hi=>by obtain⟨j,hj,rfl⟩:=Oe.mp hi;rw[Pd] at hj;omega
     have hwt:=C6 h1 h5 _ hin;rw[nl] at hwt;have H:Ok51 ws (aX ws.length) b 10 6:=⟨by
      intro z;rw[z,Od] at nl;exact h0 (List.length_eq_zero_iff.mp nl.symm),Fo _,hin,by omega,by
      show (wt ws (aX ws.length)).natAbs<2^6;omega,hb,hs,by
      rw[nl];have:2^ws.length<=2^6:=Oz (by decide) h6;omega⟩
     obtain⟨pp,ep,hb'⟩:=Au hk h1 h0 hl H;obtain⟨xs,rfl⟩:=Dw (Du hb');have zz:Sz 2 (⟨3,2,by decide,by decide⟩:Rat):=⟨by show (3:Int).natAbs<2^2;decide,by show (2:Int).natAbs<2^2;decide⟩;obtain⟨t,et⟩:=M4 hkk h1 zz (by omega) H (Oe.mpr ⟨0,Pd.mpr (N5.mpr h0),rfl⟩) hp;exact⟨_,_,rfl,vR ep (zq hk h1 h0 hl H.ok et),by decide⟩
   .exact⟨_,_,rfl,hZ (xb hb h0 h1 h2 (by rw[hk];rfl)) (.inr (.inr (.inr rfl))),by decide⟩
 .exact⟨_,_,rfl,hZ (zC ha hb) (.inl rfl),by decide⟩
def Dj{a:Int}(h0:0<=a)(h1:a<9):RmI (.tup [.tup [.int 0,.int 1],.tup [.int (-1),.int 2],.tup [.int (1+a),.int 1],.tup [.int 1,.int 3]]) []:=by
 refine .inl ⟨rfl,⟨⟨0,1,by decide,by decide⟩,⟨-1,2,by decide,by decide⟩,⟨1+a,1,by decide,Nat.coprime_one_right _⟩,⟨1,3,by decide,by decide⟩⟩,⟨?_,?_⟩,⟨⟨?_,?_⟩,⟨?_,?_⟩,⟨?_,?_⟩,⟨?_,?_⟩⟩,rfl⟩
 .exact (Rat.lt_iff _ _).mpr (by show (0:Int)*1<(1+a)*1;omega)
 .exact (Rat.lt_iff _ _).mpr (by show (0:Int)*3<1*1;decide)
 all_goals (simp only[Sm];omega)
def A1(m:Nat)(hm:m<=1000):∃s,lcV (gtN 0).G qY.G (pOp aN (ah 1) (pOp cL (pOp aN (pOp bu (ah 7) (af 0)) (ah 3)) (ah 5))).G (rgV m) [] [.no]=.ok (((List.range m).map λi:Nat=>1+(7*(i:Int)+3).fmod 5).map .int) [s]:=by
 obtain⟨e',⟨s,rfl,_⟩,lc⟩:=dO (g:=(gtN 0).G) (F:=(pOp aN (ah 1) (pOp cL (pOp aN (pOp bu (ah 7) (af 0)) (ah 3)) (ah 5))).G) (λi:Nat=>Val.int (i:Nat)) (λi:Nat=>Val.int (1+(7*(i:Int)+3).fmod 5)) (λe=>∃s:Sl,e=[s]/\s.pl=true) (List.range m) [] [.no] ⟨.no,rfl,rfl⟩ (by
  rintro i hi _ ⟨s,rfl,hs⟩;rw[Pd] at hi;have m1:bu.G (.int 7) (.int (i:Nat))=.val (.int (7*(i:Int))):=cF (CMulA.left (by decide) (by decide));have m2:∀x:Int,cL.G (.int x) (.int 5)=.val (.int (x.fmod 5)):=λx=>gY (by decide);refine⟨[.sh (.int (i:Nat))],.val (.int (1+(7*(i:Int)+3).fmod 5)),[.sh (.int (i:Nat))],?_,?_,rfl,_,rfl,rfl⟩
  .simp![hs]
  .simp![m1,m2]) (by rw[OK];simp;omega)
 refine⟨s,?_⟩;rw[OI];exact lc
def yw(m:Nat)(hm:m<=1000):∃s,lcV (gtN 0).G qY.G (pOp aN (ah 1) (af 0)).G (rgV m) [] [.no]=.ok (((List.range m).map λi:Nat=>1+(i:Int)).map .int) [s]:=by
 obtain⟨e',⟨s,rfl,_⟩,lc⟩:=dO (g:=(gtN 0).G) (F:=(pOp aN (ah 1) (af 0)).G) (λi:Nat=>Val.int (i:Nat)) (λi:Nat=>Val.int (1+(i:Int))) (λe=>∃s:Sl,e=[s]/\s.pl=true) (List.range m) [] [.no] ⟨.no,rfl,rfl⟩ (by
  rintro i hi _ ⟨s,rfl,hs⟩;refine⟨[.sh (.int (i:Nat))],.val (.int (1+(i:Int))),[.sh (.int (i:Nat))],?_,?_,rfl,_,rfl,rfl⟩
  .simp![hs]
  .simp![dD]) (by rw[OK];simp;omega)
 refine⟨s,?_⟩;rw[OI];exact lc
def oneQ(n:Nat)(r:SR3):Prop:=∃v',Fd (n+61) v'/\qV [true] r=.ok (.val (.bl true)) [v']
def Jk{n:Nat}{v:Val}(f:Fd n v)(hn:n<=500000):∃v',Fd (n+61) v'/\hX.G [v]=.ok (.val (.bl true)) [v']:=by
 show ∃v',Fd (n+61) v'/\(fnP [true] 10 gR).G [v]=.ok (.val (.bl true)) [v'];rw[vx rfl];show oneQ n (gR.G _);unfold gR;rw[show sls [true] [v]++List.replicate (10-[v].length) .no=[.mu v,.no,.no,.no,.no,.no,.no,.no,.no,.no] from rfl];obtain⟨a,v1,e1,f1,a0,a1⟩:=aQ (m:=9) f (by omega) (by decide) (sm8 (by decide));refine aP (λe=>∃r,RmI r []/\e=[.mu v1,.sh r,.ow (.lst []),.no,.no,.no,.no,.no,.no,.no]) ⟨_,by simp![KC,e1],_,Dj a0 a1,rfl⟩ ?_;rintro _ ⟨r0,hr0,rfl⟩;obtain⟨b,v2,e2,f2,b0,b1⟩:=aQ (m:=4) f1 (by omega) (by decide) (sm8 (by decide));refine aP (λe=>∃v r D,Fd (n+8) v/\RmI r D/\D.length<=1/\e=[.mu v,.sh r,.ow (.lst (D.map .str)),.no,.no,.no,.no,.no,.no,.no]) ?_ ?_
 .by_cases hb:b=0
  .subst hb;obtain⟨x,v3,rt,hrt,f3,ax,nx,e3⟩:=tP f2 (by omega);rcases hrt with rfl |rfl
   .exact⟨_,by simp![e2,e3],v3,x,["box"],f3,.inr ⟨rfl,ax,nx⟩,by decide,rfl⟩
   .exact⟨_,by simp![e2,e3],v3,x,["box"],f3,.inr ⟨rfl,ax,nx⟩,by decide,rfl⟩
  .have hb':(b==0)=false:=by rw[N3];exact hb
   exact⟨_,by simp![e2,hb'],v2,r0,[],f2.mono (by omega),hr0,by decide,rfl⟩
 rintro _ ⟨v3,r,D1,f3,hr,l1,rfl⟩;obtain⟨c,v4,e4,f4,c0,c1⟩:=aQ (m:=2) f3 (by omega) (by decide) (sm8 (by decide));refine aP (λe=>∃k:Str,(k="order" \/ k="any")/\e=[.mu v4,.sh r,.ow (.lst (D1.map .str)),.sh (.str k),.no,.no,.no,.no,.no,.no]) ?_ ?_
 .obtain rfl |rfl:c=0\/c=1:=by omega
  .exact⟨_,by simp![e4],"order",.inl rfl,rfl⟩
  .exact⟨_,by simp![e4],"any",.inr rfl,rfl⟩
 rintro _ ⟨k,hk,rfl⟩;refine aP (λe=>∃most:Int,((k="order" /\ most=6)\/(k="any" /\ most=5))/\e=[.mu v4,.sh r,.ow (.lst (D1.map .str)),.sh (.str k),.sh (.int most),.no,.no,.no,.no,.no]) ?_ ?_
 .have d1:dZ.G (.dct [(.inr "order",.int 6),(.inr "any",.int 5)]) (.str "order")=.val (.int 6):=rfl;have d2:dZ.G (.dct [(.inr "order",.int 6),(.inr "any",.int 5)]) (.str "any")=.val (.int 5):=rfl;rcases hk with rfl |rfl
  .exact⟨_,by simp![mr,d1];try rfl,6,.inl ⟨rfl,rfl⟩,rfl⟩
  .exact⟨_,by simp![mr,d2];try rfl,5,.inr ⟨rfl,rfl⟩,rfl⟩
 rintro _ ⟨most,hm,rfl⟩;have hm6:5<=most/\most<=6:=by rcases hm with ⟨_,rfl⟩ |⟨_,rfl⟩ <;> decide
 obtain⟨g1,w1,i1,j1,g10,g11⟩:=aQ (m:=3) f4 (by omega) (by decide) (sm8 (by decide));obtain⟨g2,w2,i2,j2,g20,g21⟩:=aQ (m:=3) j1 (by omega) (by decide) (sm8 (by decide));obtain⟨g3,w3,i3,j3,g30,g31⟩:=aQ (m:=6) j2 (by omega) (by decide) (sm8 (by decide));refine aP (λe=>∃m:Int,1<=m/\m<=most/\e=[.mu w3,.sh r,.ow (.lst (D1.map .str)),.sh (.str k),.sh (.int most),.sh (.int m),.no,.no,.no,.no]) ?_ ?_
 .obtain rfl |rfl |rfl |rfl |rfl |rfl:g3=0\/g3=1\/g3=2\/g3=3\/g3=4\/g3=5:=by omega
  .exact⟨_,by simp![i1,i2,i3],1+g1,by omega,by omega,rfl⟩
  .exact⟨_,by simp![i1,i2,i3],1+g2,by omega,by omega,rfl⟩
  .exact⟨_,by simp![i1,i2,i3],1,by omega,by omega,rfl⟩
  .exact⟨_,by simp![i1,i2,i3],2,by omega,by omega,rfl⟩
  .exact⟨_,by simp![i1,i2,i3],3,by omega,by omega,rfl⟩
  .exact⟨_,by simp![i1,i2,i3],most,by omega,by omega,rfl⟩
 rintro _ ⟨m,m1,mm,rfl⟩;obtain⟨m,rfl⟩:∃k:Nat,m=k:=⟨m.toNat,by omega⟩;have rg:gy [.int (m:Nat)]=some (rgV m):=iH (i:=(m:Nat)) (by omega) (by omega);obtain⟨s,lc⟩:=A1 m (by omega);have lw:(((List.range m).map λi:Nat=>1+(7*(i:Int)+3).fmod 5).map Val.int).length<=16777216:=by simp;omega
 refine aP (λe=>∃w,WtI w most false []/\e=[.mu w3,.sh r,.ow (.lst (D1.map .str)),.sh (.str k),.sh (.int most),.sh (.int (m:Nat)),.sh w,.no,.no,.no]) ⟨_,by simp![rg,bQ,lc,lw],.lst (((List.range m).map λi:Nat=>1+(7*(i:Int)+3).fmod 5).map .int),.inr ⟨rfl,_,rfl,?_,?_,?_,.inr ⟨rfl,?_,?_,?_⟩⟩,rfl⟩ ?_
 .intro z
  have:=Og List.length z
  simp at this;omega
 .intro x hx;obtain⟨i,_,rfl⟩:=Oe.mp hx;rw[Pl _ (by decide)];omega
 .simp;omega
 .simp;omega
 .simp;omega
 .intro x hx;obtain⟨i,_,rfl⟩:=Oe.mp hx;rw[Pl _ (by decide)];omega
 rintro _ ⟨w0,hw0,rfl⟩;obtain⟨y,v5,e5,f5,y0,y1⟩:=aQ (m:=8) j3 (by omega) (by decide) (sm8 (by decide));refine aP (λe=>e=[.mu v5,.sh r,.ow (.lst (D1.map .str)),.sh (.str k),.sh (.int most),.sh (.int (m:Nat)),.sh w0,.sh (.int y),.no,.no]) ⟨_,by simp![e5],rfl⟩ ?_;rintro _ rfl;have lD:∀D:List Str,D.length<=10->(D.map Val.str).length<=16777214:=λD h=>by rw[w_];omega
 have sn:∀(D:List Str) (x:Str),D.map Val.str++[.str x]=(D++[x]).map .str:=λD x=>by rw[Ox];rfl
 have ln1:(D1.map Val.str).length<16777216:=by have:=lD D1 (by omega);omega
 refine aP (λe=>∃v w D2,Fd (n+40) v/\D2.length<=1/\(y<2->∀q u,WtI w q u D2)/\(¬ y<2->w=w0/\D2=[])/\e=[.mu v,.sh r,.ow (.lst ((D1++D2).map .str)),.sh (.str k),.sh (.int most),.sh (.int (m:Nat)),.sh w,.sh (.int y),.no,.no]) ?_ ?_
 .by_cases hy:y<2
  .obtain⟨x,v6,rt,hrt,f6,ax,nx,e6⟩:=nZ f5 (by omega);have wi:∀q u,WtI x q u ["weights"]:=λq u=>.inl ⟨"NoWeights",.inl rfl,ax,nx,rfl⟩;have hy':decide (y<2)=true:=NX hy;rcases hrt with rfl |rfl
   .exact⟨_,by simp![hy',e6,sn,ln1],v6,x,["weights"],f6.mono (by omega),by decide,λ_=>wi,λh=>absurd hy h,rfl⟩
   .exact⟨_,by simp![hy',e6,sn,ln1],v6,x,["weights"],f6.mono (by omega),by decide,λ_=>wi,λh=>absurd hy h,rfl⟩
  .have hy':decide (y<2)=false:=L_ hy;exact⟨_,by simp![hy',Oh],v5,w0,[],f5.mono (by omega),by decide,λh=>absurd h hy,λ_=>⟨rfl,rfl⟩,rfl⟩
 rintro _ ⟨v6,w,D2,f6,l2,hw1,hw2,rfl⟩;obtain⟨z,v7,e7,f7,z0,z1⟩:=aQ (m:=2) f6 (by omega) (by decide) (sm8 (by decide));have ln2:((D1++D2).map Val.str).length<16777216:=by have:=lD (D1++D2) (by rw[F_];omega);omega
 refine aP (λe=>∃v w D2,Fd (n+41) v/\D2.length<=1/\(y<=5->WtI w most false D2)/\(5<y->D2=[])/\e=[.mu v,.sh r,.ow (.lst ((D1++D2).map .str)),.sh (.str k),.sh (.int most),.sh (.int (m:Nat)),.sh w,.sh (.int y),.no,.no]) ?_ ?_
 .by_cases hy:y=2
  .subst hy;obtain⟨rfl,rfl⟩:=hw2 (by decide);have rp:rW.G (.lst [.int 1]) (.int (41+z))=.new (.lst ((List.replicate (41+z).toNat (1:Int)).map .int)):=by
    obtain rfl |rfl:z=0\/z=1:=by omega
    .rfl
    .rfl
   have wi:WtI (.lst ((List.replicate (41+z).toNat (1:Int)).map .int)) most false ["many"]:=.inl ⟨"TooMany",.inr rfl,by
    obtain rfl |rfl:z=0\/z=1:=by omega
    .rfl
    .rfl,by
    obtain rfl |rfl:z=0\/z=1:=by omega
    .rfl
    .rfl,rfl⟩
   exact⟨_,by simp![e7,rp,sn,ln1,Oh],v7,_,["many"],f7,by decide,λ_=>wi,λh=>absurd h (by decide),rfl⟩
  .have hy':(y==2)=false:=by rw[N3];exact hy
   refine⟨_,by simp![hy'],v6,w,D2,f6.mono (by omega),l2,λ_=>?_,λh=>(hw2 (by omega)).2,rfl⟩;by_cases h2:y<2
   .exact hw1 h2 _ _
   .obtain⟨rfl,rfl⟩:=hw2 h2;exact hw0
 clear hw1 hw2 f6 e7 f7 ln2 v7;rintro _ ⟨v7,w,D2,f7,l2,hw1,hw2,rfl⟩;refine aP (λe=>e=[.mu v7,.sh r,.ow (.lst ((D1++D2).map .str)),.sh (.str k),.sh (.int most),.sh (.int (m:Nat)),.sh w,.sh (.int y),.sh (.bl (decide (5<y))),.no]) ⟨_,by simp![dD],rfl⟩ ?_;rintro _ rfl;refine aP (λe=>∃v w n_,Fd (n+42) v/\WtI w most n_ D2/\e=[.mu v,.sh r,.ow (.lst ((D1++D2).map .str)),.sh (.str k),.sh (.int most),.sh (.int (m:Nat)),.sh w,.sh (.int y),.sh (.bl n_),.no]) ?_ ?_
 .by_cases hy:5<y
  .have hy':decide (5<y)=true:=NX hy;obtain rfl:=hw2 hy;obtain⟨z,v8,e8,f8,z0,z1⟩:=aQ (m:=2) f7 (by omega) (by decide) (sm8 (by decide));have key:∀q:Nat,1<=q->q<=40->most<q->WtI (.lst (((List.range q).map λi:Nat=>1+(i:Int)).map .int)) most true []:=λq q1 q4 qm=>.inr ⟨rfl,_,rfl,by
    intro z
    have:=Og List.length z
    simp at this;omega,by
    intro x hx;obtain⟨i,_,rfl⟩:=Oe.mp hx;omega,by simp;omega,.inl ⟨rfl,by simp;omega⟩⟩
   obtain rfl |rfl:z=0\/z=1:=by omega
   .obtain⟨s,lc⟩:=yw (most+1).toNat (by omega);have lw:(((List.range (most+1).toNat).map λi:Nat=>1+(i:Int)).map Val.int).length<=16777216:=by simp;omega
    have rg:gy [.int (most+1)]=some (rgV (most+1).toNat):=iH (by omega) (by omega);exact⟨_,by simp![hy',jY,e8,rg,bQ,lc,lw],v8,_,true,f8,key (most+1).toNat (by omega) (by omega) (by omega),rfl⟩
   .obtain⟨s,lc⟩:=yw 40 (by omega);have lw:(((List.range 40).map λi:Nat=>1+(i:Int)).map Val.int).length<=16777216:=by simp
    have rg:gy [.int 40]=some (rgV 40):=iH (i:=40) (by omega) (by omega);exact⟨_,by simp![hy',jY,e8,rg,bQ,lc,lw],v8,_,true,f8,key 40 (by omega) (by omega) (by omega),rfl⟩
  .have hy':decide (5<y)=false:=L_ hy;exact⟨_,by simp![hy',jY],v7,w,false,f7.mono (by omega),hw1 (by omega),rfl⟩
 clear hw1 hw2 f7 v7 w;rintro _ ⟨v8,w,n_,f8,hw,rfl⟩;obtain⟨b,v9,e9,f9,b0,b1⟩:=aQ (m:=4) f8 (by omega) (by decide) (sm8 (by decide));have ln2:((D1++D2).map Val.str).length<16777216:=by have:=lD (D1++D2) (by rw[F_];omega);omega
 refine aP (λe=>∃v k D3,Fd (n+60) v/\KdI k most D3/\D3.length<=1/\e=[.mu v,.sh r,.ow (.lst ((D1++D2++D3).map .str)),.sh (.str k),.sh (.int most),.sh (.int (m:Nat)),.sh w,.sh (.int y),.sh (.bl n_),.no]) ?_ ?_
 .by_cases hb:b=0
  .subst hb;obtain⟨c,v10,e10,f10,c0,c1⟩:=aQ (m:=7) f9 (by omega) (by decide) (sm8 (by decide));have f11:Fd (n+60) v10:=f10.mono (by omega);obtain rfl |rfl |rfl |rfl |rfl |rfl |rfl:c=0\/c=1\/c=2\/c=3\/c=4\/c=5\/c=6:=by omega
   .exact⟨_,by simp![e9,e10,sn,ln2],v10,"",["kind"],f11,.inr ⟨rfl,by rfl⟩,by decide,rfl⟩
   .exact⟨_,by simp![e9,e10,sn,ln2],v10,"Order",["kind"],f11,.inr ⟨rfl,by rfl⟩,by decide,rfl⟩
   .exact⟨_,by simp![e9,e10,sn,ln2],v10,"any ",["kind"],f11,.inr ⟨rfl,by rfl⟩,by decide,rfl⟩
   .exact⟨_,by simp![e9,e10,sn,ln2],v10,"all",["kind"],f11,.inr ⟨rfl,by rfl⟩,by decide,rfl⟩
   .exact⟨_,by simp![e9,e10,sn,ln2],v10,"across",["kind"],f11,.inr ⟨rfl,by rfl⟩,by decide,rfl⟩
   .exact⟨_,by simp![e9,e10,sn,ln2],v10,"orders",["kind"],f11,.inr ⟨rfl,by rfl⟩,by decide,rfl⟩
   .exact⟨_,by simp![e9,e10,sn,ln2],v10,"an",["kind"],f11,.inr ⟨rfl,by rfl⟩,by decide,rfl⟩
  .have hb':(b==0)=false:=by rw[N3];exact hb
   exact⟨_,by simp![e9,hb',Oh],v9,k,[],f9.mono (by omega),.inl ⟨rfl,hm⟩,by decide,rfl⟩
 clear hk hm k;rintro _ ⟨v10,k,D3,f10,hk,l3,rfl⟩;have ln3:((D1++D2++D3).map Val.str).length<16777216:=by have:=lD (D1++D2++D3) (by simp only[F_];omega);omega
 refine aP (λe=>e=[.mu v10,.sh r,.ow (.lst ((D1++D2++D3++(if n_=true then s1 "many" else [])).map .str)),.sh (.str k),.sh (.int most),.sh (.int (m:Nat)),.sh w,.sh (.int y),.sh (.bl n_),.no]) ?_ ?_
 .cases n_ with
  |true=>exact⟨_,by simp![jY,sn,ln3],rfl⟩
  |false=>exact⟨_,by simp![jY,Oh],rfl⟩
 rintro _ rfl;obtain⟨y9,v11,e11,f11,y90,y91⟩:=aQ (m:=8) f10 (by omega) (by decide) (sm8 (by decide));refine aP (λe=>∃p,pp8 p/\e=[.mu v11,.sh r,.ow (.lst ((D1++D2++D3++(if n_=true then s1 "many" else [])).map .str)),.sh (.str k),.sh (.int most),.sh (.int (m:Nat)),.sh w,.sh (.int y),.sh (.bl n_),.sh p]) ?_ ?_
 .generalize (D1++D2++D3++(if n_=true then s1 "many" else [])).map Val.str=L at *;obtain rfl |rfl |rfl |rfl |rfl |rfl |rfl |rfl:y9=0\/y9=1\/y9=2\/y9=3\/y9=4\/y9=5\/y9=6\/y9=7:=by omega
  .exact⟨_,by simp![e11],.non,.inl rfl,rfl⟩
  .exact⟨_,by simp![e11],.tup [],.inr (.inl rfl),rfl⟩
  .exact⟨_,by simp![e11],.int 5,.inr (.inr (.inl rfl)),rfl⟩
  .exact⟨_,by simp![e11],.str "cases",.inr (.inr (.inr (.inl rfl))),rfl⟩
  .exact⟨_,by simp![e11],.tup [.str "cases",.tup []],.inr (.inr (.inr (.inr (.inl rfl)))),rfl⟩
  .exact⟨_,by simp![e11],.lst [.tup [.str "shape"]],.inr (.inr (.inr (.inr (.inr (.inl rfl))))),rfl⟩
  .exact⟨_,by simp![e11],.tup [.str "thin",.int 0],.inr (.inr (.inr (.inr (.inr (.inr (.inl rfl)))))),rfl⟩
  .exact⟨_,by simp![e11],.tup [.str "shape"],.inr (.inr (.inr (.inr (.inr (.inr (.inr rfl)))))),rfl⟩
 rintro _ ⟨p,hp,rfl⟩;obtain⟨x,rest,hx,ha,hxo⟩:=El hr hw hk hp;have ap:aN.G (.lst ((D1++D2++D3++(if n_=true then s1 "many" else [])).map .str)) (.lst [.str "told"])=.new (.lst (.str x::rest.map .str)):=by
  rw[xY,if_pos,sn,hx]
  .rfl
  .have:=lD (D1++D2++D3++(if n_=true then s1 "many" else [])) (by cases n_ <;> simp only[F_,OL,OG,Pg,Od,I_] <;> omega)
   simp only[I_,Od];omega
 refine⟨v11,f11.mono (by omega),?_⟩;generalize (D1++D2++D3++(if n_=true then s1 "many" else [])).map Val.str=L at *;have wx:∀k,wfV (k+1) (.lst [.str x,.str x])=true:=λk=>by
  have:wfV k (.str x)=true:=by cases k <;> (simp only[wfV];exact hxo)
  rw[GW,o3,o3,this];rfl
 have es:cm (.lst [.str x,.str x]) (.lst [.str x,.str x])=some true:=by rw[Mq (wx 59) (wx 59),uV 60 _ (wx 59)]
 have rp:rW.G (.lst [.str x]) (.int 2)=.new (.lst [.str x,.str x]):=rfl;simp![ha,ap,rp,es,bN]
theorem so{e:E3}:∀(vs:List Val) (v s:Val) (t:Sl) (n:Nat),Fd n v->n+61*vs.length<=400000->t.pl=true->e=[.sh s,.ow v,t]->∃v' t',cT (gtN 2).G mD.G vs e=.nx [.sh s,.ow v',t']
 | [],v,s,t,n,_,_,_,h=>⟨v,t,by rw[h];rfl⟩
 |
  x::vs,v,s,t,n,f,hn,ht,h=>by
  subst h;rw[I_] at hn;obtain⟨v1,f1,e1⟩:=Jk f (by omega);obtain⟨v',t',e2⟩:=so vs v1 s (.sh x) (n+61) f1 (by omega) rfl rfl;refine⟨v',t',?_⟩;unfold cT;have g1:(gtN 2).G x [.sh s,.ow v,t]=some [.sh s,.ow v,.sh x]:=by simp![ht]
  have b1:mD.G [.sh s,.ow v,.sh x]=.nx [.sh s,.ow v1,.sh x]:=by unfold mD;simp![e1]
  rw[g1];dsimp only;rw[b1];exact e2
def Ka(ns:List Int)(hl:ns.length<=63):qg.G [.kl (ns.map .int)]=.ok (.val (.bl true)) []:=by
 obtain⟨v,e1,f⟩:=DB hl;have ln:((ns.map Val.int).length:Int)=(ns.length:Nat):=by rw[w_]
 have rg:gy [.int (4+if ((ns.length:Nat):Int)<5 then ((ns.length:Nat):Int) else 5)]=some (rgV (4+if ((ns.length:Nat):Int)<5 then ((ns.length:Nat):Int) else 5).toNat):=iH (i:=4+if ((ns.length:Nat):Int)<5 then ((ns.length:Nat):Int) else 5) (by split <;> omega) (by split <;> omega);obtain⟨v',t',e2⟩:=so (rgV (4+if ((ns.length:Nat):Int)<5 then ((ns.length:Nat):Int) else 5).toNat) v (.kl (ns.map .int)) .no 0 f (by rw[ky];split <;> omega) rfl rfl;unfold qg;rw[aF];unfold CG;simp![e1,ln,rg,e2]
end KK
namespace PySem.W.Fast
def q__:=trivial
def tw10051860866039444100:=q__
def tw1005674407648295191:=q__
def tw10076224458067005451:=q__
def tw10086449221430906163:=q__
def tw10101665456705426990:=q__
def tw1010665705545012944:=q__
def tw10115001070186384158:=q__
def tw1015546772251836261:=q__
def tw10167590913076951510:=q__
def tw10242236674976664550:=q__
def tw10254337702011700337:=q__
def tw10280315383673731482:=q__
def tw10282486563492459701:=q__
def tw10308234243892494332:=q__
def tw10310887103405431756:=q__
def tw10337005554881993563:=q__
def tw10395627126414445421:=q__
def tw1045824249209326356:=q__
def tw10496854328150423497:=q__
def tw10501326168019586986:=q__
def tw10512698549311223355:=q__
def tw10529421507236456976:=q__
def tw10625878486925966848:=q__
def tw10666098575625257171:=q__
def tw10666573039742238196:=q__
def tw10672709721332250834:=q__
def tw10678026676927625386:=q__
def tw10703961104044417140:=q__
def tw10743042783857023218:=q__
def tw10762011859230450616:=q__
def tw10776523226861924736:=q__
def tw1083735602259691713:=q__
def tw10872861155592520466:=q__
def tw10908948558697451517:=q__
def tw10960556513227246734:=q__
def tw11010949858661701820:=q__
def tw11026980181652552312:=q__
def tw11058912907643537764:=q__
def tw1107634008072625905:=q__
def tw11078951862922811999:=q__
def tw11082869340154873093:=q__
def tw11102019657343886853:=q__
def tw11126835218034594245:=q__
def tw11139642520707364489:=q__
def tw11146461824704126542:=q__
def tw1117964907388897470:=q__
def tw11313575423587823817:=q__
def tw11320052153712156477:=q__
def tw11329946308863553054:=q__
def tw11340158440647945061:=q__
def tw11350193877363725588:=q__
def tw11355046992375970512:=q__
def tw11370022104390267667:=q__
def tw11471198169791441180:=q__
def tw11524030463478250020:=q__
def tw11524128807651005811:=q__
def tw1152436707384382522:=q__
def tw11532780558328757086:=q__
def tw11589068614480064814:=q__
def tw11607583618308997435:=q__
def tw11608920974737145173:=q__
def tw11653274613395713781:=q__
def tw11658161032137737070:=q__
def tw11672643447168988981:=q__
def tw11676039459237626463:=q__
def tw11755698773355043252:=q__
def tw11758634686296588063:=q__
def tw11805563513169766626:=q__
def tw11874662498027157470:=q__
def tw11893503285854251808:=q__
def tw11925780177327040764:=q__
def tw11929619519174855355:=q__
def tw11943386988108968388:=q__
def tw1197582952574125260:=q__
def tw12008774506638723829:=q__
def tw12041368394056140044:=q__
def tw12056855828207146723:=q__
def tw12078716374396977546:=q__
def tw12084152467604701173:=q__
def tw12091187108143919126:=q__
def tw1210328878222077191:=q__
def tw12113023350223782620:=q__
def tw12127108454775063627:=q__
def tw12157392789982303392:=q__
def tw12165367513533152910:=q__
def tw12171285828077237994:=q__
def tw1222641636750681756:=q__
def tw12246263465966042770:=q__
def tw12290845206868646139:=q__
def tw12385319527560228760:=q__
def tw12490424292302113575:=q__
def tw12494670643583690143:=q__
def tw12513589797940750701:=q__
def tw12648213178168031844:=q__
def tw12663342004545754932:=q__
def tw12691022054521378101:=q__
def tw12719160394794552512:=q__
def tw12722878818089197234:=q__
def tw12733164407836157392:=q__
def tw12764711050517668466:=q__
def tw12795965113849272750:=q__
def tw12800167857869320348:=q__
def tw12855682496890014081:=q__
def tw12862470262405473942:=q__
def tw1287809213024837244:=q__
def tw12898712393027654093:=q__
def tw12925727105798620396:=q__
def tw129290481518725097:=q__
def tw12982566018621604063:=q__
def tw12988125350812817478:=q__
def tw1308571358615168122:=q__
def tw13090263193265522818:=q__
def tw13107922577882123652:=q__
def tw13108514185667896795:=q__
def tw13136492054266637988:=q__
def tw13139716490342931871:=q__
def tw13193543574603637294:=q__
def tw13255940715344364406:=q__
def tw13300609293550237213:=q__
def tw1332680578266086733:=q__
def tw13352364170501965470:=q__
def tw13374229573371320992:=q__
def tw13398876106830095786:=q__
def tw13413385693938349893:=q__
def tw13446373967955867048:=q__
def tw13464899356758167182:=q__
def tw13469392104518697810:=q__
def tw13684889372664109901:=q__
def tw13718392598375345427:=q__
def tw13763963466022907253:=q__
def tw13789842119136779375:=q__
def tw1379197467618843321:=q__
def tw13823506333241385835:=q__
def tw1397551064538418568:=q__
def tw13983602527195770225:=q__
def tw14142029801386835939:=q__
def tw14168410949485571360:=q__
def tw14235372224074431363:=q__
def tw14250316325101657809:=q__
def tw14312297890643969582:=q__
def tw14336192590425466731:=q__
def tw14385462949131978933:=q__
def tw14410125966129269899:=q__
def tw14439106981066041074:=q__
def tw14629193655645751844:=q__
def tw1463297098662182901:=q__
def tw14636961196704694512:=q__
def tw14638243161805664089:=q__
def tw14642739933003766145:=q__
def tw14677137031330993222:=q__
def tw14736586640390478241:=q__
def tw14738372079983329604:=q__
def tw14756211208976170951:=q__
def tw14771149235159272922:=q__
def tw1481287037597827760:=q__
def tw1483359353721357951:=q__
def tw14893556187949785144:=q__
def tw14944299698448165602:=q__
def tw14976175364568256730:=q__
def tw14989611240493353226:=q__
def tw14994553168778573008:=q__
def tw1503490578869451761:=q__
def tw15068583313745052744:=q__
def tw15102319564682018602:=q__
def tw15114823454452793214:=q__
def tw15127274539608386530:=q__
def tw15135214706656484368:=q__
def tw15170159929433381741:=q__
def tw15212910995259390679:=q__
def tw15300271057224742135:=q__
def tw1531131101425540077:=q__
def tw15341800156534423105:=q__
def tw15356813194122778721:=q__
def tw15388144223168380646:=q__
def tw15419514769664775877:=q__
def tw15427239894852468507:=q__
def tw15433004828202426499:=q__
def tw1543604422598820876:=q__
def tw15479824475397586427:=q__
def tw15533704447901685778:=q__
def tw15616785164912406881:=q__
def tw15635144554896097523:=q__
def tw1570659714713709547:=q__
def tw15726529997531054387:=q__
def tw1573537843469224127:=q__
def tw15783110758096023899:=q__
def tw15825458900214435028:=q__
def tw15869618328599140969:=q__
def tw15877680721803920737:=q__
def tw15939850034984204246:=q__
def tw15946782854559086176:=q__
def tw15948256369960510447:=q__
def tw15971025594057991808:=q__
def tw15981510651976087180:=q__
def tw15982996237356005663:=q__
def tw16006377763619820429:=q__
def tw16082417069149137344:=q__
def tw16114701538692272962:=q__
def tw1614406111734406307:=q__
def tw16155918819457574059:=q__
def tw16162718818310637880:=q__
def tw16206037736642887146:=q__
def tw16208515100694132749:=q__
def tw16211750515317262019:=q__
def tw1624649584929904708:=q__
def tw16260639425788813698:=q__
def tw16264180081510959037:=q__
def tw16266275647966594650:=q__
def tw16276901849497363523:=q__
def tw16305443332903843622:=q__
def tw16312183737654548798:=q__
def tw16313792122368240707:=q__
def tw16352626050884051217:=q__
def tw16372736684995851055:=q__
def tw16391883138172130976:=q__
def tw16418332750277943150:=q__
def tw16461251361302910566:=q__
def tw16462482358884025562:=q__
def tw16469488008061207781:=q__
def tw16478718759314987302:=q__
def tw16492921697851982227:=q__
def tw16577490835817566879:=q__
def tw16627409623936465935:=q__
def tw16634738821370653308:=q__
def tw16645979090143934799:=q__
def tw16662314989120032351:=q__
def tw16673409695354492417:=q__
def tw16680442092923228357:=q__
def tw16767508175481576817:=q__
def tw16774888280449807592:=q__
def tw16800091533017988173:=q__
def tw16813950737217210060:=q__
def tw16870957881419280541:=q__
def tw1688838785741203630:=q__
def tw16897647246681244787:=q__
def tw16918043106722974584:=q__
def tw16937195343878515861:=q__
def tw16937356974597787973:=q__
def tw17109812918472962813:=q__
def tw1716868062818607959:=q__
def tw17197699206117822302:=q__
def tw17226703228390962521:=q__
def tw17341713598158530292:=q__
def tw17348323334245712122:=q__
def tw17383561095552872519:=q__
def tw173971339073133483:=q__
def tw17417709552047758079:=q__
def tw17437396810795194409:=q__
def tw17450824091743346187:=q__
def tw17475003355416213691:=q__
def tw17536310918591489741:=q__
def tw17550267062324889205:=q__
def tw17574482758963573536:=q__
def tw17575053117963014852:=q__
def tw17637984864664459736:=q__
def tw17660800799914370952:=q__
def tw17702472670367950035:=q__
def tw17709933527160095765:=q__
def tw17710532551244019626:=q__
def tw17718350588378547443:=q__
def tw17754721563974089468:=q__
def tw17793174664798577684:=q__
def tw17820209856409209207:=q__
def tw17886637538457209612:=q__
def tw17915967463220167676:=q__
def tw17919563642300467999:=q__
def tw1792792425934587816:=q__
def tw17929138464898423579:=q__
def tw17936952650980025589:=q__
def tw17940387909259902390:=q__
def tw17979527183945626992:=q__
def tw17980656660312055128:=q__
def tw17988130008384496386:=q__
def tw1807291812951180039:=q__
def tw18106116088462277203:=q__
def tw18161627531976816101:=q__
def tw18166162624600676734:=q__
def tw18174928910494679003:=q__
def tw1819648809273720762:=q__
def tw18260397880026158625:=q__
def tw18301369905693391523:=q__
def tw18338194860832930181:=q__
def tw18368400475858242238:=q__
def tw1863157718977238342:=q__
def tw1880504303949634866:=q__
def tw1886511510283461887:=q__
def tw2044589175794749735:=q__
def tw2117848675760869933:=q__
def tw2141500240172493118:=q__
def tw2151249240184238874:=q__
def tw2174779385747123685:=q__
def tw218002456513225782:=q__
def tw2181247406134622941:=q__
def tw2193211521333299123:=q__
def tw2205393671012014312:=q__
def tw2248176899772741579:=q__
def tw2345453890126836276:=q__
def tw2353425228212238472:=q__
def tw2359825728575222856:=q__
def tw2402979242183742163:=q__
def tw2477260340936871898:=q__
def tw2498996266721634712:=q__
def tw253833155395832798:=q__
def tw2544498367115921146:=q__
def tw255427543829724606:=q__
def tw259436847431610973:=q__
def tw2704523503100729732:=q__
def tw274663439504058195:=q__
def tw277444730100720875:=q__
def tw2813645442663798670:=q__
def tw2815095393005102663:=q__
def tw287813400920152339:=q__
def tw2934363635355683302:=q__
def tw2955323856098529811:=q__
def tw303587176286723423:=q__
def tw306161232215873666:=q__
def tw3087334434250864261:=q__
def tw3125687862605102981:=q__
def tw3135420552997737575:=q__
def tw3157439657035581006:=q__
def tw3161458295343782928:=q__
def tw3222599458764844390:=q__
def tw3317204445823487702:=q__
def tw3323897033544285738:=q__
def tw333124660321123394:=q__
def tw3346787933660385249:=q__
def tw3364914670065823651:=q__
def tw3522355100369674978:=q__
def tw3528390794228036360:=q__
def tw3588846888497073385:=q__
def tw3627311117691960325:=q__
def tw362816630930061282:=q__
def tw3640811253697075973:=q__
def tw3648802310257032862:=q__
def tw367247606705597619:=q__
def tw3711627695002847252:=q__
def tw3717458645152260521:=q__
def tw3777132756553881738:=q__
def tw3808190123208709124:=q__
def tw3877442175716906949:=q__
def tw4118776660217912481:=q__
def tw4180162650949799313:=q__
def tw4196429415439640809:=q__
def tw4248049484542834612:=q__
def tw4252640689943991667:=q__
def tw4341804989220801259:=q__
def tw4385585891368750552:=q__
def tw4387474956264389412:=q__
def tw4400503644475283806:=q__
def tw4415689480221502543:=q__
def tw4436887502729985146:=q__
def tw445339633011211577:=q__
def tw4502234499518263130:=q__
def tw4538026680090559429:=q__
def tw4538846637260294173:=q__
def tw4545746554194944408:=q__
def tw4613424573497740144:=q__
def tw4683397158481287423:=q__
def tw4693952868121613811:=q__
def tw4744541490757745759:=q__
def tw4764407875844384837:=q__
def tw4776372101122599160:=q__
def tw4780439220774919595:=q__
def tw4821326180381319871:=q__
def tw4853130884417023863:=q__
def tw4945602188104103051:=q__
def tw4981786515549720446:=q__
def tw4985580047112308857:=q__
def tw499992282334261211:=q__
def tw502893894943953989:=q__
def tw5057989354258328883:=q__
def tw5066010261740061141:=q__
def tw5089290340499256400:=q__
def tw509677996367191509:=q__
def tw5097994546621067487:=q__
def tw5130403016263821592:=q__
def tw5136596235097020579:=q__
def tw5165898983190966013:=q__
def tw5181259842068029056:=q__
def tw5189399503716755182:=q__
def tw5208076219769154218:=q__
def tw5222135920497411498:=q__
def tw5236804588764233539:=q__
def tw523732621449747754:=q__
def tw5253108153233472831:=q__
def tw5282730129455087523:=q__
def tw5292533315741812389:=q__
def tw5303747825321925727:=q__
def tw5305996734358609109:=q__
def tw535932940535594206:=q__
def tw5372166640108912148:=q__
def tw5375724056270627819:=q__
def tw5397479487396758737:=q__
def tw5411988169014555635:=q__
def tw546214981480003806:=q__
def tw5464163057951472557:=q__
def tw5540451539581256302:=q__
def tw5564706196086763386:=q__
def tw5564983222602556949:=q__
def tw5578664486801715077:=q__
def tw5595904136228034027:=q__
def tw5597900033740543627:=q__
def tw5705243735879957648:=q__
def tw5737737845313809642:=q__
def tw5747804947448492342:=q__
def tw5761313044406187815:=q__
def tw5938673410025835621:=q__
def tw6053524413702954753:=q__
def tw607053106435007655:=q__
def tw6137865782705146086:=q__
def tw6159484796995707026:=q__
def tw6224355632522611220:=q__
def tw6239118689129015346:=q__
def tw6290013446730019769:=q__
def tw6305996870400078589:=q__
def tw631515464851612196:=q__
def tw631884754108301587:=q__
def tw6324986360181102409:=q__
def tw6325226459464023897:=q__
def tw6363601992866704954:=q__
def tw6368609039057112203:=q__
def tw6379239434352801818:=q__
def tw6405761804579670014:=q__
def tw6502062693875167489:=q__
def tw6521589235555634135:=q__
def tw6526533767569532878:=q__
def tw6542393478793841046:=q__
def tw6585500841107594513:=q__
def tw6607737856753040696:=q__
def tw6656535239650127814:=q__
def tw6705759136068555162:=q__
def tw676844240400745894:=q__
def tw6808281285046475524:=q__
def tw6809199065361362204:=q__
def tw6810619135726532510:=q__
def tw6828962462479682785:=q__
def tw6844794113467552270:=q__
def tw6849750570067263265:=q__
def tw6888106752981248493:=q__
def tw6945457914691813602:=q__
def tw6974087078290524928:=q__
def tw7035626264209071767:=q__
def tw7062766097074886137:=q__
def tw7069310099264684049:=q__
def tw7081046088426399102:=q__
def tw7125246100023200892:=q__
def tw721053076891769943:=q__
def tw7385037828419356922:=q__
def tw7418576833949236436:=q__
def tw7459004699542320683:=q__
def tw7461032764132404249:=q__
def tw7485467197130237578:=q__
def tw7495705419314597829:=q__
def tw7524501109645622252:=q__
def tw7532483815933958983:=q__
def tw753365677233968232:=q__
def tw7666975154912017664:=q__
def tw7679152158141028174:=q__
def tw7712484268481373446:=q__
def tw7716619854220149805:=q__
def tw7753848321614372042:=q__
def tw7792172350457988528:=q__
def tw7815153315020903689:=q__
def tw7819020457256401648:=q__
def tw7843143831703646783:=q__
def tw7897066560105895826:=q__
def tw7902119420315575128:=q__
def tw7909680900272145339:=q__
def tw7991457088439007537:=q__
def tw800917306784797412:=q__
def tw8171316749495796084:=q__
def tw8202730247585024861:=q__
def tw8251293889355490555:=q__
def tw8331499385554736991:=q__
def tw8333421985050596908:=q__
def tw8365583092460207870:=q__
def tw8404788231980740171:=q__
def tw8450367207523377292:=q__
def tw8473258238802104029:=q__
def tw8490679504257251222:=q__
def tw8506727481704708335:=q__
def tw851411228834423659:=q__
def tw8538931904190166882:=q__
def tw8549751065828284534:=q__
def tw8617058891187135937:=q__
def tw8624564578548878194:=q__
def tw8681657668699986169:=q__
def tw8706357825264056988:=q__
def tw8763426156225070350:=q__
def tw8860734233004902281:=q__
def tw8882905370567642152:=q__
def tw8899965716425422258:=q__
def tw8954056597374283741:=q__
def tw8970868947905378712:=q__
def tw8988097277147201363:=q__
def tw9007445912849189871:=q__
def tw9013925758720672903:=q__
def tw9013986331615644815:=q__
def tw9041325855840952179:=q__
def tw9042801654844280471:=q__
def tw9073344111629271786:=q__
def tw9124824287378809641:=q__
def tw9142028322297961083:=q__
def tw9169719363567913612:=q__
def tw9170429851358483106:=q__
def tw9243209811211455846:=q__
def tw929237611829115030:=q__
def tw9299707083741883973:=q__
def tw934645266399904726:=q__
def tw9348218594614666634:=q__
def tw9367424265327376284:=q__
def tw9404452713225523389:=q__
def tw9421841792975207095:=q__
def tw9434036905746939056:=q__
def tw9495172574365134241:=q__
def tw9505157945560992908:=q__
def tw9507902964114804314:=q__
def tw9616822002564279024:=q__
def tw97229145783531763:=q__
def tw9753908266394582933:=q__
def tw9757409390684371708:=q__
def tw9757675634715532766:=q__
def tw9948866141261523315:=q__
def tw9971605694943638501:=q__
def tw9979630193785935995:=q__
end PySem.W.Fast
open PySem PySem.W PyProof.Rows L2 L3 KK
set_option maxRecDepth 100000 in
set_option maxHeartbeats 0 in
theorem PySem.Challenge.cw_weightrooms_k59_papers_refused_holds : PySem.Challenge.rw_weightrooms_k59_papers_refused.Holds := by
 w_on;o_law;k_head;(case hw=>w_witness2)
 k_fill
 refine L2.walk_lawD (l:=PySem.Challenge.rw_weightrooms_k59_papers_refused) (x:="_law_script") (k:=35) rfl rfl ⟨rfl,by decide,by decide⟩ (λw h Y=>W.kIn_of Y) ?F ?D
 case F=>
  intro w mg h KX G base kb nb;refine AB (DC ⟨⟨M0 KX G (by kernel_rfl),?_⟩,(by refine' B7 (kvs:=aH) KX G ?a9 ?b9 ?c9 ?d9 ?e9;(case a9=>exact rfl);(case b9=>exact rfl);(case c9=>exact rfl);(case d9=>exact (.cons rfl rfl rfl (.cons rfl rfl rfl .nil)));(case e9=>decide))⟩) (HP KX G (by kernel_rfl)) (law3 qg rfl Ka);repeat first
   |exact trivial
   |refine⟨by refine' yK KX G ?a ?l ?c ?k;(case a=>k_is);(case l=>k_is);(case c=>k_is);(case k=>k_is),?_⟩
 case D=>
  intro w mg h KX G;refine⟨top 70,?_,(λ_ _ _ _ _ _=>ar1 λ_=>rfl)⟩;refine' yK KX G ?a ?l ?c ?k;case a|l|c|k=>k_is
