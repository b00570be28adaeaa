import PyProof.Rows.All
import Wide.All
import OpenK.AllK
import Wide.FinOn
import Lean
import PyProof.EqAt
import PyProof.EqKinds
import PyProof.TupleCall
import PyProof.Rows.SumAny
import PyProof.EnumMake
import PyProof.Draws
import PyProof.ZipIter
import KE.KNestM
import KE.KUnpack
import KE.KxIndex
import PyProof.SetRoads
import PyProof.SetNew
import PyProof.AutoSeq1
import KE.KRevSl
import PyProof.SeqI3
import PyProof.Rows.SortWalk
import PyProof.Rows.Range3
import KE.KSortTup
import KE.KLam
import PyProof.Rows.SetFrom
import PyProof.FactsAll.list_2
import PySem.Challenge.RW_weightrooms_k52_least_worst_at_all
local macro_rules|`(tactic|trivial)=>`(tactic|first|exact Or.inl rfl|exact Or.inr rfl)
local macro_rules|`(tactic|decide)=>`(tactic|decide +kernel)
set_option genSizeOf false
set_option genInjectivity false
set_option bootstrap.genMatcherCode false
noncomputable section
set_option Elab.async false
set_option linter.all false
def v_:=@List.length_map
def w_:=@PySem.wpAny_bind
def x_:=@List.getElem?_eq_some_iff
def y_:=@Nat.le_refl
def z_:=@Bool.and_eq_true
def A_:=@List.mem_cons_of_mem
def B_:=@List.map_cons
def C_:=@PySem.Heap.get?_push_of_some
def D_:=@Bool.false_ne_true
def Em:=@PySem.Heap.lt_size
def E_:=@List.length_append
def F_:=@PySem.wpAny_pure
def G_:=@Nat.le_trans
def H_:=@List.mem_cons_self
def I_:=@Nat.lt_of_lt_of_le
def J_:=@List.size_toArray
def K_:=@decide_eq_false
def L_:=@decide_eq_true
def Mz:=@List.length_set
def MB:=@PySem.Heap.get?_push_size
def MC:=@Option.some.inj
def MD:=@List.all_eq_true
def MF:=@Option.map_eq_some_iff
def MH:=@List.getElem?_append_left
def MJ:=@List.getElem?_eq_getElem
def MK:=@List.length_cons
def ML:=@Nat.ne_of_lt
def MM:=@beq_eq_false_iff_ne
def MN:=@List.mem_cons
def MP:=@List.getElem?_map
def MQ:=@List.nil_append
def MR:=@List.mem_append_right
def MU:=@List.length_pos_iff
def MV:=@List.getD_eq_getElem?_getD
def MW:=@List.getElem?_append_right
def MX:=@Nat.zero_le
def MY:=@List.map_append
def MZ:=@Nat.pow_le_pow_right
def M0:=@List.mem_singleton
def M1:=@List.length_nil
def M3:=@List.sum_cons
def M4:=@Option.bind_eq_some_iff
def M5:=@List.map_nil
def M6:=@PySem.wpAny_mono
def M7:=@List.mem_append
def M8:=@beq_iff_eq
def M9:=@List.mem_map
def M_:=@PySem.wpAny_field
def Na:=@PyProof.Rows.callWith_type1
def Nb:=@List.getElem?_replicate
def Nc:=@Nat.lt_irrefl
def Nd:=@congrArg
def Nf:=@List.contains_iff_mem
def Ng:=@List.length_replicate
def Nh:=@List.any_cons
def Ni:=@List.append_assoc
def Nj:=@PySem.wpAny_newObj_type
def Nk:=@PySem.mem_of_lookup
def Nl:=@List.map_map
def Nm:=@List.getElem?_eq_none_iff
def Nn:=@List.append_nil
def Np:=@List.find?_cons
def Nq:=@List.nodup_cons
def Nr:=@Option.isSome_iff_exists
def Nt:=@PySem.wpAny_truthy_bool
def Nu:=@Int.mul_assoc
def Nv:=@PySem.wpAny_callSpecial?_slot
def Nw:=@List.filterMap_cons
def Ny:=@Nat.mul_le_mul_left
def Nz:=@List.lookup_cons
def NA:=@PySem.wpAny_seqItems
def NB:=@List.take_of_length_le
def NC:=@PySem.wpAny_setField_rec
def ND:=@Int.mul_ne_zero
def NF:=@List.getElem?_zipWith
def NG:=@Nat.not_lt_zero
def NH:=@PySem.wpAny_passesOwn
def NI:=@PySem.F.slot_tuple_iterator_next
def NJ:=@List.reverse_cons
def NK:=@List.mem_of_getElem?
def NL:=@Int.natAbs_mul
def NM:=@if_true
def NN:=@List.length_zipWith
def NO:=@List.take_nil
def NP:=@PySem.wpAny_holding
def NQ:=@Bool.false_eq_true
def NR:=@Rat.not_lt
def NS:=@PySem.wpAny_Call_Name_kw
def NT:=@List.zipWith_cons_cons
def NU:=@List.zipWith_nil_right
def NV:=@Int.mul_left_comm
def NW:=@decide_eq_true_eq
def NX:=@List.mapM_cons
def NY:=@List.mem_range
def NZ:=@List.getElem?_set_ne
def N0:=@List.length_take
def N1:=@PySem.wpAny_call_entry
def N2:=@Int.eq_of_mul_eq_mul_right
def N3:=@List.all_cons
def N4:=@List.drop_nil
def N5:=@Classical.byContradiction
def N6:=@List.mem_or_eq_of_mem_set
def N7:=@Int.mul_comm
def N8:=@Int.mul_right_comm
def N9:=@Nat.mul_comm
def N_:=@Nat.ne_of_gt
def Oa:=@PySem.F.args_tuple_add_2
def Od:=@PySem.Heap.size_push
def Oe:=@Int.eq_ofNat_of_zero_le
def Of:=@PySem.F.entry_tuple_add
def Og:=@Int.toNat_natCast
def Oh:=@List.getElem?_set
def Oi:=@List.length_range
def Oj:=@PySem.wpAny_pyIter_list
def Ol:=@PySem.Heap.get?_update_other
def Om:=@PySem.F.slot_tuple_add
def Oo:=@PyProof.Rows.subscriptTail_builtinR
def Oq:=@PySem.wpAny_standAt
def Ot:=@Nat.le_add_right
def Ou:=@beq_self_eq_true
def Ov:=@if_false
def Ow:=@List.take_append_drop
def Ox:=@Bool.eq_iff_iff
def Oy:=@PySem.F.slot_zip_next
def Oz:=@PySem.Heap.get?_none_of_le
def OA:=@List.forIn_cons
def OB:=@List.getElem?_append
def OC:=@Nat.lt_trans
def OD:=@Nat.pow_succ
def OE:=@Nat.sub_self
def OF:=@Rat.intCast_mul
def OG:=@Rat.num_eq_zero
def OH:=@PySem.wpAny_execs_nil
def OI:=@PySem.wpAny_updateSeq_pair
def OJ:=@Array.length_toList
def OK:=@List.forIn_nil
def OL:=@Nat.mul_assoc
def OM:=@PySem.wpAny_attempt
def ON:=@PySem.wpAny_onRaise
set_option maxRecDepth 100000
namespace L2
open PySem PySem.Spec PyProof.Rows
abbrev _root_.Pa:=Str->Option Value
abbrev _root_.Pb:=List (Addr×Obj)
abbrev _root_.Pc:=Value->Shared->Prop
abbrev _root_.Pd:=List (Option Nat)
abbrev Key:=Sum Int Str
noncomputable def kQ:Key->Value->Bool
 |.inl k,v=>Value.isInt k v
 |.inr x,v=>Value.isStrOf x v
noncomputable def keyH(w:World):Key->Int
 |.inl k=>hashInt k
 |.inr x=>hashStr w x
theorem cS:∀{k:Key}{v:Value},kQ k v=true->(∃i t,k=Sum.inl i/\v=Value.int i t)\/(∃x t,k=Sum.inr x/\v=Value.str x t)
 |
  .inl i,v,h=>by
  obtain⟨t,e⟩:=Value.isInt_shape (k:=i) (v:=v) h;exact .inl ⟨i,t,rfl,e⟩
 |
  .inr x,v,h=>by
  obtain⟨t,e⟩:=Value.isStrOf_shape (x:=x) (v:=v) h;exact .inr ⟨x,t,rfl,e⟩
def yE(i:Int)(t:Tok):kQ (.inl i) (.int i t)=true:=by simp [kQ,Value.isInt]
def xw(x:Str)(t:Tok):kQ (.inr x) (.str x t)=true:=by simp [kQ,Value.isStrOf]
def Jw(a b:Int):decide ((Sum.inl a:Key)=Sum.inl b)=(a==b):=by
 by_cases e:a=b
 .subst e;simp
 .have h:¬ (Sum.inl a:Key)=Sum.inl b:=λq=>e (Sum.inl.inj q);rw[K_ h];exact (MM.mpr e).symm
def FY(a b:Str):decide ((Sum.inr a:Key)=Sum.inr b)=decide (a=b):=by
 by_cases e:a=b
 .subst e;simp
 .have h:¬ (Sum.inr a:Key)=Sum.inr b:=λq=>e (Sum.inr.inj q);rw[K_ h,K_ e]
def Fp(a:Int)(b:Str):decide ((Sum.inl a:Key)=Sum.inr b)=false:=K_ (λq=>nomatch q)
def HA(a:Str)(b:Int):decide ((Sum.inr a:Key)=Sum.inl b)=false:=K_ (λq=>nomatch q)
noncomputable def bW(prog:Program)(w:World):PySem.KeyKind prog w Key where
 is:=kQ
 hash:=keyH w
 inj
  := λv a b ha hb=>by
  rcases cS ha with ⟨i,t,rfl,rfl⟩ |⟨x,t,rfl,rfl⟩
  .rcases cS hb with ⟨j,u,rfl,e⟩ |⟨y,u,rfl,e⟩
   .injection e with e1 _;rw[e1]
   .exact nomatch e
  .rcases cS hb with ⟨j,u,rfl,e⟩ |⟨y,u,rfl,e⟩
   .exact nomatch e
   .injection e with e1 _;rw[e1]
 byValue:=λk v h=>by rcases cS h with ⟨i,t,rfl,rfl⟩ |⟨x,t,rfl,rfl⟩ <;> rfl
 pyHash:=λhv h=>by
  rcases cS hv with ⟨i,t,rfl,rfl⟩ |⟨x,t,rfl,rfl⟩
  .exact wpAny_pyHash_int h
  .exact wpAny_pyHash_str h
 eqBool:=λhu hv h=>by
  rcases cS hu with ⟨i,t,rfl,rfl⟩ |⟨x,t,rfl,rfl⟩
  .rcases cS hv with ⟨j,u,rfl,rfl⟩ |⟨y,u,rfl,rfl⟩
   .rw[Jw] at h;exact wpAny_eqBool_int h
   .rw[Fp] at h;exact SeqAt.EqAt.int_str i t y u _ _ _ _ h
  .rcases cS hv with ⟨j,u,rfl,rfl⟩ |⟨y,u,rfl,rfl⟩
   .rw[HA] at h;exact SeqAt.EqAt.str_int x t j u _ _ _ _ h
   .rw[FY] at h;exact wpAny_eqBool_str h
 «strs»:=λk x t v h=>by
  rcases cS h with ⟨i,u,rfl,e⟩ |⟨y,u,rfl,e⟩
  .exact nomatch e
  .injection e with e1 _;subst e1;cases v <;> rfl
def ud(prog:Program)(w:World)(i:Int)(t:Tok):(bW prog w).is (.inl i) (.int i t)=true:=yE i t
def lE(prog:Program)(w:World)(x:Str)(t:Tok):(bW prog w).is (.inr x) (.str x t)=true:=xw x t
inductive V where
 |non |bl (b:Bool) |int (i:Int) |str (x:Str) |byt (b:Array UInt8) |flt (b:UInt64) |ref (a:Addr) |ty (n:String)
 deriving DecidableEq
def RelV:V->Value->Prop
 |.non,u=>u=Value.none
 |.bl b,u=>u=Value.bool b
 |.int i,u=>∃t,u=Value.int i t
 |.str x,u=>∃t,u=Value.str x t
 |.byt b,u=>∃t,u=Value.bytes b t
 |.flt b,u=>∃t,u=Value.float b t
 |.ref a,u=>u=Value.ref a
 |.ty n,u=>u=Value.type n
abbrev Vals:List V->List Value->Prop:=Paired RelV
def Vals.length(r:Vals xs us):xs.length=us.length:=Paired.length r
def Vals.get{xs:List V}{us:List Value}{i:Nat}{x:V}(r:Vals xs us)(e:xs[i]?=some x):∃u,us[i]?=some u/\RelV x u:=by
 induction r generalizing i with
 |nil=>rw[List.getElem?_nil] at e;cases e
 |
  cons r t ih=>
  cases i with
  |zero=>cases e;exact⟨_,rfl,r⟩
  |succ i=>exact ih (i:=i) e
def Vals.set(r:RelV x u)(i:Nat)(q:Vals xs us):Vals (xs.set i x) (us.set i u):=by
 induction q generalizing i with
 |nil=>exact .nil
 |
  cons q t ih=>
  cases i with
  |zero=>exact .cons r t
  |succ i=>exact .cons q (ih i)
def Vals.append(r:Vals xs us)(s:Vals ys ws):Vals (xs++ys) (us++ws):=by
 induction r with
 |nil=>exact s
 |cons r t ih=>exact .cons r ih
def Vals.take(n:Nat)(r:Vals xs us):Vals (xs.take n) (us.take n):=by
 induction r generalizing n with
 |nil=>rw[NO,NO];exact .nil
 |
  cons r t ih=>
  cases n with
  |zero=>exact .nil
  |succ n=>exact .cons r (ih n)
def Vals.drop(n:Nat)(r:Vals xs us):Vals (xs.drop n) (us.drop n):=by
 induction r generalizing n with
 |nil=>rw[N4,N4];exact .nil
 |
  cons r t ih=>
  cases n with
  |zero=>exact .cons r t
  |succ n=>exact ih n
def RelO:Option V->Option Value->Prop
 |some v,some u=>RelV v u
 |none,none=>True
 |_,_=>False
def KV{κ:Type}:List (κ×V)->List (κ×Value)->Prop:=Paired λ(p:κ×V) (q:κ×Value)=>p.1=q.1/\RelV p.2 q.2
noncomputable def kV:Key->V
 |.inl i=>.int i
 |.inr x=>.str x
inductive HO where
 |lst (xs:List V)
 |tup (xs:List V)
 |dK (kvs:List (Key×V)) |dT (kvs:List (List Key×V))
 |set (S:Int->Bool) (n:Nat)
 |ins (C dx:Addr) (fs:List (Str×V))
 |own (x:Addr)
 |xd (fs:List (Str×V))
 |met (f x:Addr)
 |rng (lo hi:Int)
 |frz (o:Obj) (u:HO)
 |tbl (ps:Array Value)
 |ext (φ:Heap->Prop)
abbrev Hp:=Addr->Option HO
noncomputable def upd(H:Hp)(a:Addr)(o:HO):Hp:=λb=>if b=a then some o else H b
def cX:upd H a o a=some o:=by unfold upd;rw[if_pos rfl]
def bE(h:b≠a):upd H a o b=H b:=by unfold upd;rw[if_neg h]
def JO{H:Hp}{a b:Addr}{o u:HO}(h:H a=some o)(h':H b=some u)(d:o≠u):a≠b:=by intro e;subst e;rw[h] at h';exact d (MC h')
def cp{H:Hp}{a b:Addr}{o:HO}(h:H a=some o)(h':H b=none):a≠b:=by intro e;subst e;rw[h] at h';cases h'
section
variable(P:Program)(w:World)
def ObjOk(H:Hp)(h:Heap)(a:Addr):HO->Prop
 |.lst xs=>xs.length<=sizeLine/\∃(its:List Value) (n:Nat),Vals xs its/\h.get? a=some { cls:=.type "list",data:=.seq its.toArray n }
 |.tup xs=>xs.length<=sizeLine/\∃its:List Value,Vals xs its/\IsTup h a its.toArray
 |.dK kvs=>kvs.length<=sizeLine/\(a==sysModules)=false/\∃vs,KV kvs vs/\h.DictOf (bW P w) a vs
 |.dT kvs=>kvs.length<=sizeLine/\(a==sysModules)=false/\∃xs:List (List Key×Addr×Value),
  Paired (λ(p:List Key×V) (q:List Key×Addr×Value)=>p.1=q.1/\H q.2.1=some (.tup (p.1.map kV))/\RelV p.2 q.2.2) kvs xs/\
  ∃o es ep,h.get? a=some o/\o.ExactDict/\o.data=.dict es ep/\es.toList=xs.map (entryOfKey (tupleKind (bW P w)))/\(xs.map (·.1)).Nodup
 |.set S n=>h.SetOf (intKind P w) a S n
 |.ins C dx fs=>H dx=some (.own a)/\fs.length<=1000/\dx≠a/\h.get? a=some (W.instObj C dx)/\
  ∃mA,h.Ns1 dx mA/\(∀f,RelO (fs.lookup f) (mA f))/\PySem.Within mA (fs.map (·.1))
 |.own _=>∃o,h.get? a=some o
 |.xd fs=>∃mA,h.Ns1 a mA/\∀f,RelO (fs.lookup f) (mA f)
 |.rng lo hi=>∃t u v,h.get? a=some { cls:=.type "range",data:=.fields #[.int lo t,.int hi u,.int 1 v] }
 |.frz o u=>h.get? a=some o/\ObjOk H h a u
 |.tbl ps=>h.get? a=some { cls:=.none,data:=.fields ps }
 |.met f x=>h.get? a=some (W.methodObj (.ref f) (.ref x))
 |.ext φ=>φ h/\(∃o,h.get? a=some o)/\∀h1 h2:Heap,φ h1->(∀o,h1.get? a=some o->h2.get? a=some o)->φ h2
def HOk(H:Hp)(h:Heap):Prop:=∀a o,H a=some o->ObjOk P w H h a o
end
section
variable{P:Program}{w:World}{H H':Hp}{h h':Heap}{a:Addr}{o:HO}
def ObjOk.lt(x:ObjOk P w H h a o):a<h.objs.size:=by
 cases o with
 |lst xs=>obtain⟨_,_,_,_,e⟩:=x;exact Em e
 |tup xs=>obtain⟨_,_,_,p⟩:=x;exact p.lt
 |dK kvs=>obtain⟨_,_,_,_,o,_,_,e,_⟩:=x;exact Em e
 |dT kvs=>obtain⟨_,_,_,_,o,_,_,e,_⟩:=x;exact Em e
 |set S n=>obtain⟨o,_,_,_,e,_⟩:=x;exact Em e
 |ins C dx fs=>obtain⟨_,_,_,e,_⟩:=x;exact Em e
 |own y=>obtain⟨_,e⟩:=x;exact Em e
 |xd fs=>obtain⟨_,⟨_,_,_,e,_⟩,_⟩:=x;exact Em e
 |rng lo hi=>obtain⟨_,_,_,e⟩:=x;exact Em e
 |frz ob u=>obtain⟨e,_⟩:=x;exact Em e
 |tbl ps=>exact Em (show h.get? a=some _ from x)
 |met f y=>exact Em (show h.get? a=some _ from x)
 |ext φ=>obtain⟨_,⟨_,e⟩,_⟩:=x;exact Em e
def Paired.mapP(r:Paired F l₁ l₂)(f:∀a b,F a b->G a b):Paired G l₁ l₂:=by
 induction r with
 |nil=>exact .nil
 |cons r t ih=>exact .cons (f _ _ r) ih
def ObjOk.stay(x:ObjOk P w H h a o)(k:∀b u,(b=a\/H b=some (.own a))->h.get? b=some u->h'.get? b=some u)
 (ho:∀b,H b=some (.own a)->H' b=some (.own a)) (ht:∀b xs,H b=some (.tup xs)->H' b=some (.tup xs)):ObjOk P w H' h' a o:=by
 induction o with
 |lst xs=>obtain⟨z,its,n,r,e⟩:=x;exact⟨z,its,n,r,k _ _ (.inl rfl) e⟩
 |tup xs=>obtain⟨z,its,r,ob,e,c⟩:=x;exact⟨z,its,r,ob,k _ _ (.inl rfl) e,c⟩
 |dK kvs=>obtain⟨z,y,vs,r,ob,es,ep,e,c⟩:=x;exact⟨z,y,vs,r,ob,es,ep,k _ _ (.inl rfl) e,c⟩
 |dT kvs=>obtain⟨z,y,xs,r,ob,es,ep,e,c⟩:=x;exact⟨z,y,xs,Paired.mapP r λp q z=>⟨z.1,ht _ _ z.2.1,z.2.2⟩,ob,es,ep,k _ _ (.inl rfl) e,c⟩
 |set S n=>obtain⟨ob,es,ep,t,e,c⟩:=x;exact⟨ob,es,ep,t,k _ _ (.inl rfl) e,c⟩
 |ins C dx fs=>obtain⟨d,z,ne,e,mA,⟨od,es,ep,e2,c⟩,r⟩:=x;exact⟨ho _ d,z,ne,k _ _ (.inl rfl) e,mA,⟨od,es,ep,k _ _ (.inr d) e2,c⟩,r⟩
 |own y=>obtain⟨ob,e⟩:=x;exact⟨ob,k _ _ (.inl rfl) e⟩
 |xd fs=>obtain⟨mA,⟨od,es,ep,e,c⟩,r⟩:=x;exact⟨mA,⟨od,es,ep,k _ _ (.inl rfl) e,c⟩,r⟩
 |rng lo hi=>obtain⟨t,u,v,e⟩:=x;exact⟨t,u,v,k _ _ (.inl rfl) e⟩
 |frz ob u ih=>obtain⟨e,q⟩:=x;exact⟨k _ _ (.inl rfl) e,ih q⟩
 |tbl ps=>have e:h.get? a=some { cls:=.none,data:=.fields ps }:=x;show h'.get? a=some { cls:=.none,data:=.fields ps };exact k a _ (.inl rfl) e
 |met f y=>have e:h.get? a=some (W.methodObj (.ref f) (.ref y)):=x;show h'.get? a=some (W.methodObj (.ref f) (.ref y));exact k a _ (.inl rfl) e
 |ext φ=>obtain⟨p,⟨o,e⟩,st⟩:=x;exact⟨st _ _ p λo q=>k _ _ (.inl rfl) q,⟨o,k _ _ (.inl rfl) e⟩,st⟩
def HOk.lt(x:HOk P w H h)(e:H a=some o):a<h.objs.size:=(x a o e).lt
def HOk.fresh(x:HOk P w H h)(e:h.objs.size<=a):H a=none:=by
 cases q:H a with
 |none=>rfl
 |some u=>exact absurd (I_ (x.lt q) e) (Nc _)
def HOk.kept(x:HOk P w H h)(k:∀b u,h.get? b=some u->h'.get? b=some u):HOk P w H h':=λa o e=>
 (x a o e).stay (λb u _ q=>k b u q) (λ_ q=>q) λ_ _ q=>q
def HOk.laid(x:HOk P w H h)(k:∀b u,h.get? b=some u->h'.get? b=some u)(hp:h.objs.size<=a)(new:ObjOk P w (upd H a o) h' a o):HOk P w (upd H a o) h':=λb u e=>by
 have hn:=x.fresh hp;by_cases hb:b=a
 .subst hb;rw[cX] at e;cases e;exact new
 .rw[bE hb] at e;exact (x b u e).stay (λc v _ q=>k c v q) (λc q=>by rw[bE (cp q hn)];exact q) λc xs q=>by rw[bE (cp q hn)];exact q
end
def Rd(H:Hp)(a:Addr)(u:HO):Prop:=H a=some u\/∃o,H a=some (.frz o u)
def Rd.ok(r:Rd H a u)(x:HOk P w H h):ObjOk P w H h a u:=by
 rcases r with r |⟨o,r⟩
 .exact x a u r
 .obtain⟨_,q⟩:=x a _ r;exact q
def Mut:Option HO->Prop
 |some (.lst _)=>True
 |some (.dK _)=>True
 |some (.dT _)=>True
 |some (.set _ _)=>True
 |some (.ins _ _ _)=>True
 |some (.ext _)=>True
 |_=>False
section
variable{P:Program}{w:World}{H:Hp}{h h':Heap}{x e:Addr}{o':HO}
def HOk.write(ok:HOk P w H h)(mu:Mut (H x))(he:e=x\/H e=some (.own x))(k:∀b u,b≠e->h.get? b=some u->h'.get? b=some u)(heo:∃u,h'.get? e=some u)
 (new:ObjOk P w (upd H x o') h' x o'):HOk P w (upd H x o') h':=λb u q=>by
 have nown:∀c y,H c=some (.own y)->c≠x:=λc y r z=>by subst z;rw[r] at mu;exact mu
 have ntup:∀c xs,H c=some (.tup xs)->c≠x:=λc xs r z=>by subst z;rw[r] at mu;exact mu
 by_cases hb:b=x
 .subst hb;rw[cX] at q;cases q;exact new
 .rw[bE hb] at q;by_cases hbe:b=e
  .have q':H b=some (.own x):=by
    rcases he with z |z
    .exact absurd (hbe.trans z) hb
    .rw[hbe];exact z
   rw[q] at q';cases q';obtain⟨v,hv⟩:=heo;exact⟨v,by rw[hbe];exact hv⟩
  .refine (ok b u q).stay (λc v hc r=>k c v ?_ r) (λc r=>by rw[bE (nown c b r)];exact r) λc xs r=>by rw[bE (ntup c xs r)];exact r
   rcases hc with rfl |hc
   .exact hbe
   .rintro rfl;rcases he with z |z
    .exact nown c b hc z
    .rw[hc] at z;cases z;exact hb rfl
end
structure Un(fs ex:List Addr)(H H':Hp)(h h':Heap):Prop where
 keep:∀b o,h.get? b=some o->H b=none->b∉fs->b∉ex->h'.get? b=some o
 slot:∀b o,h.get? b=some o->H b=none->b∈fs->b∉ex->∃sl,h'.get? b=some { o with slots:=sl }
 free:∀b o,h.get? b=some o->H b=none->b∉ex->H' b=none
 there:∀b o,h.get? b=some o->b∉ex->∃o',h'.get? b=some o'
 tups:∀b xs,H b=some (.tup xs)->H' b=some (.tup xs)
 frzs:∀b o u,H b=some (.frz o u)->H' b=some (.frz o u)
 tbls:∀b ps,H b=some (.tbl ps)->∃more,H' b=some (.tbl (ps++more))
section
variable{fs ex:List Addr}{H H1:Hp}{h h1 h':Heap}{a x e:Addr}{o:HO}
def Un.any(u:Un fs ex H H1 h h1)(q:h.get? b=some ob)(n:H b=none)(hx:b∉ex):∃sl,h1.get? b=some { ob with slots:=sl }:=by
 by_cases hb:b∈fs
 .exact u.slot b ob q n hb hx
 .exact⟨ob.slots,u.keep b ob q n hb hx⟩
def Un.kept(k:∀b u,h.get? b=some u->h'.get? b=some u):Un fs ex H H h h':=
 ⟨λb ob q _ _ _=>k b ob q,λb ob q _ _ _=>⟨ob.slots,k b ob q⟩,λ_ _ _ n _=>n,λb ob q _=>⟨ob,k b ob q⟩,λ_ _ q=>q,λ_ _ _ q=>q,λ_ ps q=>⟨#[],by rw[q];simp⟩⟩
def Un.refl:Un fs ex H H h h:=Un.kept λ_ _ q=>q
def Un.laid(k:∀b u,h.get? b=some u->h'.get? b=some u)(hp:h.objs.size<=a)(hn:H a=none):Un fs ex H (upd H a o) h h' where
 keep:=λb u q _ _ _=>k b u q
 slot:=λb u q _ _ _=>⟨u.slots,k b u q⟩
 free:=λb u q n _=>by rw[bE (ML (I_ (Em q) hp))];exact n
 there:=λb u q _=>⟨u,k b u q⟩
 tups:=λb xs q=>by rw[bE (cp q hn)];exact q
 frzs:=λb u xs q=>by rw[bE (cp q hn)];exact q
 tbls:=λb ps q=>⟨#[],by rw[bE (cp q hn),q];simp⟩
def Un.write(mu:Mut (H x))(he:e=x\/H e=some (.own x))(k:∀b u,b≠e->h.get? b=some u->h'.get? b=some u)(heo:∃u,h'.get? e=some u):Un fs ex H (upd H x o) h h':=by
 have hx:∀b,H b=none->b≠x:=λb n z=>by subst z;rw[n] at mu;exact mu
 have hb:∀b,H b=none->b≠e:=λb n z=>by
  subst z;rcases he with r |r
  .exact hx b n r
  .rw[n] at r;cases r
 have hm:∀b u,H b=some u->¬ Mut (some u)->b≠x:=λb u q nm z=>by subst z;rw[q] at mu;exact nm mu
 refine⟨λb u q n _ _=>k b u (hb b n) q,λb u q n _ _=>⟨u.slots,k b u (hb b n) q⟩,λb u q n _=>by rw[bE (hx b n)];exact n,λb u q _=>?_,
  λb xs q=>by rw[bE (hm b _ q λz=>z)];exact q,λb u xs q=>by rw[bE (hm b _ q λz=>z)];exact q,λb ps q=>⟨#[],by rw[bE (hm b _ q λz=>z),q];simp⟩⟩
 by_cases hbe:b=e
 .subst hbe;exact heo
 .exact⟨u,k b u hbe q⟩
end
noncomputable def trk(h:Heap)(H:Hp):List Addr:=(List.range h.objs.size).filter λa=>(H a).isSome
noncomputable def jL(h:Heap)(H:Hp):Heap:=W.hideAll h (trk h H)
def yq(h:Heap)(H:Hp):(jL h H).objs.size=h.objs.size:=W.hideAll_size _ _
def zH(e:h.get? b=some o)(n:H b=none):(jL h H).get? b=some o:=
 W.hideAll_get _ e λhm=>by have q:(H b).isSome=true:=(List.mem_filter.mp hm).2;rw[n] at q;simp at q
def Dv(e:(jL h H).get? b=some o):h.get? b=some o/\H b=none:=by
 have e':h.get? b=some o:=W.of_hideAll (trk h H) e;refine⟨e',?_⟩;cases q:H b with
 |none=>rfl
 |some x=>have hm:b∈trk h H:=List.mem_filter.mpr ⟨NY.mpr (Em e'),by simp [q]⟩;have z:(jL h H).get? b=none:=W.hideAll_none (trk h H) hm;rw[z] at e;cases e
noncomputable def CZ(g h:Heap)(L:Addr):List (Addr×Obj):=(List.range h.objs.size).filterMap λa=>if a=L\/(g.get? a).isSome=true then none else (h.get? a).map λo=>(a,o)
noncomputable def rest(g h:Heap)(L d:Addr):List (Addr×Obj):=(CZ g h L).filter λp=>decide (p.1≠d)
structure Mod(K:W.Frag)(mg:Pa)(base:Heap):Prop where
 kin:K.In base
 glob:base.Ns mainGlobals mg
 blt:∃mb,base.Ns builtinsNs mb/\∀x:Str,x ≠ "__name__"->mb x=bootBuiltins x
 nolimit:base.NoLimit
structure Cx where
 prog:Program
 w:World
 K:W.Frag
 mg:Str->Option Value
 base:Heap
 A:Around
 N:List Str
 s₀:Shared
 H₀:Hp
 env:Env
 outer:List Env
 stack:List Env
 ex:List Addr
 fn:Str->Bool
 calm:Bool
 pn:List (Addr×Obj)
 xe:Value->Shared->Prop
noncomputable def frs(l:List Env):List Addr:=l.filterMap (·.frame)
abbrev Cx.fs(X:Cx):List Addr:=frs X.outer
def Vis(sc:Scope)(x:Str):Prop:=sc.names.lookup x=some .local\/sc.names.lookup x=some .cell\/sc.names.lookup x=some .free
def Loc(sc:Scope)(x:Str):Prop:=sc.names.lookup x=some .local\/sc.names.lookup x=some .cell
def Look(env:Env)(h:Heap)(m:Pa)(x:Str)(u:Value):Prop:=
 (env.kindOf x=some .local/\m x=some u)\/((env.kindOf x=some .cell\/env.kindOf x=some .free)/\∃c,env.cells.lookup x=some c/\h.IsCell c (some u))
structure Cx.Ok(X:Cx):Prop where
 mod:Mod X.K X.mg X.base
 kind:X.env.scope.kind=.function
 glob:X.env.globals=mainGlobals
 blt:X.env.builtins=builtinsNs
 above:X.s₀.heap.objs.size<=X.env.locals
 inj:∀x y c,X.env.cells.lookup x=some c->X.env.cells.lookup y=some c->x=y
 has:∀x,(X.env.kindOf x=some .cell\/X.env.kindOf x=some .free)->∃c,X.env.cells.lookup x=some c
 cab:∀x c,X.fn x=true->X.env.cells.lookup x=some c->X.s₀.heap.objs.size<=c
 hd:X.calm=true->X.A.handled=none
 frames:X.A.frames=some X.stack
 stk:X.stack=X.outer\/(X.stack=X.env::X.outer/\X.env.frame=some X.env.locals)
 exf:∀b∈X.ex,b≠X.env.locals/\∀x c,X.env.cells.lookup x=some c->c≠b
 bs:∀b o,X.base.get? b=some o->X.s₀.heap.get? b=some o/\X.H₀ b=none
 bsz:X.base.objs.size<=X.s₀.heap.objs.size
 noex:∀b o,X.base.get? b=some o->b∉X.ex
 exfs:∀b∈X.ex,b∉X.fs
 funs:X.s₀.heap.FunFrames X.base X.outer
 frf:∀b∈X.fs,X.H₀ b=none
structure Inv(X:Cx)(pins:Pb)(σ:List (Option V))(H:Hp)(s:Shared):Prop where
 ok:X.Ok
 os:s.os=X.s₀.os
 bare:AllBare s.gens
 base:Un X.fs X.ex X.H₀ H X.s₀.heap s.heap
 loc:∃m,s.heap.Ns X.env.locals m/\∀(i:Nat) (x:Str) (v:V),X.N[i]?=some x->σ[i]?=some (some v)->Vis X.env.scope x->∃u,RelV v u/\Look X.env s.heap m x u
 cell:∀x c,X.env.cells.lookup x=some c->∃v,s.heap.IsCell c v
 free:H X.env.locals=none
 freeC:∀x c,X.env.cells.lookup x=some c->H c=none
 pin:∀p∈X.pn++pins,s.heap.get? p.1=some p.2/\H p.1=none/\p.1≠X.env.locals/\p.1∉X.fs/\∀v,p.2.data ≠ .cell v
 hok:HOk X.prog X.w H s.heap
 len:σ.length=X.N.length
section
variable{X:Cx}{pins:Pb}{σ:List (Option V)}{H H':Hp}{s:Shared}{h':Heap}
def Cx.Ok.nofr(ok:X.Ok)(e:X.base.get? b=some o):b∉X.fs:=λhb=>by
 have:=(ok.funs.mem hb).1
 rw[e] at this;cases this
def Inv.bs(I:Inv X pins σ H s):∀b o,X.base.get? b=some o->s.heap.get? b=some o/\H b=none:=λb o e=>
 ⟨I.base.keep b o (I.ok.bs b o e).1 (I.ok.bs b o e).2 (I.ok.nofr e) (I.ok.noex b o e),I.base.free b o (I.ok.bs b o e).1 (I.ok.bs b o e).2 (I.ok.noex b o e)⟩
def Inv.bk(I:Inv X pins σ H s):∀b o,X.base.get? b=some o->s.heap.get? b=some o:=λb o e=>(I.bs b o e).1
def Inv.mod(I:Inv X pins σ H s):Mod X.K X.mg X.base:=I.ok.mod
def Inv.kIn(I:Inv X pins σ H s):X.K.In s.heap:=I.ok.mod.kin.keeps I.bk
def Inv.lt(I:Inv X pins σ H s):X.env.locals<s.heap.objs.size:=let ⟨_,hn,_⟩:=I.loc;hn.lt
def Inv.sz(I:Inv X pins σ H s):X.s₀.heap.objs.size<=s.heap.objs.size:=G_ I.ok.above (Nat.le_of_lt I.lt)
def Inv.nofs(I:Inv X pins σ H s)(h:s.heap.objs.size<=a):a∉X.fs:=λhb=>by obtain⟨_,o,ho,_⟩:=I.ok.funs.mem hb;exact absurd (I_ (Em ho) (G_ I.sz h)) (Nc _)
def Inv.cne(I:Inv X pins σ H s):∀x c,X.env.cells.lookup x=some c->c≠X.env.locals:=λx c e z=>by obtain⟨v,o,ho,hd⟩:=I.cell x c e;obtain⟨m,⟨o',es,ep,ho',hd',_⟩,_⟩:=I.loc;rw[z,ho'] at ho;cases ho;rw[hd'] at hd;cases hd
def Inv.funs(I:Inv X pins σ H s):s.heap.FunFrames X.base X.outer:=by
 have all:∀(l:List Env),(∀b∈frs l,b∈X.fs)->X.s₀.heap.FunFrames X.base l->s.heap.FunFrames X.base l:=by
  intro l;induction l with
  |nil=>intro _ _;trivial
  |cons env r ih=>intro hs hl;obtain⟨hk,⟨L,o,hf,hn,ho,hd⟩,hr⟩:=hl;have hL:L∈X.fs:=hs L (by unfold frs;rw[Nw,hf];exact H_);obtain⟨sl,e⟩:=I.base.slot L o ho (I.ok.frf L hL) hL λz=>I.ok.exfs L z hL;exact⟨hk,⟨L,_,hf,hn,e,hd⟩,ih (λb hb=>hs b (by unfold frs;rw[Nw,hf];exact A_ _ hb)) hr⟩
 exact all X.outer (λ_ hb=>hb) I.ok.funs
def Inv.stack(I:Inv X pins σ H s):s.heap.FunFrames X.base X.stack:=by
 rcases I.ok.stk with e |⟨e,hf⟩
 .rw[e];exact I.funs
 .rw[e];obtain⟨m,hn,_⟩:=I.loc;refine .cons (by rw[I.ok.kind];decide) hf hn ?_ I.funs;exact Oz (G_ I.ok.bsz I.ok.above)
def Inv.stkSub(I:Inv X pins σ H s):∀b∈frs X.stack,b∈X.env.locals::X.fs:=λb hb=>by
 rcases I.ok.stk with e |⟨e,hf⟩
 .rw[e] at hb;exact A_ _ hb
 .rw[e] at hb;unfold frs at hb;rw[Nw,hf] at hb;exact hb
def Inv.stkFree(I:Inv X pins σ H s):∀b∈frs X.stack,H b=none:=λb hb=>by
 rcases MN.mp (I.stkSub b hb) with e |hb
 .rw[e];exact I.free
 .obtain⟨_,o,ho,_⟩:=I.ok.funs.mem hb;exact I.base.free b o ho (I.ok.frf b hb) λz=>I.ok.exfs b z hb
def Inv.step{g':Array GenState}{t':Nat}{d':Drawn}{ch:List Addr}(I:Inv X pins σ H s)
 (hch:∀b∈ch,(b∈X.ex\/X.s₀.heap.objs.size<=b)/\b≠X.env.locals/\(∀x c,X.env.cells.lookup x=some c->c≠b)/\∀p∈X.pn++pins,p.1≠b)
 (keep:∀b o,b≠X.env.locals->b∉X.fs->b∉ch->s.heap.get? b=some o->H b=none->h'.get? b=some o)
 (slot:∀b o,b≠X.env.locals->b∈X.fs->b∉ch->s.heap.get? b=some o->H b=none->∃sl,h'.get? b=some { o with slots:=sl }) (free:∀b o,b∉ch->s.heap.get? b=some o->H b=none->H' b=none)
 (there:∀b o,b∉ch->s.heap.get? b=some o->∃o',h'.get? b=some o')
 (tups:∀b xs,H b=some (.tup xs)->H' b=some (.tup xs)) (frzs:∀b o u,H b=some (.frz o u)->H' b=some (.frz o u)) (tbls:∀b ps,H b=some (.tbl ps)->∃more,H' b=some (.tbl (ps++more)))
 (ns:∀m,s.heap.Ns X.env.locals m->h'.Ns X.env.locals m) (hok:HOk X.prog X.w H' h') (hg:AllBare g'):
 Inv X pins σ H' { s with heap:=h',gens:=g',drawn:=d',toks:=t' }:=by
 have neL:∀b o,X.s₀.heap.get? b=some o->b≠X.env.locals:=λb o e=>ML (I_ (Em e) I.ok.above);have neC:∀b o,X.s₀.heap.get? b=some o->b∉X.ex->b∉ch:=λb o e hx hb=>by
  rcases (hch b hb).1 with z |z
  .exact hx z
  .exact absurd (I_ (Em e) z) (Nc _)
 have cellK:∀x c,X.env.cells.lookup x=some c->∀v,s.heap.IsCell c v->h'.IsCell c v:=λx c e v ⟨o,ho,hd⟩=>by
  have nch:c∉ch:=λz=>(hch c z).2.2.1 x c e rfl;by_cases hc:c∈X.fs
  .obtain⟨sl,q⟩:=slot c o (I.cne x c e) hc nch ho (I.freeC x c e);exact⟨_,q,hd⟩
  .exact⟨o,keep c o (I.cne x c e) hc nch ho (I.freeC x c e),hd⟩
 refine⟨I.ok,I.os,hg,⟨λb o e n hb hx=>?_,λb o e n hb hx=>?_,λb o e n hx=>?_,λb o e hx=>?_,λb xs e=>tups b xs (I.base.tups b xs e),λb o xs e=>frzs b o xs (I.base.frzs b o xs e),λb ps e=>?_⟩,?_,λx c e=>?_,?_,λx c e=>?_,λp hp=>?_,hok,I.len⟩
 .exact keep b o (neL b o e) hb (neC b o e hx) (I.base.keep b o e n hb hx) (I.base.free b o e n hx)
 .obtain⟨sl,e1⟩:=I.base.slot b o e n hb hx;obtain⟨sl',e2⟩:=slot b _ (neL b o e) hb (neC b o e hx) e1 (I.base.free b o e n hx);exact⟨sl',e2⟩
 .obtain⟨o',e1⟩:=I.base.there b o e hx;exact free b o' (neC b o e hx) e1 (I.base.free b o e n hx)
 .obtain⟨o',e1⟩:=I.base.there b o e hx;exact there b o' (neC b o e hx) e1
 .obtain⟨m1,e1⟩:=I.base.tbls b ps e;obtain⟨m2,e2⟩:=tbls b _ e1;exact⟨m1++m2,by rw[e2,Array.append_assoc]⟩
 .obtain⟨m,hn,hl⟩:=I.loc;refine⟨m,ns m hn,λi x v e1 e2 e3=>?_⟩;obtain⟨u,r,l⟩:=hl i x v e1 e2 e3;refine⟨u,r,?_⟩;rcases l with l |⟨k,c,e,z⟩
  .exact .inl l
  .exact .inr ⟨k,c,e,cellK x c e _ z⟩
 .obtain⟨v,z⟩:=I.cell x c e;exact⟨v,cellK x c e v z⟩
 .obtain⟨m,⟨o,_,_,ho,_⟩,_⟩:=I.loc;exact free _ o (λz=>(hch _ z).2.1 rfl) ho I.free
 .obtain⟨v,o,ho,hd⟩:=I.cell x c e;exact free c o (λz=>(hch c z).2.2.1 x c e rfl) ho (I.freeC x c e)
 .obtain⟨e,n,ne,nf,d⟩:=I.pin p hp;have nch:p.1∉ch:=λz=>(hch p.1 z).2.2.2 p hp rfl;exact⟨keep p.1 p.2 ne nf nch e n,free p.1 p.2 nch e n,ne,nf,d⟩
def Inv.un{t':Nat}(I:Inv X pins σ H s)(u:Un X.fs [] H H' s.heap h')(hok:HOk X.prog X.w H' h'):Inv X pins σ H' { s with heap:=h',toks:=t' }:=by obtain⟨m,⟨o,es,ep,ho,r⟩,_⟩:=id I.loc;obtain⟨sl,hL⟩:=u.any ho I.free (by simp);exact I.step (g':=s.gens) (d':=s.drawn) (ch:=[]) (λ_ z=>nomatch z) (λb o _ hb _ e n=>u.keep b o e n hb (by simp)) (λb o _ hb _ e n=>u.slot b o e n hb (by simp)) (λb o _ e n=>u.free b o e n (by simp)) (λb o _ e=>u.there b o e (by simp)) u.tups u.frzs u.tbls (λm' hm=>by obtain⟨o',es',ep',ho',r'⟩:=hm;rw[ho] at ho';cases ho';exact⟨_,es',ep',hL,r'⟩) hok I.bare
def Inv.call{g':Array GenState}{t':Nat}{d':Drawn}{ch:List Addr}(I:Inv X pins σ H s)(u:Un (frs X.stack) ch H H' s.heap h')(hok:HOk X.prog X.w H' h')(hg:AllBare g')
 (hch:∀b∈ch,(b∈X.ex\/X.s₀.heap.objs.size<=b)/\b≠X.env.locals/\(∀x c,X.env.cells.lookup x=some c->c≠b)/\∀p∈X.pn++pins,p.1≠b):
 Inv X pins σ H' { s with heap:=h',gens:=g',drawn:=d',toks:=t' }:=by
 obtain⟨m,⟨o,es,ep,ho,r⟩,_⟩:=id I.loc;obtain⟨sl,hL⟩:=u.any ho I.free λz=>(hch _ z).2.1 rfl;exact I.step (ch:=ch) hch (λb o hL hb hc e n=>u.keep b o e n (λz=>(MN.mp (I.stkSub b z)).elim hL hb) hc) (λb o _ _ hc e n=>u.any e n hc) (λb o hc e n=>u.free b o e n hc) (λb o hc e=>u.there b o e hc) u.tups u.frzs u.tbls (λm' hm=>by obtain⟨o',es',ep',ho',r'⟩:=hm;rw[ho] at ho';cases ho';exact⟨_,es',ep',hL,r'⟩) hok hg
def Inv.turned{t':Nat}{it:Addr}(I:Inv X pins σ H s)(k:∀b o,b≠it->s.heap.get? b=some o->h'.get? b=some o)(hn:H it=none)(hL:it≠X.env.locals)
 (h1:it∈X.ex\/X.s₀.heap.objs.size<=it) (h2:∀x c,X.env.cells.lookup x=some c->c≠it) (h3:∀p∈X.pn++pins,p.1≠it):Inv X pins σ H { s with heap:=h',toks:=t' }:=by
 have nit:∀b u,H b=some u->b≠it:=λb u e z=>by rw[z,hn] at e;cases e
 refine I.step (g':=s.gens) (d':=s.drawn) (ch:=[it]) (λb hb=>?_) (λb o _ _ hc e _=>k b o (λz=>hc (by simp [z])) e) (λb o _ _ hc e _=>⟨o.slots,k b o (λz=>hc (by simp [z])) e⟩) (λ_ _ _ _ n=>n)
  (λb o hc e=>⟨o,k b o (λz=>hc (by simp [z])) e⟩) (λ_ _ e=>e) (λ_ _ _ e=>e) (λb ps e=>⟨#[],by rw[e];simp⟩) (λm hm=>?_) (λb u e=>?_) I.bare
 .have e:b=it:=by simpa using hb
  subst e;exact⟨h1,hL,h2,h3⟩
 .obtain⟨o,es,ep,ho,r⟩:=hm;exact⟨o,es,ep,k _ o (Ne.symm hL) ho,r⟩
 .refine (I.hok b u e).stay (λc v hc q=>k c v ?_ q) (λ_ q=>q) λ_ _ q=>q;rcases hc with z |z
  .rw[z];exact nit b u e
  .exact nit c _ z
def Inv.tok(I:Inv X pins σ H s)(t:Nat):Inv X pins σ H { s with toks:=t }:=I.un (h':=s.heap) (t':=t) Un.refl I.hok
def Inv.kept(I:Inv X pins σ H s)(k:∀b u,s.heap.get? b=some u->h'.get? b=some u):Inv X pins σ H { s with heap:=h',toks:=t' }:=I.un (Un.kept k) (I.hok.kept k)
def Inv.laid(I:Inv X pins σ H s)(k:∀b u,s.heap.get? b=some u->h'.get? b=some u)(hp:s.heap.objs.size<=a)(new:ObjOk X.prog X.w (upd H a o) h' a o):
 Inv X pins σ (upd H a o) { s with heap:=h',toks:=t' }:=I.un (Un.laid k hp (I.hok.fresh hp)) (I.hok.laid k hp new)
def Inv.write(I:Inv X pins σ H s)(mu:Mut (H x))(he:e=x\/H e=some (.own x))(k:∀b u,b≠e->s.heap.get? b=some u->h'.get? b=some u)(heo:∃u,h'.get? e=some u)
 (new:ObjOk X.prog X.w (upd H x o) h' x o):Inv X pins σ (upd H x o) { s with heap:=h',toks:=t' }:=I.un (Un.write mu he k heo) (I.hok.write mu he k heo new)
def Inv.pins_of(I:Inv X pins σ H s)(h:∀p∈pins',s.heap.get? p.1=some p.2/\H p.1=none/\p.1≠X.env.locals/\p.1∉X.fs/\∀v,p.2.data ≠ .cell v):Inv X pins' σ H s:=
 ⟨I.ok,I.os,I.bare,I.base,I.loc,I.cell,I.free,I.freeC,λp hp=>(M7.mp hp).elim (λz=>I.pin p (List.mem_append_left _ z)) (h p),I.hok,I.len⟩
def sZ{N:List Str}(hN:N.Nodup){i j:Nat}{x:Str}(a:N[i]?=some x)(b:N[j]?=some x):i=j:=by obtain⟨h1,e1⟩:=x_.mp a;obtain⟨h2,e2⟩:=x_.mp b;exact (List.getElem_inj hN).mp (e1.trans e2.symm)
def pf(I:Inv X pins σ H s)(hN:X.N.Nodup)(hi:X.N[i]?=some x)(hx:Loc X.env.scope x)(r:RelV v u)
 (h:∀s',Inv X pins (σ.set i (some v)) H s'->(∃a,Heap.SameBut a s.heap s'.heap/\(a=X.env.locals\/X.env.cells.lookup x=some a))->Q () s') (hf:X.fn x=true\/X.env.scope.names.lookup x=some .local):wpAny M A (storeName X.env x u) Q E s:=by
 obtain⟨m,hn,hl⟩:=id I.loc;have hcls:(X.env.scope.kind == .class || (X.env.scope.kind == .module&&X.env.locals != X.env.globals))=false:=by rw[I.ok.kind];rfl
 have hiσ:i<σ.length:=by rw[I.len];exact (x_.mp hi).1
 have cne:=I.cne;have tracked:∀{a:Addr}{h':Heap},(∃o,s.heap.get? a=some o/\H a=none)->Heap.SameBut a s.heap h'->HOk X.prog X.w H h':=λ{a h'} ha hs b ob e=>by
  obtain⟨_,_,hfree⟩:=ha;refine (I.hok b ob e).stay (λc w' hc q=>(hs.2 c ?_).trans q) (λ_ q=>q) λ_ _ q=>q;rintro rfl;rcases hc with rfl |hc
  .rw[hfree] at e;cases e
  .rw[hfree] at hc;cases hc
 rcases hx with hk |hk
 .refine wpAny_storeName_local hk hn (λh' hn' hs=>?_) hcls;obtain⟨oL,_,_,hoL,_⟩:=id hn;refine h _ ⟨I.ok,I.os,I.bare,⟨λb o e n hb hx=>?_,λb o e n hb hx=>?_,I.base.free,λb o e hx=>?_,I.base.tups,I.base.frzs,I.base.tbls⟩,⟨_,hn',λj y v' e1 e2 e3=>?_⟩,λy c e=>?_,I.free,I.freeC,λp hp=>?_,tracked ⟨oL,hoL,I.free⟩ hs,by simpa using I.len⟩ ⟨_,hs,.inl rfl⟩
  .exact (hs.2 b (ML (I_ (Em e) I.ok.above))).trans (I.base.keep b o e n hb hx)
  .obtain⟨sl,e1⟩:=I.base.slot b o e n hb hx;exact⟨sl,(hs.2 b (ML (I_ (Em e) I.ok.above))).trans e1⟩
  .obtain⟨o',e1⟩:=I.base.there b o e hx;exact⟨o',(hs.2 b (ML (I_ (Em e) I.ok.above))).trans e1⟩
  .by_cases hj:j=i
   .subst hj;rw[hi] at e1;cases e1;rw[List.getElem?_set_self hiσ] at e2;cases e2;exact⟨u,r,.inl ⟨hk,by simp⟩⟩
   .rw[NZ (Ne.symm hj)] at e2;obtain⟨u',r',q⟩:=hl j y v' e1 e2 e3;refine⟨u',r',?_⟩;rcases q with ⟨k,e⟩ |⟨k,c,e,z⟩
    .refine .inl ⟨k,?_⟩;have:y≠x:=λe=>hj (sZ hN e1 (e ▸ hi));simp [this,e]
    .exact .inr ⟨k,c,e,z.sameBut hs (cne y c e)⟩
  .obtain⟨w',z⟩:=I.cell y c e;exact⟨w',z.sameBut hs (cne y c e)⟩
  .obtain⟨e,n,ne,nf,d⟩:=I.pin p hp;exact⟨(hs.2 p.1 ne).trans e,n,ne,nf,d⟩
 .have hfn:X.fn x=true:=by
   rcases hf with z |z
   .exact z
   .rw[z] at hk;cases hk
  obtain⟨c,hc⟩:=I.ok.has x (.inl hk);obtain⟨w',z⟩:=I.cell x c hc;refine wpAny_storeName_cell I.ok.kind hk hc z (λh' hc' hs=>?_);obtain⟨oc,hoc,hocd⟩:=id z;refine h { s with heap:=h' } ⟨I.ok,I.os,I.bare,⟨λb o e n hb hx=>?_,λb o e n hb hx=>?_,I.base.free,λb o e hx=>?_,I.base.tups,I.base.frzs,I.base.tbls⟩,⟨m,hn.sameBut hs (Ne.symm (cne x c hc)),λj y v' e1 e2 e3=>?_⟩,λy c' e=>?_,I.free,I.freeC,λp hp=>?_,tracked ⟨oc,hoc,I.freeC x c hc⟩ hs,by simpa using I.len⟩ ⟨c,hs,.inr hc⟩
  .exact (hs.2 b (ML (I_ (Em e) (I.ok.cab x c hfn hc)))).trans (I.base.keep b o e n hb hx)
  .obtain⟨sl,e1⟩:=I.base.slot b o e n hb hx;exact⟨sl,(hs.2 b (ML (I_ (Em e) (I.ok.cab x c hfn hc)))).trans e1⟩
  .obtain⟨o',e1⟩:=I.base.there b o e hx;exact⟨o',(hs.2 b (ML (I_ (Em e) (I.ok.cab x c hfn hc)))).trans e1⟩
  .by_cases hj:j=i
   .subst hj;rw[hi] at e1;cases e1;rw[List.getElem?_set_self hiσ] at e2;cases e2;exact⟨u,r,.inr ⟨.inl hk,c,hc,hc'⟩⟩
   .rw[NZ (Ne.symm hj)] at e2;obtain⟨u',r',q⟩:=hl j y v' e1 e2 e3;refine⟨u',r',?_⟩;rcases q with q |⟨k,c',e,z'⟩
    .exact .inl q
    .refine .inr ⟨k,c',e,z'.sameBut hs ?_⟩;rintro rfl;exact hj (sZ hN e1 (I.ok.inj _ _ _ e hc ▸ hi))
  .by_cases hcc:c'=c
   .subst hcc;exact⟨_,hc'⟩
   .obtain⟨w2,z2⟩:=I.cell y c' e;exact⟨w2,z2.sameBut hs hcc⟩
  .obtain⟨e,n,ne,nf,d⟩:=I.pin p hp;refine⟨(hs.2 p.1 ?_).trans e,n,ne,nf,d⟩;intro q;rw[q,hoc] at e;have q':oc=p.2:=MC e;exact d w' (by rw[<- q'];exact hocd)
def iB(I:Inv X pins σ H s)(hN:X.N.Nodup)(hi:X.N[i]?=some x)(hx:Loc X.env.scope x)(r:RelV v u)
 (h:∀s',Inv X pins (σ.set i (some v)) H s'->Q () s') (hf:X.fn x=true\/X.env.scope.names.lookup x=some .local):wpAny M A (storeName X.env x u) Q E s:=
 pf I hN hi hx r (λs' I' _=>h s' I') hf
def Inv.call'(I:Inv X pins σ H s)(ho:s'.os=s.os)(u:Un (frs X.stack) ch H H' s.heap s'.heap)(hok:HOk X.prog X.w H' s'.heap)(hg:AllBare s'.gens)
 (hch:∀b∈ch,(b∈X.ex\/X.s₀.heap.objs.size<=b)/\b≠X.env.locals/\(∀x c,X.env.cells.lookup x=some c->c≠b)/\∀p∈X.pn++pins,p.1≠b):Inv X pins σ H' s':=by
 obtain⟨h',g',d',t',o'⟩:=s';have e:o'=s.os:=ho;subst e;exact I.call (g':=g') (t':=t') (d':=d') u hok hg hch
end
abbrev XK:=Value->Option Addr->Hp->Prop
abbrev St:=List (Option V)
abbrev VK:=V->Hp->Prop
abbrev TE:=St->Hp->VK->Prop
abbrev TT:=St->Hp->(Bool->Hp->Prop)->Prop
abbrev TA:=St->Hp->(List V->Hp->Prop)->Prop
structure Ends where
 nx:St->Hp->Prop
 rt:VK
 bk:St->Hp->Prop:=λ_ _=>False
 ct:St->Hp->Prop:=λ_ _=>False
abbrev TS:=Ends->St->Hp->Prop
def EP(X:Cx)(pins:Pb)(σ:St)(Q:VK)(u:Value)(s':Shared):Prop:=∃v H',Inv X pins σ H' s'/\RelV v u/\Q v H'
def TP(X:Cx)(pins:Pb)(σ:St)(Q:Bool->Hp->Prop)(b:Bool)(s':Shared):Prop:=∃H',Inv X pins σ H' s'/\Q b H'
def AP(X:Cx)(pins:Pb)(σ:St)(Q:List V->Hp->Prop)(us:List Value)(s':Shared):Prop:=∃vs H',Inv X pins σ H' s'/\Vals vs us/\Q vs H'
def SP(X:Cx)(pins:Pb)(D:Ends)(f:Flow)(s':Shared):Prop:=
 match f with
 |.next=>∃σ' H',Inv X pins σ' H' s'/\D.nx σ' H'
 |.brk=>∃σ' H',Inv X pins σ' H' s'/\D.bk σ' H'
 |.cont=>∃σ' H',Inv X pins σ' H' s'/\D.ct σ' H'
 |.ret u=>∃v σ' H',Inv X pins σ' H' s'/\RelV v u/\D.rt v H'
def PE(X:Cx)(e:Expr)(t:TE):Prop:=
 ∀(pins:Pb) (s:Shared) (σ:St) (H:Hp) (Q:VK),Inv X pins σ H s->t σ H Q->wpAny (model X.prog X.w) X.A (eval e X.env) (EP X pins σ Q) X.xe s
def PT(X:Cx)(e:Expr)(t:TT):Prop:=
 ∀(pins:Pb) (s:Shared) (σ:St) (H:Hp) (Q:Bool->Hp->Prop),Inv X pins σ H s->t σ H Q->wpAny (model X.prog X.w) X.A (isTrue e X.env (eval e X.env)) (TP X pins σ Q) X.xe s
def PW(X:Cx)(e:Expr)(t:TT):Prop:=
 ∀(u_:Sem Value) (pins:Pb) (s:Shared) (σ:St) (H:Hp) (Q:Bool->Hp->Prop),Inv X pins σ H s->t σ H Q->wpAny (model X.prog X.w) X.A (isTrue e X.env u_) (TP X pins σ Q) X.xe s
def PW.pt(h:PW X e t):PT X e t:=h _
def PA(X:Cx)(es:List Expr)(t:TA):Prop:=
 ∀(pos:Pos) (pins:Pb) (s:Shared) (σ:St) (H:Hp) (Q:List V->Hp->Prop),Inv X pins σ H s->t σ H Q->wpAny (model X.prog X.w) X.A (spliced (backTo pos (starEach es X.env))) (AP X pins σ Q) X.xe s
def PS(X:Cx)(st:Stmt)(t:TS):Prop:=
 ∀(pins:Pb) (s:Shared) (σ:St) (H:Hp) (D:Ends),Inv X pins σ H s->t D σ H->wpAny (model X.prog X.w) X.A (exec st X.env) (SP X pins D) X.xe s
def PSs(X:Cx)(st:List Stmt)(t:TS):Prop:=
 ∀(pins:Pb) (s:Shared) (σ:St) (H:Hp) (D:Ends),Inv X pins σ H s->t D σ H->wpAny (model X.prog X.w) X.A (execs st X.env) (SP X pins D) X.xe s
def thn(h:wpAny M A t Q E s)(hQ:∀a s,Q a s->Q' a s):wpAny M A t Q' E s:=M6 h hQ λ_ _ x=>x
section
variable{X:Cx}
def tVar(i:Nat):TE:=λσ H Q=>∃v,σ[i]?=some (some v)/\Q v H
def tC(v:V):TE:=λ_ H Q=>Q v H
def Ii(hN:X.N[i]?=some x)(hv:Vis X.env.scope x)(hd:(x==("__debug__" : Str))=false)(hcd:(x==("__classdict__" : Str))=false):PE X (.Name x pos) (tVar i):=by
 intro pins s σ H Q I h;obtain⟨v,e,h⟩:=h;obtain⟨m,hn,hl⟩:=I.loc;obtain⟨u,r,l⟩:=hl i x v hN e hv;have k_:EP X pins σ Q u s:=⟨v,H,I,r,h⟩;rcases l with ⟨hk,hm⟩ |⟨hk,c,hc,hcell⟩
 .exact wpAny_Name (wpAny_loadName_local I.ok.kind hk hn hm k_) hd
 .rcases hk with hk |hk
  .exact wpAny_Name (wpAny_loadName_cell I.ok.kind hk hc hcell k_) hd
  .exact wpAny_Name (wpAny_loadName_free I.ok.kind hk hc hcell k_ hcd) hd
def Fs{i j pos}:PE X (.Constant (.int i) j pos) (tC (.int i)):=λ_ _ _ H _ I h=>wpAny_Constant_int ⟨.int i,H,I.tok _,⟨_,rfl⟩,h⟩
def LJ{b j pos}:PE X (.Constant (.bool b) j pos) (tC (.bl b)):=λ_ _ _ H _ I h=>Constant_bool ⟨.bl b,H,I,rfl,h⟩
def ID{j pos}:PE X (.Constant .none j pos) (tC .non):=λ_ _ _ H _ I h=>Constant_none ⟨.non,H,I,rfl,h⟩
def yW{x j pos}:PE X (.Constant (.str x) j pos) (tC (.str x)):=λ_ _ _ H _ I h=>Calls.Constant_str ⟨.str x,H,I.tok _,⟨_,rfl⟩,h⟩
def Gl(X:Cx)(x:Str):Prop:=X.env.kindOf x=some .globalImplicit
def oP(I:Inv X pins σ H s)(hg:Gl X x)(hm:X.mg x=some u)(h:Q u s)
 (hd:(x==("__debug__" : Str))=false):wpAny (model X.prog X.w) X.A (eval (.Name x pos) X.env) Q E s:=
 Calls.Name_function_global I.ok.kind hg (Calls.loadGlobal_global (by rw[I.ok.glob];exact I.mod.glob.keeps I.bk) hm h) hd
def gC(I:Inv X pins σ H s)(hg:Gl X x)(hm:X.mg x=none)(hv:bootBuiltins x=some u)(h:Q u s)
 (hn:x ≠ "__name__":=by decide) (hd:(x==("__debug__" : Str))=false:=by decide):wpAny (model X.prog X.w) X.A (eval (.Name x pos) X.env) Q E s:=by
 obtain⟨mb,h1,h2⟩:=I.mod.blt;exact Calls.Name_function_global I.ok.kind hg (Calls.loadGlobal_builtin (by rw[I.ok.glob];exact I.mod.glob.keeps I.bk) hm (by rw[I.ok.blt];exact h1.keeps I.bk) ((h2 x hn).trans hv) h) hd
def uu(hg:Gl X x)(hm:X.mg x=some u)(r:RelV v u)(hd:(x==("__debug__" : Str))=false):PE X (.Name x pos) (tC v):=
 λ_ _ _ H _ I h=>oP I hg hm ⟨v,H,I,r,h⟩ hd
def ET(hg:Gl X x)(hm:X.mg x=none)(hv:bootBuiltins x=some u)(r:RelV v u)(hn:x ≠ "__name__")(hd:(x==("__debug__" : Str))=false):PE X (.Name x pos) (tC v):=
 λ_ _ _ H _ I h=>gC I hg hm hv ⟨v,H,I,r,h⟩ hn hd
variable{a b:Expr}{ta tb:TE}{pos:Pos}
def tB(t:TE):TT:=λσ H Q=>t σ H λx H1=>∃c,x=.bl c/\Q c H1
def E1(h:PE X e t)(he:∀u_,isTrue e X.env u_=(do let v <- u_;standAt e.pos;holding [v] (truthy v))):PT X e (tB t):=by intro pins s σ H Q I hw;refine isTrue_plain (thn (h pins s σ H _ I hw) λv s1 ⟨x,H1,I1,r1,q1⟩=>?_) (he _);obtain⟨d,rfl,q⟩:=q1;cases r1;exact Nt ⟨H1,I1,q⟩
variable{tA tB':TT}{rest:List Expr}
def tAnd(t u:TT):TT:=λσ H Q=>t σ H λc H1=>if c=true then u σ H1 Q else Q false H1
def tOr(t u:TT):TT:=λσ H Q=>t σ H λc H1=>if c=true then Q true H1 else u σ H1 Q
def tNot(t:TT):TT:=λσ H Q=>t σ H λc H1=>Q (!c) H1
def D7(ha:PT X a tA):PW X (.BoolOp .And [a] pos) tA:=by
 intro wh pins s σ H Q I h;refine isTrue_and (thn (ha pins s σ H Q I h) λc s1 e=>?_);cases c with
 |true=>exact isTrue_and_nil e
 |false=>exact e
def Gy(ha:PT X a tA):PW X (.BoolOp .Or [a] pos) tA:=by
 intro wh pins s σ H Q I h;refine isTrue_or (thn (ha pins s σ H Q I h) λc s1 e=>?_);cases c with
 |false=>exact isTrue_or_nil e
 |true=>exact e
def Fx(ha:PT X a tA)(hb:PW X (.BoolOp .And (b::rest) pos) tB'):PW X (.BoolOp .And (a::b::rest) pos) (tAnd tA tB'):=by
 intro wh pins s σ H Q I h;refine isTrue_and (thn (ha pins s σ H _ I h) λc s1 ⟨H1,I1,q1⟩=>?_);cases c with
 |true=>exact hb wh pins s1 σ H1 Q I1 q1
 |false=>exact⟨H1,I1,q1⟩
def JV(ha:PT X a tA)(hb:PW X (.BoolOp .Or (b::rest) pos) tB'):PW X (.BoolOp .Or (a::b::rest) pos) (tOr tA tB'):=by
 intro wh pins s σ H Q I h;refine isTrue_or (thn (ha pins s σ H _ I h) λc s1 ⟨H1,I1,q1⟩=>?_);cases c with
 |true=>exact⟨H1,I1,q1⟩
 |false=>exact hb wh pins s1 σ H1 Q I1 q1
def FN(ha:PT X a tA):PT X (.UnaryOp .Not a pos) (tNot tA):=by intro pins s σ H Q I h;exact isTrue_not (ha pins s σ H (λc H1=>Q (!c) H1) I h)
def Lx(ta tb:TE):TE:=λσ H Q=>ta σ H λx H1=>∃c,x=.bl c/\if c=true then tb σ H1 Q else Q (.bl false) H1
def tOrV(ta tb:TE):TE:=λσ H Q=>ta σ H λx H1=>∃c,x=.bl c/\if c=true then Q (.bl true) H1 else tb σ H1 Q
def Kk(ta:TE):TE:=λσ H Q=>ta σ H λx H1=>∃c,x=.bl c/\Q (.bl (!c)) H1
def F8{op}(h:PE X a t):PE X (.BoolOp op [a] pos) t:=λpins s σ H Q I hw=>BoolOp_one (h pins s σ H Q I hw)
def E2(ha:PE X a ta)(hb:PE X (.BoolOp .And (b::rest) pos) tb):PE X (.BoolOp .And (a::b::rest) pos) (Lx ta tb):=by
 intro pins s σ H Q I h;refine BoolOp_and (thn (ha pins s σ H _ I h) λv s1 ⟨x,H1,I1,r1,q1⟩=>?_);obtain⟨c,rfl,q1⟩:=q1;cases r1;refine Nt ?_;cases c with
 |true=>exact hb pins s1 σ H1 Q I1 q1
 |false=>exact⟨.bl false,H1,I1,rfl,q1⟩
def Mb(ha:PE X a ta)(hb:PE X (.BoolOp .Or (b::rest) pos) tb):PE X (.BoolOp .Or (a::b::rest) pos) (tOrV ta tb):=by
 intro pins s σ H Q I h;refine BoolOp_or (thn (ha pins s σ H _ I h) λv s1 ⟨x,H1,I1,r1,q1⟩=>?_);obtain⟨c,rfl,q1⟩:=q1;cases r1;refine Nt ?_;cases c with
 |false=>exact hb pins s1 σ H1 Q I1 q1
 |true=>exact⟨.bl true,H1,I1,rfl,q1⟩
def Gz(ha:PE X a ta):PE X (.UnaryOp .Not a pos) (Kk ta):=by intro pins s σ H Q I h;refine UnaryOp_ (thn (ha pins s σ H _ I h) λv s1 ⟨x,H1,I1,r1,q1⟩=>?_);obtain⟨c,rfl,q1⟩:=q1;cases r1;exact not_of (Nt ⟨.bl (!c),H1,I1,rfl,q1⟩)
end
def SqL(K:W.Frag)(H:Hp)(a:Addr)(xs:List V):Prop:=
 Rd H a (.lst xs)\/
  ∃(o:Obj) (its:Array Value) (n:Nat),K.lookup a=some o/\o.cls=.type "list" /\ o.dict=none/\o.data=.seq its n/\its.size<=sizeLine/\Vals xs its.toList
def SqT(K:W.Frag)(H:Hp)(a:Addr)(xs:List V):Prop:=
 Rd H a (.tup xs)\/
  ∃(o:Obj) (its:Array Value) (n:Nat),K.lookup a=some o/\o.cls=.type "tuple" /\ o.data=.seq its n/\its.size<=sizeLine/\Vals xs its.toList
noncomputable def absV:Value->Option V
 |.none=>some .non
 |.bool b=>some (.bl b)
 |.int i _=>some (.int i)
 |.str x _=>some (.str x)
 |.bytes b _=>some (.byt b)
 |.float b _=>some (.flt b)
 |.ref a=>some (.ref a)
 |.type n=>some (.ty n)
 |_=>none
def RelV.abs(r:RelV x u):absV u=some x:=by
 cases x with
 |non=>cases r;rfl
 |bl _=>cases r;rfl
 |int _=>obtain⟨t,rfl⟩:=r;rfl
 |str _=>obtain⟨t,rfl⟩:=r;rfl
 |byt _=>obtain⟨t,rfl⟩:=r;rfl
 |flt _=>obtain⟨t,rfl⟩:=r;rfl
 |ref _=>cases r;rfl
 |ty _=>cases r;rfl
def RelV.inj(r:RelV x u)(q:RelV y u):x=y:=MC (r.abs.symm.trans q.abs)
def Vals.inj(r:Vals xs us)(q:Vals ys us):xs=ys:=by
 induction r generalizing ys with
 |nil=>cases q;rfl
 |
  cons r t ih=>
  cases q with
  |cons q t'=>rw[r.inj q,ih t']
section
variable{X:Cx}{pins:Pb}{σ:St}{H:Hp}{s:Shared}{a:Addr}{xs ys:List V}
def SqL.of{K:W.Frag}(h:H a=some (.lst xs)):SqL K H a xs:=.inl (.inl h)
def SqT.of{K:W.Frag}(h:H a=some (.tup xs)):SqT K H a xs:=.inl (.inl h)
def Inv.list(I:Inv X pins σ H s)(h:SqL X.K H a xs):∃its:List Value,Vals xs its/\PlainL s.heap a its.toArray/\xs.length<=sizeLine:=by
 rcases h with h |⟨o,its,n,hk,hc,hd,hs,hz,r⟩
 .obtain⟨z,its,n,r,e⟩:=h.ok I.hok;exact⟨its,r,⟨_,n,e,rfl,rfl,rfl⟩,z⟩
 .refine⟨its.toList,r,⟨o,n,I.kIn a o hk,hc,hd,by simpa using hs⟩,?_⟩;have e:=r.length;simp only[OJ] at e;omega
def Inv.tuple(I:Inv X pins σ H s)(h:SqT X.K H a xs):∃its:List Value,Vals xs its/\IsTup s.heap a its.toArray/\xs.length<=sizeLine:=by
 rcases h with h |⟨o,its,n,hk,hc,hs,hz,r⟩
 .obtain⟨z,its,r,p⟩:=h.ok I.hok;exact⟨its,r,p,z⟩
 .refine⟨its.toList,r,⟨o,I.kIn a o hk,hc,n,by simpa using hs⟩,?_⟩;have e:=r.length;simp only[OJ] at e;omega
def Inv.list_inj(I:Inv X pins σ H s)(h:SqL X.K H a xs)(h':SqL X.K H a ys):xs=ys:=by
 obtain⟨its,r,⟨o,n,e,_,_,d⟩,_⟩:=I.list h;obtain⟨its',r',⟨o',n',e',_,_,d'⟩,_⟩:=I.list h';rw[e] at e';cases e';rw[d] at d';injection d' with d1 _;have:its=its':=by simpa using Nd Array.toList d1
 subst this;exact r.inj r'
def Inv.tuple_inj(I:Inv X pins σ H s)(h:SqT X.K H a xs)(h':SqT X.K H a ys):xs=ys:=by
 obtain⟨its,r,⟨o,e,_,n,d⟩,_⟩:=I.tuple h;obtain⟨its',r',⟨o',e',_,n',d'⟩,_⟩:=I.tuple h';rw[e] at e';cases e';rw[d] at d';injection d' with d1 _;have:its=its':=by simpa using Nd Array.toList d1
 subst this;exact r.inj r'
end
section
variable{X:Cx}{st:Stmt}{rest:List Stmt}{t u:TS}{e:Expr}{te:TE}{pos:Pos}
def Mq:TS:=λD σ H=>D.nx σ H
def tSeq(t u:TS):TS:=λD σ H=>t { D with nx:=u D } σ H
def Eo:PSs X [] Mq:=λ_ _ σ H _ I h=>OH ⟨σ,H,I,h⟩
def Ah(h1:PS X st t)(h2:PSs X rest u):PSs X (st::rest) (tSeq t u):=by
 intro pins s σ H D I h;refine wpAny_execs_cons (thn (h1 pins s σ H { D with nx:=u D } I h) λf s1 q=>?_);cases f with
 |next=>obtain⟨σ',H',I',q⟩:=q;exact h2 pins s1 σ' H' D I' q
 |ret v=>exact q
 |brk=>exact q
 |cont=>exact q
def Ez(h1:PS X st t):PSs X [st] t:=by
 intro pins s σ H D I h;refine wpAny_execs_cons (thn (h1 pins s σ H D I h) λf s1 q=>?_);cases f with
 |next=>exact OH q
 |ret v=>exact q
 |brk=>exact q
 |cont=>exact q
def Ke:TS:=λD σ H=>D.ct σ H
def uc:PS X (.Continue pos) Ke:=λ_ _ σ H _ I h=>wpAny_Continue ⟨σ,H,I,h⟩
def Inv.quiet(I:Inv X pins σ H s):interactive X.env=false:=by simp [interactive,I.ok.kind]
def KU(te:TE):TS:=λD σ H=>te σ H λ_ H1=>D.nx σ H1
def EV(he:PE X e te)(hs:swapsWith e none pos.line X.env=pure false):PS X (.Expr e pos) (KU te):=by intro pins s σ H D I h;exact wpAny_Expr_any (thn (he pins s σ H _ I h) λv s1 ⟨x,H1,I1,r1,q1⟩=>⟨σ,H1,I1,q1⟩) I.quiet hs
def tRet(te:TE):TS:=λD σ H=>te σ H D.rt
def Ht(he:PE X e te):PS X (.Return (some e) pos) (tRet te):=by intro pins s σ H D I h;exact wpAny_Return_some (thn (he pins s σ H _ I h) λv s1 ⟨x,H1,I1,r1,q1⟩=>⟨x,σ,H1,I1,r1,q1⟩)
def tIfS(c:TT)(t u:TS):TS:=λD σ H=>c σ H λb H1=>if b=true then t D σ H1 else u D σ H1
def LP(hc:PT X c tc)(ha:PSs X a t)(hb:PSs X b u):PS X (.If c a b pos) (tIfS tc t u):=by
 intro pins s σ H D I h;refine wpAny_If (thn (hc pins s σ H _ I h) λd s1 ⟨H1,I1,q1⟩=>?_);cases d with
 |true=>exact ha pins s1 σ H1 D I1 q1
 |false=>exact hb pins s1 σ H1 D I1 q1
end
abbrev TG:=V->St->Hp->(St->Hp->Prop)->Prop
abbrev TGs:=List V->St->Hp->(St->Hp->Prop)->Prop
def PG(X:Cx)(target:Expr)(t:TG):Prop:=
 ∀
  (pins:Pb) (s:Shared) (σ:St) (H:Hp) (v:V) (u:Value) (Q:St->Hp->Prop),Inv X pins σ H s->RelV v u->t v σ H Q->
  wpAny (model X.prog X.w) X.A (assign target X.env u) (λ_ s'=>∃σ' H',Inv X pins σ' H' s'/\Q σ' H') X.xe s
def PGs(X:Cx)(ts:List Expr)(t:TGs):Prop:=
 ∀
  (pins:Pb) (s:Shared) (σ:St) (H:Hp) (vs:List V) (us:List Value) (Q:St->Hp->Prop),Inv X pins σ H s->Vals vs us->t vs σ H Q->
  wpAny (model X.prog X.w) X.A (assignInOrder ((assignEach ts X.env).map (·.2)) us) (λ_ s'=>∃σ' H',Inv X pins σ' H' s'/\Q σ' H') X.xe s
abbrev vB:=V->V->V->Hp->(Hp->Prop)->Prop
def tT(X:Cx)(t:vB):Prop:=
 ∀
  (pins:Pb) (s:Shared) (σ:St) (H:Hp) (o i v:V) (ov iv u:Value) (Q:Hp->Prop),Inv X pins σ H s->RelV o ov->RelV i iv->RelV v u->t o i v H Q->
  wpAny (model X.prog X.w) X.A (setItem ov iv u) (λ_ s'=>∃H',Inv X pins σ H' s'/\Q H') X.xe s
abbrev TIp:=V->V->Hp->VK->Prop
def PIp(X:Cx)(op:Operator)(t:TIp):Prop:=
 ∀
  (pins:Pb) (s:Shared) (σ:St) (H:Hp) (x y:V) (v u:Value) (Q:VK),Inv X pins σ H s->RelV x v->RelV y u->t x y H Q->
  wpAny (model X.prog X.w) X.A (inplaceOp op v u) (EP X pins σ Q) X.xe s
section
variable{X:Cx}{pos:Pos}
def nU(i:Nat):TG:=λv σ H Q=>Q (σ.set i (some v)) H
def CU(hN:X.N.Nodup)(hi:X.N[i]?=some x)(hx:Loc X.env.scope x)(hf:X.fn x=true\/X.env.scope.names.lookup x=some .local):PG X (.Name x pos) (nU i):=by intro pins s σ H v u Q I r h;exact wpAny_assign_Name (iB I hN hi hx r (λs' I'=>⟨_,H,I',h⟩) hf)
def gNil:TGs:=λvs σ H Q=>vs=[]/\Q σ H
def Kx(t:TG)(u:TGs):TGs:=λvs σ H Q=>∃v r,vs=v::r/\t v σ H λσ' H'=>u r σ' H' Q
def DF:PGs X [] gNil:=by intro pins s σ H vs us Q I r h;obtain⟨e,h⟩:=h;subst e;cases r;exact assignInOrder_nil ⟨σ,H,I,h⟩
def AM(h1:PG X e t)(h2:PGs X es u)
 (hs:(assignEach (e::es) X.env).map (·.2)=assign e X.env::(assignEach es X.env).map (·.2)):PGs X (e::es) (Kx t u):=by
 intro pins s σ H vs us Q I r h;obtain⟨v,vr,e1,h⟩:=h;subst e1;cases r with
 |cons r rr=>rw[hs];refine assignInOrder_cons (thn (h1 pins s σ H _ _ _ I r h) λ_ s1 ⟨σ1,H1,I1,q1⟩=>?_);exact h2 pins s1 σ1 H1 _ _ Q I1 rr q1
def gTup(K:W.Frag)(n:Nat)(t:TGs):TG:=λv σ H Q=>∃a xs,v=.ref a/\SqT K H a xs/\xs.length=n/\t xs σ H Q
def xN(hc:X.calm=true)(h:PGs X es t)
 (hn:(assignEach es X.env).length=n) (hst:(assignEach es X.env).findIdx? (·.1)=none):PG X (.Tuple es k pos) (gTup X.K n t):=by
 intro pins s σ H v u Q I r hw;obtain⟨a,xs,e1,hq,hl,hw⟩:=hw;subst e1;cases r;obtain⟨its,rv,ht,hz⟩:=I.tuple hq;refine assign_Tuple_tuple (I.ok.hd hc) ht (by simp [hn,<- hl,rv.length]) hst λh' hx=>?_;have I1:Inv X pins σ H { s with heap:=h' }:=I.kept (t':=s.toks) λb o e=>hx b o (ML (Em e)) e;exact h pins _ σ H xs _ Q I1 (by simpa using rv) hw
def gSub(to ti:TE)(t:vB):TG:=λv σ H Q=>to σ H λo H1=>ti σ H1 λi H2=>t o i v H2 λH3=>Q σ H3
def HG(ho:PE X o to)(hi:PE X i ti)(hs:tT X t)
 (ha:∀v,assign (.Subscript o i pos) X.env v=(do
  let ov <- holding [v] (eval o X.env)
  let iv <- holding [v,ov] (eval i X.env)
  standAt pos
  holding [v,ov,iv] (setItem ov iv v)
  release [v,ov,iv] [])):PG X (.Subscript o i pos) (gSub to ti t):=by
 intro pins s σ H v u Q I r h;rw[ha];refine w_ (NP (thn (ho pins s σ H _ I h) λov s1 ⟨x,H1,I1,r1,q1⟩=>?_));refine w_ (NP (thn (hi pins s1 σ H1 _ I1 q1) λiv s2 ⟨y,H2,I2,r2,q2⟩=>?_));refine w_ (Oq (w_ (NP (thn (hs pins s2 σ H2 x y v ov iv u _ I2 r1 r2 r q2) λ_ s3 ⟨H3,I3,q3⟩=>?_))));exact wpAny_release ⟨σ,H3,I3,q3⟩
def rB(te:TE)(g:TG):TS:=λD σ H=>te σ H λx H1=>g x σ H1 D.nx
def Ju(he:PE X e te)(hg:PG X tg g)(hs:swapsWithSole [tg] e pos.line X.env=pure false)(hw:swappedStores [tg] e X.env=pure none)
 (h1:(assignEach [tg] X.env).map (·.2)=[assign tg X.env]):PS X (.Assign [tg] e pos) (rB te g):=by
 intro pins s σ H D I h;refine wpAny_Assign_stores (thn (he pins s σ H _ I h) λv s1 ⟨x,H1,I1,r1,q1⟩=>?_) hs hw;rw[h1];exact thn (hg pins s1 σ H1 x v _ I1 r1 q1) λ_ s2 q=>q
def FI(hN:X.N.Nodup)(hi:X.N[i]?=some x)(hx:Loc X.env.scope x)(he:PE X e te)(hs:swapsWith e (some (.Name x t_)) pos.line X.env=pure false)(hf:X.fn x=true\/X.env.scope.names.lookup x=some .local):
 PS X (.Assign [.Name x t_] e pos) (rB te (nU i)):=by
 intro pins s σ H D I h;refine wpAny_Assign_Name (thn (he pins s σ H _ I h) λv s1 ⟨y,H1,I1,r1,q1⟩=>?_) hs;exact iB I1 hN hi hx r1 (λs2 I2=>⟨_,H1,I2,q1⟩) hf
def tPar(i j:Nat)(ta:TA):TS:=λD σ H=>ta σ H λvs H1=>∃v w,vs=[v,w]/\D.nx ((σ.set i (some v)).set j (some w)) H1
def Ic{kt k2 pt2}(hc:X.calm=true)(hN:X.N.Nodup)(hi:X.N[i]?=some x)(hj:X.N[j]?=some y)(hij:i≠j)
 (hx:X.env.scope.names.lookup x=some .local) (hy:X.env.scope.names.lookup y=some .local) (ha:PA X [a,b] ta)
 (hw:swappedStores [.Tuple [.Name x px,.Name y py] kt pt] (.Tuple [a,b] k2 pt2) X.env=pure (some [x,y]))
 (hs:swapsWithSole [.Tuple [.Name x px,.Name y py] kt pt] (.Tuple [a,b] k2 pt2) pos.line X.env=pure false):
 PS X (.Assign [.Tuple [.Name x px,.Name y py] kt pt] (.Tuple [a,b] k2 pt2) pos) (tPar i j ta):=by
 intro pins s σ H D I h;rw[exec_Assign_arm];refine w_ (Oq ?_);rw[hs];refine w_ (F_ ?_);rw[if_neg (by decide)];refine w_ (Tuple_ (thn (ha _ pins s σ H _ I h) λus s1 ⟨vs,H1,I1,r1,q1⟩=>?_));obtain⟨v,w,e1,q1⟩:=q1;subst e1;obtain⟨u1,u2,rfl,rv,rw'⟩:∃u1 u2,us=[u1,u2]/\RelV v u1/\RelV w u2:=by
  cases r1 with
  |
   cons p q=>
   cases q with
   |cons p' q'=>cases q';exact⟨_,_,rfl,p,p'⟩
 refine Nj ?_ (by show 2<=sizeLine;decide);have I2:Inv X pins σ H1 { s1 with heap:=s1.heap.push { cls:=.type "tuple",data:=.seq [u1,u2].toArray } }:=I1.kept (t':=s1.toks) λb o e=>C_ _ e;rw[hw];refine w_ (F_ ?_);show wpAny (model X.prog X.w) X.A (do rule "assign.swapped-stores";let items <- unpackItems (.ref s1.heap.objs.size) 2 none;assignInOrder [λv=>bindName X.env y v,λv=>bindName X.env x v] items.reverse;pure Flow.next) _ _ _;refine w_ (wpAny_rule (w_ (unpackItems_tuple (items:=#[u1,u2]) (I.ok.hd hc) (IsTup.new s1.heap _) λh' hx'=>?_)));have I3:=I2.kept (h':=h') (t':=s1.toks) λb o e=>hx' b o (ML (Em e)) e;show wpAny _ _ (assignInOrder [λv=>bindName X.env y v,λv=>bindName X.env x v] [u2,u1] >>= λ_=>pure Flow.next) _ _ _;refine w_ (assignInOrder_cons (wpAny_bindName (iB I3 hN hj (.inl hy) rw' (λs2 I4=>?_) (.inr hy))));refine assignInOrder_cons (wpAny_bindName (iB I4 hN hi (.inl hx) rv (λs3 I5=>assignInOrder_nil (F_ ?_)) (.inr hx)));rw[List.set_comm _ _ (Ne.symm hij)] at I5;exact⟨_,H1,I5,q1⟩
def tAug(i:Nat)(te:TE)(ti:TIp):TS:=λD σ H=>∃x,σ[i]?=some (some x)/\te σ H λy H1=>ti x y H1 λz H2=>D.nx (σ.set i (some z)) H2
def GU(hN:X.N.Nodup)(hi:X.N[i]?=some x)(hx:Loc X.env.scope x)(he:PE X e te)(ho:PIp X op ti)(hf:X.fn x=true\/X.env.scope.names.lookup x=some .local):
 PS X (.AugAssign (.Name x t_) op e pos) (tAug i te ti):=by
 intro pins s σ H D I h;obtain⟨v,e1,h⟩:=h;obtain⟨m,hn,hl⟩:=I.loc;have vis:Vis X.env.scope x:=by rcases hx with k |k;exact .inl k;exact .inr (.inl k)
 obtain⟨u,r,l⟩:=hl i x v hi e1 vis;refine wpAny_AugAssign_Name ?_;have go:wpAny (model X.prog X.w) X.A (eval e X.env) (λw s₂=>wpAny (model X.prog X.w) X.A (inplaceOp op u w) (λr s₃=>wpAny (model X.prog X.w) X.A (storeName X.env x r) (λ_=>SP X pins D .next) X.xe s₃) X.xe s₂) X.xe s:=by refine thn (he pins s σ H _ I h) λw s1 ⟨y,H1,I1,r1,q1⟩=>?_;refine thn (ho pins s1 σ H1 v y u w _ I1 r r1 q1) λz s2 ⟨zv,H2,I2,r2,q2⟩=>?_;exact iB I2 hN hi hx r2 (λs3 I3=>⟨_,H2,I3,q2⟩) hf
 rcases l with ⟨hk,hm⟩ |⟨hk,c,hc,hcell⟩
 .exact wpAny_loadName_local I.ok.kind hk hn hm go
 .rcases hk with hk |hk
  .exact wpAny_loadName_cell I.ok.kind hk hc hcell go
  .rcases hx with k |k
   .have:X.env.scope.names.lookup x=some .free:=hk;rw[k] at this;cases this
   .have:X.env.scope.names.lookup x=some .free:=hk;rw[k] at this;cases this
def ipI(f:Int->Int->Int):TIp:=λx y H Q=>∃i j,x=.int i/\y=.int j/\Q (.int (f i j)) H
def Ik:PIp X .Add (ipI λi j=>i+j):=by intro pins s σ H x y v u Q I r1 r2 h;obtain⟨i,j,e1,e2,q⟩:=h;subst e1;subst e2;obtain⟨t,rfl⟩:=r1;obtain⟨t',rfl⟩:=r2;exact iadd_int ⟨.int _,H,I.tok _,⟨_,rfl⟩,q⟩
def Hz(c:TT)(tb:TS):TS:=λD σ H=>∃W:Nat->St->Hp->Prop,(∃m,W m σ H)/\∀m σ H,W m σ H->
 c σ H λb H1=>if b=true then ∃N:St->Hp->Prop,(∀σ' H',N σ' H'->∃m',m'<m/\W m' σ' H')/\tb { D with nx:=N,ct:=N,bk:=D.nx } σ H1 else D.nx σ H1
def Bo(hp:PassesOwn (model X.prog X.w) X.A X.env X.xe)(hc:PT X c tc)(hb:PSs X body tb):PS X (.While c body [] pos) (Hz tc tb):=by
 intro pins s σ H D I h;obtain⟨W,⟨m0,w0⟩,turn⟩:=h;refine wpAny_While (codeAny_whileLoop (λn s'=>∃σ' H',Inv X pins σ' H' s'/\W n σ' H') ?_ m0 ⟨σ,H,I,w0⟩);rintro n s1 ⟨σ1,H1,I1,w1⟩;refine NH hp (thn (hc pins s1 σ1 H1 _ I1 (turn n σ1 H1 w1)) λb s2 ⟨H2,I2,q2⟩=>?_);cases b with
 |
  true=>
  obtain⟨N,hN,q2⟩:=q2;rw[if_pos rfl];refine NH hp (thn (hb pins s2 σ1 H2 _ I2 q2) λf s3 q3=>?_);cases f with
  |next=>obtain⟨σ3,H3,I3,n3⟩:=q3;obtain⟨m',hm,w3⟩:=hN σ3 H3 n3;exact⟨m',hm,σ3,H3,I3,w3⟩
  |cont=>obtain⟨σ3,H3,I3,n3⟩:=q3;obtain⟨m',hm,w3⟩:=hN σ3 H3 n3;exact⟨m',hm,σ3,H3,I3,w3⟩
  |brk=>exact q3
  |ret v=>exact q3
 |false=>rw[if_neg D_];exact OH ⟨σ1,H2,I2,q2⟩
end
structure It where
 go:Nat->Hp->Prop
 yld:Nat->Hp->V->Hp->Prop
 stop:Nat->Hp->Prop
def FpOk(X:Cx)(pins:Pb)(H:Hp)(b:Addr):Prop:=
 H b=none/\b≠X.env.locals/\b∉X.fs/\(b∈X.ex\/X.s₀.heap.objs.size<=b)/\(∀x c,X.env.cells.lookup x=some c->c≠b)/\∀p∈X.pn++pins,p.1≠b
def Inv.fpOk(I:Inv X pins σ H s)(hb:s.heap.objs.size<=b)(hn:H' b=none):FpOk X pins H' b:=by
 refine⟨hn,N_ (I_ I.lt hb),I.nofs hb,.inr (G_ I.sz hb),λx c e z=>?_,λp hp z=>?_⟩
 .obtain⟨v,q⟩:=I.cell x c e;exact absurd (I_ q.lt (by rw[z];exact hb)) (Nc _)
 .exact absurd (I_ (Em (I.pin p hp).1) (by rw[z];exact hb)) (Nc _)
structure Turn(P:Program)(w:World)(K:W.Frag)(tg:Expr)(J:It)(fp:List Addr)(it:Addr)(tn:Nat->Heap->Prop):Prop where
 mem:it∈fp
 obj:∀i h,tn i h->∀b∈fp,∃o,h.get? b=some o/\∀v,o.data ≠ .cell v
 keep:∀i h h',tn i h->(∀b∈fp,∀o,h.get? b=some o->h'.get? b=some o)->tn i h'
 item:∀(X:Cx),X.prog=P->X.w=w->X.K=K->X.calm=true->∀(i:Nat) (pins:Pb) (s:Shared) (σ:St) (H:Hp) (E:Pc),Inv X pins σ H s->(∀b∈fp,FpOk X pins H b)->tn i s.heap->J.go i H->
  wpAny (model P w) X.A (pyNext (.ref it)) (λr s1=>∃u,r=some u/\
   wpAny (model P w) X.A (letOwnedTupleGo tg (.ref it) u) (λ_ s2=>∃x H',Inv X pins σ H' s2/\RelV x u/\J.yld i H x H'/\tn (i+1) s2.heap/\∀b∈fp,H' b=none) E s1) E s
 done:∀(X:Cx),X.prog=P->X.w=w->X.K=K->X.calm=true->∀(i:Nat) (pins:Pb) (s:Shared) (σ:St) (H:Hp) (E:Pc),Inv X pins σ H s->(∀b∈fp,FpOk X pins H b)->tn i s.heap->J.stop i H->
  wpAny (model P w) X.A (pyNext (.ref it)) (λr s1=>r=none/\Inv X pins σ H s1) E s
 self:∀(A:Around) (i:Nat) (s:Shared) (Q:Pc) (E:Pc),tn i s.heap->Q (.ref it) s->wpAny (model P w) A (pyIter (.ref it)) Q E s
abbrev TI:=St->Hp->(It->Hp->Prop)->Prop
def PIE(X:Cx)(pins:Pb)(σ:St)(tg:Expr)(R:It->Hp->Prop)(itv:Value)(s2:Shared):Prop:=
 ∃(it:Addr) (fp:List Addr) (tn:Nat->Heap->Prop) (J:It) (H':Hp),itv=.ref it/\Inv X pins σ H' s2/\Turn X.prog X.w X.K tg J fp it tn/\tn 0 s2.heap/\(∀b∈fp,FpOk X pins H' b)/\R J H'
def PI(X:Cx)(tg a_:Expr)(wi:TI):Prop:=
 ∀
  (pins:Pb) (s:Shared) (σ:St) (H:Hp) (R:It->Hp->Prop),Inv X pins σ H s->wi σ H R->
  wpAny (model X.prog X.w) X.A (eval a_ X.env) (λv s1=>wpAny (model X.prog X.w) X.A (pyIter v) (PIE X pins σ tg R) X.xe s1) X.xe s
def wQ(ho:s.heap.get? it=some o)(hc:o.cls=.type n)(hd:o.data=.fields vs)
 (hn:["enumerate", "zip", "dict_itemiterator", "dict_reverseitemiterator", "odict_iterator", "itertools.zip_longest", "itertools.pairwise"].contains n=false) (hQ:Q () s):wpAny M A (letOwnedTupleGo tg (.ref it) u) Q E s:=by
 unfold letOwnedTupleGo;cases tg
  <;> first
  |exact F_ hQ
  |(cases u <;> first
   |exact F_ hQ
   |(
    refine w_ (wpAny_load ho ?_);rw[hc,hd];show wpAny M A (if (["enumerate", "zip", "dict_itemiterator", "dict_reverseitemiterator", "odict_iterator", "itertools.zip_longest", "itertools.pairwise"].contains n&&vs[0]?==some (rawInt _))=true then _ else _) Q E s;rw[if_neg (by intro h;rw[hn,Bool.false_and] at h;cases h)];exact F_ hQ))
noncomputable def Itl(K:W.Frag)(a:Addr):It:=
 ⟨λi H=>∃xs x,SqL K H a xs/\xs[i]?=some x,λi H x H'=>H'=H/\∀xs,SqL K H a xs->xs[i]?=some x,λi H=>∃xs,SqL K H a xs/\xs.length<=i⟩
noncomputable def Itt(K:W.Frag)(a:Addr):It:=
 ⟨λi H=>∃xs x,SqT K H a xs/\xs[i]?=some x,λi H x H'=>H'=H/\∀xs,SqT K H a xs->xs[i]?=some x,λi H=>∃xs,SqT K H a xs/\xs.length<=i⟩
noncomputable def Itr(lo:Int)(n:Nat):It:=⟨λi _=>i<n,λi H x H'=>H'=H/\x=.int (lo+i),λi _=>n<=i⟩
def yc{P:Program}{w:World}{K:W.Frag}{tg:Expr}(a it:Addr):Turn P w K tg (Itl K a) [it] it (λi h=>h.IsListIter it a i) where
 mem:=by simp
 obj:=λi h st b hb=>by
  have e:b=it:=by simpa using hb
  subst e;obtain⟨o,e,c,d⟩:=st;exact⟨o,e,λv z=>by rw[d] at z;cases z⟩
 keep:=λi h h' st k=>st.at λo e=>k it (by simp) o e
 item:=by intro X hP hw hK hc i pins s σ H E I hf st hg;subst hP hw hK;obtain⟨xs,x,hq,hx⟩:=hg;obtain⟨its,rv,p,hz⟩:=I.list hq;obtain⟨u,hu,ru⟩:=rv.get hx;obtain⟨f0,f1,f2,f3,f4,f5⟩:=hf it (by simp);refine wpAny_pyNext_list_item st p.isList (x:=u) (by simpa using hu) λh' st' sb=>?_;have I1:Inv X pins σ H { s with heap:=h' }:=I.turned (t':=s.toks) (λb o hb e=>(sb.2 b hb).trans e) f0 f1 f3 f4 f5;obtain⟨o,e,c,d⟩:=id st';exact⟨u,rfl,wQ (s:={ s with heap:=h' }) e c d (by decide) ⟨x,H,I1,ru,⟨rfl,λys hy=>by rw[I.list_inj hy hq];exact hx⟩,st',λb hb=>(hf b hb).1⟩⟩
 done:=by intro X hP hw hK hc i pins s σ H E I hf st hg;subst hP hw hK;obtain⟨xs,hq,hx⟩:=hg;obtain⟨its,rv,p,hz⟩:=I.list hq;obtain⟨f0,f1,f2,f3,f4,f5⟩:=hf it (by simp);have hl:=rv.length;exact wpAny_pyNext_list_end (I.ok.hd hc) st p.isList (by simp;omega) λh' eb=>⟨rfl,I.turned (t':=s.toks) (λb o hb e=>eb b o hb e) f0 f1 f3 f4 f5⟩
 self:=λ_ _ _ _ _ st h=>wpAny_pyIter_listiter st h
def xf{P:Program}{w:World}{K:W.Frag}{tg:Expr}(a it:Addr):Turn P w K tg (Itt K a) [it] it (λi h=>h.IsTupleIter it a i) where
 mem:=by simp
 obj:=λi h st b hb=>by
  have e:b=it:=by simpa using hb
  subst e;obtain⟨o,e,c,d⟩:=st;exact⟨o,e,λv z=>by rw[d] at z;cases z⟩
 keep:=λi h h' st k=>st.at λo e=>k it (by simp) o e
 item:=by intro X hP hw hK hc i pins s σ H E I hf st hg;subst hP hw hK;obtain⟨xs,x,hq,hx⟩:=hg;obtain⟨its,rv,p,hz⟩:=I.tuple hq;obtain⟨u,hu,ru⟩:=rv.get hx;obtain⟨f0,f1,f2,f3,f4,f5⟩:=hf it (by simp);refine wpAny_pyNext_tuple_item st (show s.heap.IsTuple a its.toArray from p) (x:=u) (by simpa using hu) λh' st' sb=>?_;have I1:Inv X pins σ H { s with heap:=h' }:=I.turned (t':=s.toks) (λb o hb e=>(sb.2 b hb).trans e) f0 f1 f3 f4 f5;obtain⟨o,e,c,d⟩:=id st';exact⟨u,rfl,wQ (s:={ s with heap:=h' }) e c d (by decide) ⟨x,H,I1,ru,⟨rfl,λys hy=>by rw[I.tuple_inj hy hq];exact hx⟩,st',λb hb=>(hf b hb).1⟩⟩
 done:=by intro X hP hw hK hc i pins s σ H E I hf st hg;subst hP hw hK;obtain⟨xs,hq,hx⟩:=hg;obtain⟨its,rv,p,hz⟩:=I.tuple hq;obtain⟨f0,f1,f2,f3,f4,f5⟩:=hf it (by simp);have hl:=rv.length;exact wpAny_pyNext_tuple_end (I.ok.hd hc) st (show s.heap.IsTuple a its.toArray from p) (by simp;omega) λh' eb=>⟨rfl,I.turned (t':=s.toks) (λb o hb e=>eb b o hb e) f0 f1 f3 f4 f5⟩
 self:=λ_ _ _ _ _ st h=>wpAny_pyIter_tupleiter st h
def xg{P:Program}{w:World}{K:W.Frag}{tg:Expr}(it:Addr)(lo:Int)(n:Nat):Turn P w K tg (Itr lo n) [it] it (λi h=>IsRangeIter h it (lo+(i:Nat)*1) ((n:Int)-(i:Nat)) 1) where
 mem:=by simp
 obj
  := λi h st b hb=>by
  have e:b=it:=by simpa using hb
  subst e;exact⟨_,st,λv z=>by have z':Data.fields _=Data.cell v:=z;cases z'⟩
 keep:=λi h h' st k=>k it (by simp) _ st
 item:=by intro X hP hw hK hc i pins s σ H E I hf st hg;subst hP hw hK;obtain⟨f0,f1,f2,f3,f4,f5⟩:=hf it (by simp);have W:=Walks.range (prog:=X.prog) (w:=X.w) (I.ok.hd hc) it lo 1 n;refine W.item i s _ _ hg st λv h' tk hv st' kk=>?_;obtain⟨t,rfl⟩:=hv;have I1:Inv X pins σ H { s with heap:=h',toks:=tk }:=I.turned (λb o hb e=>kk b o (by simpa using hb) e) f0 f1 f3 f4 f5;refine⟨_,rfl,wQ (s:={ s with heap:=h',toks:=tk }) (n:="range_iterator") st' rfl rfl (by decide) ⟨.int (lo+i),H,I1,⟨t,?_⟩,⟨rfl,rfl⟩,st',λb hb=>(hf b hb).1⟩⟩;rw[Int.mul_one]
 done:=by intro X hP hw hK hc i pins s σ H E I hf st hg;subst hP hw hK;obtain⟨f0,f1,f2,f3,f4,f5⟩:=hf it (by simp);exact wpAny_pyNext_range_end (I.ok.hd hc) st (by have:n<=i:=hg;omega) λh' eb=>⟨rfl,I.turned (t':=s.toks) (λb o hb e=>eb b o hb e) f0 f1 f3 f4 f5⟩
 self:=λ_ _ _ _ _ st h=>wpAny_pyIter_rangeiter st h
section
variable{X:Cx}{tg:Expr}
def sH{pins:Pb}{σ:St}{H:Hp}{s:Shared}{R:It->Hp->Prop}{E:Pc}{lo hi:Int}{t u v:Tok}{tk:Nat}(I:Inv X pins σ H s)(h1:-(2^62)<=lo)(h2:lo<2^62)(h3:-(2^62)<=hi)(h4:hi<2^62)
 (q:R (Itr lo (hi-lo).toNat) H):wpAny (model X.prog X.w) X.A (pyIter (.ref s.heap.objs.size)) (PIE X pins σ tg R) E { s with heap:=s.heap.push { cls:=.type "range",data:=.fields #[.int lo t,.int hi u,.int 1 v] },toks:=tk }:=by
 refine wpAny_pyIter_range (IsRange.new ..) (small_one h1 h2 h3 h4) ?_;have I1:Inv X pins σ H { s with heap:=s.heap.push { cls:=.type "range",data:=.fields #[.int lo t,.int hi u,.int 1 v] },toks:=tk }:=I.kept λb o e=>C_ _ e;refine⟨(s.heap.push { cls:=.type "range",data:=.fields #[.int lo t,.int hi u,.int 1 v] }).objs.size,[(s.heap.push { cls:=.type "range",data:=.fields #[.int lo t,.int hi u,.int 1 v] }).objs.size],_,_,H,rfl,
  I1.kept (t':=tk) λb o e=>C_ _ e,xg _ lo (hi-lo).toNat,?_,λb hb=>?_,q⟩
 .have e1:lo+((0:Nat):Int)*1=lo:=by simp
  have e2:(((hi-lo).toNat:Nat):Int)-((0:Nat):Int)=Builtin.Range.rangeSize lo hi 1:=by rw[rangeSize_one];split <;> omega
  show IsRangeIter _ _ (lo+((0:Nat):Int)*1) ((((hi-lo).toNat:Nat):Int)-((0:Nat):Int)) 1;rw[e1,e2];exact MB _ rfl
 .have e:b=(s.heap.push { cls:=.type "range",data:=.fields #[.int lo t,.int hi u,.int 1 v] }).objs.size:=by simpa using hb
  subst e;exact I1.fpOk (y_ _) (I1.hok.fresh (y_ _))
def Lq(ta:TA):TI:=λσ H R=>ta σ H λvs H1=>∃j:Int,vs=[.int j]/\-(2^62)<=j/\j<2^62/\R (Itr 0 j.toNat) H1
def KR(ta:TA):TI:=λσ H R=>ta σ H λvs H1=>∃i j:Int,vs=[.int i,.int j]/\(-(2^62)<=i/\i<2^62/\-(2^62)<=j/\j<2^62)/\R (Itr i (j-i).toNat) H1
def yB(hg:Gl X "range")(hm:X.mg "range"=none)(ha:PA X [a] ta)(hs:starEach [a] X.env=[(false,eval a X.env)]):PI X tg (.Call (.Name "range" p) [a] [] pos) (Lq ta):=by
 intro pins s σ H R I h;refine Call_ (gC I hg hm boot_range (Na (thn (ha pos pins s σ H _ I h) λus s1 ⟨vs,H1,I1,r1,q1⟩=>?_) hs rfl));obtain⟨j,e,q1,q2,q⟩:=q1;subst e;cases r1 with
 |cons r rr=>cases rr;obtain⟨t,rfl⟩:=r;exact call_range_1 (sH I1 (by omega) (by omega) q1 q2 (by simpa using q))
def xZ(hg:Gl X "range")(hm:X.mg "range"=none)(ha:PA X [a,b] ta)(hs:starEach [a,b] X.env=[(false,eval a X.env),(false,eval b X.env)])(hs2:starEach [b] X.env=[(false,eval b X.env)]):
 PI X tg (.Call (.Name "range" p) [a,b] [] pos) (KR ta):=by
 intro pins s σ H R I h;refine Call_ (gC I hg hm boot_range (Na (thn (ha pos pins s σ H _ I h) λus s1 ⟨vs,H1,I1,r1,q1⟩=>?_) (by rw[hs,hs2]) (by rw[hs2];rfl)));obtain⟨i,j,e,⟨q1,q2,q3,q4⟩,q⟩:=q1;subst e;cases r1 with
 |
  cons r rr=>
  cases rr with
  |cons r' rr=>cases rr;obtain⟨t,rfl⟩:=r;obtain⟨t',rfl⟩:=r';exact call_range_2 (sH I1 q1 q2 q3 q4 q)
def tFor(wi:TI)(g:TG)(tb:TS):TS:=λD σ H=>wi σ H λJ H1=>∃W:Nat->Nat->St->Hp->Prop,(∃m,W 0 m σ H1)/\∀i m σ H,W i m σ H->
 (J.stop i H/\D.nx σ H)\/(J.go i H/\∃N:St->Hp->Prop,(∀σ' H',N σ' H'->∃m',m'<m/\W (i+1) m' σ' H')/\∀x H',J.yld i H x H'->g x σ H' λσ2 H2=>tb { D with nx:=N,ct:=N,bk:=D.nx } σ2 H2)
noncomputable def ko(fp:List Addr)(h:Heap):List (Addr×Obj):=fp.filterMap λb=>(h.get? b).map λo=>(b,o)
def gM(hb:b∈fp)(e:h.get? b=some o):(b,o)∈ko fp h:=List.mem_filterMap.mpr ⟨b,hb,by rw[e];rfl⟩
def yK(hp:p∈ko fp h):p.1∈fp/\h.get? p.1=some p.2:=by
 obtain⟨b,hb,e⟩:=List.mem_filterMap.mp hp;cases q:h.get? b with
 |none=>rw[q] at e;cases e
 |some o=>rw[q] at e;have e':(b,o)=p:=MC e;subst e';exact⟨hb,q⟩
def Inv.pinned(I:Inv X pins σ H s)(hf:∀b∈fp,FpOk X pins H b)(ho:∀b∈fp,∃o,s.heap.get? b=some o/\∀v,o.data ≠ .cell v):Inv X (pins++ko fp s.heap) σ H s:=
 I.pins_of λp hp=>(M7.mp hp).elim (λz=>I.pin p (MR _ z)) λz=>by obtain⟨hb,e⟩:=yK z;obtain⟨f0,f1,f2,_⟩:=hf p.1 hb;obtain⟨o,e',d⟩:=ho p.1 hb;rw[e] at e';cases e';exact⟨e,f0,f1,f2,d⟩
def Inv.unpinned(I:Inv X (pins++pl) σ H s):Inv X pins σ H s:=I.pins_of λp hp=>I.pin p (MR _ (List.mem_append_left _ hp))
def Gj(hp:PassesOwn (model X.prog X.w) X.A X.env X.xe)(hc:X.calm=true)(hi:PI X tg a_ wi)(hg:PG X tg g)(hb:PSs X body tb)
 (hs:∀x,foldedSetIterable a_ X.env x=pure x):PS X (.For tg a_ body [] pos) (tFor wi g tb):=by
 intro pins s σ H D I h;refine wpAny_For (thn (hi pins s σ H _ I h) λv s1 h1=>thn h1 λitv s2 h2=>?_) hs;obtain⟨it,fp,tn,J,H2,e,I2,T,st2,f2,W,⟨m0,w0⟩,turn⟩:=h2;subst e;have stat:∀{H':Hp},(∀b∈fp,H' b=none)->∀b∈fp,FpOk X pins H' b:=λhn b hb=>⟨hn b hb,(f2 b hb).2⟩;refine codeAny_forLoop_any (λn s'=>∃i σ' H',Inv X pins σ' H' s'/\tn i s'.heap/\(∀b∈fp,H' b=none)/\W i n σ' H') ?_ m0 ⟨0,σ,H2,I2,st2,λb hb=>(f2 b hb).1,w0⟩;rintro n s3 ⟨i,σ3,H3,I3,st3,fr3,w3⟩;rcases turn i n σ3 H3 w3 with ⟨stop,qn⟩ |⟨go,N,hN,step⟩
 .refine NH hp (thn (T.done X rfl rfl rfl hc i pins s3 σ3 H3 X.xe I3 (stat fr3) st3 stop) λr s4 ⟨hr,I4⟩=>?_);subst hr;exact OH ⟨σ3,H3,I4,qn⟩
 .refine NH hp (thn (T.item X rfl rfl rfl hc i pins s3 σ3 H3 X.xe I3 (stat fr3) st3 go) λr s4 ⟨u,hr,h4⟩=>?_);subst hr;refine NH hp (thn h4 λ_ s5 ⟨x,H5,I5,r5,y5,st5,fr5⟩=>?_);have I5':=I5.pinned (stat fr5) (T.obj _ _ st5);refine NH hp (thn (hg _ s5 σ3 H5 x u _ I5' r5 (step x H5 y5)) λ_ s6 ⟨σ6,H6,I6,q6⟩=>?_);refine NH hp (thn (hb _ s6 σ6 H6 _ I6 q6) λf s7 q7=>?_);have again:∀{σ7:St}{H7:Hp},Inv X (pins++ko fp s5.heap) σ7 H7 s7->N σ7 H7->∃m,m<n/\∃i σ' H',Inv X pins σ' H' s7/\tn i s7.heap/\(∀b∈fp,H' b=none)/\W i m σ' H':=λ{σ7 H7} I7 n7=>by obtain⟨m',hm,w7⟩:=hN σ7 H7 n7;refine⟨m',hm,i+1,σ7,H7,I7.unpinned,T.keep _ _ _ st5 λb hb o e=>(I7.pin (b,o) (MR _ (MR _ (gM hb e)))).1,λb hb=>?_,w7⟩;obtain⟨o,e,d⟩:=T.obj _ _ st5 b hb;exact (I7.pin (b,o) (MR _ (MR _ (gM hb e)))).2.1
  cases f with
  |next=>obtain⟨σ7,H7,I7,n7⟩:=q7;exact again I7 n7
  |cont=>obtain⟨σ7,H7,I7,n7⟩:=q7;exact again I7 n7
  |brk=>obtain⟨σ7,H7,I7,q7⟩:=q7;exact⟨σ7,H7,I7.unpinned,q7⟩
  |ret v=>obtain⟨x7,σ7,H7,I7,r7,q7⟩:=q7;exact⟨x7,σ7,H7,I7.unpinned,r7,q7⟩
end
abbrev R2:=V->V->Hp->VK->Prop
def OpR(X:Cx)(f:Value->Value->Sem Value)(r:R2):Prop:=
 ∀
  (pins:Pb) (s:Shared) (σ:St) (H:Hp) (x y:V) (v u:Value) (Q:VK),Inv X pins σ H s->RelV x v->RelV y u->r x y H Q->
  wpAny (model X.prog X.w) X.A (f v u) (EP X pins σ Q) X.xe s
def UnR(X:Cx)(f:Value->Sem Value)(r:V->Hp->VK->Prop):Prop:=
 ∀
  (pins:Pb) (s:Shared) (σ:St) (H:Hp) (x:V) (v:Value) (Q:VK),Inv X pins σ H s->RelV x v->r x H Q->
  wpAny (model X.prog X.w) X.A (f v) (EP X pins σ Q) X.xe s
def CallR(X:Cx)(f:Value)(r:List V->Hp->VK->Prop):Prop:=
 ∀
  (pins:Pb) (s:Shared) (σ:St) (H:Hp) (xs:List V) (us:List Value) (Q:VK),Inv X pins σ H s->Vals xs us->r xs H Q->
  wpAny (model X.prog X.w) X.A (call f us) (EP X pins σ Q) X.xe s
def tOp(r:R2)(ta tb:TE):TE:=λσ H Q=>ta σ H λx H1=>tb σ H1 λy H2=>r x y H2 Q
def tUn(r:V->Hp->VK->Prop)(ta:TE):TE:=λσ H Q=>ta σ H λx H1=>r x H1 Q
def rI(C:Int->Int->Prop)(g:Int->Int->V):R2:=λx y H Q=>∃i j,x=.int i/\y=.int j/\C i j/\Q (g i j) H
def rI0(g:Int->Int->V):R2:=λx y H Q=>∃i j,x=.int i/\y=.int j/\Q (g i j) H
def rU(g:Int->V):V->Hp->VK->Prop:=λx H Q=>∃i,x=.int i/\Q (g i) H
section
variable{X:Cx}{a b:Expr}{ta tb:TE}{pos:Pos}
def zP(ha:PE X a ta)(hb:PE X b tb){pins:Pb}{s:Shared}{σ:St}{H:Hp}{R:V->V->Hp->Prop}(I:Inv X pins σ H s)
 (h:ta σ H λx H1=>tb σ H1 λy H2=>R x y H2) {Q:Pc}{f:Value->Value->Sem Value}
 (hf:∀v u s2 x y H2,Inv X pins σ H2 s2->RelV x v->RelV y u->R x y H2->wpAny (model X.prog X.w) X.A (f v u) Q X.xe s2):
 wpAny (model X.prog X.w) X.A (eval a X.env) (λv s₁=>wpAny (model X.prog X.w) X.A (eval b X.env) (λu s₂=>wpAny (model X.prog X.w) X.A (f v u) Q X.xe s₂) X.xe s₁) X.xe s:=by
 refine thn (ha pins s σ H _ I h) λv s1 ⟨x,H1,I1,r1,q1⟩=>?_;refine thn (hb pins s1 σ H1 _ I1 q1) λu s2 ⟨y,H2,I2,r2,q2⟩=>?_;exact hf v u s2 x y H2 I2 r1 r2 q2
def Lw(ho:OpR X (binaryOp op) r)(ha:PE X a ta)(hb:PE X b tb):PE X (.BinOp a op b pos) (tOp r ta tb):=by intro pins s σ H Q I h;exact wpAny_BinOp (zP ha hb I h λv u s2 x y H2 I2 rx ry q=>ho pins s2 σ H2 x y v u Q I2 rx ry q)
def Mj(ho:UnR X (unaryOp op) r)(ha:PE X a ta):PE X (.UnaryOp op a pos) (tUn r ta):=by intro pins s σ H Q I h;exact UnaryOp_ (thn (ha pins s σ H _ I h) λv s1 ⟨x,H1,I1,r1,q1⟩=>ho pins s1 σ H1 x v Q I1 r1 q1)
def opI{f:Value->Value->Sem Value}{C:Int->Int->Prop}{g:Int->Int->Int}
 (rule:∀(i j:Int) (t u:Tok) (s:Shared) (Q:Pc) (E:Pc),C i j->Q (.int (g i j) s.toks) { s with toks:=s.toks+1 }->wpAny (model X.prog X.w) X.A (f (.int i t) (.int j u)) Q E s):
 OpR X f (rI C λi j=>.int (g i j)):=by
 intro pins s σ H x y v u Q I rx ry h;obtain⟨i,j,rfl,rfl,hc,q⟩:=h;obtain⟨t,rfl⟩:=rx;obtain⟨t',rfl⟩:=ry;exact rule i j t t' s _ _ hc ⟨.int (g i j),H,I.tok _,⟨_,rfl⟩,q⟩
def opI0{f:Value->Value->Sem Value}{g:Int->Int->Int}
 (rule:∀(i j:Int) (t u:Tok) (s:Shared) (Q:Pc) (E:Pc),Q (.int (g i j) s.toks) { s with toks:=s.toks+1 }->wpAny (model X.prog X.w) X.A (f (.int i t) (.int j u)) Q E s):
 OpR X f (rI0 λi j=>.int (g i j)):=by
 intro pins s σ H x y v u Q I rx ry h;obtain⟨i,j,rfl,rfl,q⟩:=h;obtain⟨t,rfl⟩:=rx;obtain⟨t',rfl⟩:=ry;exact rule i j t t' s _ _ ⟨.int (g i j),H,I.tok _,⟨_,rfl⟩,q⟩
def zJ{f:Value->Value->Sem Value}{g:Int->Int->Bool}
 (rule:∀(i j:Int) (t u:Tok) (s:Shared) (Q:Pc) (E:Pc),Q (.bool (g i j)) s->wpAny (model X.prog X.w) X.A (f (.int i t) (.int j u)) Q E s):
 OpR X f (rI0 λi j=>.bl (g i j)):=by
 intro pins s σ H x y v u Q I rx ry h;obtain⟨i,j,rfl,rfl,q⟩:=h;obtain⟨t,rfl⟩:=rx;obtain⟨t',rfl⟩:=ry;exact rule i j t t' s _ _ ⟨.bl (g i j),H,I,rfl,q⟩
def gG(i j:Int):Prop:=0<=j/\j<=1000000/\i.natAbs<2^64
def CMul(i j:Int):Prop:=(-(2^64)<i/\i<2^64)\/(-(2^64)<j/\j<2^64)
def CMul.ok(h:CMul i j):IntMulOk i j:=by
 rcases h with ⟨h1,h2⟩ |⟨h1,h2⟩
 .exact .of_left (intBits_le_64 h1 h2)
 .exact .of_right (intBits_le_64 h1 h2)
def Gn:OpR X (binaryOp .Add) (rI0 λi j=>.int (i+j)):=opI0 λ_ _ _ _ _ _ _ q=>add_int q
def F2:OpR X (binaryOp .Sub) (rI0 λi j=>.int (i-j)):=opI0 λ_ _ _ _ _ _ _ q=>sub_int q
def FH:OpR X (binaryOp .Mult) (rI CMul λi j=>.int (i*j)):=opI λ_ _ _ _ _ _ _ hc q=>mul_int q hc.ok
def C0:OpR X (binaryOp .Mod) (rI (λ_ j=>j≠0) λi j=>.int (i.fmod j)):=opI λ_ _ _ _ _ _ _ hc q=>mod_int' hc q
def Hr:OpR X (binaryOp .Pow) (rI gG λi j=>.int (i^j.toNat)):=opI λ_ _ _ _ _ _ _ hc q=>pow_int_small hc.1 hc.2.1 hc.2.2 q
def G1:OpR X (binaryOp .LShift) (rI gG λi j=>.int (i*2^j.toNat)):=opI λ_ _ _ _ _ _ _ hc q=>lshift_int_small hc.1 hc.2.1 hc.2.2 q
def unI{f:Value->Sem Value}{g:Int->Int}
 (rule:∀(i:Int) (t:Tok) (s:Shared) (Q:Pc) (E:Pc),Q (.int (g i) s.toks) { s with toks:=s.toks+1 }->wpAny (model X.prog X.w) X.A (f (.int i t)) Q E s):
 UnR X f (rU λi=>.int (g i)):=by
 intro pins s σ H x v Q I rx h;obtain⟨i,rfl,q⟩:=h;obtain⟨t,rfl⟩:=rx;exact rule i t s _ _ ⟨.int (g i),H,I.tok _,⟨_,rfl⟩,q⟩
def GS:UnR X (unaryOp .USub) (rU λi=>.int (-i)):=unI λ_ _ _ _ _ q=>neg_int q
end
section
variable{X:Cx}{a b c:Expr}{ta tb:TE}{pos:Pos}
def ka(I:Inv X pins σ H s)(q:Q (.bl k) H)(e:k=k'):EP X pins σ Q (.bool k') s:=by subst e;exact⟨.bl k,H,I,rfl,q⟩
def Cc:OpR X (compareOp .Lt) (rI0 λi j=>.bl (decide (i<j))):=zJ λ_ _ _ _ _ _ _ q=>lt_int q
def Ci:OpR X (compareOp .Gt) (rI0 λi j=>.bl (decide (j<i))):=zJ λ_ _ _ _ _ _ _ q=>gt_int q
def Cy:OpR X (compareOp .GtE) (rI0 λi j=>.bl (decide (j<=i))):=zJ λ_ _ _ _ _ _ _ q=>ge_int q
def HH:OpR X (compareOp .Is) (λx y H Q=>y=.non/\Q (.bl (decide (x=.non))) H):=by
 intro pins s σ H x y v u Q I rx ry h;obtain⟨rfl,q⟩:=h;cases ry;refine is_none_gen (ka I q ?_);cases x <;> first
  |(cases rx;rfl)
  |(obtain⟨t,rfl⟩:=rx;rfl)
def Dw:OpR X (compareOp .IsNot) (λx y H Q=>y=.non/\Q (.bl (!decide (x=.non))) H):=by
 intro pins s σ H x y v u Q I rx ry h;obtain⟨rfl,q⟩:=h;cases ry;refine isnot_none_gen (ka I q ?_);cases x <;> first
  |(cases rx;rfl)
  |(obtain⟨t,rfl⟩:=rx;rfl)
def OpR.or(h:OpR X f r)(h':OpR X f r'):OpR X f (λx y H Q=>r x y H Q\/r' x y H Q):=by
 intro pins s σ H x y v u Q I rx ry q;rcases q with q |q
 .exact h pins s σ H x y v u Q I rx ry q
 .exact h' pins s σ H x y v u Q I rx ry q
def xV(b:Expr)(h:op ≠ .In:=by decide)(h2:op ≠ .NotIn:=by decide):behindInMarks op b=false:=by
 have e1:(op==CmpOp.In)=false:=by cases op <;> first |rfl |exact absurd rfl h
 have e2:(op==CmpOp.NotIn)=false:=by cases op <;> first |rfl |exact absurd rfl h2
 cases b <;> simp [behindInMarks,e1,e2]
def DH(ho:OpR X (compareOp op) r)(ha:PE X a ta)(hb:PE X b tb)(hm:behindInMarks op b=false):PE X (.Compare a [op] [b] pos) (tOp r ta tb):=by intro pins s σ H Q I h;exact wpAny_Compare1 (zP ha hb I h λv u s2 x y H2 I2 rx ry q=>ho pins s2 σ H2 x y v u Q I2 rx ry q) hm
def LG(t:TE):TT:=λσ H Q=>t σ H λx H'=>∃k,x=.bl k/\Q k H'
def CK(ho:OpR X (compareOp op) r)(ha:PE X a ta)(hb:PE X b tb)(hm:behindInMarks op b=false):PT X (.Compare a [op] [b] pos) (LG (tOp r ta tb)):=by
 intro pins s σ H Q I h;refine wpAny_isTrue_Compare1 (thn (ha pins s σ H _ I h) λv s1 ⟨x,H1,I1,r1,q1⟩=>thn (hb pins s1 σ H1 _ I1 q1) λu s2 ⟨y,H2,I2,r2,q2⟩=>
  thn (ho pins s2 σ H2 x y v u _ I2 r1 r2 q2) λc s3 ⟨z,H3,I3,r3,k,e,q3⟩=>?_) hm
 subst e;cases r3;exact Nt ⟨H3,I3,q3⟩
def kG:(sizeLine:Nat)<2^63:=by rw[sizeLine_eq];decide
def iS(r:Vals [x] us):∃u,us=[u]/\RelV x u:=by
 cases r with
 |cons r1 r2=>cases r2;exact⟨_,rfl,r1⟩
def Cw(r:Vals [x,y] us):∃u w',us=[u,w']/\RelV x u/\RelV y w':=by
 cases r with
 |
  cons r1 r2=>
  cases r2 with
  |cons r3 r4=>cases r4;exact⟨_,_,rfl,r1,r3⟩
def Ae:CallR X (.builtin "abs") (λxs H Q=>∃i,xs=[.int i]/\Q (.int (if i<0 then -i else i)) H):=by intro pins s σ H xs us Q I r h;obtain⟨i,rfl,q⟩:=h;obtain⟨u,rfl,t,rfl⟩:=iS r;exact call_abs_int λu tk=>⟨.int (if i<0 then -i else i),H,I.tok _,⟨_,rfl⟩,q⟩
end
structure ObjM(h:Heap)(x dx C:Addr)(mA:Pa):Prop where
 obj:h.get? x=some (W.instObj C dx)
 ns:h.Ns1 dx mA
 ne:dx≠x
def zp{h:Heap}{dx:Addr}{mA:Pa}(n:h.Ns1 dx mA):∃od,h.get? dx=some od/\∀name,W.lookIn name od=some (mA name):=by
 obtain⟨o,es,ep,ho,hd,hk,_,hm⟩:=n;refine⟨o,ho,λname=>?_⟩;have e:=hm name;unfold nsFind findBy at e;rw[<- Array.find?_toList] at e;unfold W.lookIn;rw[hd];dsimp only;split
 .rename_i y q;rw[q] at e;exact Nd some e
 .rename_i q;rw[q] at e;have a:es.toList.any (·.refKey)=false:=by rw[List.any_eq_false];intro y hy;obtain⟨z,t,hkey⟩:=hk y (Array.mem_toList_iff.mp hy);simp [DictEntry.refKey,hkey]
  have a':¬ es.toList.any (·.refKey)=true:=by rw[a];exact D_
  rw[if_neg a'];exact Nd some e
def ObjM.look(I:ObjM h x dx C mA):∃od,W.InstAt h x (W.instObj C dx) C (some od)/\∀name,W.lookIn name od=some (mA name):=
 let ⟨od,ho,hl⟩:=zp I.ns
 ⟨od,⟨I.obj,rfl,rfl,ho⟩,hl⟩
def RelO.some_of(r:RelO (some v) o):∃u,o=some u/\RelV v u:=by
 cases o with
 |none=>exact (show False from r).elim
 |some u=>exact⟨u,rfl,r⟩
section
variable{P:Program}{w:World}{H:Hp}{h:Heap}{a C dx:Addr}{fs:List (Str×V)}
def D3(hok:HOk P w H h)(e:H a=some (.ins C dx fs)):∃mA,ObjM h a dx C mA/\(∀f,RelO (fs.lookup f) (mA f))/\PySem.Within mA (fs.map (·.1))/\fs.length<=1000/\H dx=some (.own a):=by obtain⟨d,z,ne,ob,mA,n,r,q⟩:=(show ObjOk P w H h a (.ins C dx fs) from hok a _ e);exact⟨mA,⟨ob,n,ne⟩,r,q,z,d⟩
end
structure Cls(K:W.Frag)(C:Addr):Prop where
 pg:W.plainGet K C Str.empty=true
 hd:W.hasDictIn K C=true
 po:W.plainOver K C=true
 sa:W.findIn K (.ref C) "__setattr__"=some (some (.builtin "object.__setattr__"))
def Cls.get{K:W.Frag}{C:Addr}(c:Cls K C)(f:Str):W.plainGet K C f=true:=c.pg
section
variable{H:Hp}
inductive TyOf(K:W.Frag)(H:Hp):V->Value->Prop where
 |non:TyOf K H .non (.type "NoneType")
 |bl (x:Bool):TyOf K H (.bl x) (.type "bool")
 |int (i:Int):TyOf K H (.int i) (.type "int")
 |str (x:Str):TyOf K H (.str x) (.type "str")
 |flt (x:UInt64):TyOf K H (.flt x) (.type "float")
 |lst {a:Addr}{xs:List V} (e:H a=some (.lst xs)):TyOf K H (.ref a) (.type "list")
 |frz {a:Addr}{o:Obj}{xs:List V} (e:H a=some (.frz o (.lst xs))):TyOf K H (.ref a) (.type "list")
 |tup {a:Addr}{xs:List V} (e:H a=some (.tup xs)):TyOf K H (.ref a) (.type "tuple")
 |dK {a:Addr}{kvs:List (Key×V)} (e:H a=some (.dK kvs)):TyOf K H (.ref a) (.type "dict")
 |dT {a:Addr}{kvs:List (List Key×V)} (e:H a=some (.dT kvs)):TyOf K H (.ref a) (.type "dict")
 |ins {a C dx:Addr}{fs:List (Str×V)} (e:H a=some (.ins C dx fs)) (cl:Cls K C) (ha:W.findIn K (.ref C) "__class__"=some (some (.builtin "object.__class__")))
  (hn:W.specialIn K (.builtin "object.__class__") "__get__"=some (some (.builtin "getset_descriptor.__get__"))) (htk:W.takesIn K (.builtin "object.__class__")=some true)
  (hm:W.mroIn K C (.type "object")=some true):TyOf K H (.ref a) (.ref C)
end
structure Room(k:Nat)(A:Around):Prop where
 hd:A.handled=none
 dp:A.depth+3*k+5<recursionLimit
 un:A.units+16*k+200<cLine
def Room.mono(r:Room k A)(h:j<=k):Room j A:=⟨r.hd,by have:=r.dp;omega,by have:=r.un;omega⟩
def Room.deeper(r:Room (k+1) A)(env:Env):Room k (A.deeper env):=
 ⟨r.hd,by have:=r.dp;show A.depth+1+3*k+5<_;omega,by have:=r.un;show A.units+3+16*k+200<_;omega⟩
def Room.depth(r:Room k A):A.depth<recursionLimit:=by have:=r.dp;omega
def Room.units(r:Room k A):A.units+64<cLine:=by have:=r.un;omega
def tNil:TA:=λ_ H Q=>Q [] H
def Lr(ta:TE)(tr:TA):TA:=λσ H Q=>ta σ H λx H1=>tr σ H1 λxs H2=>Q (x::xs) H2
section
variable{X:Cx}{e:Expr}{es:List Expr}{te:TE}{t:TA}{pos:Pos}
def HD:PA X [] tNil:=λ_ _ _ _ H Q I h=>Calls.spliced_nil ⟨[],H,I,.nil,h⟩
def CJ(ha:PE X e te)(hr:PA X es t)(hs:starEach (e::es) X.env=(false,eval e X.env)::starEach es X.env):PA X (e::es) (Lr te t):=by intro pos pins s σ H Q I h;rw[hs];show wpAny _ _ (spliced ((false,eval e X.env)::backTo pos (starEach es X.env))) _ _ s;refine Calls.spliced_cons (thn (ha pins s σ H _ I h) λu s1 ⟨x,H1,I1,r1,q1⟩=>?_);exact thn (hr pos pins s1 σ H1 _ I1 q1) λus s2 ⟨xs,H2,I2,r2,q2⟩=>⟨x::xs,H2,I2,.cons r1 r2,q2⟩
def tTup(t:TA):TE:=λσ H Q=>t σ H λxs H1=>xs.length<=sizeLine/\∀p,H1 p=none->Q (.ref p) (upd H1 p (.tup xs))
def tLst(t:TA):TE:=λσ H Q=>t σ H λxs H1=>xs.length<=sizeLine/\∀p,H1 p=none->Q (.ref p) (upd H1 p (.lst xs))
def GD{x1}(h:PA X es t):PE X (.Tuple es x1 pos) (tTup t):=by intro pins s σ H Q I hq;refine wpAny_Tuple_spliced (thn (h pos pins s σ H _ I hq) λus s1 ⟨xs,H1,I1,r,z,q⟩=>⟨by rw[<- r.length];exact z,?_⟩);have hf:H1 s1.heap.objs.size=none:=I1.hok.fresh (y_ _);refine⟨.ref s1.heap.objs.size,upd H1 s1.heap.objs.size (.tup xs),I1.laid (t':=s1.toks) (λb u e=>C_ _ e) (y_ _) ?_,rfl,q _ hf⟩;exact⟨z,us,r,⟨_,MB _ rfl,rfl,_,rfl⟩⟩
def Hl(h:PA X es t):PE X (.List es pos) (tLst t):=by intro pins s σ H Q I hq;refine wpAny_List_spliced (thn (h pos pins s σ H _ I hq) λus s1 ⟨xs,H1,I1,r,z,q⟩=>⟨by rw[<- r.length];exact z,?_⟩);have hf:H1 s1.heap.objs.size=none:=I1.hok.fresh (y_ _);refine⟨.ref s1.heap.objs.size,upd H1 s1.heap.objs.size (.lst xs),I1.laid (t':=s1.toks) (λb u e=>C_ _ e) (y_ _) ?_,rfl,q _ hf⟩;exact⟨z,us,0,r,MB _ rfl⟩
end
abbrev Sp:=List V->Hp->VK->XK->Prop
abbrev CXT:=List Env->Hp->Shared->XK->Value->Shared->Prop
structure Env0(P:Program)(w:World)(K:W.Frag)(mg:Pa)(base:Heap)(A:Around)(outer:List Env)(s:Shared)(H:Hp):Prop where
 frames:A.frames=some outer
 mod:Mod K mg base
 bs:∀b o,base.get? b=some o->s.heap.get? b=some o/\H b=none
 bsz:base.objs.size<=s.heap.objs.size
 funs:s.heap.FunFrames base outer
 frf:∀b∈frs outer,H b=none
 hok:HOk P w H s.heap
 bare:AllBare s.gens
def CE(outer:List Env)(P:Program)(w:World)(H:Hp)(s:Shared)(Q:VK)(u:Value)(s':Shared):Prop:=
 ∃v H',s'.os=s.os/\AllBare s'.gens/\Un (frs outer) [] H H' s.heap s'.heap/\HOk P w H' s'.heap/\RelV v u/\Q v H'
def CR(CX:CXT)(outer:List Env)(P:Program)(w:World)(H:Hp)(s:Shared)(Q:VK)(E:XK)(r:Result)(s':Shared):Prop:=
 match r with
 |.ok (.ret u)=>CE outer P w H s Q u s'
 |.ok _=>False
 |.error e=>CX outer H s E e s'
structure FnOk(P:Program)(w:World)(K:W.Frag)(mg:Pa)(base:Heap)(CX:CXT)(k:Nat)(f:Addr)(fd:FuncData)(ps:List Str)(sp:Sp):Prop where
 len:∀vs H Q E,sp vs H Q E->vs.length=ps.length
 run:∀(A:Around) (outer:List Env) (s:Shared) (H:Hp) (args:Args) (us:List Value) (vs:List V) (Q:VK) (E:XK),Room k A->Env0 P w K mg base A outer s H->BindsTo s fd args (ps.zip us)->Vals vs us->sp vs H Q E->
  codeAny (model P w) A (.call (.ref f) args) (CR CX outer P w H s Q E) s
def FnOk.imp{P:Program}{w:World}{K:W.Frag}{mg:Pa}{base:Heap}{CX:CXT}{k:Nat}{f:Addr}{fd:FuncData}{ps:List Str}{sp sp':Sp}(F:FnOk P w K mg base CX k f fd ps sp)
 (h:∀vs H Q E,sp' vs H Q E->sp vs H Q E):FnOk P w K mg base CX k f fd ps sp':=
 ⟨λvs H Q E q=>F.len vs H Q E (h _ _ _ _ q),λA outer s H args us vs Q E hr he hb hv hs=>F.run A outer s H args us vs Q E hr he hb hv (h _ _ _ _ hs)⟩
section
variable{X:Cx}{pins:Pb}{σ:St}{H:Hp}{s s':Shared}
def Inv.env0(I:Inv X pins σ H s):Env0 X.prog X.w X.K X.mg X.base X.A X.stack s H:=
 ⟨I.ok.frames,I.ok.mod,I.bs,G_ I.ok.bsz I.sz,I.stack,I.stkFree,I.hok,I.bare⟩
def Inv.after(I:Inv X pins σ H s)(h:CE X.stack X.prog X.w H s Q u s'):EP X pins σ Q u s':=by obtain⟨v,H',os,bare,un,hok,r,q⟩:=h;obtain⟨hh,g,d,t,os'⟩:=s';obtain rfl:os'=s.os:=os;exact⟨v,H',I.call (h':=hh) (g':=g) (d':=d) (t':=t) (ch:=[]) un hok bare (λb z=>absurd z (by simp)),r,q⟩
end
def Binds(K:W.Frag)(fd:FuncData)(ps:List Str)(ds:List Value):Prop:=
 ∀(s:Shared) (us:List Value),K.In s.heap->(us++ds).length=ps.length->BindsTo s fd ⟨us,[]⟩ (ps.zip (us++ds))
def Binds.all{K:W.Frag}{fd:FuncData}{ps:List Str}(h:∀us:List Value,us.length=ps.length->bindArgs fd ⟨us,[]⟩=pure (ps.zip us)):Binds K fd ps []:=λs us _ hl=>by rw[Nn] at hl ⊢;exact .of_eq (h us hl)
def sQ(CX:CXT)(X:Cx)(E:XK):Prop:=∀(pins:Pb) (σ:St) (H:Hp) (s:Shared) (e:Value) (s':Shared),Inv X pins σ H s->CX X.stack H s E e s'->X.xe e s'
structure FnScope(N P:List Str)(sc:Scope):Prop where
 kind:sc.kind=.function
 co:sc.isCoroutine=false
 gen:sc.isGenerator=false
 nd:N.Nodup
 pre:N.take P.length=P
 par:∀x∈P,sc.names.lookup x=some .local\/sc.names.lookup x=some .cell
 nofree:∀y∈sc.names,y.2 ≠ .free
theorem pR{kindOf:Str->Option NameKind}{x:Str}:∀{binds:List (Str×Value)}{m:Pa},(∀v,(x,v)∉binds)->bindL kindOf binds m x=m x
 | [],_,_=>rfl
 |
  (n,v)::r,m,h=>by
  unfold bindL;rw[pR λw hw=>h w (A_ _ hw)];split
  .have:x≠n:=by rintro rfl;exact h v H_
   simp [this]
  .rfl
theorem ph{kindOf:Str->Option NameKind}{x:Str}:∀{binds:List (Str×Value)}{m:Pa},(∀v,(x,v)∉binds)->bindC kindOf binds m x=m x
 | [],_,_=>rfl
 |
  (n,v)::r,m,h=>by
  unfold bindC;rw[ph λw hw=>h w (A_ _ hw)];split
  .rfl
  .have:x≠n:=by rintro rfl;exact h v H_
   simp [this]
theorem pL{kindOf:Str->Option NameKind}{x:Str}{v:Value}:∀{P:List Str}{vs:List Value}{i:Nat}{m:Pa},P.Nodup->P[i]?=some x->vs[i]?=some v->kindOf x=some .local->
 bindL kindOf (P.zip vs) m x=some v
 | [],_,_,_,_,h,_,_=>by simp at h
 |_::_,[],_,_,_,_,h,_=>by simp at h
 |
  p::P,w::vs,0,m,nd,h1,h2,hk=>by
  simp at h1 h2;subst h1;subst h2;show bindL kindOf ((p,w)::P.zip vs) m p=_;unfold bindL;rw[pR λv hv=>(Nq.mp nd).1 (List.of_mem_zip hv).1,if_pos hk];simp
 |
  p::P,w::vs,i+1,m,nd,h1,h2,hk=>by
  show bindL kindOf ((p,w)::P.zip vs) m x=_;unfold bindL;exact pL (i:=i) (Nq.mp nd).2 (by simpa using h1) (by simpa using h2) hk
theorem pM{kindOf:Str->Option NameKind}{x:Str}{v:Value}:∀{P:List Str}{vs:List Value}{i:Nat}{m:Pa},P.Nodup->P[i]?=some x->vs[i]?=some v->kindOf x≠some .local->
 bindC kindOf (P.zip vs) m x=some v
 | [],_,_,_,_,h,_,_=>by simp at h
 |_::_,[],_,_,_,_,h,_=>by simp at h
 |
  p::P,w::vs,0,m,nd,h1,h2,hk=>by
  simp at h1 h2;subst h1;subst h2;show bindC kindOf ((p,w)::P.zip vs) m p=_;unfold bindC;rw[ph λv hv=>(Nq.mp nd).1 (List.of_mem_zip hv).1,if_neg hk];simp
 |
  p::P,w::vs,i+1,m,nd,h1,h2,hk=>by
  show bindC kindOf ((p,w)::P.zip vs) m x=_;unfold bindC;exact pM (i:=i) (Nq.mp nd).2 (by simpa using h1) (by simpa using h2) hk
noncomputable def gb(N:List Str)(vs:List V):St:=vs.map some++List.replicate (N.length-vs.length) none
noncomputable def eJ(CX:CXT)(P:Program)(w:World)(K:W.Frag)(mg:Pa)(base:Heap)(N:List Str)(qual:Str)(scope:Scope)(f:Addr)(cd:Value)(A:Around)(outer:List Env)(s:Shared)(H:Hp)(E:XK):Cx where
 prog:=P
 w:=w
 K:=K
 mg:=mg
 base:=base
 A:=A.deeper (envOfC qual scope s.heap.objs.size f cd)
 N:=N
 s₀:=s
 H₀:=H
 env:=envOfC qual scope s.heap.objs.size f cd
 outer:=outer
 stack:=envOfC qual scope s.heap.objs.size f cd::outer
 ex:=[]
 calm:=true
 fn:=λ_=>true
 pn:=[]
 xe:=λe s'=>wpAny (model P w) (A.deeper (envOfC qual scope s.heap.objs.size f cd)) (leaving (envOfC qual scope s.heap.objs.size f cd) e) (λ_ s''=>CX outer H s E e s'') (λe' s''=>CX outer H s E e' s'') s'
def sX{sc:Scope}{n:Nat}{x:Str}(h:sc.names.lookup x=some .cell):∃c,(cellsFrom n sc.names []).lookup x=some c:=by have q:=W.cellsFrom_some sc.names n [] (.inl h);exact Nr.mp q
def xO{CX:CXT}{P:Program}{w:World}{K:W.Frag}{mg:Pa}{base:Heap}{N ps:List Str}{qual:Str}{scope:Scope}{f:Addr}{cd:Value}{A:Around}{outer:List Env}{s s1:Shared}{H:Hp}{E:XK}{us:List Value}{vs:List V}
 (S:FnScope N ps scope) (hd:A.handled=none) (e0:Env0 P w K mg base A outer s H) (hl:vs.length=ps.length) (r:Vals vs us)
 (x:InCallC s s.heap.objs.size (bindL (envOfC qual scope s.heap.objs.size f cd).kindOf (ps.zip us) λ_=>none) (cellsFrom (s.heap.objs.size+1) scope.names []) (bindC (envOfC qual scope s.heap.objs.size f cd).kindOf (ps.zip us) λ_=>none) s1):
 Inv (eJ CX P w K mg base N qual scope f cd A outer s H E) [] (gb N vs) H s1:=by
 have hpl:ps.length<=N.length:=by have:=Nd List.length S.pre;rw[N0] at this;omega
 obtain⟨h1,tk,rfl,hk⟩:=x.done;have noA:∀b:Addr,b∉(eJ CX P w K mg base N qual scope f cd A outer s H E).ex:=λb z=>absurd (show b∈([]:List Addr) from z) (by simp);refine⟨⟨e0.mod,S.kind,rfl,rfl,y_ _,λy z c h1 h2=>?_,λy hy=>?_,λy c _ h=>?_,λ_=>hd,Around.frames_deeper e0.frames,.inr ⟨rfl,rfl⟩,λb z=>absurd z (noA b),e0.bs,e0.bsz,λb _ _=>noA b,λb z=>absurd z (noA b),e0.funs,e0.frf⟩,
  rfl,e0.bare,Un.kept hk,⟨_,x.toInCall.ns,λi y v h1 h2 h3=>?_⟩,λy c h=>⟨_,x.cell y c h⟩,e0.hok.fresh (y_ _),λy c h=>?_,λp hp=>absurd (show p∈([]:Pb) from hp) (by simp),e0.hok.kept hk,?_⟩
 .exact name_of_addr x.apart (Nk h1) (Nk h2)
 .have hy:scope.names.lookup y=some .cell\/scope.names.lookup y=some .free:=hy;rcases hy with hy |hy
  .exact sX hy
  .exact absurd rfl (S.nofree _ (Nk hy))
 .exact Nat.le_of_lt (x.above y c (Nk h))
 .have hi:i<vs.length:=by
   unfold gb at h2;by_cases hi:i<vs.length
   .exact hi
   .rw[MW (by simpa using hi)] at h2;rw[Nb] at h2;split at h2 <;> cases h2
  have ha:vs[i]?=some v:=by
   unfold gb at h2;rw[MH (by simpa using hi),MP] at h2;cases e:vs[i]? with
   |none=>rw[e] at h2;cases h2
   |some a=>rw[e] at h2;cases h2;rfl
  obtain⟨u,hu,rv⟩:=r.get ha;have hp:ps[i]?=some y:=by rw[<- S.pre,List.getElem?_take_of_lt (by omega)];exact h1
  have ndP:ps.Nodup:=by rw[<- S.pre];exact S.nd.sublist (List.take_sublist _ _)
  refine⟨u,rv,?_⟩;rcases S.par y (NK hp) with k |k
  .exact .inl ⟨k,pL ndP hp hu k⟩
  .obtain⟨c,e⟩:=sX (n:=s.heap.objs.size+1) k;refine .inr ⟨.inl k,c,e,?_⟩;have q:=x.cell y c e;rw[pM ndP hp hu (by show scope.names.lookup y≠_;rw[k];decide)] at q;exact q
 .exact e0.hok.fresh (Nat.le_of_lt (x.above y c (Nk h)))
 .unfold gb;show _=N.length;rw[E_,v_,Ng];omega
def Ku{CX:CXT}{P:Program}{w:World}{K:W.Frag}{mg:Pa}{base:Heap}{k:Nat}{f:Addr}{name qual:Str}{params:Arguments}{body:List Stmt}{scope:Scope}{dV kV doc pm cdv ct oc:Value}{an od:Option Addr}
 {osl:Array (Option Value)}{N ps:List Str}{sp:Sp} (lk:K.lookup f=some ⟨oc,od,.func (W.fnOf name qual params body scope dV kV doc pm an cdv ct),osl⟩) (hcd:W.codeIn K cdv qual=true) (S:FnScope N ps scope)
 (len:∀vs H Q E,sp vs H Q E->vs.length=ps.length)
 (j_:∀(A:Around) (outer:List Env) (s:Shared) (H:Hp) (vs:List V) (Q:VK) (E:XK),Room k (A.deeper (envOfC qual scope s.heap.objs.size f cdv))->sp vs H Q E->
  ∃t,PSs (eJ CX P w K mg base N qual scope f cdv A outer s H E) body t/\t { nx:=λ_ H'=>Q .non H',rt:=Q } (gb N vs) H):
 FnOk P w K mg base CX (k+1) f (W.fnOf name qual params body scope dV kV doc pm an cdv ct) ps sp:=by
 refine⟨len,λA outer s H args us vs Q E hr e0 hb r hsp=>?_⟩;have hl:=len _ _ _ _ hsp;have KX:K.In s.heap:=e0.mod.kin.keeps λb o e=>(e0.bs b o e).1;have lim:s.heap.NoLimit:=e0.mod.nolimit.keeps λb o e=>(e0.bs b o e).1;have hkind:∀y∈ps.zip us,scope.names.lookup y.1=some .local\/(scope.names.lookup y.1=some .cell/\((cellsFrom (s.heap.objs.size+1) scope.names []).lookup y.1).isSome=true):=λ⟨n,v⟩ hy=>by
  rcases S.par n (List.of_mem_zip hy).1 with q |q
  .exact .inl q
  .exact .inr ⟨q,W.cellsFrom_some _ _ _ (.inl q)⟩
 refine codeAny_call_function hr.depth (KX _ _ lk) rfl S.co S.gen rfl (W.codeRec_of KX hcd) (hb _ _ _ _ ?_);refine wpAny_newFunctionEnv_cells S.kind hkind λenv he s1 x=>?_;subst he;refine⟨lim.keeps x.toInCall.keep,codeAny_func ?_⟩;obtain⟨t,ht,hq⟩:=j_ A outer s H vs Q E (hr.deeper _) hsp;have I:Inv (eJ CX P w K mg base N qual scope f cdv A outer s H E) [] (gb N vs) H s1:=xO S hr.hd e0 hl r x;refine M6 (ht [] s1 (gb N vs) H _ I hq) (λfl s' hs=>?_) λe s' hs=>hs;have k_:∀{σ':St}{H':Hp}{v:V}{u:Value},Inv (eJ CX P w K mg base N qual scope f cdv A outer s H E) [] σ' H' s'->RelV v u->Q v H'->CE outer P w H s Q u s':=
  λ{σ' H' v u} J rv q=>⟨v,H',J.os,J.bare,J.base,J.hok,rv,q⟩
 cases fl with
 |ret u=>obtain⟨v,σ',H',J,rv,q⟩:=hs;exact k_ J rv q
 |next=>obtain⟨σ',H',J,q⟩:=hs;exact k_ (v:=V.non) (u:=Value.none) J rfl q
 |brk=>obtain⟨_,_,_,q⟩:=hs;exact False.elim q
 |cont=>obtain⟨_,_,_,q⟩:=hs;exact False.elim q
section
variable{X:Cx}{x:Str}{p pos:Pos}{e:Expr}{es:List Expr}{t:TA}{id T:String}{r:List V->Hp->VK->Prop}
def tCB(r:List V->Hp->VK->Prop)(t:TA):TE:=λσ H Q=>t σ H λvs H1=>r vs H1 Q
def Bl(hc:CallR X (.builtin id) r)(hg:Gl X x)(hm:X.mg x=none)(hv:bootBuiltins x=some (.builtin id))(ha:PA X (e::es) t)(hn:x ≠ "__name__")(hdb:(x==("__debug__" : Str))=false)
 (he:starEach (e::es) X.env=(false,eval e X.env)::starEach es X.env) (hpl:(backTo pos (starEach es X.env)).any (·.1)=false):PE X (.Call (.Name x p) (e::es) [] pos) (tCB r t):=by
 intro pins s σ H Q I h;refine NS (gC I hg hm hv ?_ hn hdb);exact PyProof.Rows.callWith_builtin1 (thn (ha pos pins s σ H _ I h) λus s1 ⟨vs,H1,I1,r1,q1⟩=>hc pins s1 σ H1 vs us Q I1 r1 q1) he hpl
def yx(hc:CallR X (.type T) r)(hg:Gl X x)(hm:X.mg x=none)(hv:bootBuiltins x=some (.type T))(ha:PA X (e::es) t)(hn:x ≠ "__name__")(hdb:(x==("__debug__" : Str))=false)
 (he:starEach (e::es) X.env=(false,eval e X.env)::starEach es X.env) (hpl:(backTo pos (starEach es X.env)).any (·.1)=false):PE X (.Call (.Name x p) (e::es) [] pos) (tCB r t):=by
 intro pins s σ H Q I h;refine NS (gC I hg hm hv ?_ hn hdb);exact Na (thn (ha pos pins s σ H _ I h) λus s1 ⟨vs,H1,I1,r1,q1⟩=>hc pins s1 σ H1 vs us Q I1 r1 q1) he hpl
end
end L2
namespace HT
open PySem PyProof.Rows
section
variable{prog:Program}{w:World}{A:Around}{E:Pc}{s:Shared}
def cat_tup(ht:IsTup s.heap t vs.toArray)(hb:IsTup s.heap b ws.toArray)(hv:vs≠[])
 (h1:ws=[]->Q (.ref t) s) (h2:ws≠[]->Q (.ref s.heap.objs.size) { s with heap:=s.heap.push { cls:=.type "tuple",data:=.seq (vs++ws).toArray } })
 (hsz:vs.length+ws.length<=sizeLine):wpAny (model prog w) A (binaryOp .Add (.ref t) (.ref b)) Q E s:=by
 obtain⟨⟨cls,dd,data,sl⟩,ho,hc,n,hd⟩:=id ht;obtain⟨⟨cls2,dd2,data2,sl2⟩,ho2,hc2,n2,hd2⟩:=id hb;simp only at hc hd hc2 hd2;subst hc hd hc2 hd2;have e:vs.toArray++ws.toArray=(vs++ws).toArray:=by simp
 by_cases hw:ws=[]
 .exact concat_meets ⟨_,ho,rfl⟩ ⟨_,ho2,rfl⟩ noFill_tuple_add seq_tuple_add Om Of (Oa _ _)
   (tuple_addW1 t b vs.toArray ws.toArray n n2 dd dd2 sl sl2 (by simpa using hv) (by simp [hw])) ⟨ho,ho2,h1 hw⟩
 .refine concat_meets ⟨_,ho,rfl⟩ ⟨_,ho2,rfl⟩ noFill_tuple_add seq_tuple_add Om Of (Oa _ _)
   (tuple_addW2 t b vs.toArray ws.toArray n n2 dd dd2 sl sl2 (by simpa using hv) (by simpa using hw) (by rw[J_,J_];exact hsz)) ⟨ho,ho2,?_⟩
  rw[e];exact h2 hw
noncomputable def sIx(n d:Nat):Option Int->Nat
 |none=>d
 |some v=>if v<0 then (v+(n:Int)).toNat else min v.toNat n
def sIx_none(n d:Nat):sIx n d none=d:=rfl
def sIx_nat(n d k:Nat):sIx n d (some (k:Int))=min k n:=by show (if (k:Int)<0 then ((k:Int)+(n:Int)).toNat else min (k:Int).toNat n)=min k n;rw[if_neg (by omega),Og]
def IS(n d:Nat)(hd:d<=n)(o:Option Int):sIx n d o<=n:=by
 cases o with
 |none=>exact hd
 |
  some v=>
  show (if v<0 then (v+(n:Int)).toNat else min v.toNat n)<=n;by_cases hv:v<0
  .rw[if_pos hv];omega
  .rw[if_neg hv];exact Nat.min_le_right _ _
def uH(v:Int)(n d:Nat):(if v<0 then max (v+(n:Int)) 0 else min v (n:Int))=((sIx n d (some v):Nat):Int):=by
 show (if v<0 then max (v+(n:Int)) 0 else min v (n:Int))=(((if v<0 then (v+(n:Int)).toNat else min v.toNat n):Nat):Int);by_cases hv:v<0
 .simp only[if_pos hv];omega
 .simp only[if_neg hv];omega
def wb(lo hi:Option Int)(n:Nat):Builtin.Slice.sliceAdjust lo hi 1 (n:Int)=(((sIx n 0 lo:Nat):Int),((sIx n n hi:Nat):Int)):=by
 have h1:¬ ((1:Int)<0):=by omega
 unfold Builtin.Slice.sliceAdjust;simp only[h1,Ov];refine Prod.ext ?_ ?_
 .cases lo with
  |none=>rfl
  |some v=>exact uH v n 0
 .cases hi with
  |none=>rfl
  |some v=>exact uH v n n
def wB(i j:Nat):Builtin.Slice.slicePlaces (i:Int) (j:Int) 1=j-i:=by
 unfold Builtin.Slice.slicePlaces;have h1:(1:Int)>0:=by omega
 simp only[h1,NM,Int.ediv_one];split <;> omega
def nO(p:IsPart v o)(h:Q o s):wpAny (model prog w) A (Builtin.Slice.slicePartIndex v) Q E s:=by
 cases p with
 |none=>exact slicePart_none h
 |int i t=>exact slicePart_int h
def ml{sl:Addr}{vl vu:Value}{lo hi:Option Int}{n:Nat}{Q:Int×Int×Nat->Shared->Prop}(hs:s.heap.IsSliceOf sl vl vu .none)(pl:IsPart vl lo)(pu:IsPart vu hi)
 (h:Q (((sIx n 0 lo:Nat):Int),1,sIx n n hi-sIx n 0 lo) s):wpAny (model prog w) A (Builtin.Slice.sliceApplied (.ref sl) (pure (n:Int))) Q E s:=by
 obtain⟨os,hos,hcs,hds⟩:=id hs;unfold Builtin.Slice.sliceApplied Builtin.Slice.sliceFields;refine w_ (w_ (M_ hos hds (x:=vl) rfl (w_ (M_ hos hds (x:=vu) rfl (w_ (M_ hos hds (x:=.none) rfl (F_ ?_)))))));refine w_ (slicePart_none ?_);show wpAny _ _ (if ((1:Int)==0)=true then _ else _) _ _ s;rw[if_neg (by decide)];refine w_ (nO pl (w_ (nO pu (w_ (F_ ?_)))));show wpAny _ _ (match Builtin.Slice.sliceAdjust lo hi 1 (n:Int) with |(lo,hi)=>pure (lo,(1:Int),Builtin.Slice.slicePlaces lo hi 1)) _ _ s;rw[wb lo hi n];show wpAny _ _ (pure (((sIx n 0 lo:Nat):Int),(1:Int),Builtin.Slice.slicePlaces ((sIx n 0 lo:Nat):Int) ((sIx n n hi:Nat):Int) 1)) _ _ s;rw[wB];exact F_ h
def Ab(xs:Array Value)(i k:Nat):((List.range k).filterMap λ(m:Nat)=>xs[((i:Int)+(m:Int)*1).toNat]?).toArray=((xs.toList.drop i).take k).toArray:=by
 have e:(λ(m:Nat)=>xs[((i:Int)+(m:Int)*1).toNat]?)=λm=>xs[i+m]?:=by
  funext m;have:((i:Int)+(m:Int)*1).toNat=i+m:=by omega
  rw[this]
 rw[e]
 have:=pick_run xs i k
 rw[List.filterMap_map] at this;have e2:((λx=>xs[x]?) ∘ λx=>i+x)=λm=>xs[i+m]?:=rfl;rw[e2] at this;rw[this]
def getItem_tuple_cut{t sl:Addr}{items:Array Value}{vl vu:Value}{lo hi:Option Int}{Q:Pc}(ht:IsTup s.heap t items)(hs:s.heap.IsSliceOf sl vl vu .none)(pl:IsPart vl lo)(pu:IsPart vu hi)
 (hw:¬ (sIx items.size 0 lo=0/\sIx items.size items.size hi=items.size))
 (h:Q (.ref s.heap.objs.size) { s with heap:=s.heap.push { cls:=.type "tuple",data:=.seq ((items.toList.drop (sIx items.size 0 lo)).take (sIx items.size items.size hi-sIx items.size 0 lo)).toArray } })
 (hsz:items.size<=sizeLine):wpAny (model prog w) A (getItem (.ref t) (.ref sl)) Q E s:=by
 have htake:sizeOk (.seq ((items.toList.drop (sIx items.size 0 lo)).take (sIx items.size items.size hi-sIx items.size 0 lo)).toArray):=by show ((items.toList.drop (sIx items.size 0 lo)).take (sIx items.size items.size hi-sIx items.size 0 lo)).toArray.size<=sizeLine;rw[J_,N0,List.length_drop,OJ];omega
 have hj:sIx items.size items.size hi<=items.size:=IS _ _ (y_ _) hi;obtain⟨os,hos,hcs,hds⟩:=id hs;have hTs:s.TypeIs (.ref sl) "slice":=⟨os,hos,hcs⟩;unfold getItem;try with_reducible refine NP ?_
 first |refine w_ (F_ ?_) |skip
 refine w_ (wpAny_sequenceKey ht.typeIs (by decide) ?_);refine w_ (Nv (name:=Str.ofString "__getitem__") ht.typeIs PyProof.Rows.slot_tuple_getitem
  (N1 PyProof.Rows.slot_tuple_getitem ht.typeIs entry_tuple_getitem ?_ (args_tuple_getitem _ _)))
 show wpAny _ _ (Builtin.Tuple.tupleItemsOf (.ref t) >>= _) _ _ s;refine w_ (tupleItemsOf_ ht ?_);refine w_ (wpAny_typeOf hTs ?_);rw[if_pos (by decide)];refine w_ (ml hs pl pu ?_);have hno:¬ ((((sIx items.size 0 lo:Nat):Int)==0&&(1:Int)==1&&(sIx items.size items.size hi-sIx items.size 0 lo)==items.size)=true):=by intro q;rw[z_,z_] at q;have q1:((sIx items.size 0 lo:Nat):Int)=0:=eq_of_beq q.1.1;have q2:sIx items.size items.size hi-sIx items.size 0 lo=items.size:=eq_of_beq q.2;exact hw ⟨by omega,by omega⟩
 show wpAny _ _ (if (((sIx items.size 0 lo:Nat):Int)==0&&(1:Int)==1&&(sIx items.size items.size hi-sIx items.size 0 lo)==items.size)=true then _ else _) _ _ s;rw[if_neg hno,Ab];first
  |exact w_ (m:=Builtin.Tuple.tupleExact _) (Nj (F_ ⟨_,rfl,F_ h⟩) htake)
  |exact w_ (m:=Builtin.Tuple.tupleExact _) (Nj (w_ (F_ (F_ ⟨_,rfl,F_ h⟩))) htake)
  |exact w_ (w_ (m:=Builtin.Tuple.tupleExact _) (Nj (F_ (F_ ⟨_,rfl,F_ h⟩)) htake))
  |exact w_ (w_ (m:=Builtin.Tuple.tupleExact _) (Nj (F_ ⟨_,rfl,F_ h⟩) htake))
end
end HT
namespace L2
open PySem PySem.Spec PyProof.Rows
abbrev TO:=St->Hp->(Option Int->Hp->Prop)->Prop
def PO(X:Cx)(e:Option Expr)(t:TO):Prop:=
 ∀
  (pins:Pb) (s:Shared) (σ:St) (H:Hp) (Q:Option Int->Hp->Prop),Inv X pins σ H s->t σ H Q->
  wpAny (model X.prog X.w) X.A (evalPart e X.env) (λu s'=>∃o H',Inv X pins σ H' s'/\IsPart u o/\Q o H') X.xe s
def DB:TO:=λ_ H Q=>Q none H
def LO(t:TE):TO:=λσ H Q=>t σ H λx H1=>∃i,x=.int i/\Q (some i) H1
section
variable{X:Cx}{e:Expr}{te:TE}{lo hi:Option Expr}{tl th:TO}{pos p2:Pos}
def Et:PO X none DB:=by intro pins s σ H Q I h;rw[evalPart_none];exact F_ ⟨none,H,I,.none,h⟩
def Ei(h:PE X e te):PO X (some e) (LO te):=by intro pins s σ H Q I hw;rw[evalPart_some];refine thn (h pins s σ H _ I hw) λu s1 ⟨x,H1,I1,r1,q1⟩=>?_;obtain⟨i,rfl,q⟩:=q1;obtain⟨t,rfl⟩:=r1;exact⟨some i,H1,I1,.int i t,q⟩
def SlR(X:Cx)(r:V->Option Int->Option Int->Hp->VK->Prop):Prop:=
 ∀
  (pins:Pb) (s:Shared) (σ:St) (H:Hp) (x:V) (v vl vu:Value) (lo hi:Option Int) (sl:Addr) (Q:VK),Inv X pins σ H s->RelV x v->s.heap.IsSliceOf sl vl vu .none->IsPart vl lo->IsPart vu hi->r x lo hi H Q->
  ∃T id,typeLookup (.type T) "__getitem__"=pure (some (.builtin id))/\s.TypeIs v T/\wpAny (model X.prog X.w) X.A (getItem v (.ref sl)) (EP X pins σ Q) X.xe s
def SlR.or(h:SlR X r)(h':SlR X r'):SlR X (λx lo hi H Q=>r x lo hi H Q\/r' x lo hi H Q):=by
 intro pins s σ H x v vl vu lo hi sl Q I rx hs pl pu q;rcases q with q |q
 .exact h pins s σ H x v vl vu lo hi sl Q I rx hs pl pu q
 .exact h' pins s σ H x v vl vu lo hi sl Q I rx hs pl pu q
def tSl(r:V->Option Int->Option Int->Hp->VK->Prop)(te:TE)(tl th:TO):TE:=λσ H Q=>te σ H λx H1=>tl σ H1 λl H2=>th σ H2 λu H3=>r x l u H3 Q
def Bf(hr:SlR X r)(he:PE X e te)(hl:PO X lo tl)(hu:PO X hi th):PE X (.Subscript e (.Slice lo hi none p2) pos) (tSl r te tl th):=by intro pins s σ H Q I h;refine Subscript_ (thn (he pins s σ H _ I h) λv s1 ⟨x,H1,I1,r1,q1⟩=>?_);refine wpAny_Slice (thn (hl pins s1 σ H1 _ I1 q1) λvl s2 ⟨l,H2,I2,pl,q2⟩=>thn (hu pins s2 σ H2 _ I2 q2) λvu s3 ⟨u,H3,I3,pu,q3⟩=>?_);rw[evalPart_none];refine F_ ?_;have I4:Inv X pins σ H3 { s3 with heap:=s3.heap.push { cls:=.type "slice",data:=.fields #[vl,vu,.none] } }:=I3.kept (t':=s3.toks) λb ob q=>C_ _ q;obtain⟨T,id,hT,ht,hg⟩:=hr pins { s3 with heap:=s3.heap.push { cls:=.type "slice",data:=.fields #[vl,vu,.none] } } σ H3 x v vl vu l u s3.heap.objs.size Q I4 r1 (Heap.IsSliceOf.new ..) pl pu q3;show wpAny (model X.prog X.w) X.A (subscriptTail e (.Slice lo hi none p2) v (.ref s3.heap.objs.size)) (EP X pins σ Q) X.xe { s3 with heap:=s3.heap.push { cls:=.type "slice",data:=.fields #[vl,vu,.none] } };exact tail_any (ops:=[.ref s3.heap.objs.size,v]) ht hT hg (by with_unfolding_all rfl)
noncomputable def kz(xs:List V)(lo hi:Option Int):List V:=(xs.drop (HT.sIx xs.length 0 lo)).take (HT.sIx xs.length xs.length hi-HT.sIx xs.length 0 lo)
def lG(xs:List V)(lo hi:Option Int):(kz xs lo hi).length<=xs.length:=by unfold kz;rw[N0,List.length_drop];omega
def rSlT(K:W.Frag):V->Option Int->Option Int->Hp->VK->Prop:=λx lo hi H Q=>∃a xs,x=.ref a/\SqT K H a xs/\
 ¬ (HT.sIx xs.length 0 lo=0/\HT.sIx xs.length xs.length hi=xs.length)/\∀p,H p=none->Q (.ref p) (upd H p (.tup (kz xs lo hi)))
def Fz:SlR X (rSlT X.K):=by
 intro pins s σ H x v vl vu lo hi sl Q I rx hs pl pu h;obtain⟨a,xs,rfl,hx,hw,q⟩:=h;cases rx;obtain⟨its,r,ht,hz⟩:=I.tuple hx;have d_:its.toArray.size=xs.length:=by rw[J_];exact r.length.symm
 refine⟨"tuple",_,PyProof.Rows.slot_tuple_getitem.lookup,ht.typeIs,?_⟩;refine HT.getItem_tuple_cut ht hs pl pu (by rw[d_];exact hw) ?_ (by rw[d_];exact hz);rw[d_];refine⟨.ref s.heap.objs.size,_,I.laid (t':=s.toks) (o:=.tup (kz xs lo hi)) (λb ob q=>C_ _ q) (y_ _) ?_,rfl,q _ (I.hok.fresh (y_ _))⟩;exact⟨G_ (lG xs lo hi) hz,_,(r.drop (HT.sIx xs.length 0 lo)).take (HT.sIx xs.length xs.length hi-HT.sIx xs.length 0 lo),IsTup.new _ _⟩
def kS(K:W.Frag):R2:=λx y H Q=>∃a b xs ys,x=.ref a/\y=.ref b/\SqT K H a xs/\SqT K H b ys/\xs≠[]/\xs.length+ys.length<=sizeLine/\
 (ys=[]->Q (.ref a) H)/\(ys≠[]->∀p,H p=none->Q (.ref p) (upd H p (.tup (xs++ys))))
def Vals.nil_iff(r:Vals xs us):us=[] ↔ xs=[]:=by
 cases r with
 |nil=>simp
 |cons _ _=>simp
def DR:OpR X (binaryOp .Add) (kS X.K):=by intro pins s σ H x y v u Q I rx ry h;obtain⟨a,b,xs,ys,rfl,rfl,ha,hb,hx,hz,q1,q2⟩:=h;cases rx;cases ry;obtain⟨its,r1,p1,_⟩:=I.tuple ha;obtain⟨its2,r2,p2,_⟩:=I.tuple hb;refine HT.cat_tup p1 p2 (λz=>hx (r1.nil_iff.mp z)) (λz=>⟨.ref a,H,I,rfl,q1 (r2.nil_iff.mp z)⟩) (λz=>?_) (by rw[<- r1.length,<- r2.length];exact hz);refine⟨.ref s.heap.objs.size,_,I.laid (t':=s.toks) (o:=.tup (xs++ys)) (λb ob q=>C_ _ q) (y_ _) ?_,rfl,q2 (λw=>z (r2.nil_iff.mpr w)) _ (I.hok.fresh (y_ _))⟩;exact⟨by rw[E_];exact hz,_,r1.append r2,IsTup.new _ _⟩
end
noncomputable def ixN(n:Nat)(i:Int):Option Nat:=if 0<=i then (if i<n then some i.toNat else none) else if -(n:Int)<=i then some (i+n).toNat else none
noncomputable def atI{α:Type}(xs:List α)(i:Int):Option α:=(ixN xs.length i).bind λj=>xs[j]?
def uo(h:ixN n i=some j):seqIndex? i n=some j/\j<n/\-(n:Int)<=i/\i<n:=by
 unfold ixN at h;by_cases h0:0<=i
 .rw[if_pos h0] at h;by_cases h1:i<n
  .rw[if_pos h1] at h;have e:i.toNat=j:=MC h;exact⟨by rw[seqIndex_of h0 h1,e],by omega,by omega,h1⟩
  .rw[if_neg h1] at h;cases h
 .rw[if_neg h0] at h;by_cases h1:-(n:Int)<=i
  .rw[if_pos h1] at h;have e:(i+n).toNat=j:=MC h;exact⟨by rw[seqIndex_neg (by omega) h1,e],by omega,h1,by omega⟩
  .rw[if_neg h1] at h;cases h
def uT(h:atI xs i=some v):∃j,seqIndex? i xs.length=some j/\xs[j]?=some v/\j<xs.length/\-(xs.length:Int)<=i/\i<xs.length:=by
 unfold atI at h;cases e:ixN xs.length i with
 |none=>rw[e] at h;cases h
 |some j=>rw[e] at h;obtain⟨h1,h2,h3,h4⟩:=uo e;exact⟨j,h1,h,h2,h3,h4⟩
def nV(b:Expr):Prop:=∀o i,subscripted b false o i=operate [o,i] (getItem o i)
def IxR(X:Cx)(r:R2):Prop:=
 ∀
  (value m_:Expr) (pins:Pb) (s:Shared) (σ:St) (H:Hp) (x y:V) (v u:Value) (Q:VK),Inv X pins σ H s->RelV x v->RelV y u->r x y H Q->
  subscripted m_ false v u=operate [v,u] (getItem v u)->wpAny (model X.prog X.w) X.A (subscriptTail value m_ v u) (EP X pins σ Q) X.xe s
def MtR(X:Cx)(id:String)(r:V->List V->Hp->VK->Prop):Prop:=
 ∀
  (pins:Pb) (s:Shared) (σ:St) (H:Hp) (x:V) (xs:List V) (v:Value) (us:List Value) (Q:VK),Inv X pins σ H s->RelV x v->Vals xs us->r x xs H Q->
  wpAny (model X.prog X.w) X.A (call (.builtin id) (v::us)) (EP X pins σ Q) X.xe s
section
variable{X:Cx}{a b:Expr}{ta tb:TE}{pos:Pos}
def IxR.or(h:IxR X r)(h':IxR X r'):IxR X (λx y H Q=>r x y H Q\/r' x y H Q):=by
 intro value m_ pins s σ H x y v u Q I rx ry q hs;rcases q with q |q
 .exact h value m_ pins s σ H x y v u Q I rx ry q hs
 .exact h' value m_ pins s σ H x y v u Q I rx ry q hs
def Mk(hr:IxR X r)(ha:PE X a ta)(hb:PE X b tb)(hs:nV b):PE X (.Subscript a b pos) (tOp r ta tb):=by intro pins s σ H Q I h;exact Subscript_ (zP ha hb I h λv u s2 x y H2 I2 rx ry q=>hr a b pins s2 σ H2 x y v u Q I2 rx ry q (hs _ _))
def wR(K:W.Frag):R2:=λx y H Q=>∃p xs i v,x=.ref p/\y=.int i/\SqL K H p xs/\atI xs i=some v/\Q v H
def wJ(K:W.Frag):R2:=λx y H Q=>∃p xs i v,x=.ref p/\y=.int i/\SqT K H p xs/\atI xs i=some v/\Q v H
def ER:IxR X (wR X.K):=by
 intro value m_ pins s σ H x y v u Q I rx ry h hs;obtain⟨p,xs,i,z,rfl,rfl,hq,he,q⟩:=h;cases rx;obtain⟨t,rfl⟩:=ry;obtain⟨its,r,pl,hz⟩:=I.list hq;obtain⟨j,h1,h2,h3,h4,h5⟩:=uT he;obtain⟨w,ew,rw'⟩:=r.get h2;have hl:=r.length;have hn:=kG;have k_:EP X pins σ Q w s:=⟨z,H,I,rw',q⟩;by_cases h0:0<=i
 .have hj:i.toNat=j:=by rw[seqIndex_of h0 h5] at h1;exact MC h1
  exact item_listR pl.isList h0 (by omega) (by rw[hj];simpa using ew) k_ hs
 .have hj:(i+(its.toArray.size:Int)).toNat=j:=by rw[seqIndex_neg (by omega) h4] at h1;rw[J_,<- hl];exact MC h1
  exact Oo (x:=w) pl.isList.typeIs slot_list_getitem.lookup
   (wpAny_getItem_list_neg (Q:=λr s'=>r=w/\EP X pins σ Q r s') pl.isList (by omega) (by rw[J_] <;> omega) (by omega) (by rw[hj];simpa using ew) ⟨rfl,k_⟩) hs
def Hd:IxR X (wJ X.K):=by
 intro value m_ pins s σ H x y v u Q I rx ry h hs;obtain⟨p,xs,i,z,rfl,rfl,hq,he,q⟩:=h;cases rx;obtain⟨t,rfl⟩:=ry;obtain⟨its,r,pl,hz⟩:=I.tuple hq;obtain⟨j,h1,h2,h3,h4,h5⟩:=uT he;obtain⟨w,ew,rw'⟩:=r.get h2;have hl:=r.length;have hn:=kG;have k_:EP X pins σ Q w s:=⟨z,H,I,rw',q⟩;exact Oo (x:=w) pl.typeIs slot_tuple_getitem.lookup
  (getItem_tuple (j:=j) (Q:=λr s'=>r=w/\EP X pins σ Q r s') pl (by omega) (by omega) (by rw[J_,<- hl];exact h1) (by simpa using ew) ⟨rfl,k_⟩) hs
def wq(its:List Value)(n j:Nat)(u:Value):Obj.mapSeq (·.setIfInBounds j u) { cls:=.type "list",data:=.seq its.toArray n }={ cls:=.type "list",data:=.seq (its.set j u).toArray n }:=by simp [Obj.mapSeq]
def Inv.lst(I:Inv X pins σ H s)(h:H p=some (.lst xs)):
 ∃(its:List Value) (n:Nat),Vals xs its/\s.heap.get? p=some { cls:=.type "list",data:=.seq its.toArray n }/\xs.length<=sizeLine:=by
 obtain⟨z,its,n,r,e⟩:=I.hok p _ h;exact⟨its,n,r,e,z⟩
def Inv.lstUpd{pins:Pb}{σ:St}{H:Hp}{s:Shared}{p:Addr}{xs ys:List V}{its its':List Value}{n n':Nat}{f:Obj->Obj}(I:Inv X pins σ H s)(h:H p=some (.lst xs))
 (ho:s.heap.get? p=some { cls:=.type "list",data:=.seq its.toArray n }) (hf:f { cls:=.type "list",data:=.seq its.toArray n }={ cls:=.type "list",data:=.seq its'.toArray n' }) (r:Vals ys its') (hz:ys.length<=sizeLine) (t:Nat):
 Inv X pins σ (upd H p (.lst ys)) { s with heap:=s.heap.update p f,toks:=t }:=by
 have e:(s.heap.update p f).get? p=some { cls:=.type "list",data:=.seq its'.toArray n' }:=by rw[Heap.get?_update_self f ho (by rw[hf] <;> rfl),hf]
 refine I.write (x:=p) (e:=p) (by rw[h];trivial) (.inl rfl) (λb u hb q=>(Ol _ _ (Ne.symm hb)).trans q) ⟨_,e⟩ ?_;exact⟨hz,its',n',r,e⟩
def wW:V->V->V->Hp->(Hp->Prop)->Prop:=λo i v H Q=>∃p xs k j,o=.ref p/\i=.int k/\H p=some (.lst xs)/\ixN xs.length k=some j/\Q (upd H p (.lst (xs.set j v)))
def Aw:tT X wW:=by
 intro pins s σ H o i v ov iv u Q I ro ri rv h;obtain⟨p,xs,k,j,rfl,rfl,hp,hj,q⟩:=h;cases ro;obtain⟨t,rfl⟩:=ri;obtain⟨its,n,r,ho,hz⟩:=I.lst hp;obtain⟨h1,h2,h3,h4⟩:=uo hj;have hl:=r.length;have hn:=kG;have I':Inv X pins σ (upd H p (.lst (xs.set j v))) { s with heap:=s.heap.update p (Obj.mapSeq (·.setIfInBounds j u)) }:=
  I.lstUpd hp ho (wq its n j u) (r.set rv j) (by rw[Mz];exact hz) s.toks
 by_cases h0:0<=k
 .have hk:k.toNat=j:=by rw[seqIndex_of h0 h4] at h1;exact MC h1
  exact W.ki_setAt ho h0 (by omega) (by rw[J_,<- hl];exact h4) (by rw[hk];exact⟨_,I',q⟩)
 .have hk:(k+(its.toArray.size:Int)).toNat=j:=by rw[seqIndex_neg (by omega) h3] at h1;rw[J_,<- hl];exact MC h1
  exact W.ki_setBack ho (by omega) (by rw[J_,<- hl];exact h3) (by omega) (by rw[hk];exact⟨_,I',q⟩)
def sY(lo hi:Option Int)(n:Nat):(sliceBounds lo hi none n).1=((HT.sIx n 0 lo:Nat):Int)/\(sliceBounds lo hi none n).2.1=((HT.sIx n n hi:Nat):Int)/\(sliceBounds lo hi none n).2.2=1:=by
 refine⟨?_,?_,rfl⟩
 .cases lo with
  |none=>simp [sliceBounds,HT.sIx]
  |
   some i=>
   simp only[sliceBounds,HT.sIx,Option.getD_none,show (1:Int)>0 by decide,NM];by_cases h:i<0
   .simp only[h,NM] <;> omega
   .simp only[h,Ov] <;> omega
 .cases hi with
  |none=>simp [sliceBounds,HT.sIx]
  |
   some i=>
   simp only[sliceBounds,HT.sIx,Option.getD_none,show (1:Int)>0 by decide,NM];by_cases h:i<0
   .simp only[h,NM] <;> omega
   .simp only[h,Ov] <;> omega
def pZ(its:List Value)(lo hi:Option Int):slicePick its.toArray lo hi none=((its.drop (HT.sIx its.length 0 lo)).take (HT.sIx its.length its.length hi-HT.sIx its.length 0 lo)).toArray:=by obtain⟨h1,h2,h3⟩:=sY lo hi its.toArray.size;unfold slicePick;rw[h1,h2,h3];simp only[sliceRange_one,pick_run,J_] <;> rfl
def rSlL(K:W.Frag):V->Option Int->Option Int->Hp->VK->Prop:=λx lo hi H Q=>∃a xs,x=.ref a/\SqL K H a xs/\∀p,H p=none->Q (.ref p) (upd H p (.lst (kz xs lo hi)))
def Ee:SlR X (rSlL X.K):=by intro pins s σ H x v vl vu lo hi sl Q I rx hs pl pu h;obtain⟨a,xs,rfl,hx,q⟩:=h;cases rx;obtain⟨its,r,ht,hz⟩:=I.list hx;have d_:=r.length;refine⟨"list",_,slot_list_getitem.lookup,ht.isList.typeIs,?_⟩;refine wpAny_getItem_list_slice ht.isList hs pl pu .none (by simp) ?_ (by rw[J_] <;> omega);rw[pZ,<- d_];refine⟨.ref s.heap.objs.size,_,I.laid (t':=s.toks) (o:=.lst (kz xs lo hi)) (λb ob q=>C_ _ q) (y_ _) ?_,rfl,q _ (I.hok.fresh (y_ _))⟩;exact⟨G_ (lG xs lo hi) hz,_,0,(r.drop (HT.sIx xs.length 0 lo)).take (HT.sIx xs.length xs.length hi-HT.sIx xs.length 0 lo),MB _ rfl⟩
noncomputable def flatV:V->Bool
 |.non=>true
 |.bl _=>true
 |.int _=>true
 |.str _=>true
 |_=>false
noncomputable def eqV:V->V->Bool
 |.non,.non=>true
 |.bl a,.bl b=>a==b
 |.bl a,.int b=>(if a then 1 else 0)==b
 |.int a,.bl b=>a==(if b then 1 else 0)
 |.int a,.int b=>a==b
 |.str a,.str b=>a==b
 |_,_=>false
def HP(ry:RelV y u)(rx:RelV x v)(fy:flatV y=true)(fx:flatV x=true):SeqAt.EqAt A s u v (eqV y x):=by
 cases y with
 |
  non=>
  cases ry;cases x with
  |non=>cases rx;exact SeqAt.EqAt.same _
  |bl b=>cases rx;exact SeqAt.EqAt.none_bool b
  |int b=>obtain⟨t,rfl⟩:=rx;exact SeqAt.EqAt.none_int b t
  |str b=>obtain⟨t,rfl⟩:=rx;exact SeqAt.EqAt.none_str b t
  |_=>exact absurd (show false=true from fx) D_
 |
  bl a=>
  cases ry;cases x with
  |non=>cases rx;exact SeqAt.EqAt.bool_none a
  |bl b=>cases rx;exact SeqAt.EqAt.bool_bool a b
  |int b=>obtain⟨t,rfl⟩:=rx;exact SeqAt.EqAt.bool_int a b t
  |str b=>obtain⟨t,rfl⟩:=rx;exact SeqAt.EqAt.bool_str a b t
  |_=>exact absurd (show false=true from fx) D_
 |
  int a=>
  obtain⟨t',rfl⟩:=ry;cases x with
  |non=>cases rx;exact SeqAt.EqAt.int_none a t'
  |bl b=>cases rx;exact SeqAt.EqAt.int_bool a t' b
  |int b=>obtain⟨t,rfl⟩:=rx;exact SeqAt.EqAt.int_int a t' b t
  |str b=>obtain⟨t,rfl⟩:=rx;exact SeqAt.EqAt.int_str a t' b t
  |_=>exact absurd (show false=true from fx) D_
 |
  str a=>
  obtain⟨t',rfl⟩:=ry;cases x with
  |non=>cases rx;exact SeqAt.EqAt.str_none a t'
  |bl b=>cases rx;exact SeqAt.EqAt.str_bool a t' b
  |int b=>obtain⟨t,rfl⟩:=rx;exact SeqAt.EqAt.str_int a t' b t
  |str b=>obtain⟨t,rfl⟩:=rx;exact SeqAt.EqAt.str_str a t' b t
  |_=>exact absurd (show false=true from fx) D_
 |_=>exact absurd (show false=true from fy) D_
noncomputable def eqU(x:V)(u:Value):Bool:=match u with
 |.none=>eqV .non x
 |.bool b=>eqV (.bl b) x
 |.int i _=>eqV (.int i) x
 |.str z _=>eqV (.str z) x
 |_=>false
def yU(r:RelV y u)(f:flatV y=true):eqU x u=eqV y x:=by
 cases y with
 |non=>cases r;rfl
 |bl b=>cases r;rfl
 |int i=>obtain⟨t,rfl⟩:=r;rfl
 |str z=>obtain⟨t,rfl⟩:=r;rfl
 |_=>exact absurd (show false=true from f) D_
theorem jq:∀{xs:List V}{us:List Value},Vals xs us->xs.all flatV=true->us.any (eqU x)=xs.any λy=>eqV y x
 |_,_,.nil,_=>rfl
 |
  y::xs,u::us,.cons r t,f=>by
  rw[N3,z_] at f;rw[Nh,Nh,yU r f.1,jq t f.2]
theorem iH(rx:RelV x v)(fx:flatV x=true):∀{xs:List V}{us:List Value},Vals xs us->xs.all flatV=true->∀u∈us,SeqAt.EqAt A s u v (eqU x u)
 |_,_,.nil,_=>λu hu=>by cases hu
 |
  y::xs,u::us,.cons r t,f=>λu' hu=>by
  rw[N3,z_] at f;rcases MN.mp hu with rfl |hu
  .rw[yU r f.1];exact HP r rx f.1 fx
  .exact iH rx fx t f.2 u' hu
noncomputable def inV(x:V)(xs:List V):Bool:=xs.any λy=>eqV y x
def rIn(K:W.Frag)(h_:Bool):R2:=λx y H Q=>∃p xs,y=.ref p/\(SqL K H p xs\/SqT K H p xs)/\flatV x=true/\xs.all flatV=true/\Q (.bl (if h_ then !inV x xs else inV x xs)) H
def yn:OpR X (compareOp .In) (rIn X.K false):=by
 intro pins s σ H x y v u Q I rx ry h;obtain⟨p,xs,rfl,hq,fx,fs,q⟩:=h;cases ry;rcases hq with hq |hq
 .obtain⟨its,r,pl,hz⟩:=I.list hq;refine SeqAt.in_listAt (eqU x) pl.isList (λw hw=>iH rx fx r fs w (by simpa using hw)) ⟨.bl _,H,I,rfl,?_⟩;rw[show its.toArray.any (eqU x)=its.any (eqU x) by simp,jq r fs];exact q
 .obtain⟨its,r,pl,hz⟩:=I.tuple hq;refine SeqAt.in_tupleAt (eqU x) pl (λw hw=>iH rx fx r fs w (by simpa using hw)) ⟨.bl _,H,I,rfl,?_⟩;rw[show its.toArray.any (eqU x)=its.any (eqU x) by simp,jq r fs];exact q
def rZ:OpR X (compareOp .NotIn) (rIn X.K true):=by
 intro pins s σ H x y v u Q I rx ry h;obtain⟨p,xs,rfl,hq,fx,fs,q⟩:=h;cases ry;rcases hq with hq |hq
 .obtain⟨its,r,pl,hz⟩:=I.list hq;refine SeqAt.notIn_listAt (eqU x) pl.isList (λw hw=>iH rx fx r fs w (by simpa using hw)) ⟨.bl _,H,I,rfl,?_⟩;rw[show its.toArray.any (eqU x)=its.any (eqU x) by simp,jq r fs];exact q
 .obtain⟨its,r,pl,hz⟩:=I.tuple hq;refine SeqAt.notIn_tupleAt (eqU x) pl (λw hw=>iH rx fx r fs w (by simpa using hw)) ⟨.bl _,H,I,rfl,?_⟩;rw[show its.toArray.any (eqU x)=its.any (eqU x) by simp,jq r fs];exact q
def tL:CallR X (.builtin "len") (λxs H Q=>∃p ys,xs=[.ref p]/\(SqL X.K H p ys\/SqT X.K H p ys)/\Q (.int ys.length) H):=by
 intro pins s σ H xs us Q I r h;obtain⟨p,ys,rfl,hq,q⟩:=h;obtain⟨u,rfl,rx⟩:=iS r;cases rx;have hn:=kG;rcases hq with hq |hq
 .obtain⟨its,r',pl,hz⟩:=I.list hq;have d_:=r'.length;exact Calls.call_len_list pl.isList (by simp only[J_] <;> omega) ⟨.int ys.length,H,I.tok _,⟨s.toks+1,by rw[J_,d_]⟩,q⟩
 .obtain⟨its,r',pl,hz⟩:=I.tuple hq;have d_:=r'.length;exact len_tuple pl (by simp only[J_] <;> omega) ⟨.int ys.length,H,I.tok _,⟨s.toks+1,by rw[J_,d_]⟩,q⟩
def tq:CallR X (.builtin "len") (λxs H Q=>∃z,xs=[.str z]/\z.length<=sizeLine/\Q (.int z.length) H):=by intro pins s σ H xs us Q I r h;obtain⟨z,rfl,hz,q⟩:=h;obtain⟨u,rfl,t,rfl⟩:=iS r;have hn:=kG;exact len_str (by omega) ⟨.int z.length,H,I.tok _,⟨_,rfl⟩,q⟩
def CallR.or(h:CallR X f r)(h':CallR X f r'):CallR X f (λxs H Q=>r xs H Q\/r' xs H Q):=by
 intro pins s σ H xs us Q I rs q;rcases q with q |q
 .exact h pins s σ H xs us Q I rs q
 .exact h' pins s σ H xs us Q I rs q
def sS:CallR X (.type "list") (λxs H Q=>∃p ys,xs=[.ref p]/\(SqL X.K H p ys\/SqT X.K H p ys)/\∀l,H l=none->Q (.ref l) (upd H l (.lst ys))):=by
 intro pins s σ H xs us Q I r h;obtain⟨p,ys,rfl,hq,q⟩:=h;obtain⟨u,rfl,rx⟩:=iS r;cases rx;have k_:∀(its:List Value),Vals ys its->ys.length<=sizeLine->∀(h':Heap) (c':Nat),(∀b o',s.heap.get? b=some o'->h'.get? b=some o')->
  h'.get? s.heap.objs.size=some { cls:=.type "list",dict:=none,data:=.seq its.toArray c',slots:=#[] }->EP X pins σ Q (.ref s.heap.objs.size) { s with heap:=h' }:=λits r' hz h' c' kp e=>
  ⟨.ref s.heap.objs.size,_,I.laid (t':=s.toks) kp (y_ _) (show ObjOk X.prog X.w _ h' _ (.lst ys) from ⟨hz,its,c',r',e⟩),rfl,q _ (I.hok.fresh (y_ _))⟩
 rcases hq with hq |hq
 .obtain⟨its,r',pl,hz⟩:=I.list hq;have d_:=r'.length;obtain⟨o,ho,hc,n,hd⟩:=pl.isList;exact call_list_seq p (.inl rfl) ho hc hd (λh' c' kp e=>k_ its r' hz h' c' kp e) (by simp only[J_] <;> omega)
 .obtain⟨its,r',pl,hz⟩:=I.tuple hq;have d_:=r'.length;obtain⟨o,ho,hc,n,hd⟩:=pl;exact call_list_seq p (.inr rfl) ho hc hd (λh' c' kp e=>k_ its r' hz h' c' kp e) (by simp only[J_] <;> omega)
def tyV(K:W.Frag)(T:String)(x:V)(H:Hp):Prop:=match x with
 |.str _=>T="str"
 |.int _=>T="int"
 |.ref p=>(T="list" /\ ∃xs,SqL K H p xs)\/(T="tuple" /\ ∃o,K.lookup p=some o/\o.cls=.type "tuple" /\ o.dict=none)\/
  (T="dict" /\ ((∃kvs,H p=some (.dK kvs))\/∃kvs,H p=some (.dT kvs)))\/(T="set" /\ ∃S n,H p=some (.set S n))
 |_=>False
def yr(I:Inv X pins σ H s)(r:RelV x v)(ty:tyV X.K T x H):
 s.TypeIs v T/\∀a,v=.ref a->∃ob,s.heap.get? a=some ob/\ob.dict=none:=by
 cases x with
 |str z=>obtain⟨t,rfl⟩:=r;cases (show T="str" from ty);exact⟨typeIs_str s z t,λ_ e=>nomatch e⟩
 |int i=>obtain⟨t,rfl⟩:=r;cases (show T="int" from ty);exact⟨typeIs_int s i t,λ_ e=>nomatch e⟩
 |
  ref p=>
  cases r;rcases ty with ⟨rfl,xs,hq⟩ |⟨rfl,o,hk,hc,hd⟩ |⟨rfl,hk⟩ |⟨rfl,S,n,hk⟩
  .obtain⟨its,_,pl,_⟩:=I.list hq;refine⟨pl.isList.typeIs,λa e=>?_⟩;cases e;obtain⟨o,n,e,c,hd,_⟩:=pl;exact⟨o,e,hd⟩
  .refine⟨⟨o,I.kIn p o hk,hc⟩,λa e=>?_⟩;cases e;exact⟨o,I.kIn _ o hk,hd⟩
  .have z:∃o,s.heap.get? p=some o/\o.ExactDict:=by
    rcases hk with ⟨kvs,hk⟩ |⟨kvs,hk⟩
    .obtain⟨_,_,_,_,o,_,_,e,ex,_⟩:=I.hok p _ hk;exact⟨o,e,ex⟩
    .obtain⟨_,_,_,_,o,_,_,e,ex,_⟩:=I.hok p _ hk;exact⟨o,e,ex⟩
   obtain⟨o,e,ex⟩:=z;refine⟨⟨o,e,ex.1⟩,λa e2=>?_⟩;cases e2;exact⟨o,e,ex.2.1⟩
  .obtain⟨o,_,_,_,e,ex,_⟩:=I.hok p _ hk;refine⟨⟨o,e,ex.1⟩,λa e2=>?_⟩;cases e2;exact⟨o,e,ex.2.1⟩
 |_=>exact False.elim ty
def tBM0(K:W.Frag)(T:String)(r:V->List V->Hp->VK->Prop)(to:TE):TE:=λσ H Q=>to σ H λx H1=>tyV K T x H1/\r x [] H1 Q
def tBM(K:W.Frag)(T:String)(r:V->List V->Hp->VK->Prop)(to:TE)(t:TA):TE:=λσ H Q=>to σ H λx H1=>tyV K T x H1/\t σ H1 λxs H2=>r x xs H2 Q
variable{o e:Expr}{es:List Expr}{to:TE}{t:TA}{name:Str}{apos cpos:Pos}{T id:String}{r:V->List V->Hp->VK->Prop}
def Fv(pa:PlainAttrs T)(slot:Slot T name id)(hty:typeOf (.builtin id)=pure (.type "method_descriptor"))(hm:MtR X id r)(ho:PE X o to)
 (r_:attributeBase o name X.env (eval o X.env)=eval o X.env) (s_:(apos.endLine==cpos.line)=true):PE X (.Call (.Attribute o name apos) [] [] cpos) (tBM0 X.K T r to):=by
 intro pins s σ H Q I h;refine wpAny_Call_method0_late r_ s_ (thn (ho pins s σ H _ I h) λv s1 ⟨x,H1,I1,r1,ty,q1⟩=>?_);obtain⟨h1,h2⟩:=yr I1 r1 ty;exact⟨T,id,pa,slot,hty,h1,h2,Calls.callWith_builtin rfl (PySem.evalArgs_none (hm pins s1 σ H1 x [] v [] Q I1 r1 .nil q1))⟩
def KJ(pa:PlainAttrs T)(slot:Slot T name id)(hty:typeOf (.builtin id)=pure (.type "method_descriptor"))(hm:MtR X id r)(ho:PE X o to)(ha:PA X (e::es) t)
 (r_:attributeBase o name X.env (eval o X.env)=eval o X.env)
 (hfew:((backTo cpos (starEach (e::es) X.env)).all (λx=>!x.1)&&(backToKw cpos (keywordEach [] X.env)).all (λx=>x.1.isSome)
  && decide ((e::es).length+([]:List Keyword).length+(if ([]:List Keyword).isEmpty then 0 else 1)<30))=true)
 (s_:(apos.endLine==cpos.line)=true) (hs:starEach (e::es) X.env=(false,eval e X.env)::starEach es X.env) (j':(backTo cpos (starEach es X.env)).any (·.1)=false):
 PE X (.Call (.Attribute o name apos) (e::es) [] cpos) (tBM X.K T r to t):=by
 intro pins s σ H Q I h;refine wpAny_Call_method_late r_ hfew s_ rfl (thn (ho pins s σ H _ I h) λv s1 ⟨x,H1,I1,r1,ty,q1⟩=>?_);obtain⟨h1,h2⟩:=yr I1 r1 ty;refine⟨T,id,pa,slot,hty,h1,h2,?_⟩;have hA:=ha cpos pins s1 σ H1 _ I1 q1;rw[hs] at hA ⊢;refine Calls.callWith_builtin (by show (false || (backTo cpos (starEach es X.env)).any (·.1))=false;rw[j'] <;> rfl) (Calls.evalArgs_plain ?_);exact thn hA λus s2 ⟨vs,H2,I2,r2,q2⟩=>hm pins s2 σ H2 x vs v us Q I2 r1 r2 q2
end
def MtM(X:Cx)(id:String)(r:V->List V->Hp->VK->Prop):Prop:=
 ∀
  (pins:Pb) (s:Shared) (σ:St) (H:Hp) (x:V) (xs:List V) (v:Value) (us:List Value) (Q:VK),Inv X pins σ H s->RelV x v->Vals xs us->r x xs H Q->
  wpAny (model X.prog X.w) X.A (call (.builtin id) (v::us)) (EP X pins σ Q) X.xe s
def Vals.one(r:Vals [x] us):∃u,us=[u]/\RelV x u:=by
 cases r with
 |cons r t=>cases t;exact⟨_,rfl,r⟩
theorem Vals.zero:∀{us:List Value},Vals [] us->us=[]
 |_,.nil=>rfl
def Vals.reverse(h:Vals xs us):Vals xs.reverse us.reverse:=by
 induction h with
 |nil=>exact .nil
 |cons r t ih=>rw[NJ,NJ];exact Vals.append ih (.cons r .nil)
section
variable{X:Cx}{pins:Pb}{σ:St}{H:Hp}{s:Shared}{l:Addr}{xs ys:List V}
def Inv.lset{its its':List Value}{n:Nat}{f:Array Value->Array Value}{t':Nat}(I:Inv X pins σ H s)(hH:H l=some (.lst xs))
 (e:s.heap.get? l=some { cls:=.type "list",data:=.seq its.toArray n }) (hf:f its.toArray=its'.toArray) (hv:Vals ys its') (hz:ys.length<=sizeLine):
 Inv X pins σ (upd H l (.lst ys)) { s with heap:=s.heap.update l (Obj.mapSeq f),toks:=t' }:=by
 have q:=PySem.IsL.update e f;rw[hf] at q;refine I.write (x:=l) (e:=l) (by rw[hH];exact trivial) (.inl rfl) (λb' u hb hu=>(Ol s.heap (Obj.mapSeq f) (Ne.symm hb)).trans hu) ⟨_,q⟩ ?_;exact⟨hz,its',_,hv,q⟩
def Inv.lnew(I:Inv X pins σ H s)(hv:Vals ys its)(hz:ys.length<=sizeLine):
 Inv X pins σ (upd H s.heap.objs.size (.lst ys)) { s with heap:=s.heap.push { cls:=.type "list",data:=.seq its.toArray },toks:=t' }:=
 I.laid (λ_ _ q=>C_ _ q) (y_ _) ⟨hz,its,0,hv,MB _ rfl⟩
def Inv.fresh(I:Inv X pins σ H s):H s.heap.objs.size=none:=I.hok.fresh (y_ _)
def Inv.lstM(I:Inv X pins σ H s)(hH:H l=some (.lst xs)):xs.length<=sizeLine/\∃(its:List Value) (n:Nat),Vals xs its/\xs.length=its.length/\s.heap.get? l=some { cls:=.type "list",data:=.seq its.toArray n }:=by obtain⟨z,its,n,r,e⟩:=I.hok l _ hH;exact⟨z,its,n,r,r.length,e⟩
end
section
variable{X:Cx}
def ox:V->List V->Hp->VK->Prop:=λx vs H Q=>∃l xs y,x=.ref l/\vs=[y]/\H l=some (.lst xs)/\xs.length<sizeLine/\Q .non (upd H l (.lst (xs++[y])))
def o8:MtM X "list.append" ox:=by intro pins s σ H x vs v us Q I rx rv h;obtain⟨l,xs,y,rfl,rfl,hH,hz,q⟩:=h;cases rx;obtain⟨u,rfl,ru⟩:=rv.one;obtain⟨z,its,n,r,hl,e⟩:=I.lstM hH;refine call_meets F.slot_list_append ⟨_,e,rfl⟩ F.entry_list_append (F.args_list_append_2 _ _) (PySem.list_append l its.toArray n u (by rw[J_];omega)) ⟨e,?_⟩;refine⟨.non,_,I.lset (its':=its++[u]) hH e (by simp) (r.append (.cons ru .nil)) ?_,rfl,q⟩;rw[E_,List.length_singleton];omega
def md:V->List V->Hp->VK->Prop:=λx vs H Q=>∃l xs,x=.ref l/\vs=[]/\H l=some (.lst xs)/\Q .non (upd H l (.lst xs.reverse))
def wX:MtM X "list.reverse" md:=by intro pins s σ H x vs v us Q I rx rv h;obtain⟨l,xs,rfl,rfl,hH,q⟩:=h;cases rx;have hus:=rv.zero;subst hus;obtain⟨z,its,n,r,hl,e⟩:=I.lstM hH;refine call_meets F.slot_list_reverse ⟨_,e,rfl⟩ F.entry_list_reverse (F.args_list_reverse_1 _) (AutoSeq1.list_reverse_list_0 l its.toArray n (by rw[J_];omega)) ⟨e,?_⟩;refine⟨.non,_,I.lset (its':=its.reverse) hH e (by simp) r.reverse ?_,rfl,q⟩;rw[List.length_reverse];omega
def o3:R2:=λx y H Q=>∃l b xs zs,x=.ref l/\y=.ref b/\H l=some (.lst xs)/\H b=some (.lst zs)/\xs.length+zs.length<=sizeLine/\∀p,H p=none->Q (.ref p) (upd H p (.lst (xs++zs)))
def Hc:OpR X (binaryOp .Add) o3:=by
 intro pins s σ H x y v u Q I rx ry h;obtain⟨l,b,xs,zs,rfl,rfl,hH,hB,hz,q⟩:=h;cases rx;cases ry;obtain⟨z,its,n,r,hl,e⟩:=I.lstM hH;obtain⟨z2,its2,n2,r2,hl2,e2⟩:=I.lstM hB;refine PySem.P.add_list e e2 ?_ (by rw[J_,J_];omega);have ea:its.toArray++its2.toArray=(its++its2).toArray:=by simp
 rw[ea];exact⟨.ref _,_,I.lnew (t':=s.toks) (r.append r2) (by rw[E_];omega),rfl,q _ I.fresh⟩
end
section
set_option maxRecDepth 100000 in
end
end L2
namespace Att
open PySem PySem.W PySem.Calls PyProof.Rows
def mR:∀(ns:List Int) (vs:List Value),WellAll P h vs (ns.map WData.int)->IntsAre vs ns:=by
 intro ns;induction ns with
 |nil=>intro vs w;rw[M5] at w;cases w;exact .nil
 |
  cons n ns ih=>
  intro vs w;rw[B_] at w;cases w with
  |cons a b=>cases a;exact .cons _ _ (ih _ b)
def xX{l:OpenLaw}{n:Nat}(hn:l.most=some n){P:Params}{h:Heap}{args:List WData}{vals:List Value}
 (hpre:l.row.toRowW.claim.pre args=true) (hwl:WellAll P h vals args):
 ∃a vs ns,vals=[Value.ref a]/\args=[WData.list (ns.map WData.int)]/\h.get? a=some { cls:=.type "list",data:=.seq vs.toArray }/\IntsAre vs ns/\ns.length<=n:=by
 have hsh:WShape.hasAll [] args [.list .int]=true:=(pre_splitW hpre).1;have hc:l.pre.holds [] { args:=args }=true:=(pre_splitW hpre).2;obtain⟨d,r,rfl,h1,h2⟩:=hasAllW_cons hsh;obtain rfl:=hasAllW_nil h2;obtain⟨xs,rfl,h3⟩:=hasW_list h1;obtain⟨ns,rfl⟩:=items_int h3;have d_:ns.length<=n:=by
  unfold OpenLaw.pre at hc;have h4:(WTm.not (.lt (.lit (.int (n:Int))) (.len (.arg 0)))).holds [] { args:=[.list (ns.map .int)] }=true:=by have h4:=(holds_andW hc).1;rw[hn] at h4;exact h4
  have h5:=condW_of h4 (w_not (w_lt w_lit (w_len_list (w_arg rfl))));rw[v_] at h5;refine Nat.le_of_not_lt λq=>?_;have q':(n:Int)<((ns.length:Nat):Int):=by omega
  first
   |(rw[L_ q'] at h5;exact absurd h5 (by decide))
   |(simp at h5;omega)
 cases hwl with
 |
  cons w1 w2=>
  cases w2;cases w1 with
  |list ho hall=>exact⟨_,_,ns,rfl,rfl,ho,mR ns _ hall,d_⟩
def xU(l:OpenLaw)(args:List WData):l.row.toRowW.claim.post args (.bool true) args=true:=
 postW_of (r:=l.row.toRowW) (X:=(true==true))
  (show WShape.has [] (.bool true) .bool=true by first |rfl |decide |simp [WShape.has,WShape.arms,WShape.armsAll])
  (show (WTm.eq .res (.lit (.bool true))).value [] { args:=args,res:=some (.bool true),after:=args }=some (.bool (true==true)) from w_eq_bool (w_res rfl) w_lit) rfl
def attach_call{l:OpenLaw}{n:Nat}{q:Program}{loose:List Str}{XP:(Str->Option Value)->Heap->Prop}{YP:World->Heap->Prop}{d:DefRec}
 (hn:l.most=some n) (hdf:d.params.defaults=[])
 (call:∀(w:World) (s₀ s₁:Shared) (mg mb:Pa) (fa:Addr) (o:Obj) (pm cd doc:Value) (a:Addr) (vs:List Value) (ns:List Int),
  Ground q loose [] XP w s₀ mg mb s₁.heap->YP w s₁.heap->
  s₁.heap.get? fa=some o->o.data=.func (docDef d.name d.params d.body d.scope pm cd doc)->s₁.heap.CodeRec cd d.name->mg d.name=some (.ref fa)->
  s₁.heap.get? a=some { cls:=.type "list",data:=.seq vs.toArray }->IntsAre vs ns->ns.length<=n->s₁.gens=#[]->
  codeAny (model l.prog w) callerA (.call (.ref fa) ⟨[.ref a],[]⟩) (λr s'=>r=.ok (.ret (.bool true))/\OldK s₁.heap s'.heap/\s'.os=s₁.os/\AllBare s'.gens) s₁):
 WalkO q loose XP YP l.row.toRowW d [] (λf vs=>PySem.call f vs):=by
 intro w s₀ s₁ mg mb G Y fa o pm cd doc dV kV ho hd hcd hD hmg hg args vals as hpre hlay hrd hwl hlo;obtain rfl:dV=.none:=Dflts.none hD hdf;obtain rfl:kV=.none:=Dflts.noKw hD;obtain⟨a,vs,ns,rfl,rfl,hobj,hints,d_⟩:=xX hn hpre hwl;refine enter_call (codeAny_mono (call w s₀ s₁ mg mb fa o pm cd doc a vs ns G Y ho (fd_plain hd) hcd hmg hobj hints d_ hg) λr s' hq=>?_);obtain⟨rfl,h2,h3,h4⟩:=hq;exact⟨.inl ⟨.bool true,.bool true,[],rfl,λ_=>rfl,.bool true,xU l _,λ_=>⟨List.Pairwise.nil,λ_ hm=>(nomatch hm)⟩⟩,h2,h3,h4⟩
section
def rm(h:Heap):Heap:={ h with objs:=#[] }
def vU(h:Heap)(b:Addr):(rm h).get? b=none:=by
 cases e:(rm h).get? b with
 |none=>rfl
 |some o=>exact absurd (Em e) (NG _)
def ledger(h:Heap)(L d:Addr):List (Addr×Obj):=(List.range h.objs.size).filterMap λa=>if a=L\/a=d then none else (h.get? a).map λo=>(a,o)
def fr_all(n:h.Ns L m):Fr (rm h) L h m:=
 ⟨n,λb o e=>(by rw[vU] at e;cases e),MX _⟩
end
end Att
namespace L2
open PySem PySem.Spec PyProof.Rows
theorem kj:∀{vs:List Value}{ns:List Int},IntsAre vs ns->Vals (ns.map V.int) vs
 |_,_,.nil=>.nil
 |_,_,.cons n t h=>.cons ⟨t,rfl⟩ (kj h)
def oa(H:Hp):Prop:=∀b,H b=none\/∃o xs,H b=some (.frz o (.lst xs))
def AZ{P:Program}{w:World}{K:W.Frag}{mg mb:Pa}{CX:CXT}{k:Nat}{fa a:Addr}{fd:FuncData}{x:Str}{sp:Sp}{s₁:Shared}{vs:List Value}{ns:List Int}
 (KX:K.In s₁.heap) (hns:s₁.heap.Ns mainGlobals mg) (hb:s₁.heap.Ns builtinsNs mb) (hbb:∀x:Str,x ≠ "__name__"->mb x=bootBuiltins x) (hlim:s₁.heap.NoLimit) (hg:s₁.gens=#[])
 (ha:s₁.heap.get? a=some { cls:=.type "list",data:=.seq vs.toArray }) (hi:IntsAre vs ns) (hl:ns.length<=sizeLine) (hr:Room k callerA)
 (F:∀base:Heap,K.In base->base.Ns mainGlobals mg->FnOk P w K mg base CX k fa fd [x] sp) (hbind:∀(s:Shared) (u:Value),BindsTo s fd ⟨[u],[]⟩ [(x,u)])
 (hsp:∀H:Hp,oa H->SqL K H a (ns.map V.int)->sp [.ref a] H (λv _=>v=.bl true) λ_ _ _=>False)
 (hCX:∀H e s',CX [] H s₁ (λ_ _ _=>False) e s'->False):
 codeAny (model P w) callerA (.call (.ref fa) ⟨[.ref a],[]⟩) (λr s'=>r=.ok (.ret (.bool true))/\OldK s₁.heap s'.heap/\s'.os=s₁.os/\AllBare s'.gens) s₁:=by
 have rv:=kj hi;have lenV:=hi.length;have core
  : ∀H:Hp,oa H->SqL K H a (ns.map V.int)->HOk P w H s₁.heap->(∀b,H b≠none->b=a)->(H a≠none->K.lookup a=none)->
  codeAny (model P w) callerA (.call (.ref fa) ⟨[.ref a],[]⟩) (λr s'=>r=.ok (.ret (.bool true))/\OldK s₁.heap s'.heap/\s'.os=s₁.os/\AllBare s'.gens) s₁:=by
  intro H hO hS hok hA hK;have base_of:∀{b:Addr}{o:Obj},s₁.heap.get? b=some o->H b=none->(jL s₁.heap H).get? b=some o:=λe n=>zH e n;have noA:∀{b:Addr}{o:Obj}{es:Array DictEntry}{ep:Nat},s₁.heap.get? b=some o->o.data=.dict es ep->H b=none:=λ{b o es ep} e d=>by
   cases q:H b with
   |none=>rfl
   |some u=>have e':b=a:=hA b (by rw[q];simp);subst e';rw[ha] at e;cases e;have d':Data.seq vs.toArray _=Data.dict es ep:=d;cases d'
  have nsK:∀{b:Addr}{m:Pa},s₁.heap.Ns b m->(jL s₁.heap H).Ns b m:=λ{b m} ⟨o,es,ep,e,d,r⟩=>⟨o,es,ep,base_of e (noA e d),d,r⟩;have hKb:K.In (jL s₁.heap H):=λb o e=>base_of (KX b o e) (by
   cases q:H b with
   |none=>rfl
   |some u=>have e':b=a:=hA b (by rw[q];simp);subst e';rw[hK (by rw[q];simp)] at e;cases e)
  have hM:Mod K mg (jL s₁.heap H):=⟨hKb,nsK hns,⟨mb,nsK hb,hbb⟩,let ⟨mc,h1,h2⟩:=hlim;⟨mc,nsK h1,h2⟩⟩;have e0:Env0 P w K mg (jL s₁.heap H) callerA [] s₁ H:=⟨rfl,hM,λb o e=>Dv e,Nat.le_of_eq (yq _ _),trivial,λb hb=>absurd (show b∈([]:List Addr) from hb) (by simp),hok,.of_eq hg⟩;refine codeAny_mono ((F _ hKb (nsK hns)).run callerA [] s₁ H ⟨[.ref a],[]⟩ [.ref a] [.ref a] _ _ hr e0 (hbind s₁ (.ref a)) (.cons rfl .nil) (hsp H hO hS)) λr s' h=>?_;cases r with
  |error e=>exact (hCX H e s' h).elim
  |
   ok fl=>
   cases fl with
   |next=>exact False.elim h
   |brk=>exact False.elim h
   |cont=>exact False.elim h
   |
    ret u=>
    obtain⟨v,H',os,bare,un,hok',r',q⟩:=h;have q':v=.bl true:=q;subst q';obtain rfl:u=Value.bool true:=r';refine⟨rfl,OldK.of_keep λb o e=>?_,os,bare⟩;cases q:H b with
    |none=>exact un.keep b o e q (by intro z;exact absurd (show b∈([]:List Addr) from z) (by simp)) (by simp)
    |
     some u=>
     rcases hO b with z |⟨ob,xs,z⟩
     .rw[q] at z;cases z
     .have z2:=un.frzs b ob _ z;obtain⟨e1,_⟩:=hok b _ z;obtain⟨e2,_⟩:=hok' b _ z2;rw[e] at e1;cases e1;exact e2
 cases hk:K.lookup a with
 |some o=>have e:=KX a o hk;rw[ha] at e;cases e;refine core (λ_=>none) (λ_=>.inl rfl) (.inr ⟨_,vs.toArray,_,hk,rfl,rfl,rfl,by rw[J_,lenV];exact hl,by simpa using rv⟩) (λb u z=>by have z':(none:Option HO)=some u:=z;cases z') (λb z=>absurd rfl z) λz=>absurd rfl z
 |
  none=>
  refine core (λb=>if b=a then some (.frz { cls:=.type "list",data:=.seq vs.toArray } (.lst (ns.map V.int))) else none) (λb=>?_) (.inl (.inr ⟨{ cls:=.type "list",data:=.seq vs.toArray },if_pos rfl⟩)) (λb u z=>?_) (λb z=>?_) λ_=>hk
  .by_cases hb:b=a
   .exact .inr ⟨_,_,if_pos hb⟩
   .exact .inl (if_neg hb)
  .by_cases hb:b=a
   .have z':=(if_pos hb).symm.trans z;cases z';subst hb;exact⟨ha,by rw[v_];exact hl,vs,_,rv,ha⟩
   .have z':=(if_neg hb).symm.trans z;cases z'
  .by_cases hb:b=a
   .exact hb
   .exact absurd (if_neg hb) z
abbrev KOf{K:W.Frag}{h:Heap}(_:K.In h):W.Frag:=K
def walk_of{l:W.OpenLaw}{n k:Nat}{q:Program}{loose:List Str}{XP:(Str->Option Value)->Heap->Prop}{YP:World->Heap->Prop}{d:DefRec}{K:Params->W.Frag}{CX:World->CXT}{sp:World->Sp}{x:Str}
 (hn:l.most=some n) (hn2:n<=sizeLine) (hdf:d.params.defaults=[]) (hr:Room k callerA)
 (hY:∀(w:World) (h:Heap),YP w h->(K w.params).In h)
 (F:∀(w:World) (mg:Pa) (fa:Addr) (h:Heap),(K w.params).In h->h.Ns mainGlobals mg->mg d.name=some (.ref fa)->
  ∃
   fd:FuncData,(∀(s:Shared) (u:Value),BindsTo s fd ⟨[u],[]⟩ [(x,u)])/\
   ∀base:Heap,(K w.params).In base->base.Ns mainGlobals mg->FnOk l.prog w (K w.params) mg base (CX w) k fa fd [x] (sp w))
 (hsp:∀(w:World) (H:Hp) (a:Addr) (ns:List Int),ns.length<=n->oa H->SqL (K w.params) H a (ns.map V.int)->sp w [.ref a] H (λv _=>v=.bl true) λ_ _ _=>False)
 (hCX:∀(w:World) (H:Hp) (s:Shared) (e:Value) (s':Shared),CX w [] H s (λ_ _ _=>False) e s'->False):
 W.WalkO q loose XP YP l.row.toRowW d [] (λf vs=>PySem.call f vs):=by
 refine Att.attach_call hn hdf λw s₀ s₁ mg mb fa o pm cd doc a vs ns G Y ho hd hcd hmg hobj hints d_ hg=>?_;have KX:=hY w _ Y;obtain⟨fd,hb,hF⟩:=F w mg fa _ KX G.T.g hmg;exact AZ KX G.T.g G.T.b G.T.builtins G.T.nolimit hg hobj hints (G_ d_ hn2) hr hF hb (λH hO hS=>hsp w H a ns d_ hO hS) λH e s'=>hCX w H s₁ e s'
noncomputable def dg(s:Stmt):Arguments:=match s with
 |.FunctionDef _ a _ _ _ _ _ _ _ _=>a
 |_=>{ posonlyargs:=[],args:=[],vararg:=none,kwonlyargs:=[],kw_defaults:=[],kwarg:=none,defaults:=[] }
noncomputable def bU(s:Stmt):List Stmt:=match s with
 |.FunctionDef _ _ b _ _ _ _ _ _ _=>b
 |_=>[]
noncomputable def bw(s:Stmt):Scope:=match s with
 |.FunctionDef _ _ _ _ _ _ sc _ _ _=>sc
 |_=>{ kind:=.function,names:=[],isGenerator:=false,isCoroutine:=false }
abbrev E0:XK:=λ_ _ _=>False
structure Fun(K:W.Frag)(x qual:Str)(st:Stmt)(f:Addr)(fd:FuncData):Prop where
 ex:∃(oc:Value) (od:Option Addr) (kV doc pm:Value) (an:Option Addr) (cdv ct:Value) (osl:Array (Option Value)),
  fd=W.fnOf x qual (dg st) (bU st) (bw st) .none kV doc pm an cdv ct/\K.lookup f=some ⟨oc,od,.func fd,osl⟩/\W.codeIn K cdv qual=true
 kp:W.keepIn K (.ref f)=true
section
variable{K:W.Frag}
def Fun.binds{x qual:Str}{st:Stmt}{f:Addr}{fd:FuncData}{ps:List Str}(F:Fun K x qual st f fd)
 (h:∀(kV doc pm:Value) (an:Option Addr) (cdv ct:Value) (us:List Value),us.length=ps.length->bindArgs (W.fnOf x qual (dg st) (bU st) (bw st) .none kV doc pm an cdv ct) ⟨us,[]⟩=pure (ps.zip us)):Binds K fd ps []:=by
 obtain⟨oc,od,kV,doc,pm,an,cdv,ct,osl,rfl,lk,hcd⟩:=F.ex;exact .all (h kV doc pm an cdv ct)
def IF{x qual:Str}{st:Stmt}{f:Addr}{oc:Value}{od an:Option Addr}{osl:Array (Option Value)}{kV doc pm cdv ct:Value}(l:K.lookup f=some ⟨oc,od,.func (W.fnOf x qual (dg st) (bU st) (bw st) .none kV doc pm an cdv ct),osl⟩)
 (c:W.codeIn K cdv qual=true) (k:W.keepIn K (.ref f)=true):Fun K x qual st f (W.fnOf x qual (dg st) (bU st) (bw st) .none kV doc pm an cdv ct):=⟨⟨oc,od,kV,doc,pm,an,cdv,ct,osl,rfl,l,c⟩,k⟩
end
def KN(hr:Room k A):A.units+1<cLine:=Nat.lt_of_le_of_lt (Nat.add_le_add_left (by decide:1<=64) _) hr.units
section
variable{X:Cx}{pins:Pb}{σ:St}{H:Hp}{s:Shared}
def Inv.track{a:Addr}{o:HO}(I:Inv X pins σ H s)(hn:H a=none)(h0:X.s₀.heap.get? a=none)(hL:a≠X.env.locals)(hc:∀x c,X.env.cells.lookup x=some c->c≠a)
 (hp:∀p∈X.pn++pins,p.1≠a) (new:ObjOk X.prog X.w (upd H a o) s.heap a o):Inv X pins σ (upd H a o) s:=by
 have ne:∀b u,H b=some u->b≠a:=λb u e z=>by rw[z,hn] at e;cases e
 have ne0:∀b u,X.s₀.heap.get? b=some u->b≠a:=λb u e z=>by rw[z,h0] at e;cases e
 refine⟨I.ok,I.os,I.bare,⟨I.base.keep,I.base.slot,λb u e n hx=>?_,I.base.there,λb xs e=>?_,λb u xs e=>?_,λb ps e=>?_⟩,I.loc,I.cell,?_,λx c e=>?_,λp hp'=>?_,λb u e=>?_,I.len⟩
 .rw[bE (ne0 b u e)];exact I.base.free b u e n hx
 .have q:=I.base.tups b xs e;rw[bE (ne _ _ q)];exact q
 .have q:=I.base.frzs b u xs e;rw[bE (ne _ _ q)];exact q
 .obtain⟨m,q⟩:=I.base.tbls b ps e;exact⟨m,by rw[bE (ne _ _ q)];exact q⟩
 .rw[bE (Ne.symm hL)];exact I.free
 .rw[bE (hc x c e)];exact I.freeC x c e
 .obtain⟨e,n,r⟩:=I.pin p hp';exact⟨e,by rw[bE (hp p hp')];exact n,r⟩
 .by_cases hb:b=a
  .subst hb;rw[cX] at e;cases e;exact new
  .rw[bE hb] at e;exact (I.hok b u e).stay (λc v _ q=>q) (λc q=>by rw[bE (ne _ _ q)];exact q) λc xs q=>by rw[bE (ne _ _ q)];exact q
end
theorem jD{env:Env}:∀{names:List (Str×NameKind)} (cs:List (Str×Addr)),(∀x∈names,x.2=.free->∃c,env.cells.lookup x.1=some c)->(∀x c,cs.lookup x=some c->env.cells.lookup x=some c)->
 ∃
  cl,(forIn names cs λ(x:Str×NameKind) (r:List (Str×Addr))=>if (x.2==NameKind.free)=true then do let a <- cellOf env x.1;pure (ForInStep.yield ((x.1,a)::r)) else pure (ForInStep.yield r):Sem (List (Str×Addr)))=pure cl/\
  (∀x c,cl.lookup x=some c->env.cells.lookup x=some c)/\(∀x c,cs.lookup x=some c->∃c',cl.lookup x=some c')/\∀x∈names,x.2=.free->∃c,cl.lookup x.1=some c
 | [],cs,_,h=>⟨cs,by simp,h,λx c e=>⟨c,e⟩,λ_ hx=>nomatch hx⟩
 |
  (n,k)::r,cs,hf,h=>by
  rw[OA];by_cases hk:k=.free
  .subst hk;obtain⟨c,hc⟩:=hf (n,.free) H_ rfl;have hcell:cellOf env n=pure c:=by unfold cellOf;rw[hc]
   have h':∀x d,((n,c)::cs).lookup x=some d->env.cells.lookup x=some d:=λx d e=>by
    rw[Nz] at e;cases q:x==n with
    |true=>rw[q] at e;cases e;rw[M8.mp q];exact hc
    |false=>rw[q] at e;exact h x d e
   obtain⟨cl,e1,e2,e3,e4⟩:=jD (env:=env) (names:=r) ((n,c)::cs) (λx hx=>hf x (A_ _ hx)) h';have top:∃c',cl.lookup n=some c':=e3 n c (by rw[Nz];simp);refine⟨cl,?_,e2,λx d e=>?_,λx hx l_=>?_⟩
   .simp only[Ou,NM,hcell];exact e1
   .by_cases q:x=n
    .rw[q];exact top
    .exact e3 x d (by rw[Nz,(MM.mpr q:(x==n)=false)];exact e)
   .rcases MN.mp hx with rfl |hx
    .exact top
    .exact e4 x hx l_
  .have hb:(k==NameKind.free)=false:=by simpa using hk
   obtain⟨cl,e1,e2,e3,e4⟩:=jD (env:=env) (names:=r) cs (λx hx=>hf x (A_ _ hx)) h;refine⟨cl,?_,e2,e3,λx hx l_=>?_⟩
   .simp only[hb,NQ,Ov];exact e1
   .rcases MN.mp hx with rfl |hx
    .exact absurd l_ hk
    .exact e4 x hx l_
def p7{env:Env}{scope:Scope}(hf:∀x∈scope.names,x.2=.free->∃c,env.cells.lookup x.1=some c):
 ∃cl,closureFor scope env=pure cl/\(∀x c,cl.lookup x=some c->env.cells.lookup x=some c)/\∀x∈scope.names,x.2=.free->∃c,cl.lookup x.1=some c:=by
 obtain⟨cl,e1,e2,_,e4⟩:=jD (env:=env) (names:=scope.names) [] hf (λx c e=>by simp at e);refine⟨cl,?_,e2,e4⟩;unfold closureFor;simp only[e1];rfl
noncomputable def bz(X:Cx)(N:List Str)(scope:Scope)(cl:List (Str×Addr))(C:Addr)(s₂:Shared)(H:Hp)(fp:List Addr):Cx:=
 { X with N:=N,s₀:=s₂,H₀:=H,env:=compEnvC scope cl C X.env,outer:=X.stack,stack:=X.stack,ex:=fp,fn:=λ_=>false,pn:=[],xe:=λ_ _=>False }
noncomputable def gz(sub:Pd)(σ:St):St:=sub.map λo=>o.bind λi=>(σ[i]?).bind id
def LcW(J:It)(sub:Pd)(g:TG)(tc:TT)(te:TE)(σ:St)(H1:Hp)(Q:VK):Prop:=∃W:Nat->Nat->List V->St->Hp->Prop,(∃m,W 0 m [] (gz sub σ) H1)/\∀i m ys σ H,W i m ys σ H->
 (J.stop i H/\ys.length<=sizeLine/\∀D,H D=none->Q (.ref D) (upd H D (.lst ys)))\/
 (J.go i H/\ys.length<sizeLine/\∃Nx:List V->St->Hp->Prop,(∀ys' σ' H',Nx ys' σ' H'->∃m',m'<m/\W (i+1) m' ys' σ' H')/\
  ∀x H',J.yld i H x H'->g x σ H' λσ2 H2=>tc σ2 H2 λb H3=>if b=true then te σ2 H3 λy H4=>Nx (ys++[y]) σ2 H4 else Nx ys σ2 H3)
def iP(wi:TI)(sub:Pd)(g:TG)(tc:TT)(te:TE):TE:=λσ H Q=>wi σ H λJ H1=>LcW J sub g tc te σ H1 Q
abbrev zX:TT:=λ_ H Q=>Q true H
section
variable{prog:Program}{w:World}{A:Around}{R:Result->Shared->Prop}{s:Shared}
def tG{g_ target a_:Expr}{ifs:List Expr}{scope:Scope}{pos:Pos}{it acc:Value}{env:Env}(I:Nat->Shared->Prop)
 (turn
  : ∀n s,I n s->wpAny (model prog w) A (pyNext it) (λr s₁=>match r with
  |none=>R (.ok .next) s₁
  |some v=>wpAny (model prog w) A (letOwnedTupleGo target it v) (λ_ s₁'=>wpAny (model prog w) A (assign target env v) (λ_ s₂=>
   wpAny (model prog w) A (forIn ifs true λc r=>if r=true then do let ok <- isTrue c env (eval c env);pure (ForInStep.yield ok) else pure (ForInStep.yield r))
    (λok s₃=>if ok=true then wpAny (model prog w) A (eval g_ env) (λx s₄=>wpAny (model prog w) A (call (.builtin "list.append") [acc,x]) (λ_ s₅=>∃m,m<n/\I m s₅) (λ_ _=>False) s₄) (λ_ _=>False) s₃
     else ∃m,m<n/\I m s₃) (λ_ _=>False) s₂) (λ_ _=>False) s₁') (λ_ _=>False) s₁) (λ_ _=>False) s)
 (n:Nat) (h:I n s):
 codeAny (model prog w) A (.compLoop (.ListComp g_ [⟨target,a_,ifs,0⟩] scope pos) 0 it acc env) R s:=by
 refine codeAny_loop rfl I (λn s hI=>?_) n h;show wpAny _ _ ((compTurn (.ListComp g_ [⟨target,a_,ifs,0⟩] scope pos) 0 it acc env).onRaise (λx=>do noteFrame x env;theTreesLotGoes x)) _ _ s;refine wpAny_noted ?_;rw[compTurn_list];refine M6 (E:=λ_ _=>False) ?_ (λ_ _ q=>q) λ_ _ q=>q.elim;refine w_ (Oq (w_ (M6 (turn n s hI) (λr s₁ h₁=>?_) λ_ _ h'=>h')));cases r with
 |none=>exact F_ h₁
 |
  some v=>
  refine w_ (M6 h₁ (λ_ s₁' h₁'=>?_) λ_ _ h'=>h');refine w_ (M6 h₁' (λ_ s₂ h₂=>?_) λ_ _ h'=>h');refine w_ (M6 h₂ (λok s₃ h₃=>?_) λ_ _ h'=>h');cases ok with
  |true=>simp only[NM] at h₃ ⊢;refine w_ (w_ (M6 h₃ (λx s₄ h₄=>?_) λ_ _ h'=>h'));refine w_ (M6 h₄ (λ_ s₅ h₅=>?_) λ_ _ h'=>h');exact F_ (F_ ⟨rfl,h₅⟩)
  |
   false=>
   simp only[NQ,Ov] at h₃ ⊢;first
    |exact w_ (F_ (F_ ⟨rfl,h₃⟩))
    |exact F_ ⟨rfl,h₃⟩
end
section
variable{X:Cx}
def PTs(X:Cx)(ifs:List Expr)(t:TT):Prop:=
 ∀
  (pins:Pb) (s:Shared) (σ:St) (H:Hp) (Q:Bool->Hp->Prop),Inv X pins σ H s->t σ H Q->
  wpAny (model X.prog X.w) X.A (forIn ifs true λc r=>if r=true then do let ok <- isTrue c X.env (eval c X.env);pure (ForInStep.yield ok) else pure (ForInStep.yield r)) (TP X pins σ Q) X.xe s
def uZ:PTs X [] (λ_ H Q=>Q true H):=λpins s σ H Q I h=>by rw[OK];exact F_ ⟨H,I,h⟩
def uz{c:Expr}{tc:TT}(hc:PT X c tc):PTs X [c] tc:=λpins s σ H Q I h=>by rw[OA];simp only[NM];refine w_ (w_ (thn (hc pins s σ H Q I h) λb s1 q=>F_ ?_));dsimp only;rw[OK];exact F_ q
structure LcEnd(X:Cx)(pins:Pb)(σ:St)(Q:VK)(D C:Addr)(s4:Shared):Prop where
 ns:∃m,s4.heap.Ns C m
 dc:D<C
 fr:X.env.locals<D
 cell:∀x c,X.env.cells.lookup x=some c->c<D
 pin:∀p∈X.pn++pins,p.1<D
 sz:X.s₀.heap.objs.size<=D
 inv:∃H',H' C=none/\Q (.ref D) H'/\∀h',Heap.SameBut C s4.heap h'->Inv X pins σ H' { s4 with heap:=h' }
def vo{g_ a_ tg:Expr}{ifs:List Expr}{scope:Scope}{pos:Pos}{wi:TI}{g:TG}{tc:TT}{te:TE}{N:List Str}{sub:Pd}{use:Option (Value->Sem Unit)}{R:Pc}{pins:Pb}{s:Shared}{σ:St}{H:Hp}{Q:VK}{fpos:Pos}
 (hc:X.calm=true) (hi:PI X tg a_ wi)
 (hk:scope.kind=.function) (o_:∀x∈scope.names,x.2 ≠ .cell) (b_:∀x∈scope.names,x.2=.local->scope.names.lookup x.1=some .local)
 (l_:∀x∈scope.names,x.2=.free->X.env.kindOf x.1=some .cell\/X.env.kindOf x.1=some .free)
 (p_:sub.length=N.length) (f_:∀(j i:Nat) (x:Str),sub[j]?=some (some i)->N[j]?=some x->X.N[i]?=some x/\scope.names.lookup x=some .free)
 (hg:∀cl C s₂ H fp,PG (bz X N scope cl C s₂ H fp) tg g) (ht:∀cl C s₂ H fp,PTs (bz X N scope cl C s₂ H fp) ifs tc) (he:∀cl C s₂ H fp,PE (bz X N scope cl C s₂ H fp) g_ te)
 (hs:∀x,foldedSetIterable a_ X.env x=pure x) (I:Inv X pins σ H s) (h:iP wi sub g tc te σ H Q)
 (k_:∀D C s4,LcEnd X pins σ Q D C s4->compPost (model X.prog X.w) X.A X.xe use R (.ref D) C (.ok .next) s4):
 wpAny (model X.prog X.w) X.A (comprehension (.ListComp g_ [⟨tg,a_,ifs,0⟩] scope pos) scope X.env fpos (newList []) false (eval a_ X.env) use) R X.xe s:=by
 obtain⟨cl,hclos,hcl,hclf⟩:=p7 (env:=X.env) (scope:=scope) λx hx hf=>I.ok.has x.1 (l_ x hx hf);refine wpAny_comprehension_free rfl hs hclos hk b_ ?_;show wpAny _ _ (eval a_ X.env) _ _ _;refine thn (hi pins s σ H _ I h) λv s1 h1=>thn h1 λitv s2 h2=>?_;obtain⟨it,fp,tn,J,H2,e,I2,T,st2,f2,W,⟨m0,w0⟩,turn⟩:=h2;subst e;refine Nj (wpAny_newFunctionEnv o_ (by intro y hy;simp at hy) (λh₁ hns₁ hsb₁=>?_) hk);dsimp only at hns₁ hsb₁ ⊢;generalize hH2:s2.heap.push { cls:=.type "list",dict:=none,data:=.seq ([]:List Value).toArray }=G2 at hns₁ hsb₁ ⊢;have hC:G2.objs.size=s2.heap.objs.size+1:=by rw[<- hH2,Od]
 have hDC:s2.heap.objs.size≠G2.objs.size:=by omega
 have below:∀b,b<s2.heap.objs.size->b≠G2.objs.size/\b≠s2.heap.objs.size:=λb hb=>⟨by omega,by omega⟩;have old:∀b o,s2.heap.get? b=some o->h₁.get? b=some o:=λb o e=>hsb₁.extBut b o (below b (Em e)).1 (C_ _ (hH2 ▸ C_ _ e));have hD₁:h₁.get? s2.heap.objs.size=some { cls:=.type "list",dict:=none,data:=.seq ([]:List Value).toArray }:=hsb₁.extBut _ _ hDC (C_ _ (hH2 ▸ MB _ rfl));have fresh:∀a,s2.heap.objs.size<=a->s2.heap.get? a=none:=λa ha=>Oz ha;have cellOld:∀x c,cl.lookup x=some c->c<s2.heap.objs.size:=λx c e=>by obtain⟨v,z⟩:=I2.cell x c (hcl x c e);exact z.lt
 have fpOld:∀b∈fp,b<s2.heap.objs.size:=λb hb=>by obtain⟨o,e,_⟩:=T.obj _ _ st2 b hb;exact Em e
 let Y:Cx:=bz X N scope cl G2.objs.size s2 H2 fp
 have okY:Y.Ok
  := by
  refine⟨I2.ok.mod,?_,I2.ok.glob,I2.ok.blt,?_,λx y c e1 e2=>I2.ok.inj x y c (hcl x c e1) (hcl y c e2),λx hx=>?_,λx c hfn _=>absurd hfn D_,I2.ok.hd,I2.ok.frames,.inl rfl,
   λb hb=>⟨?_,λx c e z=>?_⟩,I2.bs,G_ I2.ok.bsz I2.sz,λb o e hb=>?_,λb hb hf=>?_,I2.stack,I2.stkFree⟩
  .show (relabel scope X.env).kind=.function;exact hk
  .show s2.heap.objs.size<=G2.objs.size;omega
  .have hx':(
    relabel scope X.env).names.lookup x=some .cell\/(relabel scope X.env).names.lookup x=some .free:=hx
   have:∃k,
    (x,k)∈scope.names/\k=.free:=by
    have gen:∀(names:List (Str×NameKind)),(∀y∈names,y.2 ≠ .cell)->∀kk,(kk=NameKind.cell\/kk=NameKind.free)->(names.map λ(n,k)=>if (k==NameKind.free&&X.env.scope.kind == .function&&X.env.kindOf n==some .cell) then (n,NameKind.cell) else (n,k)).lookup x=some kk->∃k,(x,k)∈names/\k=.free:=by
     intro names;induction names with
     |nil=>intro _ kk _ e;simp at e
     |
      cons y r ih=>
      intro hn kk hkk e;obtain⟨n,k⟩:=y;rw[B_,Nz] at e;by_cases hkf:k=.free
      .subst hkf;by_cases hxn:x=n
       .exact⟨.free,by rw[hxn];exact H_,rfl⟩
       .have hb:(x==(if (NameKind.free==NameKind.free&&X.env.scope.kind == .function&&X.env.kindOf n==some .cell)=true then (n,NameKind.cell) else (n,NameKind.free)).1)=false:=by split <;> exact MM.mpr hxn
        rw[hb] at e;obtain⟨k',m,q⟩:=ih (λz hz=>hn z (A_ _ hz)) kk hkk e;exact⟨k',A_ _ m,q⟩
      .have hb0:(k==NameKind.free&&X.env.scope.kind == .function&&X.env.kindOf n==some .cell)=false:=by
        have:(k==NameKind.free)=false:=by simpa using hkf
        rw[this];rfl
       rw[hb0] at e;simp only[NQ,Ov] at e;cases q:x==n with
       |
        true=>
        rw[q] at e;have e':k=kk:=MC e;subst e';rcases hkk with z |z
        .exact absurd z (hn (n,k) H_)
        .exact absurd z hkf
       |false=>rw[q] at e;obtain⟨k',m,q⟩:=ih (λz hz=>hn z (A_ _ hz)) kk hkk e;exact⟨k',A_ _ m,q⟩
    rcases hx' with z |z
    .exact gen scope.names o_ _ (.inl rfl) z
    .exact gen scope.names o_ _ (.inr rfl) z
   obtain⟨k,m,q⟩:=this;exact hclf (x,k) m q
  .show b≠G2.objs.size;exact (below b (fpOld b hb)).1
  .exact (f2 b hb).2.2.2.2.1 x c (hcl x c e) z
  .rcases (f2 b hb).2.2.2.1 with z |z
   .exact I2.ok.noex b o e z
   .exact absurd (I_ (Em e) (G_ I2.ok.bsz z)) (Nc _)
  .have hf':b∈frs X.stack:=hf;rcases MN.mp (I2.stkSub b hf') with z |z
   .exact (f2 b hb).2.1 z
   .exact (f2 b hb).2.2.1 z
 have startLoc
  : ∃m,h₁.Ns G2.objs.size m/\∀(i:Nat) (x:Str) (v:V),N[i]?=some x->(gz sub σ)[i]?=some (some v)->Vis (relabel scope X.env) x->∃u,RelV v u/\Look Y.env h₁ m x u:=by
  refine⟨_,hns₁,λj x v e1 e2 e3=>?_⟩;unfold gz at e2;rw[MP] at e2;cases q:sub[j]? with
  |none=>rw[q] at e2;cases e2
  |
   some o=>
   rw[q] at e2;cases o with
   |none=>cases e2
   |
    some i=>
    obtain⟨hNi,hfree⟩:=f_ j i x q e1;have e2':(σ[i]?).bind id=some v:=MC e2;have e2'':σ[i]?=some (some v):=by
     cases z:σ[i]? with
     |none=>rw[z] at e2';cases e2'
     |some y=>rw[z] at e2';rw[show y=some v from e2']
    obtain⟨m2,hn2,hl2⟩:=I2.loc;have hkx:=l_ (x,.free) (Nk hfree) rfl;obtain⟨u,r,l⟩:=hl2 i x v hNi e2'' (by rcases hkx with z |z;exact .inr (.inl z);exact .inr (.inr z));refine⟨u,r,.inr ⟨?_,?_⟩⟩
    .rcases e3
      with z |z |z
     .exfalso;have gen:∀(names:List (Str×NameKind)),names.lookup x=some .free->(names.map λ(n,k)=>if (k==NameKind.free&&X.env.scope.kind == .function&&X.env.kindOf n==some .cell) then (n,NameKind.cell) else (n,k)).lookup x=some .local->False:=by
       intro names;induction names with
       |nil=>intro e _;simp at e
       |
        cons y r ih=>
        intro e1 e2;obtain⟨n,k⟩:=y;rw[Nz] at e1;rw[B_,Nz] at e2;by_cases hxn:x=n
        .have hb1:(x==n)=true:=M8.mpr hxn;rw[hb1] at e1;have:k=.free:=MC e1;subst this;split at e2
         .rename_i hq;split at e2 <;> cases e2
         .rename_i hq;split at hq <;> (rw[hb1] at hq;cases hq)
        .have hb1:(x==n)=false:=MM.mpr hxn;rw[hb1] at e1;refine ih e1 ?_;split at e2
         .rename_i hq;split at hq <;> (rw[hb1] at hq;cases hq)
         .exact e2
      exact gen scope.names hfree z
     .exact .inl z
     .exact .inr z
    .obtain⟨c,hc'⟩:=hclf (x,.free) (Nk hfree) rfl;refine⟨c,hc',?_⟩;rcases l with ⟨k,_⟩ |⟨_,c2,ec2,z⟩
     .rcases hkx with z |z <;> (rw[k] at z;cases z)
     .have:=hcl x c hc'
      rw[ec2] at this;cases this;obtain⟨oc,hoc,hd⟩:=z;exact⟨oc,old _ _ hoc,hd⟩
 have pinD:∀{σ':St}{H':Hp}{s':Shared}{pl:Pb}{o:Obj},Inv Y pl σ' H' s'->s'.heap.get? s2.heap.objs.size=some o->(∀v,o.data ≠ .cell v)->H' s2.heap.objs.size=none->Inv Y [(s2.heap.objs.size,o)] σ' H' s':=λ{σ' H' s' pl o} IY e d n=>
  IY.pins_of λp hp=>by
   have e':p=(s2.heap.objs.size,o):=by simpa using hp
   subst e';refine⟨e,n,?_,?_,d⟩
   .show s2.heap.objs.size≠G2.objs.size;omega
   .intro hf;have hf':s2.heap.objs.size∈frs X.stack:=hf;obtain⟨_,o',ho',_⟩:=I2.stack.mem hf';exact absurd (Em ho') (Nc _)
 have fpY:∀{H':Hp}{pl:Pb},(∀b∈fp,H' b=none)->(∀p∈pl,p.1∉fp)->∀b∈fp,FpOk Y pl H' b:=λ{H' pl} hn hp b hb=>by
  refine⟨hn b hb,?_,?_,.inl hb,λx c e=>?_,λp hp'=>?_⟩
  .exact (okY.exf b hb).1
  .exact okY.exfs b hb
  .exact (okY.exf b hb).2 x c e
  .intro z;have hp'':p∈pl:=by simpa [Y,bz] using hp'
   exact hp p hp'' (by rw[z];exact hb)
 have hDfp:s2.heap.objs.size∉fp:=λz=>Nc _ (fpOld _ z);have loop
  : ∀s₃:Shared,s₃={ s2 with heap:=h₁,toks:=s2.toks+([]:List (Str×Value)).length }->
  codeAny (model X.prog X.w) X.A (.compLoop (.ListComp g_ [⟨tg,a_,ifs,0⟩] scope pos) 0 (.ref it) (.ref s2.heap.objs.size) (compEnvC scope cl G2.objs.size X.env))
   (compPost (model X.prog X.w) X.A X.xe use R (.ref s2.heap.objs.size) G2.objs.size) s₃:=by
  rintro s₃ rfl;have IY0:Inv Y [(s2.heap.objs.size,{ cls:=.type "list",dict:=none,data:=.seq ([]:List Value).toArray })] (gz sub σ) H2 { s2 with heap:=h₁,toks:=s2.toks+([]:List (Str×Value)).length }:=by
   have J0:Inv Y [] (gz sub σ) H2 { s2 with heap:=h₁,toks:=s2.toks+([]:List (Str×Value)).length }:=by
    refine⟨okY,rfl,I2.bare,Un.kept old,startLoc,λx c e=>?_,I2.hok.fresh (by show s2.heap.objs.size<=G2.objs.size;omega),λx c e=>I2.freeC x c (hcl x c e),λp hp=>absurd (show p∈([]:Pb) from hp) (by simp),I2.hok.kept old,?_⟩
    .obtain⟨v,oc,hoc,hd⟩:=I2.cell x c (hcl x c e);exact⟨v,oc,old _ _ hoc,hd⟩
    .show (gz sub σ).length=N.length;unfold gz;rw[v_];exact p_
   exact pinD J0 hD₁ (λv z=>by cases z) I2.fresh
  refine tG (λn s'=>∃(i:Nat) (ys:List V) (its:List Value) (k:Nat) (σ':St) (H':Hp),Inv Y [(s2.heap.objs.size,{ cls:=.type "list",dict:=none,data:=.seq its.toArray k })] σ' H' s'/\Vals ys its/\tn i s'.heap/\(∀b∈fp,H' b=none)/\W i n ys σ' H') ?_ m0
   ⟨0,[],[],0,gz sub σ,H2,IY0,.nil,T.keep _ _ _ st2 (λb hb o e=>old b o e),λb hb=>(f2 b hb).1,w0⟩
  rintro n s3 ⟨i,ys,its,k,σ3,H3,I3,rv,st3,fr3,w3⟩;have npl:∀(o:Obj),∀p∈[(s2.heap.objs.size,o)],p.1∉fp:=λo p hp=>by
   have e':p=(s2.heap.objs.size,o):=by simpa using hp
   subst e';exact hDfp
  rcases turn i n ys σ3 H3 w3 with ⟨stop,hz,qn⟩ |⟨go,hz,Nx,hNx,step⟩
  .refine M6 (T.done Y rfl rfl rfl hc i _ s3 σ3 H3 (λ_ _=>False) I3 (fpY fr3 (npl _)) st3 stop) (λr s4 ⟨hr,I4⟩=>?_) λ_ _ z=>z;subst hr;obtain⟨m4,hn4,_⟩:=I4.loc;have hCfree:H3 G2.objs.size=none:=I4.free;have hD4:=I4.pin (s2.heap.objs.size,{ cls:=.type "list",dict:=none,data:=.seq its.toArray k }) (MR _ H_);have un4:Un (frs X.stack) fp H2 H3 s2.heap s4.heap:=I4.base;have ne2:∀b o,s2.heap.get? b=some o->b≠G2.objs.size:=λb o e=>(below b (Em e)).1;have hDfree:H3 s2.heap.objs.size=none:=hD4.2.1;have sz0:X.s₀.heap.objs.size<=s2.heap.objs.size:=I2.sz;refine k_ s2.heap.objs.size G2.objs.size s4 ⟨⟨m4,hn4⟩,by rw[hC];exact Nat.lt_succ_self _,I2.lt,λx c e=>?_,λp hp=>Em (I2.pin p hp).1,sz0,upd H3 s2.heap.objs.size (.lst ys),by rw[bE (Ne.symm hDC)];exact hCfree,qn _ hDfree,λh' hs'=>?_⟩
   .obtain⟨v,q⟩:=I2.cell x c e;exact q.lt
   have up:∀b o,b≠G2.objs.size->s4.heap.get? b=some o->h'.get? b=some o:=λb o hb e=>hs'.extBut b o hb e;have un5:Un (frs X.stack) fp H2 H3 s2.heap h':=by
    refine⟨λb o e n hb hx=>up b o (ne2 b o e) (un4.keep b o e n hb hx),λb o e n hb hx=>?_,un4.free,λb o e hx=>?_,un4.tups,un4.frzs,un4.tbls⟩
    .obtain⟨sl,q⟩:=un4.slot b o e n hb hx;exact⟨sl,up b _ (ne2 b o e) q⟩
    .obtain⟨o',q⟩:=un4.there b o e hx;exact⟨o',up b _ (ne2 b o e) q⟩
   have hok5:HOk X.prog X.w H3 h':=λb u e=>(I4.hok b u e).stay (λc v hcc q=>up c v (λz=>by
    rcases hcc with zz |zz
    .rw[zz] at z;rw[z,hCfree] at e;cases e
    .rw[z,hCfree] at zz;cases zz) q) (λ_ q=>q) λ_ _ q=>q
   have I5:Inv X pins σ H3 { s4 with heap:=h' }:=I2.call' (s':={ s4 with heap:=h' }) (ch:=fp) I4.os un5 hok5 I4.bare λb hb=>by obtain⟨_,g1,_,g3,g4,g5⟩:=f2 b hb;exact⟨g3,g1,g4,g5⟩
   refine I5.track (o:=.lst ys) hDfree (Oz sz0) (N_ I2.lt) (λx c e z=>?_) (λp hp z=>?_) ?_
   .obtain⟨v,q⟩:=I2.cell x c e;exact absurd q.lt (by rw[z];exact Nc _)
   .exact absurd (Em (I2.pin p hp).1) (by rw[z];exact Nc _)
   .exact⟨hz,its,k,rv,up _ _ hDC hD4.1⟩
  .refine M6 (T.item Y rfl rfl rfl hc i _ s3 σ3 H3 (λ_ _=>False) I3 (fpY fr3 (npl _)) st3 go) (λr s4 ⟨u,hr,h4⟩=>?_) λ_ _ z=>z;subst hr;refine M6 h4 (λ_ s5 ⟨x,H5,I5,r5,y5,st5,fr5⟩=>?_) λ_ _ z=>z;have I5':=I5.pinned (fpY fr5 (npl _)) (T.obj _ _ st5);refine M6 (hg cl G2.objs.size s2 H2 fp _ s5 σ3 H5 x u _ I5' r5 (step x H5 y5)) (λ_ s6 ⟨σ6,H6,I6,q6⟩=>?_) λ_ _ z=>z;refine M6 (ht cl G2.objs.size s2 H2 fp _ s6 σ6 H6 _ I6 q6) (λok s7 ⟨H7,I7,q7⟩=>?_) λ_ _ z=>z;have back:∀{σ':St}{H':Hp}{s':Shared},Inv Y ([(s2.heap.objs.size,{ cls:=.type "list",dict:=none,data:=.seq its.toArray k })]++ko fp s5.heap) σ' H' s'->tn (i+1) s'.heap/\∀b∈fp,H' b=none:=λ{σ' H' s'} IB=>by refine⟨T.keep _ _ _ st5 λb hb o e=>(IB.pin (b,o) (MR _ (MR _ (gM hb e)))).1,λb hb=>?_⟩;obtain⟨o,e,d⟩:=T.obj _ _ st5 b hb;exact (IB.pin (b,o) (MR _ (MR _ (gM hb e)))).2.1
   cases ok with
   |false=>rw[if_neg D_] at q7;obtain⟨m',hm,w7⟩:=hNx _ _ _ q7;rw[if_neg D_];obtain⟨t7,f7⟩:=back I7;exact⟨m',hm,i+1,ys,its,k,σ6,H7,I7.unpinned,rv,t7,f7,w7⟩
   |
    true=>
    rw[if_pos rfl] at q7;rw[if_pos rfl];refine M6 (he cl G2.objs.size s2 H2 fp _ s7 σ6 H7 _ I7 q7) (λy s8 ⟨yv,H8,I8,r8,q8⟩=>?_) λ_ _ z=>z;obtain⟨m',hm,w8⟩:=hNx _ _ _ q8;obtain⟨t8,f8⟩:=back I8;have I9:=I8.unpinned;have hD9:=I9.pin (s2.heap.objs.size,{ cls:=.type "list",dict:=none,data:=.seq its.toArray k }) (MR _ H_);have e9:s8.heap.get? s2.heap.objs.size=some { cls:=.type "list",dict:=none,data:=.seq its.toArray k }:=hD9.1;have d_:=rv.length;refine call_meets F.slot_list_append ⟨_,e9,rfl⟩ F.entry_list_append (F.args_list_append_2 _ _) (PySem.list_append _ its.toArray k y (by rw[J_];omega)) ⟨e9,?_⟩;have q9:=PySem.IsL.update e9 (λxs=>xs.push y);have ea:its.toArray.push y=(its++[y]).toArray:=by simp
    rw[ea] at q9;have k9:∀b o,b≠s2.heap.objs.size->s8.heap.get? b=some o->(s8.heap.update s2.heap.objs.size (Obj.mapSeq λxs=>xs.push y)).get? b=some o:=λb o hb e=>(Ol _ _ (Ne.symm hb)).trans e;have I10:Inv Y [] σ6 H8 { s8 with heap:=s8.heap.update s2.heap.objs.size (Obj.mapSeq λxs=>xs.push y) }:=
     (I9.pins_of (pins':=[]) (λp hp=>nomatch hp)).turned (t':=s8.toks) k9 hD9.2.1 hD9.2.2.1 (.inr (y_ _)) (λx c e z=>absurd (cellOld x c e) (by rw[z];exact Nc _))
      (λp hp=>absurd (show p∈([]:Pb) from hp) (by simp))
    refine⟨m',hm,i+1,ys++[yv],its++[y],_,σ6,H8,pinD I10 q9 (λv z=>by cases z) hD9.2.1,rv.append (.cons r8 .nil),?_,f8,w8⟩;exact T.keep _ _ _ t8 λb hb o e=>k9 b o (λz=>hDfp (by rw[<- z];exact hb)) e
 exact codeAny_compStart_list (loop _ rfl) (T.self _ 0 _ _ _ (T.keep _ _ _ st2 λb hb o e=>old b o e) (loop _ rfl))
def xY{g_ a_ tg:Expr}{ifs:List Expr}{scope:Scope}{pos:Pos}{wi:TI}{g:TG}{tc:TT}{te:TE}{N:List Str}{sub:Pd}
 (hc:X.calm=true) (hi:PI X tg a_ wi)
 (hk:scope.kind=.function) (o_:∀x∈scope.names,x.2 ≠ .cell) (b_:∀x∈scope.names,x.2=.local->scope.names.lookup x.1=some .local)
 (l_:∀x∈scope.names,x.2=.free->X.env.kindOf x.1=some .cell\/X.env.kindOf x.1=some .free)
 (p_:sub.length=N.length) (f_:∀(j i:Nat) (x:Str),sub[j]?=some (some i)->N[j]?=some x->X.N[i]?=some x/\scope.names.lookup x=some .free)
 (hg:∀cl C s₂ H fp,PG (bz X N scope cl C s₂ H fp) tg g) (ht:∀cl C s₂ H fp,PTs (bz X N scope cl C s₂ H fp) ifs tc) (he:∀cl C s₂ H fp,PE (bz X N scope cl C s₂ H fp) g_ te)
 (hs:∀x,foldedSetIterable a_ X.env x=pure x):
 PE X (.ListComp g_ [⟨tg,a_,ifs,0⟩] scope pos) (iP wi sub g tc te):=by
 intro pins s σ H Q I h;rw[eval_ListComp];refine vo hc hi hk o_ b_ l_ p_ f_ hg ht he hs I h λD C s4 e=>?_;obtain⟨m,hm⟩:=e.ns;obtain⟨H',_,q,i⟩:=e.inv;exact⟨m,hm,λh' hs'=>⟨.ref D,H',i h' hs',rfl,q⟩⟩
noncomputable def dE(M:List Str)(names:List (Str×NameKind))(sub:Pd)(N:List Str):Bool:=(sub.zip N).all λp=>match p.1 with
 |none=>true
 |some i=>M[i]?==some p.2&&names.lookup p.2==some .free
def jS{M:List Str}{names:List (Str×NameKind)}{sub:Pd}{N:List Str}(h:dE M names sub N=true)(j i:Nat)(x:Str)(h1:sub[j]?=some (some i))(h2:N[j]?=some x):
 M[i]?=some x/\names.lookup x=some .free:=by
 unfold dE at h;rw[MD] at h;have hm:(some i,x)∈sub.zip N:=by refine NK (i:=j) ?_;rw[List.getElem?_zip_eq_some];exact⟨h1,h2⟩
 have q:=h _ hm;simp only[z_,M8] at q;exact q
noncomputable def eS(kn names:List (Str×NameKind)):Bool:=names.all λx=>x.2 != .free || kn.lookup x.1==some .cell || kn.lookup x.1==some .free
def kW{kn names:List (Str×NameKind)}(h:eS kn names=true):∀x∈names,x.2=.free->kn.lookup x.1=some .cell\/kn.lookup x.1=some .free:=λx hx hf=>by unfold eS at h;rw[MD] at h;have q:=h x hx;rw[hf] at q;simpa using q
def Df{g_ a_ tg c:Expr}{scope:Scope}{pos:Pos}{wi:TI}{g:TG}{tc:TT}{te:TE}(M:List Str)(kn:List (Str×NameKind))(N:List Str)(sub:Pd)
 (hc:X.calm=true) (hi:PI X tg a_ wi)
 (hg:∀cl C s₂ H fp,PG (bz X N scope cl C s₂ H fp) tg g) (ht:∀cl C s₂ H fp,PT (bz X N scope cl C s₂ H fp) c tc) (he:∀cl C s₂ H fp,PE (bz X N scope cl C s₂ H fp) g_ te)
 (hM:X.N=M) (hkn:X.env.scope.names=kn) (f_:dE M scope.names sub N=true)
 (hk:scope.kind=.function) (o_:∀x∈scope.names,x.2 ≠ .cell) (b_:∀x∈scope.names,x.2=.local->scope.names.lookup x.1=some .local)
 (l_:eS kn scope.names=true)
 (p_:sub.length=N.length) (hs:∀x,foldedSetIterable a_ X.env x=pure x):
 PE X (.ListComp g_ [⟨tg,a_,[c],0⟩] scope pos) (iP wi sub g tc te):=
 xY hc hi hk o_ b_ (by subst hkn;exact kW l_) p_ (by subst hM;exact jS f_) hg (λcl C s₂ H fp=>uz (ht cl C s₂ H fp)) he hs
def JR{g_ a_ tg:Expr}{scope:Scope}{pos:Pos}{wi:TI}{g:TG}{te:TE}(M:List Str)(kn:List (Str×NameKind))(N:List Str)(sub:Pd)
 (hc:X.calm=true) (hi:PI X tg a_ wi)
 (hg:∀cl C s₂ H fp,PG (bz X N scope cl C s₂ H fp) tg g) (he:∀cl C s₂ H fp,PE (bz X N scope cl C s₂ H fp) g_ te)
 (hM:X.N=M) (hkn:X.env.scope.names=kn) (f_:dE M scope.names sub N=true)
 (hk:scope.kind=.function) (o_:∀x∈scope.names,x.2 ≠ .cell) (b_:∀x∈scope.names,x.2=.local->scope.names.lookup x.1=some .local)
 (l_:eS kn scope.names=true)
 (p_:sub.length=N.length) (hs:∀x,foldedSetIterable a_ X.env x=pure x):
 PE X (.ListComp g_ [⟨tg,a_,[],0⟩] scope pos) (iP wi sub g zX te):=
 xY hc hi hk o_ b_ (by subst hkn;exact kW l_) p_ (by subst hM;exact jS f_) hg (λcl C s₂ H fp=>uZ) he hs
end
open PySem PySem.Spec PyProof.Rows PySem.W PySem.Builtin PySem.Builtin.ObjectAttr PySem.Builtin.Getset_descriptor
structure XCls(K:W.Frag)(C:Addr):Prop where
 cls:(clsIn K C).isSome=true
 ga:findIn K (.ref C) "__getattribute__"=some (some (.builtin "BaseException.__getattribute__"))
 gt:findIn K (.ref C) "__getattr__"=some none
 at_:findIn K (.ref C) "__class__"=some (some (.builtin "object.__class__"))
 gs:specialIn K (.builtin "object.__class__") "__get__"=some (some (.builtin "getset_descriptor.__get__"))
 tk:takesIn K (.builtin "object.__class__")=some true
 mo:mroIn K C (.type "object")=some true
 mb:mroIn K C (.type "BaseException")=some true
section
variable{prog:Program}{w:World}{A:Around}{E:Pc}{K:W.Frag}{x C:Addr}{o:Obj}
def jR(hx:h.get? x=some o)(hc:o.cls=.ref C):Looks M h (typeOf (.ref x)) (.ref C):=hc ▸ (Looks.ld hx).andThen .now
def BP(X:K.In h)(T:XCls K C):Looks M h (find (.ref x) (.ref C) "__class__") (.bind (.builtin "getset_descriptor.__get__") (.builtin "object.__class__")):=by have L1:=looks_findIn (M:=M) X T.at_;have L2:Looks M h (getOf (some (.builtin "object.__class__"))) (some (.builtin "getset_descriptor.__get__")):=looks_specialIn X T.gs;have L3:=looks_takesIn (M:=M) X T.tk;refine L1.andThen (L2.andThen ?_);exact (show Looks M h (dataDescriptor? (some (.builtin "object.__class__")) (some (.builtin "getset_descriptor.__get__"))) (some (.builtin "getset_descriptor.__get__",.builtin "object.__class__")) from L3.andThen .now).andThen (Looks.tag .now)
def qt(X:K.In s.heap)(hx:s.heap.get? x=some o)(hc:o.cls=.ref C)(T:XCls K C)
 (h:R (.ok (.ret (.ref C))) s):codeAny (model prog w) A (.call (.builtin "getset_descriptor.__get__") ⟨[.builtin "object.__class__",.ref x,tp],[]⟩) R s:=by
 obtain⟨hh,g,dr,t,os⟩:=s;have L0:=jR (M:=model prog w) hx hc;have L1:=looks_mroIn (M:=model prog w) X T.mo;refine codeAny_call_builtin KF.slot_gs.plain KF.entry_gs (KF.slot_gs.check _ _ _ _ _ _ _ _ KF.type_class (KF.args_gs _ _ _) ?_);unfold Builtin.«getset_descriptor.__get__» descrGet;rw[dga_obj];refine w_ (F_ ?_);unfold descrGetter descrCheckInstance descrNameAndClass isInstance;simp only[KF.owner_class];repeat lk
 refine⟨Code.quiet_builtin _ (by decide),codeAny_builtin KF.entry_class ?_⟩;unfold Builtin.«object.__class__» shownTypeOf;repeat lk
 exact h
def yw(X:K.In s.heap)(hx:s.heap.get? x=some o)(hc:o.cls=.ref C)(T:XCls K C)(hq:Q () s):
 wpAny M A (checkBuiltinCall "BaseException.__getattribute__" ⟨[.ref x,nameV],[]⟩) Q E s:=by
 obtain⟨h,g,dr,t,os⟩:=s;have hk:builtinKind "BaseException.__getattribute__"=some .slot:=by decide
 have hsplit:splitId "BaseException.__getattribute__"=some ("BaseException", "__getattribute__"):=by decide
 have ha:=PySem.F.args_bexc_ga (.ref x) nameV;have L0:=jR (M:=M) hx hc;have LM:=looks_mroIn (M:=M) X T.mb;have LI:Looks M h (isInstance (.ref x) (.type "BaseException")) true:=L0.andThen LM;simp only[checkBuiltinCall,hk,hsplit];refine w_ ?_;refine LI.at ?_;repeat (first |wp_step)
 all_goals exact hq
def GI(X:K.In s.heap)(hx:s.heap.get? x=some o)(hc:o.cls=.ref C)(T:XCls K C)(h:Q (some (.ref C)) { s with toks:=s.toks+1 }):
 wpAny (model prog w) A (getAttr? (.ref x) "__class__") Q E s:=by
 obtain⟨hh,g,d,t,os⟩:=s;have L0:=jR (M:=model prog w) hx hc;have L1:=looks_findIn (M:=model prog w) X T.ga;have L2:=looks_findIn (M:=model prog w) X T.gt;have LF:=BP (M:=model prog w) (x:=x) X T;have f3:=PySem.F.excAttr_ValueError.ga.bind (.ref x);have hx2:(Value.builtin "BaseException.__getattribute__" == Value.builtin "object.__getattribute__")=false:=by decide
 unfold getAttr? getAttrBy? getAttrBy;refine w_ (wpAny_mkText (w_ (OM (NP (w_ (L0.at (w_ (L1.at ?_))))))));dsimp only;rw[if_neg (by rw[hx2];simp)];unfold getAttrByItsOwn hookBefore;rw[if_pos (show onTheHeap (Value.ref C)=true from rfl)];refine w_ (L2.at ?_);unfold callGetattribute;refine w_ (OM (NP ?_));rw[if_neg (by simp)];unfold boundAndCalled;refine w_ (wpAny_of_eq f3 ?_);refine wpAny_call (codeAny_call_builtin PySem.F.excAttr_ValueError.ga.plain PySem.F.entry_bexc_ga (yw X hx hc T ?_));unfold Builtin.«object.__getattribute__»;repeat (first |(refine w_ (L0.at ?_)) |(refine w_ (LF.at ?_)) |wp_step)
 refine qt (s:=⟨hh,g,d,t+1,os⟩) X hx hc T ?_;repeat (first |exact h |wp_step)
def As(x:Addr)(C:Addr)(h:Heap):Prop:=∃o vs,h.get? x=some o/\o.cls=.ref C/\o.data=.fields vs
def zG(T:XCls K C):KitX K (.ref x) (.ref C) (As x C) where
 ty:=λM h _ ⟨o,_,hx,hc,_⟩=>jR hx hc
 it:=λM h X _=>by
  obtain⟨cd,hcd⟩:=Nr.mp T.cls;unfold clsIn at hcd;split at hcd
  .rename_i c' d' cd' sl' ho;intro A' Q' E' s' k q;unfold isType loadHead;exact w_ (wpAny_loadPart (k _ _ (X _ _ ho)) (F_ q))
  .cases hcd
 ne:=λh tp dd its n sl X htp=>by
  obtain⟨cd,hcd⟩:=Nr.mp T.cls;refine Bool.eq_false_iff.mpr λq=>?_;have e:C=tp:=Value.ref.inj (M8.mp q);subst e;unfold clsIn at hcd;split at hcd
  .rename_i c' d' cd' sl' ho;have z:=(X _ _ ho).symm.trans htp;cases z
  .cases hcd
 ca:=λX ⟨o,_,hx,hc,_⟩ k=>GI X hx hc T k
end
inductive TyX(K:W.Frag)(H:Hp):V->Value->Prop where
 |of {x:V}{t:Value} (h:TyOf K H x t):TyX K H x t
 |exc {a C:Addr} (e:H a=some (.ext (As a C))) (T:XCls K C):TyX K H (.ref a) (.ref C)
 |sqT {a:Addr}{xs:List V} (h:SqT K H a xs):TyX K H (.ref a) (.type "tuple")
 |sqL {a:Addr}{xs:List V} (h:SqL K H a xs):TyX K H (.ref a) (.type "list")
section
variable{X:Cx}{pins:Pb}{σ:St}{H:Hp}{s:Shared}{c:Value}
def uX(I:Inv X pins σ H s)(rx:RelV x u)(ty:TyX X.K H x t):∃Hh:Heap->Prop,KitX X.K u t Hh/\Hh s.heap/\u ≠ .builtin "__main__.__loader__#opaque":=by
 cases ty with
 |exc ea T=>cases (show u=Value.ref _ from rx);exact⟨_,zG T,(I.hok _ _ ea).1,λz=>nomatch z⟩
 |sqT h=>cases (show u=Value.ref _ from rx);obtain⟨its,rv,⟨o,e,c,_⟩,_⟩:=I.tuple h;exact⟨_,kitx_tuple,⟨o,e,c⟩,λz=>nomatch z⟩
 |sqL h=>cases (show u=Value.ref _ from rx);obtain⟨its,rv,⟨o,n,e,c,_⟩,_⟩:=I.list h;exact⟨_,kitx_list,⟨o,e,c⟩,λz=>nomatch z⟩
 |
  of ty=>
  cases ty with
  |non=>cases (show u=Value.none from rx);exact⟨_,kitx_none,True.intro,λz=>nomatch z⟩
  |bl y=>cases (show u=Value.bool y from rx);exact⟨_,kitx_bool,True.intro,λz=>nomatch z⟩
  |int i=>obtain⟨t,q⟩:=(show ∃t,u=Value.int i t from rx);cases q;exact⟨_,kitx_int,True.intro,λz=>nomatch z⟩
  |str y=>obtain⟨t,q⟩:=(show ∃t,u=Value.str y t from rx);cases q;exact⟨_,kitx_str,True.intro,λz=>nomatch z⟩
  |flt y=>obtain⟨t,q⟩:=(show ∃t,u=Value.float y t from rx);cases q;exact⟨_,kitx_float,True.intro,λz=>nomatch z⟩
  |@lst a xs ea=>cases (show u=Value.ref a from rx);obtain⟨_,_,n,_,h1⟩:=(show ObjOk X.prog X.w H s.heap a (.lst xs) from I.hok a _ ea);exact⟨_,kitx_list,⟨_,h1,rfl⟩,λz=>nomatch z⟩
  |@frz a ob xs ea=>cases (show u=Value.ref a from rx);obtain⟨_,_,_,n,_,h1⟩:=(show ObjOk X.prog X.w H s.heap a (.frz ob (.lst xs)) from I.hok a _ ea);exact⟨_,kitx_list,⟨_,h1,rfl⟩,λz=>nomatch z⟩
  |@tup a xs ea=>cases (show u=Value.ref a from rx);obtain⟨_,_,_,p⟩:=(show ObjOk X.prog X.w H s.heap a (.tup xs) from I.hok a _ ea);obtain⟨o,h1,h2,_⟩:=p;exact⟨_,kitx_tuple,⟨o,h1,h2⟩,λz=>nomatch z⟩
  |@dK a kvs ea=>cases (show u=Value.ref a from rx);obtain⟨_,_,vs,_,p⟩:=(show ObjOk X.prog X.w H s.heap a (.dK kvs) from I.hok a _ ea);obtain⟨o,es,ep,h1,h2,_⟩:=p;exact⟨_,kitx_dict,⟨o,h1,h2.1⟩,λz=>nomatch z⟩
  |@dT a kvs ea=>cases (show u=Value.ref a from rx);obtain⟨_,_,xs,_,o,es,ep,h1,h2,_⟩:=(show ObjOk X.prog X.w H s.heap a (.dT kvs) from I.hok a _ ea);exact⟨_,kitx_dict,⟨o,h1,h2.1⟩,λz=>nomatch z⟩
  |@ins a C dx fs ea cl ha hn htk hm=>cases (show u=Value.ref a from rx);obtain⟨mA,O,_⟩:=D3 I.hok ea;obtain⟨od,J,_⟩:=O.look;exact⟨_,kitx_own (cl.get _) cl.hd ha hn htk hm,J,λz=>nomatch z⟩
end
section
variable{X:Cx}
noncomputable def fP:V->Option Value
 |.ref C=>some (.ref C)
 |.ty T=>some (.type T)
 |_=>none
def rl(h:fP c=some v)(r:RelV c u):u=v:=by
 cases c with
 |ref C=>cases r;exact MC h
 |ty T=>cases r;exact MC h
 |_=>cases h
theorem pI:∀{cs:List V}{us vs:List Value},cs.mapM fP=some vs->Vals cs us->us=vs
 |
  [],_,vs,h,.nil=>by
  have h':some ([]:List Value)=some vs:=h;exact MC h'
 |
  c::cs,_,vs,h,.cons r rr=>by
  rw[NX] at h;cases q:fP c with
  |none=>rw[q] at h;cases h
  |
   some v=>
   rw[q] at h;cases q2:cs.mapM fP with
   |none=>rw[q2] at h;cases h
   |some vs'=>rw[q2] at h;have h':some (v::vs')=some vs:=h;cases h';rw[rl q r,pI q2 rr]
def Ay:CallR X (.builtin "isinstance") (λxs H Q=>∃x c t v b,xs=[x,c]/\TyX X.K H x t/\fP c=some v/\kitOne X.K t v=some b/\Q (.bl b) H):=by intro pins s σ H xs us Q I r h;obtain⟨x,c,t,v,b,rfl,ty,hc,hk,q⟩:=h;obtain⟨u,w',rfl,rx,rc⟩:=Cw r;obtain rfl:=rl hc rc;obtain⟨Hh,Z,p,hne⟩:=uX I rx ty;exact kia_one Z I.kIn p hk hne λtk=>⟨.bl b,H,I.tok _,rfl,q⟩
end
def ObjOk.there(x:ObjOk P w H h a o):∃u,h.get? a=some u:=by
 cases o with
 |lst xs=>obtain⟨_,_,_,_,e⟩:=x;exact⟨_,e⟩
 |tup xs=>obtain⟨_,_,_,ob,e,_⟩:=x;exact⟨_,e⟩
 |dK kvs=>obtain⟨_,_,_,_,o,_,_,e,_⟩:=x;exact⟨_,e⟩
 |dT kvs=>obtain⟨_,_,_,_,o,_,_,e,_⟩:=x;exact⟨_,e⟩
 |set S n=>obtain⟨o,_,_,_,e,_⟩:=x;exact⟨_,e⟩
 |ins C dx fs=>obtain⟨_,_,_,e,_⟩:=x;exact⟨_,e⟩
 |own y=>exact x
 |xd fs=>obtain⟨_,⟨_,_,_,e,_⟩,_⟩:=x;exact⟨_,e⟩
 |rng lo hi=>obtain⟨_,_,_,e⟩:=x;exact⟨_,e⟩
 |frz ob u=>obtain⟨e,_⟩:=x;exact⟨_,e⟩
 |tbl ps=>exact⟨_,show h.get? a=some _ from x⟩
 |met f y=>exact⟨_,show h.get? a=some _ from x⟩
 |ext φ=>obtain⟨_,e,_⟩:=x;exact e
structure Fly(P:Program)(w:World)(outer:List Env)(H:Hp)(h₀:Heap)(H':Hp)(ea:Addr)(cls:Value)(h:Heap)(B:Heap)(t:Addr):Prop where
 un:Un (frs outer) [] H H' h₀ h
 hok:HOk P w H' h
 fl:Heap.FlyingW B outer ea cls (.ref t) h
 old:∀b o,h₀.get? b=some o->b∉frs outer->∃o',B.get? b=some o'
 trk:∀b o,H' b=some o->∃o',B.get? b=some o'
def CX1(P:Program)(w:World):CXT:=λouter H s E e s'=>∃(ea t:Addr) (cls:Value) (H':Hp) (B:Heap),e=.ref ea/\s'.os=s.os/\AllBare s'.gens/\Fly P w outer H s.heap H' ea cls s'.heap B t/\E cls none H'
def rK(h:env.frame=some L):frs (env::outer)=L::frs outer:=by unfold frs;rw[Nw,h]
section
variable{P:Program}{w:World}{outer:List Env}{H H':Hp}{h₀ h h' B:Heap}{ea t:Addr}{cls:Value}
def Fly.step(F:Fly P w outer H h₀ H' ea cls h B t)(fl':Heap.FlyingW B outer' ea cls (.ref t) h')(up:h.UpToSlots h'):
 Un (frs outer) [] H H' h₀ h'/\HOk P w H' h':=by
 have st:=F.fl.1;have same:∀b o,(∃o',B.get? b=some o')->h.get? b=some o->h'.get? b=some o:=λb o ⟨o',e⟩ q=>by have z:=st b o' e;rw[q] at z;cases z;exact fl'.1 b _ e
 have frame:∀b o,b∈frs outer->h.get? b=some o->∃sl,h'.get? b=some { o with slots:=sl }:=λb o hb q=>by obtain⟨_,o',ho',hd⟩:=F.fl.2.2.1.mem hb;rw[q] at ho';cases ho';exact up b o q hd
 refine⟨⟨λb o e n hb hx=>same b o (F.old b o e hb) (F.un.keep b o e n hb hx),λb o e n hb hx=>?_,F.un.free,λb o e hx=>?_,F.un.tups,F.un.frzs,F.un.tbls⟩,λa o e=>?_⟩
 .obtain⟨sl,q⟩:=F.un.slot b o e n hb hx;obtain⟨sl',q'⟩:=frame b _ hb q;exact⟨sl',q'⟩
 .obtain⟨o',q⟩:=F.un.there b o e hx;by_cases hb:b∈frs outer
  .obtain⟨sl,q'⟩:=frame b _ hb q;exact⟨_,q'⟩
  .exact⟨o',same b o' (F.old b o e hb) q⟩
 .refine (F.hok a o e).stay (λb u hb q=>same b u ?_ q) (λ_ q=>q) λ_ _ q=>q;rcases hb with z |z
  .rw[z];exact F.trk a o e
  .exact F.trk b _ z
end
structure Cx.Top(X:Cx):Prop where
 ex:X.ex=[]
 stk:X.stack=X.env::X.outer
 fr:X.env.frame=some X.env.locals
section
variable{X:Cx}{pins:Pb}{σ:St}{H:Hp}{s s':Shared}{E:XK}{e:Value}
def yu(T:X.Top)(hA:A.frames=some X.stack)(I:Inv X pins σ H s)(h:CX1 X.prog X.w X.stack H s E e s'):
 wpAny (model X.prog X.w) A (leaving X.env e) (λ_ s''=>CX1 X.prog X.w X.outer X.H₀ X.s₀ E e s'') E' s':=by
 obtain⟨ea,t,cls,H',B,rfl,os,bare,F,q⟩:=h;have F0:=F;rw[T.stk] at F;have hf:=rK (outer:=X.outer) T.fr;refine wpAny_leaves_onW (by rw[hA,T.stk]) T.fr F.fl λh'' fl'' up=>?_;obtain⟨un2,hok2⟩:=F.step fl'' up;have exn:∀b,b∉X.ex:=λb z=>by rw[T.ex] at z;cases z
 have neL:∀b o,X.s₀.heap.get? b=some o->b≠X.env.locals:=λb o e=>ML (I_ (Em e) I.ok.above);have notin:∀b o,X.s₀.heap.get? b=some o->b∉frs X.outer->b∉frs (X.env::X.outer):=λb o e hb z=>by
  rw[hf] at z;rcases MN.mp z with z |z
  .exact neL b o e z
  .exact hb z
 refine⟨ea,t,cls,H',B,rfl,os.trans I.os,bare,⟨⟨λb o e n hb hx=>?_,λb o e n hb hx=>?_,λb o e n hx=>?_,λb o e hx=>?_,λb xs e=>un2.tups b xs (I.base.tups b xs e),λb o xs e=>un2.frzs b o xs (I.base.frzs b o xs e),λb ps e=>?_⟩,hok2,fl'',λb o e hb=>?_,F.trk⟩,q⟩
 .exact un2.keep b o (I.base.keep b o e n hb (exn b)) (I.base.free b o e n (exn b)) (notin b o e hb) (by simp)
 .obtain⟨sl,e1⟩:=I.base.slot b o e n hb (exn b);obtain⟨sl',e2⟩:=un2.slot b _ e1 (I.base.free b o e n (exn b)) (by rw[hf];exact A_ _ hb) (by simp);exact⟨sl',e2⟩
 .obtain⟨o',e1⟩:=I.base.there b o e (exn b);exact un2.free b o' e1 (I.base.free b o e n (exn b)) (by simp)
 .obtain⟨o',e1⟩:=I.base.there b o e (exn b);exact un2.there b o' e1 (by simp)
 .obtain⟨m1,e1⟩:=I.base.tbls b ps e;obtain⟨m2,e2⟩:=un2.tbls b _ e1;exact⟨m1++m2,by rw[e2,Array.append_assoc]⟩
 .obtain⟨o',e1⟩:=I.base.there b o e (exn b);exact F.old b o' e1 (notin b o e hb)
def AL(T:X.Top)(hA:A.frames=some X.stack)(I:Inv X pins σ H s)(hx:Heap.MadeExcOf s.heap h' ea cls args)(q:E cls none H):
 wpAny (model X.prog X.w) A (leaving X.env (.ref ea)) (λ_ s''=>CX1 X.prog X.w X.outer X.H₀ X.s₀ E (.ref ea) s'') E' { s with heap:=h' }:=by
 have hf:=rK (outer:=X.outer) T.fr;have stk:=I.stack;rw[T.stk] at stk;have hin:∀env∈(X.env::X.outer),∀b,env.frame=some b->b∈frs (X.env::X.outer):=λenv he b hb=>List.mem_filterMap.mpr ⟨env,he,hb⟩;refine wpAny_leaves_madeW (base:=W.hideAll s.heap (frs (X.env::X.outer))) (h:=s.heap) (by rw[hA,T.stk]) T.fr (λb o q=>W.of_hideAll _ q) (W.funFrames_hide stk hin) hx λh'' t fl tup tn up=>?_;have inB:∀b o,s.heap.get? b=some o->b∉frs (X.env::X.outer)->(W.hideAll s.heap (frs (X.env::X.outer))).get? b=some o:=λb o e hb=>W.hideAll_get _ e hb;have free:∀b∈frs (X.env::X.outer),H b=none:=λb hb=>I.stkFree b (by rw[T.stk];exact hb);have up2:s.heap.UpToSlots h'':=(Heap.UpToSlots.of_keeps hx.keeps).trans up;have exn:∀b,b∉X.ex:=λb z=>by rw[T.ex] at z;cases z
 have neL:∀b o,X.s₀.heap.get? b=some o->b≠X.env.locals:=λb o e=>ML (I_ (Em e) I.ok.above);have notin:∀b o,X.s₀.heap.get? b=some o->b∉frs X.outer->b∉frs (X.env::X.outer):=λb o e hb z=>by
  rw[hf] at z;rcases MN.mp z with z |z
  .exact neL b o e z
  .exact hb z
 have trk:∀b o,H b=some o->∃o',(W.hideAll s.heap (frs (X.env::X.outer))).get? b=some o':=λb o e=>by obtain⟨u,hu⟩:=(I.hok b o e).there;exact⟨u,inB b u hu λz=>by rw[free b z] at e;cases e⟩
 refine⟨ea,t,cls,H,_,rfl,I.os,I.bare,⟨⟨λb o e n hb hx=>?_,λb o e n hb hx=>?_,λb o e n hx=>?_,λb o e hx=>?_,I.base.tups,I.base.frzs,I.base.tbls⟩,λa o e=>?_,fl,λb o e hb=>?_,trk⟩,q⟩
 .exact fl.1 b o (inB b o (I.base.keep b o e n hb (exn b)) (notin b o e hb))
 .obtain⟨sl,e1⟩:=I.base.slot b o e n hb (exn b);obtain⟨_,o',ho',hd⟩:=I.ok.funs.mem hb;rw[e] at ho';cases ho';obtain⟨sl',e2⟩:=up2 b _ e1 hd;exact⟨sl',e2⟩
 .exact I.base.free b o e n (exn b)
 .obtain⟨o',e1⟩:=I.base.there b o e (exn b);by_cases hb:b∈frs X.outer
  .obtain⟨_,o2,ho2,hd⟩:=I.funs.mem hb;rw[e1] at ho2;cases ho2;obtain⟨sl',e2⟩:=up2 b _ e1 hd;exact⟨_,e2⟩
  .exact⟨o',fl.1 b o' (inB b o' e1 (notin b o e hb))⟩
 .refine (I.hok a o e).stay (λb u hb q=>?_) (λ_ q=>q) λ_ _ q=>q;refine fl.1 b u (inB b u q λz=>?_);rcases hb with y |y
  .rw[y] at z;rw[free a z] at e;cases e
  .rw[free b z] at y;cases y
 .obtain⟨o',e1⟩:=I.base.there b o e (exn b);exact⟨o',inB b o' e1 (notin b o e hb)⟩
end
section
variable{P:Program}{w:World}{K:W.Frag}{mg:Pa}{base:Heap}{N:List Str}{qual:Str}{scope:Scope}{f:Addr}{cd:Value}{A:Around}{outer:List Env}{s:Shared}{H:Hp}{E:XK}
def Co:(eJ (CX1 P w) P w K mg base N qual scope f cd A outer s H E).Top:=⟨rfl,rfl,rfl⟩
def Kl:sQ (CX1 P w) (eJ (CX1 P w) P w K mg base N qual scope f cd A outer s H E) E:=λpins σ H s e s' I h=>yu Co I.ok.frames I h
def Kg:sQ (CX1 P w) X E0:=λpins σ H s e s' I ⟨_,_,_,_,_,_,_,_,_,q⟩=>q.elim
def n8:PassesOwn (model P w) (eJ (CX1 P w) P w K mg base N qual scope f cd A outer s H E).A (eJ (CX1 P w) P w K mg base N qual scope f cd A outer s H E).env (eJ (CX1 P w) P w K mg base N qual scope f cd A outer s H E).xe:=PassesOwn.leaving
def Rz(X:Cx)(E:XK):Prop:=∀(pins:Pb) (σ:St) (H:Hp) (s:Shared) (h':Heap) (ea:Addr) (cls:Value) (args:List Value),Inv X pins σ H s->Heap.MadeExcOf s.heap h' ea cls args->E cls none H->X.xe (.ref ea) { s with heap:=h' }
def rz1:Rz (eJ (CX1 P w) P w K mg base N qual scope f cd A outer s H E) E:=λpins σ H s h' ea cls args I hx q=>AL Co I.ok.frames I hx q
def Fun.okR{x qual:Str}{st:Stmt}{f:Addr}{fd:FuncData}{N ps:List Str}{k:Nat}{sp:Sp}(F:Fun K x qual st f fd)(S:FnScope N ps (bw st))(len:∀vs H Q E,sp vs H Q E->vs.length=ps.length)
 (j_:∀(cdv:Value) (A:Around) (outer:List Env) (s:Shared) (H:Hp) (vs:List V) (Q:VK) (E:XK),Room k (A.deeper (envOfC qual (bw st) s.heap.objs.size f cdv))->sp vs H Q E->
  ∃t,PSs (eJ (CX1 P w) P w K mg base N qual (bw st) f cdv A outer s H E) (bU st) t/\t { nx:=λ_ H'=>Q .non H',rt:=Q } (gb N vs) H):FnOk P w K mg base (CX1 P w) (k+1) f fd ps sp:=by
 obtain⟨oc,od,kV,doc,pm,an,cdv,ct,osl,rfl,lk,hcd⟩:=F.ex;exact Ku lk hcd S len λA outer s H vs Q E hr hsp=>j_ cdv A outer s H vs Q E hr hsp
end
abbrev me:List Value:=[.type "ValueError",.type "Exception",.type "BaseException",.type "object"]
def zj{K:W.Frag}{h:Heap}{C:Addr}(X:K.In h)(q:W.excIn K C me "ValueError.__new__"=true):
 ∃bm N nm q' bs hdct sn sub ab col dd k0 k1 k2 k3 k5 mN,h.get? C=some (excClassObj nm q' C N bs bm hdct sn sub ab col dd k0 k1 k2 k3 k5 "ValueError.__new__")/\h.Ns N mN/\mN "__init__"=none/\OwnTail h me bm:=by
 unfold W.excIn at q;split at q
 .rename_i dd cd sl ho;split at q
  .rename_i C' bm k0 k1 k2 k3 n k5 hm hs;simp only[z_,M8,Bool.not_eq_true'] at q;obtain⟨⟨⟨⟨⟨rfl,rfl⟩,hdel⟩,ht⟩,hok⟩,hni⟩:=q;obtain⟨nm,bs,mro,ns,qn,hd,sn,sub,ab,col,del⟩:=cd;dsimp only at hm hdel hok hni;subst hm hdel;have p_:sl=#[k0,k1,k2,k3,some (.builtin "ValueError.__new__"),k5]:=by obtain⟨l⟩:=sl;simp only at hs;rw[hs]
   subst p_;exact⟨bm,ns,nm,qn,bs,hd,sn,sub,ab,col,dd,k0,k1,k2,k3,k5,_,X _ _ ho,.of_isNs (W.isNs_of_in X hok),W.nsMap_none_of_in X hok hni,W.tail_of_in X ht⟩
  .cases q
 .cases q
section
variable{X:Cx}{x:Str}{C:Addr}{E:XK}{np cpos pos:Pos}{e₀:Expr}{es:List Expr}{ta:TA}
def IJ(C:Addr)(E:XK)(ta:TA):TS:=λ_ σ H=>ta σ H λvs H1=>vs.length<=sizeLine/\E (.ref C) none H1
def BI(hc:X.calm=true)(hR:Rz X E)(hg:Gl X x)(hm:X.mg x=some (.ref C))(hq:W.excIn X.K C me "ValueError.__new__"=true)(ha:PA X (e₀::es) ta)
 (he:starEach (e₀::es) X.env=(false,eval e₀ X.env)::starEach es X.env) (j':(backTo cpos (starEach es X.env)).any (·.1)=false) (hd:(x==("__debug__" : Str))=false):
 PS X (.Raise (some (.Call (.Name x np) (e₀::es) [] cpos)) none pos) (IJ C E ta):=by
 intro pins s σ H D I h;obtain⟨bm,N,nm,q',bs,hdct,sn,sub,ab,col,dd,k0,k1,k2,k3,k5,mN,hC,hN,hni,T⟩:=zj I.ok.mod.kin hq;refine wpAny_Raise_call_subT (C:=C) (nm:=nm) (q:=q') (N:=N) (bs:=bs) (bm:=bm) (hdct:=hdct) (sn:=sn) (sub:=sub) (ab:=ab) (col:=col) (dd:=dd) (k0:=k0) (k1:=k1) (k2:=k2) (k3:=k3) (k5:=k5)
  PySem.F.excBase_ValueError (mN:=mN) (T.hasType PySem.F.excBase_ValueError.hasBase) (I.ok.hd hc) (by rw[he];show (false || (backTo cpos (starEach es X.env)).any (·.1))=false;rw[j'];rfl) hni (oP I hg hm ⟨rfl,?_⟩ hd)
 have hA:=ha cpos pins s σ H _ I h;rw[he] at hA ⊢;refine Calls.evalArgs_plain (thn hA λus s2 ⟨vs,H2,I2,r2,hz,q2⟩=>⟨rfl,by rw[<- r2.length];exact hz,I2.bk _ _ hC,hN.keeps I2.bk,T.keeps I2.bk,λh' e hm'=>?_⟩);exact hR pins σ H2 s2 h' e _ _ I2 hm' q2
end
abbrev XS:=St->XK
abbrev TEx:=St->Hp->VK->XK->Prop
abbrev TSx:=Ends->XS->St->Hp->Prop
def XP(X:Cx)(pins:Pb)(E:XS)(e:Value)(s':Shared):Prop:=∃σ1 H1 s1,Inv X pins σ1 H1 s1/\CX1 X.prog X.w X.stack H1 s1 (E σ1) e s'
def PEx(X:Cx)(e:Expr)(t:TEx):Prop:=
 ∀(pins:Pb) (s:Shared) (σ:St) (H:Hp) (Q:VK) (E:XS),Inv X pins σ H s->t σ H Q (E σ)->wpAny (model X.prog X.w) X.A (eval e X.env) (EP X pins σ Q) (XP X pins E) s
structure XHand(K:W.Frag)(C:Addr):Prop where
 ty:W.typeIn K (.ref C)=some (.type "type")
 cls:(W.clsIn K C).isSome=true
 mb:W.mroIn K C (.type "BaseException")=some true
mutual
inductive Rep(K:W.Frag)(H:Hp):V->PyData->Prop where
 |non:Rep K H .non .none
 |bl (b:Bool):Rep K H (.bl b) (.bool b)
 |int (i:Int):Rep K H (.int i) (.int i)
 |str (x:Str):Rep K H (.str x) (.str x)
 |tup {a:Addr}{xs:List V}{ds:List PyData} (h:SqT K H a xs) (r:Reps K H xs ds):Rep K H (.ref a) (.tuple ds)
 |lst {a:Addr}{xs:List V}{ds:List PyData} (h:SqL K H a xs) (r:Reps K H xs ds):Rep K H (.ref a) (.list ds)
inductive Reps(K:W.Frag)(H:Hp):List V->List PyData->Prop where
 |nil:Reps K H [] []
 |cons {x:V}{d:PyData}{xs:List V}{ds:List PyData} (r:Rep K H x d) (rr:Reps K H xs ds):Reps K H (x::xs) (d::ds)
end
section
variable{X:Cx}{pins:Pb}{σ:St}{H:Hp}{s:Shared}{K:W.Frag}
def Rep.reads(I:Inv X pins σ H s)(r:Rep X.K H v d)(q:RelV v u):∃as,Reads s.heap u d as:=
 Rep.rec (motive_1:=λv d _=>∀u,RelV v u->∃as,Reads s.heap u d as) (motive_2:=λvs ds _=>∀us,Vals vs us->∃as,ReadsAll s.heap us ds as)
  (λu r=>by cases r;exact⟨_,.none⟩) (λb u r=>by cases r;exact⟨_,.bool b⟩) (λi u r=>by obtain⟨t,rfl⟩:=r;exact⟨_,.int i t⟩) (λx u r=>by obtain⟨t,rfl⟩:=r;exact⟨_,.str x t⟩)
  (λh _ ih u r=>by cases r;obtain⟨its,rv,⟨o,e,c,n,d⟩,_⟩:=I.tuple h;obtain⟨as,q⟩:=ih _ rv;exact⟨as,.tuple e c d (by simpa using q)⟩)
  (λh _ ih u r=>by cases r;obtain⟨its,rv,⟨o,n,e,c,_,d⟩,_⟩:=I.list h;obtain⟨as,q⟩:=ih _ rv;exact⟨_,.list e c d (by simpa using q)⟩)
  (λus r=>by cases r;exact⟨_,.nil⟩)
  (λ_ _ a b us q=>by
   cases q with
   |cons q1 q2=>obtain⟨as,h1⟩:=a _ q1;obtain⟨bs,h2⟩:=b _ q2;exact⟨_,.cons h1 h2⟩) r u q
end
section
variable{X:Cx}
noncomputable def shp(d:PyData):Bool:=d.canLay0&&decide (d.depth<=160)
def kP(h:shp d=true):d.canLay0=true:=(Bool.and_eq_true_iff.mp h).1
def sN{A:Around}{d e:PyData}(h:shp d=true)(hu:A.units+180<cLine):A.units+min d.depth e.depth<cLine:=by have h1:d.depth<=160:=of_decide_eq_true (Bool.and_eq_true_iff.mp h).2;have h2:min d.depth e.depth<=d.depth:=Nat.min_le_left _ _;omega
def wU(K:W.Frag):R2:=λx y H Q=>∃dx dy,Rep K H x dx/\Rep K H y dy/\shp dx=true/\shp dy=true/\Q (.bl (PyData.eqv dx dy)) H
def xj(K:W.Frag):R2:=λx y H Q=>∃dx dy,Rep K H x dx/\Rep K H y dy/\shp dx=true/\shp dy=true/\Q (.bl (!PyData.eqv dx dy)) H
def HV(hu:X.A.units+180<cLine):OpR X (compareOp .Eq) (wU X.K):=by intro pins s σ H x y v u Q I rx ry h;obtain⟨dx,dy,r1,r2,h1,h2,q⟩:=h;obtain⟨as,q1⟩:=r1.reads I rx;obtain⟨bs,q2⟩:=r2.reads I ry;exact SeqAt.compareEq_reads q1 q2 (kP h1) (kP h2) (sN h1 hu) (ka I q rfl)
def Hs(hu:X.A.units+180<cLine):OpR X (compareOp .NotEq) (xj X.K):=by intro pins s σ H x y v u Q I rx ry h;obtain⟨dx,dy,r1,r2,h1,h2,q⟩:=h;obtain⟨as,q1⟩:=r1.reads I rx;obtain⟨bs,q2⟩:=r2.reads I ry;exact SeqAt.compareNe_reads q1 q2 (kP h1) (kP h2) (sN h1 hu) (ka I q rfl)
open PySem.Builtin.Int (intBits)
def CDivB(i j:Int):Prop:=j≠0/\intBits j<=8000
def Ct(i j:Int):Prop:=intBits i<=100000/\intBits j<=100000
def A5:OpR X (binaryOp .FloorDiv) (rI CDivB λi j=>.int (i.fdiv j)):=opI λi j _ _ _ _ _ hc q=>floordiv_int hc.1 q (.inl (PyProof.noPylong_of_log2 (by
 have h:=hc.2;have h0:=hc.1;unfold intBits at h;have hb:(j==0)=false:=by simpa using h0
 rw[hb] at h;simp only[NQ,Ov] at h;omega)))
def EX:OpR X (binaryOp .Mult) (rI Ct λi j=>.int (i*j)):=opI λi j _ _ _ _ _ hc q=>mul_int q (PySem.IntMulOk.of_le hc.1 hc.2 (by decide))
def zu(bs:List Bool):((List.range bs.length).all λi=>bs.getD i false)=bs.all id:=by
 rw[Ox,MD,MD];constructor
 .intro h x hx;obtain⟨i,hi,rfl⟩:=List.mem_iff_getElem.mp hx
  have:=h i (NY.mpr hi)
  simpa [MV,hi] using this
 .intro h i hi;have hi':=NY.mp hi
  have:=h bs[i] (List.getElem_mem hi')
  simpa [MV,hi'] using this
def Bb(hc:X.calm=true):CallR X (.builtin "all") (λxs H Q=>∃(a:Addr) (bs:List Bool),xs=[.ref a]/\SqL X.K H a (bs.map V.bl)/\Q (.bl (bs.all id)) H):=by
 intro pins s σ H xs us Q I r h;obtain⟨a,bs,rfl,hq,q⟩:=h;obtain⟨u,rfl,ru⟩:=iS r;cases ru;obtain⟨its,rv,p,hz⟩:=I.list hq;have hl:=rv.length;rw[v_] at hl;have hlt:a<s.heap.objs.size:=by obtain⟨o,n,e,_⟩:=p;exact Em e
 refine call_all_walk (Oj p.isList ?_);refine⟨s.heap.objs.size,_,_,_,_,_,λi=>bs.getD i false,rfl,Walks.list (A:=X.A.in1) (I.ok.hd hc) s.heap.objs.size a (ML hlt) its.toArray,⟨⟨_,MB _ rfl,rfl,rfl⟩,(p.keeps λb o e=>C_ _ e).isList⟩,λi v s' Q' E' hP hQ=>?_,λh' tk hk=>?_⟩
 .have hP':its[i]?=some v:=by simpa using hP
  have hi:i<bs.length:=by rw[hl];exact (x_.mp hP').1
  have hb:(bs.map V.bl)[i]?=some (V.bl bs[i]):=by simp [hi]
  obtain⟨u,hu,ru⟩:=rv.get hb;rw[hP'] at hu;cases hu;cases ru;refine Nt ?_;have e:bs.getD i false=bs[i]:=by simp [MV,hi]
  show Q' bs[i] s';rw[<- e];exact hQ
 .have e1:its.toArray.size=bs.length:=by rw[J_,hl]
  rw[e1,zu];have hn:H s.heap.objs.size=none:=I.fresh;have I1:Inv X pins σ H { s with heap:=s.heap.push { cls:=.type "list_iterator",dict:=none,data:=.fields #[.ref a,rawInt 0] } }:=I.kept (t':=s.toks) λb o e=>C_ _ e;refine⟨.bl _,H,?_,rfl,q⟩;refine I.kept (t':=tk) λb o e=>?_;have hne:b≠s.heap.objs.size:=ML (Em e);exact hk b o (by simpa using hne) (C_ _ e)
end
structure Def(K:W.Frag)(mg:Pa)(x:Str)(st:Stmt):Prop where
 ex:∃f fd,Fun K x x st f fd/\mg x=some (.ref f)
def xr{K:W.Frag}{h:Heap}{mg:Pa}{x:Str}{st:Stmt}{f:Addr}{oc:Value}{od an:Option Addr}{osl:Array (Option Value)}{kV doc pm cdv ct:Value}(X:K.In h)(G:h.Ns mainGlobals mg)
 (a:W.nsIn K mainGlobals x=some (some (.ref f))) (l:K.lookup f=some ⟨oc,od,.func (W.fnOf x x (dg st) (bU st) (bw st) .none kV doc pm an cdv ct),osl⟩)
 (c:W.codeIn K cdv x=true) (k:W.keepIn K (.ref f)=true):Def K mg x st:=⟨f,_,IF l c k,W.mg_of X G a⟩
def Fun.look{K:W.Frag}{x qual:Str}{st:Stmt}{f:Addr}{fd:FuncData}(F:Fun K x qual st f fd):∃oc od osl,K.lookup f=some ⟨oc,od,.func fd,osl⟩:=by obtain⟨oc,od,kV,doc,pm,an,cdv,ct,osl,rfl,lk,hcd⟩:=F.ex;exact⟨oc,od,osl,lk⟩
structure Callee(P:Program)(w:World)(K:W.Frag)(mg:Pa)(base:Heap)(x:Str)(k:Nat)(ps:List Str)(sp:Sp):Prop where
 ex:∃f fd,FnOk P w K mg base (CX1 P w) k f fd ps sp/\mg x=some (.ref f)/\W.keepIn K (.ref f)=true/\Binds K fd ps []/\∃oc od osl,K.lookup f=some ⟨oc,od,.func fd,osl⟩
section
variable{P:Program}{w:World}{K:W.Frag}{mg:Pa}{base:Heap}{x:Str}{st:Stmt}{k:Nat}{ps N:List Str}{sp:Sp}
def Callee.imp(C:Callee P w K mg base x k ps sp)(h:∀vs H Q E,sp' vs H Q E->sp vs H Q E):Callee P w K mg base x k ps sp':=by obtain⟨f,fd,F,r⟩:=C.ex;exact⟨f,fd,F.imp h,r⟩
def Def.okR(D:Def K mg x st)(S:FnScope N ps (bw st))
 (hb:∀(kV doc pm:Value) (an:Option Addr) (cdv ct:Value) (us:List Value),us.length=ps.length->bindArgs (W.fnOf x x (dg st) (bU st) (bw st) .none kV doc pm an cdv ct) ⟨us,[]⟩=pure (ps.zip us))
 (len:∀vs H Q E,sp vs H Q E->vs.length=ps.length)
 (j_:∀(f:Addr) (cdv:Value) (A:Around) (outer:List Env) (s:Shared) (H:Hp) (vs:List V) (Q:VK) (E:XK),Room k (A.deeper (envOfC x (bw st) s.heap.objs.size f cdv))->sp vs H Q E->
  ∃t,PSs (eJ (CX1 P w) P w K mg base N x (bw st) f cdv A outer s H E) (bU st) t/\t { nx:=λ_ H'=>Q .non H',rt:=Q } (gb N vs) H):Callee P w K mg base x (k+1) ps sp:=by
 obtain⟨f,fd,F,m⟩:=D.ex;exact⟨f,fd,F.okR S len (j_ f),m,F.kp,F.binds hb,F.look⟩
end
section
variable{X:Cx}{K:W.Frag}
def allK(h:X.K=K)(hc:X.calm=true):CallR X (.builtin "all") (λxs H Q=>∃(a:Addr) (bs:List Bool),xs=[.ref a]/\SqL K H a (bs.map V.bl)/\Q (.bl (bs.all id)) H):=by subst h;exact Bb hc
def Room.u180(r:Room k A):A.units+180<cLine:=by have:=r.un;omega
def eqDK(h:X.K=K)(hu:X.A.units+180<cLine):OpR X (compareOp .Eq) (wU K):=by subst h;exact HV hu
def neDK(h:X.K=K)(hu:X.A.units+180<cLine):OpR X (compareOp .NotEq) (xj K):=by subst h;exact Hs hu
def inK(h:X.K=K):OpR X (compareOp .In) (rIn K false):=by subst h;exact yn
def Iw(h:X.K=K):OpR X (compareOp .NotIn) (rIn K true):=by subst h;exact rZ
end
section
variable{X:Cx}
def xu{g_ a_ tg:Expr}{ifs:List Expr}{scope:Scope}{pos:Pos}{wi:TI}{g:TG}{tc:TT}{te:TE}{N:List Str}{sub:Pd}{iT:Nat}{xT:Str}{px spos:Pos}
 (hc:X.calm=true) (hN:X.N.Nodup) (hix:X.N[iT]?=some xT) (hxl:Loc X.env.scope xT) (hi:PI X tg a_ wi)
 (hk:scope.kind=.function) (o_:∀x∈scope.names,x.2 ≠ .cell) (b_:∀x∈scope.names,x.2=.local->scope.names.lookup x.1=some .local)
 (l_:∀x∈scope.names,x.2=.free->X.env.kindOf x.1=some .cell\/X.env.kindOf x.1=some .free)
 (p_:sub.length=N.length) (f_:∀(j i:Nat) (x:Str),sub[j]?=some (some i)->N[j]?=some x->X.N[i]?=some x/\scope.names.lookup x=some .free)
 (hg:∀cl C s₂ H fp,PG (bz X N scope cl C s₂ H fp) tg g) (ht:∀cl C s₂ H fp,PTs (bz X N scope cl C s₂ H fp) ifs tc) (he:∀cl C s₂ H fp,PE (bz X N scope cl C s₂ H fp) g_ te)
 (hsw:swapsWith (.ListComp g_ [⟨tg,a_,ifs,0⟩] scope pos) (some (.Name xT px)) spos.line X.env=pure true)
 (hs:∀x,foldedSetIterable a_ X.env x=pure x) (hf:X.fn xT=true\/X.env.scope.names.lookup xT=some .local):
 PS X (.Assign [.Name xT px] (.ListComp g_ [⟨tg,a_,ifs,0⟩] scope pos) spos) (rB (iP wi sub g tc te) (nU iT)):=by
 intro pins s σ H D0 I h;rw[exec_Assign_Name_used _ _ _ _ hsw];refine w_ (Oq (w_ ?_));show wpAny _ X.A (do let _ <- comprehension (.ListComp g_ [⟨tg,a_,ifs,0⟩] scope pos) scope X.env _ (newList []) false (eval a_ X.env) (some (assign (.Name xT px) X.env))) _ _ s;refine w_ (M6 (vo (use:=some (assign (.Name xT px) X.env)) (R:=λ_ s'=>SP X pins D0 .next s') hc hi hk o_ b_ l_ p_ f_ hg ht he hs I h λD C s4 e=>?_) (λ_ s' hq=>F_ (F_ hq)) λ_ _ e=>e);obtain⟨m,hm⟩:=e.ns;obtain⟨H',hC,q,i⟩:=e.inv;have dc:=e.dc;have fr:=e.fr;refine wpAny_assign_Name (pf (v:=.ref D) (i s4.heap ⟨rfl,λ_ _=>rfl⟩) hN hix hxl rfl (λs7 I7 ⟨a7,sb7,ha7⟩=>?_) hf);have ha:a7<D:=by
  rcases ha7 with z |z
  .rw[z];exact fr
  .exact e.cell xT a7 z
 refine⟨m,hm.sameBut sb7 (N_ (OC ha dc)),λh8 hs8=>⟨_,_,I7.turned (it:=C) (t':=s7.toks) (λb o hb e=>hs8.extBut b o hb e) hC (N_ (OC fr dc)) (.inr (G_ e.sz (Nat.le_of_lt dc))) (λx c q=>ML (OC (e.cell x c q) dc)) (λp hp=>ML (OC (e.pin p hp) dc)),q⟩⟩
def Lc{g_ a_ tg:Expr}{scope:Scope}{pos px spos:Pos}{wi:TI}{g:TG}{te:TE}{iT:Nat}{xT:Str}(M:List Str)(kn:List (Str×NameKind))(N:List Str)(sub:Pd)
 (hc:X.calm=true) (hN:X.N.Nodup) (hix:X.N[iT]?=some xT) (hxl:Loc X.env.scope xT) (hi:PI X tg a_ wi)
 (hg:∀cl C s₂ H fp,PG (bz X N scope cl C s₂ H fp) tg g) (he:∀cl C s₂ H fp,PE (bz X N scope cl C s₂ H fp) g_ te)
 (hsw:swapsWith (.ListComp g_ [⟨tg,a_,[],0⟩] scope pos) (some (.Name xT px)) spos.line X.env=pure true)
 (hM:X.N=M) (hkn:X.env.scope.names=kn) (f_:dE M scope.names sub N=true)
 (hk:scope.kind=.function) (o_:∀x∈scope.names,x.2 ≠ .cell) (b_:∀x∈scope.names,x.2=.local->scope.names.lookup x.1=some .local)
 (l_:eS kn scope.names=true)
 (p_:sub.length=N.length) (hs:∀x,foldedSetIterable a_ X.env x=pure x) (hf:X.fn xT=true\/X.env.scope.names.lookup xT=some .local):
 PS X (.Assign [.Name xT px] (.ListComp g_ [⟨tg,a_,[],0⟩] scope pos) spos) (rB (iP wi sub g zX te) (nU iT)):=
 xu hc hN hix hxl hi hk o_ b_ (by subst hkn;exact kW l_) p_ (by subst hM;exact jS f_) hg (λcl C s₂ H fp=>uZ) he hsw hs hf
end
theorem oT:∀{ns:List Int}{its:List Value},Vals (ns.map V.int) its->IntsAre its ns
 | [],_,h=>by cases h;exact .nil
 |
  i::r,_,h=>by
  cases h with
  |cons h1 h2=>obtain⟨t,rfl⟩:=h1;exact .cons i t (oT h2)
def gA{X:Cx}{K:W.Frag}(hK:X.K=K)(hc:X.calm=true):CallR X (.builtin "sum") (λxs H Q=>∃(a:Addr) (ns:List Int),xs=[.ref a]/\SqL K H a (ns.map V.int)/\Q (.int ns.sum) H):=by
 subst hK;intro pins s σ H xs us Q I r h;obtain⟨a,ns,rfl,hq,q⟩:=h;obtain⟨u,rfl,ru⟩:=iS r;cases ru;obtain⟨its,rv,p,hz⟩:=I.list hq;have hi:=oT rv;obtain⟨ys,hy⟩:=hi.allInts.items;have hn:numsOf its.toArray.toList=ns:=by rw[show its.toArray.toList=its from rfl,hi.numsOf]
 have pl:=p.isList;rw[hy] at pl hn;rw[nums_intItems] at hn;refine sum_intListG (I.ok.hd hc) pl λh' tk t' hk=>?_;rw[preSum_eq,NB (by simp),hn];exact⟨.int ns.sum,H,I.kept (t':=tk) hk,⟨_,rfl⟩,q⟩
end L2
namespace Fr
noncomputable def dv(a b:Int):Int:=if b<0 then -((Int.gcd a b:Nat):Int) else ((Int.gcd a b:Nat):Int)
def T(a b:Int):Int:=a.fdiv (dv a b)
def B(a b:Int):Int:=b.fdiv (dv a b)
def sJ(hb:b≠0):0<Int.gcd a b:=Int.gcd_pos_of_ne_zero_right a hb
def dv_ne(hb:b≠0):dv a b≠0:=by
 have:=sJ (a:=a) hb
 unfold dv;split <;> omega
def BH(a b:Int):dv a b ∣ a:=by
 have h:((Int.gcd a b:Nat):Int) ∣ a:=Int.gcd_dvd_left a b;unfold dv;split
 .exact Int.neg_dvd.mpr h
 .exact h
def zB(a b:Int):dv a b ∣ b:=by
 have h:((Int.gcd a b:Nat):Int) ∣ b:=Int.gcd_dvd_right a b;unfold dv;split
 .exact Int.neg_dvd.mpr h
 .exact h
def uA{a d q:Int}(hd:d≠0)(h:a=d*q):a.fdiv d=q:=by rw[h,N7];exact Int.mul_fdiv_cancel q hd
def T_mul(hb:b≠0):T a b*dv a b=a:=by obtain⟨q,h⟩:=BH a b;have:T a b=q:=uA (dv_ne hb) h;rw[this,N7];exact h.symm
def B_mul(hb:b≠0):B a b*dv a b=b:=by obtain⟨q,h⟩:=zB a b;have:B a b=q:=uA (dv_ne hb) h;rw[this,N7];exact h.symm
def B_pos(hb:b≠0):0<B a b:=by
 have h:=B_mul (a:=a) hb;have hg:=sJ (a:=a) hb;generalize hx:B a b=x at h ⊢;unfold dv at h;split at h
 .rename_i hneg;have h2:x*((Int.gcd a b:Nat):Int)=-b:=by rw[Int.mul_neg] at h;omega
  rcases Int.lt_or_le 0 x with z |z
  .exact z
  .have:x*((Int.gcd a b:Nat):Int)<=0:=Int.mul_nonpos_of_nonpos_of_nonneg z (by omega);omega
 .rename_i hpos;rcases Int.lt_or_le 0 x with z |z
  .exact z
  .have:x*((Int.gcd a b:Nat):Int)<=0:=Int.mul_nonpos_of_nonpos_of_nonneg z (by omega);omega
def cross(hb:b≠0):T a b*b=a*B a b:=by have h1:=T_mul (a:=a) hb;have h2:=B_mul (a:=a) hb;generalize T a b=x at *;generalize B a b=y at *;generalize dv a b=d at *;rw[<- h2,<- h1];rw[<- Nu,N8]
def dv_abs(a b:Int):(dv a b).natAbs=Int.gcd a b:=by unfold dv;split <;> simp
def low(hb:b≠0):Int.gcd (T a b) (B a b)=1:=by
 have h1:=T_mul (a:=a) hb;have h2:=B_mul (a:=a) hb;have hg:=sJ (a:=a) hb;have e1:a.natAbs=(T a b).natAbs*Int.gcd a b:=by rw[<- dv_abs a b,<- NL,h1]
 have e2:b.natAbs=(B a b).natAbs*Int.gcd a b:=by rw[<- dv_abs a b,<- NL,h2]
 have e3:Int.gcd a b=Nat.gcd ((T a b).natAbs*Int.gcd a b) ((B a b).natAbs*Int.gcd a b):=by rw[<- e1,<- e2];rfl
 rw[Nat.gcd_mul_right] at e3;show Nat.gcd (T a b).natAbs (B a b).natAbs=1;generalize Nat.gcd (T a b).natAbs (B a b).natAbs=k at *;generalize Int.gcd a b=g at *;have:(1:Nat)*g=k*g:=by omega
 exact (Nat.eq_of_mul_eq_mul_right hg this).symm
def uniq(hy:0<y)(hy':0<y')(h:Int.gcd x y=1)(h':Int.gcd x' y'=1)(e:x*y'=x'*y):x=x'/\y=y':=by
 have c1:Nat.Coprime y.natAbs x.natAbs:=by rw[Nat.coprime_comm];exact h
 have c2:Nat.Coprime y'.natAbs x'.natAbs:=by rw[Nat.coprime_comm];exact h'
 have e1:x.natAbs*y'.natAbs=x'.natAbs*y.natAbs:=by rw[<- NL,<- NL,e]
 have d1:y.natAbs ∣ y'.natAbs:=c1.dvd_of_dvd_mul_left (by rw[e1];exact Nat.dvd_mul_left _ _);have d2:y'.natAbs ∣ y.natAbs:=c2.dvd_of_dvd_mul_left (by rw[<- e1];exact Nat.dvd_mul_left _ _);have ey:y.natAbs=y'.natAbs:=Nat.dvd_antisymm d1 d2;have ey':y=y':=by omega
 subst ey';exact⟨N2 (by omega) e,rfl⟩
def same(hb:b≠0)(hd:d≠0)(e:a*d=c*b):T a b=T c d/\B a b=B c d:=by
 refine uniq (B_pos hb) (B_pos hd) (low hb) (low hd) ?_;have h1:=cross (a:=a) hb;have h2:=cross (a:=c) hd;have hbd:b*d≠0:=ND hb hd;refine N2 hbd ?_
 calc T a b*B c d*(b*d)=(T a b*b)*(B c d*d):=by rw[Nu,NV (B c d) b d,<- Nu]
  _=(a*B a b)*(B c d*d):=by rw[h1]
  _=(a*d)*(B c d*B a b):=by rw[Nu a,Nu a,NV (B a b),NV d,N7 (B a b) d]
  _=(c*b)*(B c d*B a b):=by rw[e]
  _=(c*B c d)*(B a b*b):=by rw[Nu c,Nu c,NV b,N7 b (B a b)]
  _=(T c d*d)*(B a b*b):=by rw[<- h2]
  _=T c d*B a b*(b*d):=by rw[Nu,Nu,NV d,N7 d b]
def self(hb:0<b)(h:Int.gcd a b=1):T a b=a/\B a b=b:=
 uniq (B_pos (by omega)) hb (low (by omega)) h (cross (by omega))
def euc(m n:Nat):Nat.gcd n (m % n)=Nat.gcd m n:=by rw[Nat.gcd_comm,<- Nat.gcd_rec,Nat.gcd_comm]
end Fr
set_option maxHeartbeats 1000000
namespace L2
open PySem PySem.Spec PyProof.Rows
def Inv.turnedL{X:Cx}{pins:Pb}{σ:St}{H:Hp}{s:Shared}{h':Heap}{t':Nat}{ch:List Addr}(I:Inv X pins σ H s)(k:∀b o,b∉ch->s.heap.get? b=some o->h'.get? b=some o)(hf:∀b∈ch,FpOk X pins H b):Inv X pins σ H { s with heap:=h',toks:=t' }:=by
 have away:∀b u,H b=some u->b∉ch:=λb u e z=>by have:=(hf b z).1;rw[e] at this;cases this
 refine I.step (g':=s.gens) (d':=s.drawn) (ch:=ch) (λb hb=>⟨(hf b hb).2.2.2.1,(hf b hb).2.1,(hf b hb).2.2.2.2.1,(hf b hb).2.2.2.2.2⟩) (λb o _ _ hc e _=>k b o hc e) (λb o _ _ hc e _=>⟨o.slots,k b o hc e⟩) (λ_ _ _ _ n=>n)
  (λb o hc e=>⟨o,k b o hc e⟩) (λ_ _ e=>e) (λ_ _ _ e=>e) (λb ps e=>⟨#[],by rw[e];simp⟩) (λm hm=>?_) (λb u e=>?_) I.bare
 .obtain⟨o,es,ep,ho,r⟩:=hm;exact⟨o,es,ep,k _ o (λz=>(hf _ z).2.1 rfl) ho,r⟩
 .refine (I.hok b u e).stay (λc v hc q=>k c v ?_ q) (λ_ q=>q) λ_ _ q=>q;rcases hc with z |z
  .rw[z];exact away b u e
  .exact away c _ z
def FpOk.up(f:FpOk X pins H b)(hn:b≠p):FpOk X pins (upd H p o) b:=⟨by rw[bE hn];exact f.1,f.2⟩
def vT(hj:s.heap.IsTupleIter j t n)(ht:s.heap.IsTuple t its)(hv:its[n]?=some v)
 (k:∀h',h'.IsTupleIter j t (n+1)->Heap.SameBut j s.heap h'->Q v { s with heap:=h' }):wpAny (model prog w) A (Builtin.SmallTypes.nextOf (.ref j)) Q E s:=by
 obtain⟨oj,ej,cj,dj⟩:=id hj;obtain⟨ot,et,_,m,dt⟩:=ht;unfold Builtin.SmallTypes.nextOf;refine w_ (Nv (name:=Str.ofString "__next__") hj.typeIs NI (N1 NI hj.typeIs F.entry_tuple_iterator_next ?_ (F.args_tuple_iterator_next_1 _)));show wpAny _ _ (field (.ref j) 0 >>= _) _ _ s;refine w_ (M_ ej dj (x:=.ref t) rfl ?_);show wpAny _ _ (if (Value.ref t==Value.none)=true then _ else _) _ _ s;rw[if_neg (show ¬ ((Value.ref t==Value.none)=true) from D_)];show wpAny _ _ (field (.ref j) 1 >>= _) _ _ s;refine w_ (M_ ej dj (x:=.int n 0) rfl ?_);show wpAny _ _ (seqItems? (.ref t) >>= _) _ _ s;refine w_ (NA et dt ?_);simp only[Og,hv];refine w_ (wpAny_setField ej dj (by simp) (F_ ⟨v,rfl,F_ (k _ ?_ (Heap.SameBut.update ..))⟩));exact⟨_,Heap.get?_update_self _ ej (Obj.isFreed_of_fields (Obj.data_mapFields dj _)),(Obj.cls_mapFields ..).trans cj,by rw[Obj.data_mapFields dj];simp [rawInt]⟩
def oG(hh:A.handled=none)(hj:s.heap.IsTupleIter j t n)(ht:s.heap.IsTuple t its)(hv:its[n]?=none)
 (k:∀h' e,Heap.ExtBut j s.heap h'->(∃o,h'.get? e=some o/\o.cls=.type "StopIteration")->E (.ref e) { s with heap:=h' }):wpAny (model prog w) A (Builtin.SmallTypes.nextOf (.ref j)) Q E s:=by
 obtain⟨oj,ej,cj,dj⟩:=id hj;obtain⟨ot,et,_,m,dt⟩:=ht;unfold Builtin.SmallTypes.nextOf;refine w_ (Nv (name:=Str.ofString "__next__") hj.typeIs NI (N1 NI hj.typeIs F.entry_tuple_iterator_next ?_ (F.args_tuple_iterator_next_1 _)));show wpAny _ _ (field (.ref j) 0 >>= _) _ _ s;refine w_ (M_ ej dj (x:=.ref t) rfl ?_);show wpAny _ _ (if (Value.ref t==Value.none)=true then _ else _) _ _ s;rw[if_neg (show ¬ ((Value.ref t==Value.none)=true) from D_)];show wpAny _ _ (field (.ref j) 1 >>= _) _ _ s;refine w_ (M_ ej dj (x:=.int n 0) rfl ?_);show wpAny _ _ (seqItems? (.ref t) >>= _) _ _ s;refine w_ (NA et dt ?_);simp only[Og,hv];refine w_ (wpAny_rule (w_ (wpAny_setField ej dj (by simp) ?_)));show wpAny _ _ (newExc (.type "StopIteration") [] >>= _) _ _ _;refine w_ ?_;simp only[newExc,newTuple];refine w_ (Nj ?_ (by size_fits));refine w_ (m:=firstArgMember _ _) (wpAny_of_eq (a:=Value.none) (by first |rfl |(simp only[firstArgMember];rfl)) ?_);refine Nj ?_ (by size_fits);simp only[raiseNew];refine w_ (wpAny_handled ?_);first |rw[show A.in1.handled=none from hh] |rw[hh]
 refine w_ (F_ (wpAny_throw ?_));exact k _ _ (((Heap.SameBut.update ..).extBut.push _).push _) ⟨_,MB _ rfl,rfl⟩
def SqB(K:W.Frag)(b:Bool)(H:Hp)(a:Addr)(xs:List V):Prop:=match b with
 |true=>SqL K H a xs
 |false=>SqT K H a xs
def ItB(b:Bool)(h:Heap)(j a:Addr)(i:Nat):Prop:=match b with
 |true=>h.IsListIter j a i
 |false=>h.IsTupleIter j a i
def SqB.inj(I:Inv X pins σ H s)(x:SqB X.K b H a xs)(y:SqB X.K b H a ys):xs=ys:=by
 cases b with
 |true=>exact I.list_inj x y
 |false=>exact I.tuple_inj x y
noncomputable def IteE(K:W.Frag)(b:Bool)(a:Addr):It:=
 ⟨λi H=>∃xs x,SqB K b H a xs/\xs[i]?=some x,λi H x H'=>∃p u,x=.ref p/\H p=none/\H'=upd H p (.tup [.int (i:Nat),u])/\∀xs,SqB K b H a xs->xs[i]?=some u,λi H=>∃xs,SqB K b H a xs/\xs.length=i⟩
def kY(z:ItB b h j a i):∃o,h.get? j=some o/\(∀v,o.data ≠ .cell v)/\o.cls=.type (if b then "list_iterator" else "tuple_iterator"):=by
 cases b with
 |true=>obtain⟨o,e,c,d⟩:=z;exact⟨o,e,(λv y=>by rw[d] at y;cases y),c⟩
 |false=>obtain⟨o,e,c,d⟩:=z;exact⟨o,e,(λv y=>by rw[d] at y;cases y),c⟩
def cP(z:ItB b h j a i)(k:∀o,h.get? j=some o->h'.get? j=some o):ItB b h' j a i:=by
 cases b with
 |true=>obtain⟨o,e,r⟩:=z;exact⟨o,k o e,r⟩
 |false=>obtain⟨o,e,r⟩:=z;exact⟨o,k o e,r⟩
def LsB(b:Bool)(h:Heap)(a:Addr)(its:Array Value):Prop:=match b with
 |true=>h.IsList a its
 |false=>h.IsTuple a its
def LsB.keep(z:LsB b h a its)(k:∀o,h.get? a=some o->h'.get? a=some o):LsB b h' a its:=by cases b <;> (obtain⟨o,e,r⟩:=z;exact⟨o,k o e,r⟩)
def vz(hj:ItB b s.heap j a n)(ht:LsB b s.heap a its)(hv:its[n]?=some v)
 (k:∀h',ItB b h' j a (n+1)->Heap.SameBut j s.heap h'->Q v { s with heap:=h' }):wpAny (model prog w) A (Builtin.SmallTypes.nextOf (.ref j)) Q E s:=by
 cases b with
 |true=>exact wpAny_nextOf_list_item hj ht hv k
 |false=>exact vT hj ht hv k
def pG(hh:A.handled=none)(hj:ItB b s.heap j a n)(ht:LsB b s.heap a its)(hv:its[n]?=none)
 (k:∀h' e,Heap.ExtBut j s.heap h'->(∃o,h'.get? e=some o/\o.cls=.type "StopIteration")->E (.ref e) { s with heap:=h' }):wpAny (model prog w) A (Builtin.SmallTypes.nextOf (.ref j)) Q E s:=by
 cases b with
 |true=>exact wpAny_nextOf_list_end hh hj ht hv k
 |false=>exact oG hh hj ht hv k
section
variable{prog:Program}{w:World}{A:Around}{E:Pc}{s:Shared}{b1 b2:Bool}{z p q j1 j2 a1 a2:Addr}{n:Nat}{xs ys:Array Value}{x y u v:Value}
def zipN{Q:Pc}(D:ZipApart z p q j1 j2 a1 a2)(hz:IsZip s.heap z p q .none)(hp:IsPair s.heap p (.ref j1) (.ref j2))(hq:IsPair s.heap q u v)
 (i1:ItB b1 s.heap j1 a1 n) (i2:ItB b2 s.heap j2 a2 n) (l1:LsB b1 s.heap a1 xs) (l2:LsB b2 s.heap a2 ys) (ex:xs[n]?=some x) (ey:ys[n]?=some y)
 (k:∀h',IsZip h' z p q (rawInt s.heap.objs.size)->IsPair h' q x y->ItB b1 h' j1 a1 (n+1)->ItB b2 h' j2 a2 (n+1)->IsPair h' s.heap.objs.size x y->(∀c o,c≠z->c≠q->c≠j1->c≠j2->s.heap.get? c=some o->h'.get? c=some o)->Q (.ref s.heap.objs.size) { s with heap:=h' }):
 wpAny (model prog w) A (Builtin.«zip.__next__» ⟨[.ref z],[]⟩) (λk_ s'=>∃v,k_=.done (.ret v)/\Q v s') E s:=by
 show wpAny _ _ (field (.ref z) 2 >>= _) _ _ _;refine w_ (M_ hz rfl (x:=.bool false) rfl ?_);show wpAny _ _ (field (.ref z) 3 >>= _) _ _ _;refine w_ (M_ hz rfl (x:=.ref p) rfl ?_);refine w_ (NA hp rfl ?_);show wpAny _ _ (Builtin.SmallTypes.ownedTupleIsFree (.ref z) >>= _) _ _ _;refine w_ ?_;unfold Builtin.SmallTypes.ownedTupleIsFree;refine w_ (M_ hz rfl (x:=.none) rfl (F_ ?_));simp only[NM];refine w_ (wpAny_rule ?_);refine w_ (M_ hz rfl (x:=.ref q) rfl ?_);refine w_ (NC hz (by simp) λg1 (y1:IsZip g1 z p q .ellipsis) t1=>?_);refine w_ ?_;simp only[List.zipIdx_cons,List.zipIdx_nil,OA,OK];refine w_ (w_ (ON ?_));show wpAny _ _ (Builtin.SmallTypes.nextOf (.ref j1) >>= _) _ _ _;refine w_ (vz (cP i1 λo e=>t1.extBut _ _ D.i1z e) (l1.keep λo e=>t1.extBut _ _ D.l1z e) ex λg2 m1 t2=>F_ ?_);have q2:IsPair g2 q u v:=t2.extBut _ _ D.TOi1 (t1.extBut _ _ D.TOz hq);refine w_ (NA q2 rfl ?_);refine w_ (OI q2 λg3 (q3:IsPair g3 q x v) t3=>?_);refine w_ (wpAny_letGo (F_ ?_));refine w_ (w_ (ON ?_));show wpAny _ _ (Builtin.SmallTypes.nextOf (.ref j2) >>= _) _ _ _;refine w_ (vz (cP i2 λo e=>t3.extBut _ _ D.TOi2.symm (t2.extBut _ _ D.i12.symm (t1.extBut _ _ D.i2z e))) (l2.keep λo e=>t3.extBut _ _ D.l2TO (t2.extBut _ _ D.l2i1 (t1.extBut _ _ D.l2z e))) ey λg4 m2 t4=>F_ ?_);have q4:IsPair g4 q x v:=t4.extBut _ _ D.TOi2 q3;refine w_ (NA q4 rfl ?_);refine w_ (OI q4 λg5 (q5:IsPair g5 q x y) t5=>?_);refine w_ (wpAny_letGo (F_ (F_ ?_)));refine w_ (NA q5 rfl ?_);refine w_ (wpAny_newTuple ?_);have sz:g5.objs.size=s.heap.objs.size:=by rw[t5.1,t4.1,t3.1,t2.1,t1.1]
 have y5:IsZip g5 z p q .ellipsis:=t5.extBut _ _ D.TOz.symm (t4.extBut _ _ D.i2z.symm (t3.extBut _ _ D.TOz.symm (t2.extBut _ _ D.i1z.symm y1)));have all5:∀c o,c≠z->c≠q->c≠j1->c≠j2->s.heap.get? c=some o->g5.get? c=some o:=λc o c1 c2 c3 c4 e=>t5.extBut _ _ c2 (t4.extBut _ _ c4 (t3.extBut _ _ c2 (t2.extBut _ _ c3 (t1.extBut _ _ c1 e))));have n1:ItB b1 g5 j1 a1 (n+1):=cP m1 λo e=>t5.extBut _ _ D.TOi1.symm (t4.extBut _ _ D.i12 (t3.extBut _ _ D.TOi1.symm e));have n2:ItB b2 g5 j2 a2 (n+1):=cP m2 λo e=>t5.extBut _ _ D.TOi2.symm e;have zl:z<g5.objs.size:=Em y5;show wpAny _ _ (Builtin.SmallTypes.ownedTupleHandOut (.ref z) (.ref g5.objs.size) >>= _) _ _ _;refine w_ ?_;unfold Builtin.SmallTypes.ownedTupleHandOut;have y6:IsZip (g5.push { cls:=.type "tuple",data:=.seq #[x,y] }) z p q .ellipsis:=C_ _ y5;refine w_ (NC y6 (by simp) λg7 (y7:IsZip g7 z p q (rawInt g5.objs.size)) t7=>?_);refine NC y7 (by simp) λg8 (y8:IsZip g8 z p q (rawInt g5.objs.size)) t8=>?_;have up:∀c o,c≠z->g5.get? c=some o->g8.get? c=some o:=λc o c1 e=>t8.extBut _ _ c1 (t7.extBut _ _ c1 (C_ _ e));have w8:IsPair g8 g5.objs.size x y:=t8.extBut _ _ (N_ zl) (t7.extBut _ _ (N_ zl) (MB _ rfl));rw[sz] at y8 w8;refine F_ ⟨_,rfl,?_⟩;show Q (.ref g5.objs.size) _;rw[sz];exact k g8 y8 (up _ _ D.TOz q5) (cP n1 λo e=>up _ o D.i1z e) (cP n2 λo e=>up _ o D.i2z e) w8 λc o c1 c2 c3 c4 e=>up c o c1 (all5 c o c1 c2 c3 c4 e)
def An(hh:A.handled=none)(D:ZipApart z p q j1 j2 a1 a2)(hz:IsZip s.heap z p q .none)(hp:IsPair s.heap p (.ref j1) (.ref j2))(hq:IsPair s.heap q u v)
 (i1:ItB b1 s.heap j1 a1 n) (i2:ItB b2 s.heap j2 a2 n) (l1:LsB b1 s.heap a1 xs) (l2:LsB b2 s.heap a2 ys) (en:xs[n]?=none\/ys[n]?=none)
 (k:∀h' e,(∀c o,c≠z->c≠q->c≠j1->c≠j2->s.heap.get? c=some o->h'.get? c=some o)->(∃o,h'.get? e=some o/\o.cls=.type "StopIteration")->E (.ref e) { s with heap:=h' }):wpAny (model prog w) A (Builtin.«zip.__next__» ⟨[.ref z],[]⟩) Q E s:=by
 show wpAny _ _ (field (.ref z) 2 >>= _) _ _ _;refine w_ (M_ hz rfl (x:=.bool false) rfl ?_);show wpAny _ _ (field (.ref z) 3 >>= _) _ _ _;refine w_ (M_ hz rfl (x:=.ref p) rfl ?_);refine w_ (NA hp rfl ?_);show wpAny _ _ (Builtin.SmallTypes.ownedTupleIsFree (.ref z) >>= _) _ _ _;refine w_ ?_;unfold Builtin.SmallTypes.ownedTupleIsFree;refine w_ (M_ hz rfl (x:=.none) rfl (F_ ?_));simp only[NM];refine w_ (wpAny_rule ?_);refine w_ (M_ hz rfl (x:=.ref q) rfl ?_);refine w_ (NC hz (by simp) λg1 (y1:IsZip g1 z p q .ellipsis) t1=>?_);refine w_ ?_;simp only[List.zipIdx_cons,List.zipIdx_nil,OA,OK];refine w_ (w_ (ON ?_));show wpAny _ _ (Builtin.SmallTypes.nextOf (.ref j1) >>= _) _ _ _;cases ex:xs[n]? with
 |
  none=>
  refine w_ (pG hh (cP i1 λo e=>t1.extBut _ _ D.i1z e) (l1.keep λo e=>t1.extBut _ _ D.l1z e) ex λg2 e t2 ⟨oe,he,ce⟩=>?_);have y2:IsZip g2 z p q .ellipsis:=t2 _ _ D.i1z.symm y1;have ez:e≠z:=λw=>by subst w;rw[y2] at he;cases he;simp at ce
  exact NC y2 (by simp) λg3 _ t3=>k g3 e (λc o c1 _ c3 _ w=>t3.extBut _ _ c1 (t2 _ _ c3 (t1.extBut _ _ c1 w))) ⟨oe,t3.extBut _ _ ez he,ce⟩
 |
  some x=>
  have ey:ys[n]?=none:=en.resolve_left λw=>by rw[ex] at w;cases w
  refine w_ (vz (cP i1 λo e=>t1.extBut _ _ D.i1z e) (l1.keep λo e=>t1.extBut _ _ D.l1z e) ex λg2 m1 t2=>F_ ?_);have q2:IsPair g2 q u v:=t2.extBut _ _ D.TOi1 (t1.extBut _ _ D.TOz hq);refine w_ (NA q2 rfl ?_);refine w_ (OI q2 λg3 q3 t3=>?_);refine w_ (wpAny_letGo (F_ ?_));refine w_ (w_ (ON ?_));show wpAny _ _ (Builtin.SmallTypes.nextOf (.ref j2) >>= _) _ _ _;refine w_ (pG hh (cP i2 λo e=>t3.extBut _ _ D.TOi2.symm (t2.extBut _ _ D.i12.symm (t1.extBut _ _ D.i2z e))) (l2.keep λo e=>t3.extBut _ _ D.l2TO (t2.extBut _ _ D.l2i1 (t1.extBut _ _ D.l2z e))) ey λg4 e t4 ⟨oe,he,ce⟩=>?_);have y4:IsZip g4 z p q .ellipsis:=t4 _ _ D.i2z.symm (t3.extBut _ _ D.TOz.symm (t2.extBut _ _ D.i1z.symm y1));have ez:e≠z:=λw=>by subst w;rw[y4] at he;cases he;simp at ce
  exact NC y4 (by simp) λg5 _ t5=>k g5 e (λc o c1 c2 c3 c4 w=>t5.extBut _ _ c1 (t4 _ _ c4 (t3.extBut _ _ c2 (t2.extBut _ _ c3 (t1.extBut _ _ c1 w))))) ⟨oe,t5.extBut _ _ ez he,ce⟩
end
noncomputable def Ap(b:Bool):String:=if b then "list_iterator" else "tuple_iterator"
def uS(h:LsB b s.heap a its)(k:Q (.ref s.heap.objs.size) { s with heap:=s.heap.push { cls:=.type (Ap b),data:=.fields #[.ref a,.int 0 0] } }):wpAny (model prog w) A (pyIter (.ref a)) Q E s:=by
 cases b with
 |true=>exact Oj h k
 |false=>exact wpAny_pyIter_tuple h k
abbrev zp1(h:Heap)(b:Bool)(a:Addr):Heap:=h.push { cls:=.type (Ap b),data:=.fields #[.ref a,.int 0 0] }
abbrev zp2(h:Heap)(b c:Bool)(a d:Addr):Heap:=zp1 (zp1 h b a) c d
abbrev zp3(h:Heap)(b c:Bool)(a d:Addr):Heap:=(zp2 h b c a d).push { cls:=.type "tuple",data:=.seq #[.ref h.objs.size,.ref (zp1 h b a).objs.size] }
abbrev zp4(h:Heap)(b c:Bool)(a d:Addr):Heap:=(zp3 h b c a d).push { cls:=.type "tuple",data:=.seq #[.none,.none] }
abbrev zp5(h:Heap)(b c:Bool)(a d:Addr):Heap:=(zp4 h b c a d).push { cls:=.type "zip",data:=.fields #[.none,.bool false,.bool false,.ref (zp2 h b c a d).objs.size,.ref (zp3 h b c a d).objs.size] }
def BN(b c:Bool)(a d:Addr)(xs ys:Array Value):Meets (Builtin.«zip.__new__» ⟨[.type "zip",.ref a,.ref d],[]⟩) (λ_ R s=>LsB b s.heap a xs/\LsB c s.heap d ys/\R (.ok (.ret (.ref (zp4 s.heap b c a d).objs.size))) { s with heap:=zp5 s.heap b c a d }):=
 .of_wp λprog w A R s h=>by
  obtain⟨hp,g,dr,tk,os⟩:=s;obtain⟨la,ld,h⟩:=h;have f_:=sub_zip;have L1:LsB b (Shared.heap ⟨hp,g,dr,tk,os⟩) a xs:=la;have L2':LsB c (Shared.heap ⟨hp.push { cls:=.type (Ap b),data:=.fields #[.ref a,.int 0 0] },g,dr,tk,os⟩) d ys:=ld.keep λo e=>C_ _ e
  wp_walk using uS L1,uS L2'
  exact⟨_,rfl,h⟩
def zh(la:LsB b s.heap a xs)(ld:LsB c s.heap d ys)
 (k:∀h',IsZip h' (s.heap.objs.size+4) (s.heap.objs.size+2) (s.heap.objs.size+3) .none->IsPair h' (s.heap.objs.size+2) (.ref s.heap.objs.size) (.ref (s.heap.objs.size+1))->IsPair h' (s.heap.objs.size+3) .none .none->
  ItB b h' s.heap.objs.size a 0->ItB c h' (s.heap.objs.size+1) d 0->(∀c o,s.heap.get? c=some o->h'.get? c=some o)->Q (.ref (s.heap.objs.size+4)) { s with heap:=h' }):wpAny (model prog w) A (call (.type "zip") [.ref a,.ref d]) Q E s:=by
 refine callType_new F.called_zip (by decide) (F.typeCall_zip_2 _ _) (F.newCall_zip_2 _ _) (λobj=>F.args_object_init_3 obj _ _) F.entry_zip_new (BN b c a d xs ys) ⟨la,ld,?_⟩;have n1:(zp1 s.heap b a).objs.size=s.heap.objs.size+1:=Od ..;have n2:(zp2 s.heap b c a d).objs.size=s.heap.objs.size+2:=by rw[Od,n1]
 have n3:(zp3 s.heap b c a d).objs.size=s.heap.objs.size+3:=by rw[Od,n2]
 have n4:(zp4 s.heap b c a d).objs.size=s.heap.objs.size+4:=by rw[Od,n3]
 have up:=λ{h:Heap}{x:Addr}{o:Obj} (o':Obj) (e:h.get? x=some o)=>C_ o' e;have e5:(zp5 s.heap b c a d).get? (zp4 s.heap b c a d).objs.size=some _:=MB _ rfl;have e4:(zp5 s.heap b c a d).get? (zp3 s.heap b c a d).objs.size=some _:=up _ (MB _ rfl);have e3:(zp5 s.heap b c a d).get? (zp2 s.heap b c a d).objs.size=some _:=up _ (up _ (MB _ rfl));have e2:(zp5 s.heap b c a d).get? (zp1 s.heap b a).objs.size=some _:=up _ (up _ (up _ (MB _ rfl)));have e1:(zp5 s.heap b c a d).get? s.heap.objs.size=some _:=up _ (up _ (up _ (up _ (MB _ rfl))));show _/\_;rw[n2,n3,n4] at e5;rw[n1,n2] at e3;rw[n3] at e4;rw[n1] at e2;rw[n4];have i1:ItB b (zp5 s.heap b c a d) s.heap.objs.size a 0:=by cases b <;> exact⟨_,e1,rfl,rfl⟩
 have i2:ItB c (zp5 s.heap b c a d) (s.heap.objs.size+1) d 0:=by cases c <;> exact⟨_,e2,rfl,rfl⟩
 exact⟨⟨_,e5,rfl⟩,k _ e5 e3 e4 i1 i2 λx o e=>up _ (up _ (up _ (up _ (up _ e))))⟩
noncomputable def ItZ(K:W.Frag)(b c:Bool)(a d:Addr):It:=
 ⟨λi H=>∃xs ys x y,SqB K b H a xs/\SqB K c H d ys/\xs[i]?=some x/\ys[i]?=some y,
  λi H x H'=>∃p u v,x=.ref p/\H p=none/\H'=upd H p (.tup [u,v])/\(∀xs,SqB K b H a xs->xs[i]?=some u)/\∀ys,SqB K c H d ys->ys[i]?=some v,
  λi H=>∃xs ys,SqB K b H a xs/\SqB K c H d ys/\(xs[i]?=none\/ys[i]?=none)⟩
def jw(I:Inv X pins σ H s)(hq:SqB X.K b H a xs):∃its:List Value,Vals xs its/\LsB b s.heap a its.toArray:=by
 cases b with
 |true=>obtain⟨its,rv,p,_⟩:=I.list hq;exact⟨its,rv,p.isList⟩
 |false=>obtain⟨its,rv,p,_⟩:=I.tuple hq;exact⟨its,rv,p⟩
def AV{P:Program}{w:World}{K:W.Frag}{elts:List Expr}{x1:Nat}{tp:Pos}(b c:Bool)(a d z p q j1 j2:Addr)(D:ZipApart z p q j1 j2 a d):
 Turn P w K (.Tuple elts x1 tp) (ItZ K b c a d) [z,p,q,j1,j2] z (λi h=>IsZip h z p q .none/\IsPair h p (.ref j1) (.ref j2)/\(∃u v,IsPair h q u v)/\ItB b h j1 a i/\ItB c h j2 d i) where
 mem:=by simp
 obj:=λi h st e he=>by
  obtain⟨s1,s2,⟨u,v,s3⟩,s4,s5⟩:=st;obtain⟨o4,k4,l4,_⟩:=kY s4;obtain⟨o5,k5,l5,_⟩:=kY s5;simp only[MN,List.not_mem_nil,or_false] at he;rcases he with rfl |rfl |rfl |rfl |rfl
  .exact⟨_,s1,λv y=>by cases y⟩
  .exact⟨_,s2,λv y=>by cases y⟩
  .exact⟨_,s3,λv y=>by cases y⟩
  .exact⟨o4,k4,l4⟩
  .exact⟨o5,k5,l5⟩
 keep:=λi h h' st k=>by obtain⟨s1,s2,⟨u,v,s3⟩,s4,s5⟩:=st;exact⟨k z (by simp) _ s1,k p (by simp) _ s2,⟨u,v,k q (by simp) _ s3⟩,cP s4 λo e=>k j1 (by simp) o e,cP s5 λo e=>k j2 (by simp) o e⟩
 item:=
  by
  intro X hP hw hK hc i pins s σ H E I hf st hg;subst hP hw hK;obtain⟨xs,ys,x,y,qx,qy,ex,ey⟩:=hg;obtain⟨s1,s2,⟨u,v,s3⟩,s4,s5⟩:=st;obtain⟨ix,rx,lx⟩:=jw I qx;obtain⟨iy,ry,ly⟩:=jw I qy;obtain⟨ux,hux,rux⟩:=rx.get ex;obtain⟨uy,huy,ruy⟩:=ry.get ey;have hTy:s.TypeIs (.ref z) "zip":=⟨_,s1,rfl⟩;have zl:=Em s1;have pl:=Em s2;have ql:=Em s3;obtain⟨o4,k4,_,_⟩:=kY s4;obtain⟨o5,k5,_,_⟩:=kY s5;have j1l:=Em k4;have j2l:=Em k5;unfold pyNext;refine w_ (OM (Nv (name:=Str.ofString "__next__") hTy Oy (N1 Oy hTy F.entry_zip_next (zipN D s1 s2 s3 s4 s5 lx ly (by simpa using hux) (by simpa using huy) λh' y1 y3 y4 y5 yT hk=>F_ ?_) (F.args_zip_next_1 _))));refine⟨_,rfl,wpAny_letOwnedTupleGo_zip (s:={ s with heap:=h' }) y1 λh2 z2 sb=>?_⟩;have sb':Heap.SameBut z h' h2:=sb;have hT:H s.heap.objs.size=none:=I.hok.fresh (y_ _);have I1:Inv X pins σ (upd H s.heap.objs.size (.tup [x,y])) { s with heap:=s.heap.push { cls:=.type "tuple",data:=.seq #[ux,uy] },toks:=s.toks }:=
   I.laid (t':=s.toks) (λc o q=>C_ _ q) (y_ _) ⟨by show 2<=sizeLine;decide,[ux,uy],.cons rux (.cons ruy .nil),⟨_,MB _ rfl,rfl,_,rfl⟩⟩
  have fp':∀e∈[z,p,q,j1,j2],FpOk X pins (upd H s.heap.objs.size (.tup [x,y])) e:=λe he=>by
   have:=hf e he
   simp only[MN,List.not_mem_nil,or_false] at he;rcases he with rfl |rfl |rfl |rfl |rfl
   .exact this.up (ML zl)
   .exact this.up (ML pl)
   .exact this.up (ML ql)
   .exact this.up (ML j1l)
   .exact this.up (ML j2l)
  have I2:Inv X pins σ (upd H s.heap.objs.size (.tup [x,y])) { s with heap:=h2,toks:=s.toks }:=
   Inv.turnedL (s:={ s with heap:=s.heap.push { cls:=.type "tuple",data:=.seq #[ux,uy] },toks:=s.toks }) (ch:=[z,p,q,j1,j2]) (t':=s.toks) I1 (λe o he qe=>by
    have c1:e≠z:=λw=>he (by simp [w]);have c2:e≠q:=λw=>he (by simp [w]);have c3:e≠j1:=λw=>he (by simp [w]);have c4:e≠j2:=λw=>he (by simp [w]);rw[sb'.2 e c1];have q':(s.heap.push { cls:=.type "tuple",data:=.seq #[ux,uy] }).get? e=some o:=qe;by_cases w:e=s.heap.objs.size
    .subst w;rw[MB _ rfl] at q';cases q';exact yT
    .rw[Heap.get?_push_ne _ _ _ w] at q';exact hk e o c1 c2 c3 c4 q') fp'
  refine⟨.ref s.heap.objs.size,_,I2,rfl,⟨_,x,y,rfl,hT,rfl,λzs hz=>by rw[SqB.inj I hz qx];exact ex,λzs hz=>by rw[SqB.inj I hz qy];exact ey⟩,⟨z2,?_,⟨ux,uy,?_⟩,cP y4 λo e=>(sb'.2 j1 D.i1z).trans e,cP y5 λo e=>(sb'.2 j2 D.i2z).trans e⟩,λe he=>(fp' e he).1⟩
  .exact (sb'.2 p D.TIz).trans (hk p _ D.TIz D.TITO D.TIi1 D.TIi2 s2)
  .exact (sb'.2 q D.TOz).trans y3
 done:=by
  intro X hP hw hK hc i pins s σ H E I hf st hg;subst hP hw hK;obtain⟨xs,ys,qx,qy,en⟩:=hg;obtain⟨s1,s2,⟨u,v,s3⟩,s4,s5⟩:=st;obtain⟨ix,rx,lx⟩:=jw I qx;obtain⟨iy,ry,ly⟩:=jw I qy;have hTy:s.TypeIs (.ref z) "zip":=⟨_,s1,rfl⟩;have en':ix.toArray[i]?=none\/iy.toArray[i]?=none:=by
   rcases en with e |e
   .left;rw[Nm] at e;simp;rw[<- rx.length];exact e
   .right;rw[Nm] at e;simp;rw[<- ry.length];exact e
  unfold pyNext;refine w_ (OM (Nv (name:=Str.ofString "__next__") hTy Oy (N1 Oy hTy F.entry_zip_next (An (I.ok.hd hc) D s1 s2 s3 s4 s5 lx ly en' λh' e hk ⟨o,ho,co⟩=>?_) (F.args_zip_next_1 _))));refine w_ (wpAny_isInstance (T:="StopIteration") (b:=true) ⟨o,ho,co⟩ isSubtype_stop (F_ ⟨rfl,?_⟩));exact Inv.turnedL (ch:=[z,p,q,j1,j2]) (t':=s.toks) I (λe o he qe=>hk e o (λw=>he (by simp [w])) (λw=>he (by simp [w])) (λw=>he (by simp [w])) (λw=>he (by simp [w])) qe) hf
 self:=λ_ _ _ _ _ st h=>wpAny_pyIter_zip st.1 h
def zx:bootBuiltins "zip"=some (.type "zip"):=by decide
def IV(hg:Gl X "zip")(hm:X.mg "zip"=none)(ha:PA X [l,m] tl)(hs:starEach [l,m] X.env=[(false,eval l X.env),(false,eval m X.env)])(hs2:starEach [m] X.env=[(false,eval m X.env)]):
 PI X (.Tuple elts x1 tp) (.Call (.Name "zip" p) [l,m] [] pos) (λσ H R=>tl σ H λvs H1=>∃(b c:Bool) (a d:Addr) (xs ys:List V),vs=[.ref a,.ref d]/\SqB X.K b H1 a xs/\SqB X.K c H1 d ys/\R (ItZ X.K b c a d) H1):=by
 intro pins s σ H R I h;refine Call_ (gC I hg hm zx (Na (thn (ha pos pins s σ H _ I h) λus s1 ⟨vs,H1,I1,r1,q1⟩=>?_) (by rw[hs,hs2]) (by rw[hs2];rfl)));obtain⟨b,c,a,d,xs,ys,e,qx,qy,q⟩:=q1;subst e;cases r1 with
 |
  cons r rr=>
  cases rr with
  |
   cons r' rr=>
   cases rr;cases r;cases r';obtain⟨ix,rx,lx⟩:=jw I1 qx;obtain⟨iy,ry,ly⟩:=jw I1 qy;have la:a<s1.heap.objs.size:=by cases b <;> (obtain⟨o,e,_⟩:=lx;exact Em e)
   have ld:d<s1.heap.objs.size:=by cases c <;> (obtain⟨o,e,_⟩:=ly;exact Em e)
   refine zh lx ly λh' y1 y2 y3 y4 y5 hk=>wpAny_pyIter_zip y1 ⟨s1.heap.objs.size+4,[s1.heap.objs.size+4,s1.heap.objs.size+2,s1.heap.objs.size+3,s1.heap.objs.size,s1.heap.objs.size+1],_,_,H1,rfl,I1.kept (t':=s1.toks) λc o z=>hk c o z,AV b c a d _ _ _ _ _ (W.ktu_apart _ _ _ la ld),⟨y1,y2,⟨_,_,y3⟩,y4,y5⟩,λe he=>?_,q⟩;have hge:s1.heap.objs.size<=e:=by
    simp only[MN,List.not_mem_nil,or_false] at he;rcases he with rfl |rfl |rfl |rfl |rfl
    .exact Ot _ _
    .exact Ot _ _
    .exact Ot _ _
    .exact y_ _
    .exact Ot _ _
   exact I1.fpOk hge (I1.hok.fresh hge)
inductive D where
 |non |bl (b:Bool) |int (i:Int) |str (x:Str) |ty (n:String) |glb (x:Str) |exc (x:Str) |tup (xs:List D) |ref (n:Nat) |kl (xs:List D)
 deriving Inhabited
inductive Ob where
 |lst (xs:List D) |fz (xs:List D) |set (xs:List Int) |dct (kvs:List (Key×D)) |any
 deriving Inhabited
abbrev AH:=List Ob
abbrev AE:=List (Option D)
inductive R(α:Type) where
 |ok (a:α) (h:AH) |exc (c:Str) (h:AH) |stuck
inductive SR where
 |nx (ae:AE) (h:AH) |rt (d:D) (h:AH) |bk (ae:AE) (h:AH) |ct (ae:AE) (h:AH) |exc (c:Str) (ae:AE) (h:AH) |stuck
abbrev ME:=AE->AH->R D
abbrev MT:=AE->AH->R Bool
abbrev MA:=AE->AH->R (List D)
abbrev MS:=AE->AH->SR
abbrev Fn:=List D->AH->R D
noncomputable def R.bind{α β:Type}(r:R α)(f:α->AH->R β):R β:=match r with
 |.ok a h=>f a h
 |.exc c h=>.exc c h
 |.stuck=>.stuck
section
variable(K:W.Frag)(mg:Pa)
mutual
inductive RelD(ρ:List Addr)(H:Hp):D->V->Prop where
 |non:RelD ρ H .non .non
 |bl (b:Bool):RelD ρ H (.bl b) (.bl b)
 |int (i:Int):RelD ρ H (.int i) (.int i)
 |str (x:Str):RelD ρ H (.str x) (.str x)
 |ty (n:String):RelD ρ H (.ty n) (.ty n)
 |glb {x:Str}{a:Addr} (m:mg x=some (.ref a)):RelD ρ H (.glb x) (.ref a)
 |exc {x:Str}{a C:Addr} (m:mg x=some (.ref C)) (e:H a=some (.ext (As a C))):RelD ρ H (.exc x) (.ref a)
 |tup {p:Addr}{vs:List V}{ds:List D} (h:SqT K H p vs) (r:RelDs ρ H ds vs):RelD ρ H (.tup ds) (.ref p)
 |ref {n:Nat}{a:Addr} (e:ρ[n]?=some a):RelD ρ H (.ref n) (.ref a)
 |kl {a:Addr}{vs:List V}{ds:List D} (h:∃(o:Obj) (its:Array Value) (n:Nat),K.lookup a=some o/\o.cls=.type "list" /\ o.dict=none/\o.data=.seq its n/\its.size<=sizeLine/\Vals vs its.toList) (r:RelDs ρ H ds vs):RelD ρ H (.kl ds) (.ref a)
inductive RelDs(ρ:List Addr)(H:Hp):List D->List V->Prop where
 |nil:RelDs ρ H [] []
 |cons {d:D}{v:V}{ds:List D}{vs:List V} (r:RelD ρ H d v) (rr:RelDs ρ H ds vs):RelDs ρ H (d::ds) (v::vs)
end
structure Le(ρ:List Addr)(H:Hp)(ρ':List Addr)(H':Hp):Prop where
 pre:∀(n:Nat) (a:Addr),ρ[n]?=some a->ρ'[n]?=some a
 tup:∀b xs,H b=some (.tup xs)->H' b=some (.tup xs)
 frz:∀b o u,H b=some (.frz o u)->H' b=some (.frz o u)
 ext:∀b φ,H b=some (.ext φ)->H' b=some (.ext φ)
def ObR(ρ:List Addr)(H:Hp)(a:Addr):Ob->Prop
 |.lst ds=>∃vs,H a=some (.lst vs)/\RelDs K mg ρ H ds vs
 |.fz ds=>∃o vs,H a=some (.frz o (.lst vs))/\RelDs K mg ρ H ds vs
 |.set xs=>xs.Nodup/\H a=some (.set (λi=>decide (i∈xs)) xs.length)
 |.dct kvs=>∃ws,H a=some (.dK ws)/\ws.map (·.1)=kvs.map (·.1)/\RelDs K mg ρ H (kvs.map (·.2)) (ws.map (·.2))
 |.any=>∃o,H a=some o
def codO(c:Addr)(q:Str):Heap->Prop:=λh=>h.CodeRec (.ref c) q
noncomputable def A9:List Str:=["by_falling_weights", "least_around"]
def zL(P:Addr)(q:Str):Prop:=∃(x:Str) (f:Addr) (oc:Value) (od:Option Addr) (fd:FuncData) (sl:Array (Option Value)) (c:Addr),x∈A9/\(∀y∈A9,y≠x->mg y=none)/\mg x=some (.ref f)/\K.lookup f=some ⟨oc,od,.func fd,sl⟩/\fd.code=.ref c/\W.codeHdIn K c P=true/\q=fd.qualname ++ ".<locals>." ++ "<lambda>"
def TbP(ρ:List Addr)(H:Hp)(P:Addr)(q:Str):Prop:=P∉ρ/\∃ps:Array Value,H P=some (.tbl ps)/\TriplesOk ps.toList/\∀pos cv,codeAmong pos ps.toList=some cv->∃c,cv=.ref c/\H c=some (.ext (codO c q))
def bmP(o:Obj):Prop:=o.cls=.type "module" /\ o.dict=some builtinsNs/\o.data=.plain
def BMok(H:Hp):Prop:=∃b o,mg "__builtins__"=some (.ref b)/\b≠builtinsNs/\b≠mainGlobals/\bmP o/\(K.lookup b=some o\/∃u,H b=some (.frz o u))
structure Wd(ρ:List Addr)(h:AH)(H:Hp):Prop where
 len:ρ.length=h.length
 nd:ρ.Nodup
 tb:∀P q,zL K mg P q->TbP ρ H P q/\BMok K mg H
 ob:∀(n:Nat) (a:Addr) (o:Ob),ρ[n]?=some a->h[n]?=some o->ObR K mg ρ H a o
structure RelE(ρ:List Addr)(H:Hp)(ae:AE)(σ:St):Prop where
 len:ae.length=σ.length
 at_:∀(i:Nat) (d:D),ae[i]?=some (some d)->∃v,σ[i]?=some (some v)/\RelD K mg ρ H d v
def PostG{α:Type}(ρ:List Addr)(H:Hp)(E:XK)(k:α->AH->List Addr->Hp->Prop):R α->Prop
 |.ok a h=>∀ρ' H',Le ρ H ρ' H'->Wd K mg ρ' h H'->k a h ρ' H'
 |.exc c h=>∀ρ' H' C,Le ρ H ρ' H'->Wd K mg ρ' h H'->mg c=some (.ref C)->E (.ref C) none H'
 |.stuck=>False
abbrev eL(ρ:List Addr)(H:Hp)(Q:VK)(E:XK)(r:R D):Prop:=PostG K mg ρ H E (λd _ ρ' H'=>∀v,RelD K mg ρ' H' d v->Q v H') r
abbrev Cj(ρ:List Addr)(H:Hp)(Q:Bool->Hp->Prop)(E:XK)(r:R Bool):Prop:=PostG K mg ρ H E (λb _ ρ' H'=>Q b H') r
abbrev Cv(ρ:List Addr)(H:Hp)(Q:List V->Hp->Prop)(E:XK)(r:R (List D)):Prop:=PostG K mg ρ H E (λd _ ρ' H'=>∀vs,RelDs K mg ρ' H' d vs->Q vs H') r
def PostS(ρ:List Addr)(H:Hp)(D:Ends)(ES:St->XK):SR->Prop
 |.nx ae h=>∀ρ' H' σ',Le ρ H ρ' H'->Wd K mg ρ' h H'->RelE K mg ρ' H' ae σ'->D.nx σ' H'
 |.bk ae h=>∀ρ' H' σ',Le ρ H ρ' H'->Wd K mg ρ' h H'->RelE K mg ρ' H' ae σ'->D.bk σ' H'
 |.ct ae h=>∀ρ' H' σ',Le ρ H ρ' H'->Wd K mg ρ' h H'->RelE K mg ρ' H' ae σ'->D.ct σ' H'
 |.rt d h=>∀ρ' H' v,Le ρ H ρ' H'->Wd K mg ρ' h H'->RelD K mg ρ' H' d v->D.rt v H'
 |.exc c ae h=>∀ρ' H' σ' C,Le ρ H ρ' H'->Wd K mg ρ' h H'->RelE K mg ρ' H' ae σ'->mg c=some (.ref C)->ES σ' (.ref C) none H'
 |.stuck=>False
def rdE(ES:St->XK)(F:ME):TE:=λσ H Q=>∃ρ h ae,Wd K mg ρ h H/\RelE K mg ρ H ae σ/\eL K mg ρ H Q (ES σ) (F ae h)
def rdT(ES:St->XK)(F:MT):TT:=λσ H Q=>∃ρ h ae,Wd K mg ρ h H/\RelE K mg ρ H ae σ/\Cj K mg ρ H Q (ES σ) (F ae h)
def rdA(ES:St->XK)(F:MA):TA:=λσ H Q=>∃ρ h ae,Wd K mg ρ h H/\RelE K mg ρ H ae σ/\Cv K mg ρ H Q (ES σ) (F ae h)
def rdS(ES:St->XK)(F:MS):TS:=λD σ H=>∃ρ h ae,Wd K mg ρ h H/\RelE K mg ρ H ae σ/\PostS K mg ρ H D ES (F ae h)
def spD(n:Nat)(S:Fn):Sp:=λvs H Q E=>∃ρ h ds,Wd K mg ρ h H/\RelDs K mg ρ H ds vs/\ds.length=n/\eL K mg ρ H Q E (S ds h)
end
def rdE.el{K:W.Frag}{mg:Pa}{ES:St->XK}{F:ME}{σ:St}{H:Hp}{Q:VK}{C:Prop}(q:rdE K mg ES F σ H Q)(k:∀ρ h ae,Wd K mg ρ h H->RelE K mg ρ H ae σ->eL K mg ρ H Q (ES σ) (F ae h)->C):C:=by obtain⟨ρ,h,ae,w,re,p⟩:=q;exact k ρ h ae w re p
def rdT.el{K:W.Frag}{mg:Pa}{ES:St->XK}{F:MT}{σ:St}{H:Hp}{Q:Bool->Hp->Prop}{C:Prop}(q:rdT K mg ES F σ H Q)(k:∀ρ h ae,Wd K mg ρ h H->RelE K mg ρ H ae σ->Cj K mg ρ H Q (ES σ) (F ae h)->C):C:=by obtain⟨ρ,h,ae,w,re,p⟩:=q;exact k ρ h ae w re p
def rdA.el{K:W.Frag}{mg:Pa}{ES:St->XK}{F:MA}{σ:St}{H:Hp}{Q:List V->Hp->Prop}{C:Prop}(q:rdA K mg ES F σ H Q)(k:∀ρ h ae,Wd K mg ρ h H->RelE K mg ρ H ae σ->Cv K mg ρ H Q (ES σ) (F ae h)->C):C:=by obtain⟨ρ,h,ae,w,re,p⟩:=q;exact k ρ h ae w re p
def rdS.el{K:W.Frag}{mg:Pa}{ES:St->XK}{F:MS}{σ:St}{H:Hp}{De:Ends}{C:Prop}(q:rdS K mg ES F De σ H)(k:∀ρ h ae,Wd K mg ρ h H->RelE K mg ρ H ae σ->PostS K mg ρ H De ES (F ae h)->C):C:=by obtain⟨ρ,h,ae,w,re,p⟩:=q;exact k ρ h ae w re p
section
variable{K:W.Frag}{mg:Pa}{ρ ρ' ρ1:List Addr}{H H' H1:Hp}{h:AH}{ae:AE}{σ:St}
def Le.refl:Le ρ H ρ H:=⟨λ_ _ e=>e,λ_ _ e=>e,λ_ _ _ e=>e,λ_ _ e=>e⟩
def Le.trans(a:Le ρ H ρ1 H1)(b:Le ρ1 H1 ρ' H'):Le ρ H ρ' H':=
 ⟨λn x e=>b.pre n x (a.pre n x e),λx y e=>b.tup x y (a.tup x y e),λx y z e=>b.frz x y z (a.frz x y z e),λx y e=>b.ext x y (a.ext x y e)⟩
def Le.sqT(l:Le ρ H ρ' H')(q:SqT K H a xs):SqT K H' a xs:=by
 rcases q with (q |⟨o,q⟩) |q
 .exact .inl (.inl (l.tup _ _ q))
 .exact .inl (.inr ⟨o,l.frz _ _ _ q⟩)
 .exact .inr q
def RelD.mono(l:Le ρ H ρ' H')(r:RelD K mg ρ H d v):RelD K mg ρ' H' d v:=
 RelD.rec (motive_1:=λd v _=>RelD K mg ρ' H' d v) (motive_2:=λds vs _=>RelDs K mg ρ' H' ds vs) .non (λb=>.bl b) (λi=>.int i) (λx=>.str x) (λn=>.ty n) (λm=>.glb m) (λm e=>.exc m (l.ext _ _ e)) (λh _ ih=>.tup (l.sqT h) ih) (λe=>.ref (l.pre _ _ e)) (λh _ ih=>.kl h ih) .nil (λ_ _ a b=>.cons a b) r
def RelDs.ind{M:List D->List V->Prop}(h0:M [] [])(h1:∀{d v ds vs},RelD K mg ρ H d v->RelDs K mg ρ H ds vs->M ds vs->M (d::ds) (v::vs)){ds:List D}{vs:List V}(r:RelDs K mg ρ H ds vs):M ds vs:=by
 induction ds generalizing vs with
 |nil=>cases r;exact h0
 |
  cons d ds ih=>
  cases r with
  |cons r rr=>exact h1 r rr (ih rr)
def RelDs.mono(l:Le ρ H ρ' H'){ds:List D}{vs:List V}(r:RelDs K mg ρ H ds vs):RelDs K mg ρ' H' ds vs:=r.ind .nil λr _ ih=>.cons (r.mono l) ih
def RelDs.len{ds:List D}{vs:List V}(r:RelDs K mg ρ H ds vs):ds.length=vs.length:=r.ind (M:=λds vs=>ds.length=vs.length) rfl λ_ _ ih=>Nd (· + 1) ih
def RelDs.getD{ds:List D}{vs:List V}{i:Nat}{d:D}(r:RelDs K mg ρ H ds vs)(e:ds[i]?=some d):∃v,vs[i]?=some v/\RelD K mg ρ H d v:=
 r.ind (M:=λds vs=>∀i,ds[i]?=some d->∃v,vs[i]?=some v/\RelD K mg ρ H d v) (λ_ e=>by rw[List.getElem?_nil] at e;cases e) (λr _ ih i e=>match i,e with
  |0,e=>by cases e;exact⟨_,rfl,r⟩
  |i+1,e=>ih i e) i e
def RelDs.append{ds es:List D}{vs ws:List V}(r:RelDs K mg ρ H ds vs)(q:RelDs K mg ρ H es ws):RelDs K mg ρ H (ds++es) (vs++ws):=r.ind (M:=λds vs=>RelDs K mg ρ H (ds++es) (vs++ws)) q λr _ ih=>.cons r ih
def RelDs.take{ds:List D}{vs:List V}(n:Nat)(r:RelDs K mg ρ H ds vs):RelDs K mg ρ H (ds.take n) (vs.take n):=
 r.ind (M:=λds vs=>∀n:Nat,RelDs K mg ρ H (ds.take n) (vs.take n)) (λn=>by rw[NO,NO];exact .nil) (λr _ ih n=>by cases n with |zero=>exact .nil |succ n=>exact .cons r (ih n)) n
def RelDs.drop{ds:List D}{vs:List V}(n:Nat)(r:RelDs K mg ρ H ds vs):RelDs K mg ρ H (ds.drop n) (vs.drop n):=
 r.ind (M:=λds vs=>∀n:Nat,RelDs K mg ρ H (ds.drop n) (vs.drop n)) (λn=>by rw[N4,N4];exact .nil) (λr rr ih n=>by cases n with |zero=>exact .cons r rr |succ n=>exact ih n) n
def RelDs.set{d:D}{v:V}(r:RelD K mg ρ H d v){ds:List D}{vs:List V}(i:Nat)(q:RelDs K mg ρ H ds vs):RelDs K mg ρ H (ds.set i d) (vs.set i v):=
 q.ind (M:=λds vs=>∀i:Nat,RelDs K mg ρ H (ds.set i d) (vs.set i v)) (λ_=>.nil) (λq qq ih i=>by cases i with |zero=>exact .cons r qq |succ i=>exact .cons q (ih i)) i
def RelDs.reverse(r:RelDs K mg ρ H ds vs):RelDs K mg ρ H ds.reverse vs.reverse:=by
 induction ds generalizing vs with
 |nil=>cases r;exact .nil
 |
  cons d ds ih=>
  cases r with
  |cons q rr=>rw[NJ,NJ];exact (ih rr).append (.cons q .nil)
def RelDs.ints:∀{ns:List Int}{vs:List V},RelDs K mg ρ H (ns.map D.int) vs->vs=ns.map V.int:=by
 intro ns;induction ns with
 |nil=>intro vs r;cases r;rfl
 |
  cons n ns ih=>
  intro vs r;cases r with
  |cons r rr=>cases r;rw[ih rr];rfl
def RelDs.bls:∀{ns:List Bool}{vs:List V},RelDs K mg ρ H (ns.map D.bl) vs->vs=ns.map V.bl:=by
 intro ns;induction ns with
 |nil=>intro vs r;cases r;rfl
 |
  cons n ns ih=>
  intro vs r;cases r with
  |cons r rr=>cases r;rw[ih rr];rfl
def RelE.mono(l:Le ρ H ρ' H')(r:RelE K mg ρ H ae σ):RelE K mg ρ' H' ae σ:=⟨r.len,λi d e=>by obtain⟨v,h1,h2⟩:=r.at_ i d e;exact⟨v,h1,h2.mono l⟩⟩
def RelE.set(i:Nat)(r:RelE K mg ρ H ae σ)(q:RelD K mg ρ H d v):RelE K mg ρ H (ae.set i (some d)) (σ.set i (some v)):=⟨by rw[Mz,Mz];exact r.len,λj d' e=>by
 rw[Oh] at e ⊢;by_cases hij:i=j
 .rw[if_pos hij] at e ⊢;by_cases hi:i<ae.length
  .rw[if_pos hi] at e;cases e;rw[if_pos (by rw[<- r.len];exact hi)];exact⟨v,rfl,q⟩
  .rw[if_neg hi] at e;cases e
 .rw[if_neg hij] at e ⊢;exact r.at_ j d' e⟩
def ObR.mono(l:Le ρ H ρ' H')(e:H' a=H a)(q:ObR K mg ρ H a o):ObR K mg ρ' H' a o:=by
 cases o with
 |lst ds=>obtain⟨vs,h1,h2⟩:=q;exact⟨vs,e.trans h1,h2.mono l⟩
 |fz ds=>obtain⟨o,vs,h1,h2⟩:=q;exact⟨o,vs,e.trans h1,h2.mono l⟩
 |set xs=>exact⟨q.1,e.trans q.2⟩
 |dct kvs=>obtain⟨ws,h1,h2,h3⟩:=q;exact⟨ws,e.trans h1,h2,h3.mono l⟩
 |any=>obtain⟨o,h1⟩:=q;exact⟨o,e.trans h1⟩
def ObR.there(q:ObR K mg ρ H a o):∃u,H a=some u:=by
 cases o with
 |lst ds=>obtain⟨vs,h1,_⟩:=q;exact⟨_,h1⟩
 |fz ds=>obtain⟨o,vs,h1,_⟩:=q;exact⟨_,h1⟩
 |set xs=>exact⟨_,q.2⟩
 |dct kvs=>obtain⟨ws,h1,_⟩:=q;exact⟨_,h1⟩
 |any=>exact q
def Wd.fresh(w:Wd K mg ρ h H)(hp:H p=none):p∉ρ:=λhm=>by
 obtain⟨n,hn⟩:=List.getElem?_of_mem hm;have hl:n<h.length:=by rw[<- w.len];exact (x_.mp hn).1
 obtain⟨u,hu⟩:=(w.ob n p h[n] hn (MJ hl)).there;rw[hp] at hu;cases hu
def TbP.up{P:Addr}{q:Str}(t:TbP ρ H P q)(hp:H p=none):TbP ρ (upd H p u) P q:=by obtain⟨a,ps,b,c,d⟩:=t;refine⟨a,ps,by rw[bE (cp b hp)];exact b,c,λpos cv e=>?_⟩;obtain⟨x,e1,e2⟩:=d pos cv e;exact⟨x,e1,by rw[bE (cp e2 hp)];exact e2⟩
def TbP.rho{P:Addr}{q:Str}(t:TbP ρ H P q)(h:P∉ρ'):TbP ρ' H P q:=⟨h,t.2⟩
def TbP.more{P:Addr}{q:Str}(t:TbP ρ H P q)(hp:H p=none):TbP (ρ++[p]) (upd H p u) P q:=by
 obtain⟨ps,b,_⟩:=t.2;refine (t.up hp).rho λz=>?_;rcases M7.mp z with z |z
 .exact t.1 z
 .rw[M0] at z;subst z;rw[hp] at b;cases b
def TbP.wr{P:Addr}{q:Str}{a:Addr}{o u:HO}(t:TbP ρ H P q)(ha:a∈ρ)(e:H a=some u)(hu:∀φ,u ≠ .ext φ):TbP ρ (upd H a o) P q:=by
 obtain⟨z,ps,b,c,d⟩:=t;refine⟨z,ps,by rw[bE (λw=>z (by rw[w];exact ha))];exact b,c,λpos cv y=>?_⟩;obtain⟨x,e1,e2⟩:=d pos cv y;refine⟨x,e1,?_⟩;rw[bE]
 .exact e2
 .intro w;subst w;rw[e] at e2;exact hu _ (MC e2)
def dW(hp:H p=none):Le ρ H ρ (upd H p o):=
 ⟨λ_ _ e=>e,λb xs e=>by rw[bE (cp e hp)];exact e,λb xs u e=>by rw[bE (cp e hp)];exact e,λb xs e=>by rw[bE (cp e hp)];exact e⟩
def BMok.le(b:BMok K mg H)(l:Le ρ H ρ' H'):BMok K mg H':=by
 obtain⟨x,o,h1,h2,h3,h4,h5⟩:=b;refine⟨x,o,h1,h2,h3,h4,?_⟩;rcases h5 with z |⟨u,z⟩
 .exact .inl z
 .exact .inr ⟨u,l.frz _ _ _ z⟩
def nW:Le ρ H (ρ++m) H:=
 ⟨λn a e=>by rw[MH (x_.mp e).1];exact e,λ_ _ e=>e,λ_ _ _ e=>e,λ_ _ e=>e⟩
def Wd.alloc(w:Wd K mg ρ h H)(hp:H p=none)(hn:ObR K mg (ρ++[p]) (upd H p u) p o):Wd K mg (ρ++[p]) (h++[o]) (upd H p u):=by
 refine⟨by rw[E_,E_,w.len];rfl,?_,λP q l=>⟨(w.tb P q l).1.more hp,(w.tb P q l).2.le (ρ:=ρ) (dW hp)⟩,λn a ob e1 e2=>?_⟩
 .rw[List.nodup_append];exact⟨w.nd,by simp,λa ha b hb=>by rw[M0] at hb;subst hb;intro z;subst z;exact w.fresh hp ha⟩
 .by_cases hl:n<ρ.length
  .rw[MH hl] at e1;rw[MH (by rw[<- w.len];exact hl)] at e2;have q:=w.ob n a ob e1 e2;obtain⟨v,hv⟩:=q.there;exact q.mono ((dW hp).trans nW) (bE (cp hv hp))
  .have h1:n=ρ.length:=by
    have:=(x_.mp e1).1
    rw[E_] at this;simp at this;omega
   subst h1;rw[MW (y_ _),OE] at e1;rw[w.len,MW (y_ _),OE] at e2;simp at e1 e2;subst e1 e2;exact hn
def Wd.tuple(w:Wd K mg ρ h H)(hp:H p=none):Wd K mg ρ h (upd H p u):=
 ⟨w.len,w.nd,λP q l=>⟨(w.tb P q l).1.up hp,(w.tb P q l).2.le (ρ:=ρ) (dW hp)⟩,λn a ob e1 e2=>by have q:=w.ob n a ob e1 e2;obtain⟨v,hv⟩:=q.there;exact q.mono (dW hp) (bE (cp hv hp))⟩
def kR(e:H a=some u)(hu:(∀xs,u ≠ .tup xs)/\(∀x y,u ≠ .frz x y)/\∀φ,u ≠ .ext φ):Le ρ H ρ (upd H a o):=by refine⟨λ_ _ e=>e,λb xs q=>?_,λb x y q=>?_,λb φ q=>?_⟩ <;> rw[bE] <;> (try exact q) <;> (intro z;subst z;rw[e] at q;have:=MC q;first |exact hu.1 _ this |exact hu.2.1 _ _ this |exact hu.2.2 _ this)
def Wd.write{n:Nat}{a:Addr}{o u:HO}{ob:Ob}(w:Wd K mg ρ h H)(ea:ρ[n]?=some a)(e:H a=some u)(hu:(∀xs,u ≠ .tup xs)/\(∀x y,u ≠ .frz x y)/\∀φ,u ≠ .ext φ)
 (hn:ObR K mg ρ (upd H a o) a ob):Wd K mg ρ (h.set n ob) (upd H a o):=by
 refine⟨by rw[Mz];exact w.len,w.nd,λP q l=>⟨(w.tb P q l).1.wr (NK ea) e hu.2.2,(w.tb P q l).2.le (ρ:=ρ) (kR e hu)⟩,λm b ob' e1 e2=>?_⟩;rw[Oh] at e2;by_cases hm:n=m
 .subst hm;rw[ea] at e1;cases e1;rw[if_pos rfl] at e2;split at e2
  .cases e2;exact hn
  .cases e2
 .rw[if_neg hm] at e2;have q:=w.ob m b ob' e1 e2;refine q.mono (kR e hu) (bE λz=>hm ?_);subst z;have h1:=(x_.mp e1);have h2:=(x_.mp ea);exact (List.getElem_inj (h₀:=h2.1) (h₁:=h1.1) w.nd).mp (h2.2.trans h1.2.symm)
def qE:(∀xs,HO.lst vs ≠ .tup xs)/\(∀x y,HO.lst vs ≠ .frz x y)/\∀φ,HO.lst vs ≠ .ext φ:=⟨λ_ z=>(nomatch z),λ_ _ z=>(nomatch z),λ_ z=>(nomatch z)⟩
def wG:(∀xs,HO.dK ws ≠ .tup xs)/\(∀x y,HO.dK ws ≠ .frz x y)/\∀φ,HO.dK ws ≠ .ext φ:=⟨λ_ z=>(nomatch z),λ_ _ z=>(nomatch z),λ_ z=>(nomatch z)⟩
def PostG.mono(l:Le ρ H ρ' H')(p:PostG K mg ρ H E k r):PostG K mg ρ' H' E k r:=by
 cases r with
 |ok d h=>exact λρ2 H2 l2=>p ρ2 H2 (l.trans l2)
 |exc c h=>exact λρ2 H2 C l2=>p ρ2 H2 C (l.trans l2)
 |stuck=>exact p
def PostG.imp(p:PostG K mg ρ H E k r)(i:∀a h1 ρ' H',Le ρ H ρ' H'->Wd K mg ρ' h1 H'->k a h1 ρ' H'->k' a h1 ρ' H'):PostG K mg ρ H E k' r:=by
 cases r with
 |ok d h=>exact λρ2 H2 l2 w2=>i _ _ _ _ l2 w2 (p ρ2 H2 l2 w2)
 |exc c h=>exact p
 |stuck=>exact p
def PostG.bind(p:PostG K mg ρ H E k (r.bind f)):PostG K mg ρ H E (λa h1 ρ' H'=>PostG K mg ρ' H' E k (f a h1)) r:=by
 cases r with
 |ok d h=>exact λρ2 H2 l2 w2=>PostG.mono l2 p
 |exc c h=>exact p
 |stuck=>exact p
def PostS.mono(l:Le ρ H ρ' H')(p:PostS K mg ρ H De ES r):PostS K mg ρ' H' De ES r:=by
 cases r with
 |nx ae h=>exact λρ2 H2 σ l2=>p ρ2 H2 σ (l.trans l2)
 |bk ae h=>exact λρ2 H2 σ l2=>p ρ2 H2 σ (l.trans l2)
 |ct ae h=>exact λρ2 H2 σ l2=>p ρ2 H2 σ (l.trans l2)
 |rt d h=>exact λρ2 H2 v l2=>p ρ2 H2 v (l.trans l2)
 |exc c ae h=>exact λρ2 H2 σ C l2=>p ρ2 H2 σ C (l.trans l2)
 |stuck=>exact p
end
section
variable{X:Cx}{e:Expr}{es:List Expr}{st:Stmt}{sts:List Stmt}
def PE.imp(h:PE X e t)(k:∀σ H Q,t' σ H Q->t σ H Q):PE X e t':=λpins s σ H Q I w=>h pins s σ H Q I (k σ H Q w)
def PT.imp(h:PT X e t)(k:∀σ H Q,t' σ H Q->t σ H Q):PT X e t':=λpins s σ H Q I w=>h pins s σ H Q I (k σ H Q w)
def PW.imp(h:PW X e t)(k:∀σ H Q,t' σ H Q->t σ H Q):PW X e t':=λwh pins s σ H Q I w=>h wh pins s σ H Q I (k σ H Q w)
def PA.imp(h:PA X es t)(k:∀σ H Q,t' σ H Q->t σ H Q):PA X es t':=λpos pins s σ H Q I w=>h pos pins s σ H Q I (k σ H Q w)
def PS.imp(h:PS X st t)(k:∀D σ H,t' D σ H->t D σ H):PS X st t':=λpins s σ H D I w=>h pins s σ H D I (k D σ H w)
def PSs.imp(h:PSs X sts t)(k:∀D σ H,t' D σ H->t D σ H):PSs X sts t':=λpins s σ H D I w=>h pins s σ H D I (k D σ H w)
def PG.imp(h:PG X e t)(k:∀v σ H Q,t' v σ H Q->t v σ H Q):PG X e t':=λpins s σ H v u Q I r w=>h pins s σ H v u Q I r (k v σ H Q w)
def PGs.imp(h:PGs X es t)(k:∀v σ H Q,t' v σ H Q->t v σ H Q):PGs X es t':=λpins s σ H v u Q I r w=>h pins s σ H v u Q I r (k v σ H Q w)
def PO.imp(h:PO X o t)(k:∀σ H Q,t' σ H Q->t σ H Q):PO X o t':=λpins s σ H Q I w=>h pins s σ H Q I (k σ H Q w)
end
section
variable(K:W.Frag)(mg:Pa)(X:Cx)(ES:St->XK)
def DE(e:Expr)(F:ME):Prop:=PE X e (rdE K mg ES F)
def DT(e:Expr)(F:MT):Prop:=PT X e (rdT K mg ES F)
def DW(e:Expr)(F:MT):Prop:=PW X e (rdT K mg ES F)
def DA(es:List Expr)(F:MA):Prop:=PA X es (rdA K mg ES F)
def DS(st:Stmt)(F:MS):Prop:=PS X st (rdS K mg ES F)
def DSs(st:List Stmt)(F:MS):Prop:=PSs X st (rdS K mg ES F)
end
def OpD(K:W.Frag)(mg:Pa)(r:R2)(g:D->D->AH->R D):Prop:=∀ρ h H dx dy x y Q E,Wd K mg ρ h H->RelD K mg ρ H dx x->RelD K mg ρ H dy y->eL K mg ρ H Q E (g dx dy h)->r x y H Q
def UnD(K:W.Frag)(mg:Pa)(r:V->Hp->VK->Prop)(g:D->AH->R D):Prop:=∀ρ h H dx x Q E,Wd K mg ρ h H->RelD K mg ρ H dx x->eL K mg ρ H Q E (g dx h)->r x H Q
def cJ(K:W.Frag)(mg:Pa)(r:List V->Hp->VK->Prop)(g:Fn):Prop:=∀ρ h H ds vs Q E,Wd K mg ρ h H->RelDs K mg ρ H ds vs->eL K mg ρ H Q E (g ds h)->r vs H Q
noncomputable def cT(i:Nat):ME:=λae h=>match ae[i]? with
 |some (some d)=>.ok d h
 |_=>.stuck
noncomputable def eC(d:D):ME:=λ_ h=>.ok d h
noncomputable def eOp(g:D->D->AH->R D)(F G:ME):ME:=λae h=>(F ae h).bind λx h1=>(G ae h1).bind λy h2=>g x y h2
noncomputable def eUn(g:D->AH->R D)(F:ME):ME:=λae h=>(F ae h).bind g
noncomputable def jQ:MA:=λ_ h=>.ok [] h
noncomputable def kN(F:ME)(G:MA):MA:=λae h=>(F ae h).bind λx h1=>(G ae h1).bind λxs h2=>.ok (x::xs) h2
noncomputable def eFn(g:Fn)(A:MA):ME:=λae h=>(A ae h).bind g
noncomputable def iM(ds:List D)(h:AH):R D:=if ds.length<=16777216 then .ok (.tup ds) h else .stuck
noncomputable def eN(ds:List D)(h:AH):R D:=if ds.length<=16777216 then .ok (.ref h.length) (h++[.lst ds]) else .stuck
noncomputable def asB(d:D)(h:AH):R Bool:=match d with
 |.bl b=>.ok b h
 |_=>.stuck
noncomputable def Bp(F G:ME):ME:=λae h=>(F ae h).bind λx h1=>(asB x h1).bind λb h2=>if b=true then G ae h2 else .ok (.bl false) h2
def eOr(F G:ME):ME:=λae h=>(F ae h).bind λx h1=>(asB x h1).bind λb h2=>if b=true then .ok (.bl true) h2 else G ae h2
noncomputable def zI(F:ME):ME:=λae h=>(F ae h).bind λx h1=>(asB x h1).bind λb h2=>.ok (.bl (!b)) h2
noncomputable def tOf(F:ME):MT:=λae h=>(F ae h).bind asB
noncomputable def tAn(c d:MT):MT:=λae h=>(c ae h).bind λb h1=>if b=true then d ae h1 else .ok false h1
noncomputable def tO(c d:MT):MT:=λae h=>(c ae h).bind λb h1=>if b=true then .ok true h1 else d ae h1
noncomputable def tNo(c:MT):MT:=λae h=>(c ae h).bind λb h1=>.ok (!b) h1
section
variable{K:W.Frag}{mg:Pa}{ρ:List Addr}{H:Hp}{h:AH}
def eR(w:Wd K mg ρ h H)(rs:RelDs K mg ρ H ds vs)(hp:H p=none)(q:eL K mg ρ H Q E (.ok (.ref h.length) (h++[.lst ds]))):Q (.ref p) (upd H p (.lst vs)):=by have l:Le ρ H (ρ++[p]) (upd H p (.lst vs)):=(dW hp).trans nW;refine q (ρ++[p]) _ l (w.alloc hp ⟨vs,cX,rs.mono l⟩) _ (.ref ?_);rw[<- w.len,MW (y_ _),OE];rfl
def l7(w:Wd K mg ρ h H)(rs:RelDs K mg ρ H ds vs)(hp:H p=none)(q:eL K mg ρ H Q E (.ok (.tup ds) h)):Q (.ref p) (upd H p (.tup vs)):=
 q ρ _ (dW hp) (w.tuple hp) _ (.tup (SqT.of cX) (rs.mono (dW hp)))
def bC(w:Wd K mg ρ h H)(r:RelD K mg ρ H d v)(q:eL K mg ρ H Q E (.ok d h)):Q v H:=q ρ H Le.refl w v r
end
section
variable{K:W.Frag}{mg:Pa}{X:Cx}{ES:St->XK}{e a b:Expr}{es:List Expr}{F G:ME}{A:MA}{cf cg:MT}{pos:Pos}
def GZ(i:Nat)(hN:X.N[i]?=some x)(hv:Vis X.env.scope x)(hd:(x==("__debug__" : Str))=false)
 (hcd:(x==("__classdict__" : Str))=false):DE K mg X ES (.Name x pos) (cT i):=PE.imp (Ii hN hv hd hcd) λσ H Q q_=>q_.el λρ h ae w re p=>by
 unfold cT at p;split at p
 .rename_i d ed;obtain⟨v,e1,r⟩:=re.at_ i d ed;exact⟨v,e1,bC w r p⟩
 .exact p.elim
def mI(hp:PE X e (tC v))(r:∀ρ H,RelD K mg ρ H d v):DE K mg X ES e (eC d):=PE.imp hp λσ H Q q_=>q_.el λρ h ae w re p=>bC w (r ρ H) p
def IL:DE K mg X ES (.Constant (.int i) j pos) (eC (.int i)):=mI Fs λ_ _=>.int i
def K2:DE K mg X ES (.Constant (.bool i) j pos) (eC (.bl i)):=mI LJ λ_ _=>.bl i
def E7:DE K mg X ES (.Constant .none j pos) (eC .non):=mI ID λ_ _=>.non
def Jg:DE K mg X ES (.Constant (.str x) j pos) (eC (.str x)):=mI yW λ_ _=>.str x
def Ib(hg:Gl X x)(ha:∃a,mg x=some (.ref a))(hm:X.mg=mg)(hd:(x==("__debug__" : Str))=false):DE K mg X ES (.Name x pos) (eC (.glb x)):=by subst hm;obtain⟨a,ha⟩:=ha;exact mI (uu hg ha (v:=.ref a) rfl hd) λ_ _=>.glb ha
structure GC(K:W.Frag)(mg:Pa)(x:Str)(d:D):Prop where
 ex:∃u v,mg x=some u/\RelV v u/\∀ρ H,RelD K mg ρ H d v
def Lo(hg:Gl X x)(ha:GC K mg x d)(hm:X.mg=mg)(hd:(x==("__debug__" : Str))=false):DE K mg X ES (.Name x pos) (eC d):=by subst hm;obtain⟨u,v,h1,h2,h3⟩:=ha.ex;exact mI (uu hg h1 h2 hd) h3
def KW(hg:Gl X x)(hm:mg x=none)(hv:bootBuiltins x=some (.type n))(he:X.mg=mg)(hn:x ≠ "__name__")(hd:(x==("__debug__" : Str))=false):DE K mg X ES (.Name x pos) (eC (.ty n)):=by subst he;exact mI (ET hg hm hv (v:=.ty n) rfl hn hd) λ_ _=>.ty n
def qI(hd:OpD K mg r g)(σ:St)(H:Hp)(Q:VK)(q:rdE K mg ES (eOp g F G) σ H Q):tOp r (rdE K mg ES F) (rdE K mg ES G) σ H Q:=by obtain⟨ρ,h,ae,w,re,p⟩:=q;exact⟨ρ,h,ae,w,re,p.bind.imp λdx h1 ρ1 H1 l1 w1 p1 x rx=>⟨ρ1,h1,ae,w1,re.mono l1,p1.bind.imp λdy h2 ρ2 H2 l2 w2 p2 y ry=>hd ρ2 h2 H2 dx dy x y Q _ w2 (rx.mono l2) ry p2⟩⟩
def K7(ho:OpR X (binaryOp op) r)(hd:OpD K mg r g)(ha:DE K mg X ES a F)(hb:DE K mg X ES b G):DE K mg X ES (.BinOp a op b pos) (eOp g F G):=PE.imp (Lw ho ha hb) (qI hd)
def JN(hr:IxR X r)(hd:OpD K mg r g)(ha:DE K mg X ES a F)(hb:DE K mg X ES b G)(hs:nV b):DE K mg X ES (.Subscript a b pos) (eOp g F G):=PE.imp (Mk hr ha hb hs) (qI hd)
def Jq(ho:OpR X (compareOp op) r)(hd:OpD K mg r g)(ha:DE K mg X ES a F)(hb:DE K mg X ES b G)(hm:behindInMarks op b=false):DE K mg X ES (.Compare a [op] [b] pos) (eOp g F G):=PE.imp (DH ho ha hb hm) (qI hd)
def uD(σ:St)(H:Hp)(Q:Bool->Hp->Prop)(q:rdT K mg ES (tOf F) σ H Q):rdE K mg ES F σ H λx H'=>∃k,x=.bl k/\Q k H':=by
 obtain⟨ρ,h,ae,w,re,p⟩:=q;refine⟨ρ,h,ae,w,re,p.bind.imp λd h1 ρ1 H1 l1 w1 p1 x rx=>?_⟩;unfold asB at p1;split at p1
 .cases rx;exact⟨_,rfl,p1 ρ1 H1 Le.refl w1⟩
 .exact p1.elim
def HY(ho:OpR X (compareOp op) r)(hd:OpD K mg r g)(ha:DE K mg X ES a F)(hb:DE K mg X ES b G)(hm:behindInMarks op b=false):DT K mg X ES (.Compare a [op] [b] pos) (tOf (eOp g F G)):=
 PT.imp (CK ho ha hb hm) λσ H Q q=>qI hd σ H _ (uD σ H Q q)
def Hy(ha:DE K mg X ES a F)(he:∀u_,isTrue a X.env u_=(do let v <- u_;standAt a.pos;holding [v] (truthy v))):DT K mg X ES a (tOf F):=
 PT.imp (E1 ha he) λσ H Q q=>uD σ H Q q
def Jr(ha:DT K mg X ES a cf):DT K mg X ES (.UnaryOp .Not a pos) (tNo cf):=PT.imp (FN ha) λσ H Q q_=>q_.el λρ h ae w re p=>
 ⟨ρ,h,ae,w,re,p.bind.imp λb h1 ρ1 H1 l1 w1 p1=>p1 ρ1 H1 Le.refl w1⟩
def DN(ha:DT K mg X ES a cf):DW K mg X ES (.BoolOp .And [a] pos) cf:=D7 ha
def GA(ha:DT K mg X ES a cf):DW K mg X ES (.BoolOp .Or [a] pos) cf:=Gy ha
def Iq(ha:DT K mg X ES a cf)(hb:DW K mg X ES (.BoolOp .And (b::es) pos) cg):DW K mg X ES (.BoolOp .And (a::b::es) pos) (tAn cf cg):=PW.imp (Fx ha hb) λσ H Q q_=>q_.el λρ h ae w re p=>
 ⟨ρ,h,ae,w,re,p.bind.imp λb h1 ρ1 H1 l1 w1 p1=>by
  cases b with
  |true=>exact⟨ρ1,h1,ae,w1,re.mono l1,p1⟩
  |false=>exact p1 ρ1 H1 Le.refl w1⟩
def J6(ha:DT K mg X ES a cf)(hb:DW K mg X ES (.BoolOp .Or (b::es) pos) cg):DW K mg X ES (.BoolOp .Or (a::b::es) pos) (tO cf cg):=PW.imp (JV ha hb) λσ H Q q_=>q_.el λρ h ae w re p=>
 ⟨ρ,h,ae,w,re,p.bind.imp λb h1 ρ1 H1 l1 w1 p1=>by
  cases b with
  |true=>exact p1 ρ1 H1 Le.refl w1
  |false=>exact⟨ρ1,h1,ae,w1,re.mono l1,p1⟩⟩
def DW.dt(h:DW K mg X ES a cf):DT K mg X ES a cf:=PW.pt h
def FV{op}(h:DE K mg X ES a F):DE K mg X ES (.BoolOp op [a] pos) F:=F8 h
def FX(ha:DE K mg X ES a F)(hb:DE K mg X ES (.BoolOp .And (b::es) pos) G):DE K mg X ES (.BoolOp .And (a::b::es) pos) (Bp F G):=PE.imp (E2 ha hb) λσ H Q q_=>q_.el λρ h ae w re p=>by
 refine⟨ρ,h,ae,w,re,p.bind.imp λd h1 ρ1 H1 l1 w1 p1 x rx=>?_⟩;unfold asB at p1;split at p1
 .rename_i b';cases rx;refine⟨b',rfl,?_⟩;cases b' with
  |true=>exact⟨ρ1,h1,ae,w1,re.mono l1,p1⟩
  |false=>exact p1 ρ1 H1 Le.refl w1 _ (.bl false)
 .exact p1.elim
def KZ(ha:DE K mg X ES a F)(hb:DE K mg X ES (.BoolOp .Or (b::es) pos) G):DE K mg X ES (.BoolOp .Or (a::b::es) pos) (eOr F G):=PE.imp (Mb ha hb) λσ H Q q_=>q_.el λρ h ae w re p=>by
 refine⟨ρ,h,ae,w,re,p.bind.imp λd h1 ρ1 H1 l1 w1 p1 x rx=>?_⟩;unfold asB at p1;split at p1
 .rename_i b';cases rx;refine⟨b',rfl,?_⟩;cases b' with
  |true=>exact p1 ρ1 H1 Le.refl w1 _ (.bl true)
  |false=>exact⟨ρ1,h1,ae,w1,re.mono l1,p1⟩
 .exact p1.elim
def Hi(ha:DE K mg X ES a F):DE K mg X ES (.UnaryOp .Not a pos) (zI F):=PE.imp (Gz ha) λσ H Q q_=>q_.el λρ h ae w re p=>by
 refine⟨ρ,h,ae,w,re,p.bind.imp λd h1 ρ1 H1 l1 w1 p1 x rx=>?_⟩;unfold asB at p1;split at p1
 .cases rx;exact⟨_,rfl,p1 ρ1 H1 Le.refl w1 _ (.bl _)⟩
 .exact p1.elim
def Kj(ho:UnR X (unaryOp op) r)(hd:UnD K mg r g)(ha:DE K mg X ES a F):DE K mg X ES (.UnaryOp op a pos) (eUn g F):=PE.imp (Mj ho ha) λσ H Q q_=>q_.el λρ h ae w re p=>
 ⟨ρ,h,ae,w,re,p.bind.imp λd h1 ρ1 H1 l1 w1 p1 x rx=>hd ρ1 h1 H1 d x Q _ w1 rx p1⟩
def HJ:DA K mg X ES [] jQ:=PA.imp HD λσ H Q q_=>q_.el λρ h ae w re p=>p ρ H Le.refl w _ .nil
def EU(ha:DE K mg X ES e F)(hr:DA K mg X ES es A)(hs:starEach (e::es) X.env=(false,eval e X.env)::starEach es X.env):DA K mg X ES (e::es) (kN F A):=PA.imp (CJ ha hr hs) λσ H Q q_=>q_.el λρ h ae w re p=>
 ⟨ρ,h,ae,w,re,p.bind.imp λd h1 ρ1 H1 l1 w1 p1 x rx=>⟨ρ1,h1,ae,w1,re.mono l1,p1.bind.imp λds h2 ρ2 H2 l2 w2 p2 vs rs=>p2 ρ2 H2 Le.refl w2 _ (.cons (rx.mono l2) rs)⟩⟩
def Je{x1}(h:DA K mg X ES es A):DE K mg X ES (.Tuple es x1 pos) (eFn iM A):=PE.imp (GD h) λσ H Q q_=>q_.el λρ h ae w re p=>
 ⟨ρ,
  h,ae,w,re,p.bind.imp λds h1 ρ1 H1 l1 w1 p1 vs rs=>by
  unfold iM at p1;split at p1
  .rename_i hl;exact⟨by rw[<- rs.len];exact hl,λq hq=>l7 w1 rs hq p1⟩
  .exact p1.elim⟩
def Jd(h:DA K mg X ES es A):DE K mg X ES (.List es pos) (eFn eN A):=PE.imp (Hl h) λσ H Q q_=>q_.el λρ h ae w re p=>
 ⟨ρ,
  h,ae,w,re,p.bind.imp λds h1 ρ1 H1 l1 w1 p1 vs rs=>by
  unfold eN at p1;split at p1
  .rename_i hl;exact⟨by rw[<- rs.len];exact hl,λq hq=>eR w1 rs hq p1⟩
  .exact p1.elim⟩
def xn(hd:cJ K mg r g)(σ:St)(H:Hp)(Q:VK)(q:rdE K mg ES (eFn g A) σ H Q):tCB r (rdA K mg ES A) σ H Q:=by obtain⟨ρ,h,ae,w,re,p⟩:=q;exact⟨ρ,h,ae,w,re,p.bind.imp λds h1 ρ1 H1 l1 w1 p1 vs rs=>hd ρ1 h1 H1 ds vs Q _ w1 rs p1⟩
def Be{id:String}{r:List V->Hp->VK->Prop}{g:Fn}{x:Str}{p:Pos}(hc:CallR X (.builtin id) r)(hd:cJ K mg r g)(hg:Gl X x)(hm:mg x=none)(hv:bootBuiltins x=some (.builtin id))(ha:DA K mg X ES (e::es) A)(hk:X.mg=mg)(hn:x ≠ "__name__")(hdb:(x==("__debug__" : Str))=false)
 (he:starEach (e::es) X.env=(false,eval e X.env)::starEach es X.env) (hpl:(backTo pos (starEach es X.env)).any (·.1)=false):DE K mg X ES (.Call (.Name x p) (e::es) [] pos) (eFn g A):=by
 subst hk;exact PE.imp (Bl hc hg hm hv ha hn hdb he hpl) (xn hd)
def yz(hc:CallR X (.type T) r)(hd:cJ K mg r g)(hg:Gl X x)(hm:mg x=none)(hv:bootBuiltins x=some (.type T))(ha:DA K mg X ES (e::es) A)(hk:X.mg=mg)(hn:x ≠ "__name__")(hdb:(x==("__debug__" : Str))=false)
 (he:starEach (e::es) X.env=(false,eval e X.env)::starEach es X.env) (hpl:(backTo pos (starEach es X.env)).any (·.1)=false):DE K mg X ES (.Call (.Name x p) (e::es) [] pos) (eFn g A):=by
 subst hk;exact PE.imp (yx hc hg hm hv ha hn hdb he hpl) (xn hd)
end
noncomputable def SR.then(r:SR)(f:AE->AH->SR):SR:=match r with
 |.nx ae h=>f ae h
 |.rt d h=>.rt d h
 |.bk ae h=>.bk ae h
 |.ct ae h=>.ct ae h
 |.exc c ae h=>.exc c ae h
 |.stuck=>.stuck
noncomputable def R.toS{α:Type}(r:R α)(ae:AE)(f:α->AH->SR):SR:=match r with
 |.ok a h=>f a h
 |.exc c h=>.exc c ae h
 |.stuck=>.stuck
noncomputable def sNx:MS:=λae h=>.nx ae h
def sCt:MS:=λae h=>.ct ae h
noncomputable def BE(F G:MS):MS:=λae h=>(F ae h).then G
noncomputable def vO(F:ME):MS:=λae h=>(F ae h).toS ae λd h1=>.rt d h1
noncomputable def wz(F:ME):MS:=λae h=>(F ae h).toS ae λ_ h1=>.nx ae h1
noncomputable def sIf(c:MT)(F G:MS):MS:=λae h=>(c ae h).toS ae λb h1=>if b=true then F ae h1 else G ae h1
abbrev MG:=D->AE->AH->R AE
abbrev MGs:=List D->AE->AH->R AE
noncomputable def gH(F:ME)(g:MG):MS:=λae h=>(F ae h).toS ae λd h1=>(g d ae h1).toS ae λc_ h2=>.nx c_ h2
noncomputable def gN(i:Nat):MG:=λd ae h=>.ok (ae.set i (some d)) h
noncomputable def gsN:MGs:=λds ae h=>match ds with
 | []=>.ok ae h
 |_=>.stuck
noncomputable def gsC(g:MG)(u:MGs):MGs:=λds ae h=>match ds with
 |d::r=>(g d ae h).bind λc_ h'=>u r c_ h'
 | []=>.stuck
noncomputable def gT(u:MGs):MG:=λd ae h=>match d with
 |.tup ds=>u ds ae h
 |_=>.stuck
noncomputable def gS(F G:ME)(w:D->D->D->AH->R Unit):MG:=λv ae h=>(F ae h).bind λo h1=>(G ae h1).bind λi h2=>(w o i v h2).bind λ_ h3=>.ok ae h3
noncomputable def BQ(i j:Nat)(A:MA):MS:=λae h=>(A ae h).toS ae λds h1=>match ds with
 | [d,e]=>.nx ((ae.set i (some d)).set j (some e)) h1
 |_=>.stuck
noncomputable def sP(i:Nat)(g:D->D->AH->R D)(F:ME):MS:=λae h=>match ae[i]? with
 |some (some x)=>(F ae h).toS ae λy h1=>(g x y h1).toS ae λz h2=>.nx (ae.set i (some z)) h2
 |_=>.stuck
noncomputable def rA(c:Str)(A:MA):MS:=λae h=>(A ae h).toS ae λds h1=>if ds.length<=16777216 then .exc c ae h1 else .stuck
section
variable(K:W.Frag)(mg:Pa)
def rdG(ES:St->XK)(g:MG):TG:=λv σ H Q=>∃ρ h ae d,Wd K mg ρ h H/\RelE K mg ρ H ae σ/\RelD K mg ρ H d v/\PostG K mg ρ H (ES σ) (λc_ _ ρ' H'=>∀σ',RelE K mg ρ' H' c_ σ'->Q σ' H') (g d ae h)
def rdGs(ES:St->XK)(g:MGs):TGs:=λvs σ H Q=>∃ρ h ae ds,Wd K mg ρ h H/\RelE K mg ρ H ae σ/\RelDs K mg ρ H ds vs/\PostG K mg ρ H (ES σ) (λc_ _ ρ' H'=>∀σ',RelE K mg ρ' H' c_ σ'->Q σ' H') (g ds ae h)
def DG(X:Cx)(ES:St->XK)(e:Expr)(g:MG):Prop:=PG X e (rdG K mg ES g)
def DGs(X:Cx)(ES:St->XK)(es:List Expr)(g:MGs):Prop:=PGs X es (rdGs K mg ES g)
def kT(X:Cx)(ES:St->XK):Prop:=∀(pins:Pb) (σ:St) (H:Hp) (s:Shared) (e:Value) (s':Shared),Inv X pins σ H s->CX1 X.prog X.w X.stack H s (ES σ) e s'->X.xe e s'
end
def rdG.el{K:W.Frag}{mg:Pa}{ES:St->XK}{g:MG}{v:V}{σ:St}{H:Hp}{Q:St->Hp->Prop}{C:Prop}(q:rdG K mg ES g v σ H Q)(k:∀ρ h ae d,Wd K mg ρ h H->RelE K mg ρ H ae σ->RelD K mg ρ H d v->PostG K mg ρ H (ES σ) (λc_ _ ρ' H'=>∀σ',RelE K mg ρ' H' c_ σ'->Q σ' H') (g d ae h)->C):C:=by obtain⟨ρ,h,ae,d,w,re,rd,p⟩:=q;exact k ρ h ae d w re rd p
def rdGs.el{K:W.Frag}{mg:Pa}{ES:St->XK}{g:MGs}{v:List V}{σ:St}{H:Hp}{Q:St->Hp->Prop}{C:Prop}(q:rdGs K mg ES g v σ H Q)(k:∀ρ h ae d,Wd K mg ρ h H->RelE K mg ρ H ae σ->RelDs K mg ρ H d v->PostG K mg ρ H (ES σ) (λc_ _ ρ' H'=>∀σ',RelE K mg ρ' H' c_ σ'->Q σ' H') (g d ae h)->C):C:=by obtain⟨ρ,h,ae,d,w,re,rd,p⟩:=q;exact k ρ h ae d w re rd p
section
variable{K:W.Frag}{mg:Pa}{ES:St->XK}{ρ:List Addr}{H:Hp}{h:AH}{ae:AE}{σ:St}{De:Ends}
def cW(p:PostS K mg ρ H De ES (r.toS ae f))(re:RelE K mg ρ H ae σ)
 (i:∀a h1 ρ1 H1,Le ρ H ρ1 H1->Wd K mg ρ1 h1 H1->RelE K mg ρ1 H1 ae σ->PostS K mg ρ1 H1 De ES (f a h1)->k a h1 ρ1 H1):PostG K mg ρ H (ES σ) k r:=by
 cases r with
 |ok a h1=>exact λρ1 H1 l1 w1=>i a h1 ρ1 H1 l1 w1 (re.mono l1) (PostS.mono l1 p)
 |exc c h1=>exact λρ1 H1 C l1 w1 m=>p ρ1 H1 σ C l1 w1 (re.mono l1) m
 |stuck=>exact p
def gR(p:PostS K mg ρ H De ES (.nx c_ h))(w:Wd K mg ρ h H)(re:RelE K mg ρ H c_ σ):De.nx σ H:=p ρ H σ Le.refl w re
def BL(p:PostS K mg ρ H De ES (r.then f))(i:∀i_ h1 ρ1 H1 σ1,Le ρ H ρ1 H1->Wd K mg ρ1 h1 H1->RelE K mg ρ1 H1 i_ σ1->PostS K mg ρ1 H1 De ES (f i_ h1)->N σ1 H1):PostS K mg ρ H { De with nx:=N } ES r:=by
 cases r with
 |nx i_ h1=>exact λρ1 H1 σ1 l1 w1 re1=>i i_ h1 ρ1 H1 σ1 l1 w1 re1 (PostS.mono l1 p)
 |rt d h1=>exact p
 |bk i_ h1=>exact p
 |ct i_ h1=>exact p
 |exc c i_ h1=>exact p
 |stuck=>exact p
end
section
variable{K:W.Frag}{mg:Pa}{X:Cx}{ES:St->XK}{e a b c o i:Expr}{es:List Expr}{st:Stmt}{sts sts':List Stmt}{F:ME}{A:MA}{cf:MT}{U V':MS}{g:MG}{gs:MGs}{pos:Pos}
def C6:DSs K mg X ES [] sNx:=PSs.imp Eo λD σ H q_=>q_.el λρ h ae w re p=>gR p w re
def EF(h1:DS K mg X ES st U):DSs K mg X ES [st] U:=Ez h1
def AS(h1:DS K mg X ES st U)(h2:DSs K mg X ES sts V'):DSs K mg X ES (st::sts) (BE U V'):=PSs.imp (Ah h1 h2) λD σ H q_=>q_.el λρ h ae w re p=>
 ⟨ρ,h,ae,w,re,BL p λi_ h1 ρ1 H1 σ1 l1 w1 re1 p1=>⟨ρ1,h1,i_,w1,re1,p1⟩⟩
def um:DS K mg X ES (.Continue pos) sCt:=PS.imp uc λD σ H q_=>q_.el λρ h ae w re p=>p ρ H σ Le.refl w re
def Ft(he:DE K mg X ES e F):DS K mg X ES (.Return (some e) pos) (vO F):=PS.imp (Ht he) λD σ H q_=>q_.el λρ h ae w re p=>
 ⟨ρ,h,ae,w,re,cW p re λd h1 ρ1 H1 l1 w1 re1 p1 v rv=>p1 ρ1 H1 v Le.refl w1 rv⟩
def Ey(he:DE K mg X ES e F)(hs:swapsWith e none pos.line X.env=pure false):DS K mg X ES (.Expr e pos) (wz F):=PS.imp (EV he hs) λD σ H q_=>q_.el λρ h ae w re p=>
 ⟨ρ,h,ae,w,re,cW p re λd h1 ρ1 H1 l1 w1 re1 p1 v rv=>gR p1 w1 re1⟩
def Kf(hc:DT K mg X ES c cf)(ha:DSs K mg X ES sts U)(hb:DSs K mg X ES sts' V'):DS K mg X ES (.If c sts sts' pos) (sIf cf U V'):=PS.imp (LP hc ha hb) λD σ H q_=>q_.el λρ h ae w re p=>
 ⟨ρ,h,ae,w,re,cW p re λb h1 ρ1 H1 l1 w1 re1 p1=>by
  cases b with
  |true=>exact⟨ρ1,h1,ae,w1,re1,p1⟩
  |false=>exact⟨ρ1,h1,ae,w1,re1,p1⟩⟩
def Dt{i:Nat}{x:Str}(hN:X.N.Nodup)(hi:X.N[i]?=some x)(hx:Loc X.env.scope x)(hf:X.fn x=true\/X.env.scope.names.lookup x=some .local):DG K mg X ES (.Name x pos) (gN i):=
 PG.imp (CU hN hi hx hf) λv σ H Q q_=>q_.el λρ h ae d w re rd p=>p ρ H Le.refl w _ (re.set i rd)
def Ej:DGs K mg X ES [] gsN:=PGs.imp DF λvs σ H Q q_=>q_.el λρ h ae ds w re rd p=>by
 cases rd with
 |nil=>exact⟨rfl,p ρ H Le.refl w _ re⟩
 |cons r rr=>exact p.elim
def AA(h1:DG K mg X (λ_=>E0) e g)(h2:DGs K mg X (λ_=>E0) es gs)
 (hs:(assignEach (e::es) X.env).map (·.2)=assign e X.env::(assignEach es X.env).map (·.2)):DGs K mg X (λ_=>E0) (e::es) (gsC g gs):=PGs.imp (AM h1 h2 hs) λvs σ H Q q_=>q_.el λρ h ae ds w re rd p=>by
 cases rd with
 |nil=>exact p.elim
 |cons r rr=>exact⟨_,_,rfl,ρ,h,ae,_,w,re,r,p.bind.imp λi_ h1 ρ1 H1 l1 w1 p1 σ1 re1=>⟨ρ1,h1,i_,_,w1,re1,rr.mono l1,p1⟩⟩
def F5{k n:Nat}(hK:X.K=K)(hc:X.calm=true)(h:DGs K mg X (λ_=>E0) es gs)
 (hn:(assignEach es X.env).length=n) (hst:(assignEach es X.env).findIdx? (·.1)=none):DG K mg X (λ_=>E0) (.Tuple es k pos) (gT λds ae h=>if ds.length=n then gs ds ae h else .stuck):=by
 subst hK;refine PG.imp (xN hc h hn hst) λv σ H Q q_=>q_.el λρ h ae d w re rd p=>?_;unfold gT at p;cases rd with
 |
  tup q rs=>
  dsimp only at p;split at p
  .rename_i hl;exact⟨_,_,rfl,q,by rw[<- rs.len];exact hl,ρ,h,ae,_,w,re,rs,p⟩
  .exact p.elim
 |_=>exact p.elim
noncomputable def noX{α:Type}(r:R α):R α:=match r with
 |.exc _ _=>.stuck
 |.ok a h=>.ok a h
 |.stuck=>.stuck
def DG.weak(hg:DG K mg X (λ_=>E0) e g):DG K mg X ES e (λd ae h=>noX (g d ae h)):=PG.imp hg λv σ H Q q_=>q_.el λρ h ae d w re rd p=>by
 refine⟨ρ,h,ae,d,w,re,rd,?_⟩;try dsimp only at p
 cases q:g d ae h with
 |ok a h1=>rw[q] at p;exact p
 |exc c h1=>rw[q] at p;exact p.elim
 |stuck=>rw[q] at p;exact p.elim
def ou(K:W.Frag)(mg:Pa)(r:vB)(f:D->D->D->AH->R Unit):Prop:=∀ρ h H do_ di dv o i v (Q:Hp->Prop) E,Wd K mg ρ h H->RelD K mg ρ H do_ o->RelD K mg ρ H di i->RelD K mg ρ H dv v->PostG K mg ρ H E (λ_ _ _ H'=>Q H') (f do_ di dv h)->r o i v H Q
def yo(he:DE K mg X ES e F)(hg:DG K mg X ES a g)(hs:swapsWithSole [a] e pos.line X.env=pure false)(hw:swappedStores [a] e X.env=pure none)
 (h1:(assignEach [a] X.env).map (·.2)=[assign a X.env]):DS K mg X ES (.Assign [a] e pos) (gH F g):=PS.imp (Ju he hg hs hw h1) λD σ H q_=>q_.el λρ h ae w re p=>
 ⟨ρ,h,ae,w,re,cW p re λd h1 ρ1 H1 l1 w1 re1 p1 v rv=>⟨ρ1,h1,ae,d,w1,re1,rv,cW p1 re1 λae2 h2 ρ2 H2 l2 w2 re2 p2 σ' re'=>gR p2 w2 re'⟩⟩
def Jc{i:Nat}{x:Str}{t_:Pos}(hN:X.N.Nodup)(hi:X.N[i]?=some x)(hx:Loc X.env.scope x)(he:DE K mg X ES e F)(hs:swapsWith e (some (.Name x t_)) pos.line X.env=pure false)(hf:X.fn x=true\/X.env.scope.names.lookup x=some .local):
 DS K mg X ES (.Assign [.Name x t_] e pos) (gH F (gN i)):=PS.imp (FI hN hi hx he hs hf) λD σ H q_=>q_.el λρ h ae w re p=>
 ⟨ρ,h,ae,w,re,cW p re λd h1 ρ1 H1 l1 w1 re1 p1 v rv=>gR p1 w1 (re1.set i rv)⟩
def IE{i j:Nat}{x y:Str}{px py pt:Pos}{kt k2 pt2}(hc:X.calm=true)(hN:X.N.Nodup)(hi:X.N[i]?=some x)(hj:X.N[j]?=some y)(hij:i≠j)
 (hx:X.env.scope.names.lookup x=some .local) (hy:X.env.scope.names.lookup y=some .local) (ha:DA K mg X ES [a,b] A)
 (hw:swappedStores [.Tuple [.Name x px,.Name y py] kt pt] (.Tuple [a,b] k2 pt2) X.env=pure (some [x,y]))
 (hs:swapsWithSole [.Tuple [.Name x px,.Name y py] kt pt] (.Tuple [a,b] k2 pt2) pos.line X.env=pure false):
 DS K mg X ES (.Assign [.Tuple [.Name x px,.Name y py] kt pt] (.Tuple [a,b] k2 pt2) pos) (BQ i j A):=PS.imp (Ic hc hN hi hj hij hx hy ha hw hs) λD σ H q_=>q_.el λρ h ae w re p=>
 ⟨ρ,h,ae,w,re,cW p re λds h1 ρ1 H1 l1 w1 re1 p1 vs rs=>by
  split at p1
  .cases rs with
   |
    cons r1 rs=>
    cases rs with
    |cons r2 rs=>cases rs;exact⟨_,_,rfl,gR p1 w1 ((re1.set i r1).set j r2)⟩
  .exact p1.elim⟩
def IpD(K:W.Frag)(mg:Pa)(r:TIp)(g:D->D->AH->R D):Prop:=∀ρ h H dx dy x y Q E,Wd K mg ρ h H->RelD K mg ρ H dx x->RelD K mg ρ H dy y->eL K mg ρ H Q E (g dx dy h)->r x y H Q
def FE{i:Nat}{x:Str}{op:Operator}{ti:TIp}{t_:Pos}{gg:D->D->AH->R D}(hN:X.N.Nodup)(hi:X.N[i]?=some x)(hx:Loc X.env.scope x)(he:DE K mg X ES e F)(ho:PIp X op ti)(hd:IpD K mg ti gg)(hf:X.fn x=true\/X.env.scope.names.lookup x=some .local):
 DS K mg X ES (.AugAssign (.Name x t_) op e pos) (sP i gg F):=PS.imp (GU hN hi hx he ho hf) λD σ H q_=>q_.el λρ h ae w re p=>by
 unfold sP at p;split at p
 .rename_i d ed;obtain⟨v,e1,r⟩:=re.at_ i d ed;exact⟨v,e1,ρ,h,ae,w,re,cW p re λdy h1 ρ1 H1 l1 w1 re1 p1 y ry=>hd ρ1 h1 H1 d dy v y _ _ w1 (r.mono l1) ry (cW p1 re1 λdz h2 ρ2 H2 l2 w2 re2 p2 z rz=>gR p2 w2 (re2.set i rz))⟩
 .exact p.elim
def zF(hc:X.calm=true)(hR:Rz X E)(hg:Gl X x)(hm:mg x=some (.ref C))(hq:W.excIn X.K C me "ValueError.__new__"=true)(ha:DA K mg X (λ_=>E) (e::es) A)(hk:X.mg=mg)
 (he:starEach (e::es) X.env=(false,eval e X.env)::starEach es X.env) (j':(backTo cpos (starEach es X.env)).any (·.1)=false) (hd:(x==("__debug__" : Str))=false):
 DS K mg X (λ_=>E) (.Raise (some (.Call (.Name x np) (e::es) [] cpos)) none pos) (rA x A):=by
 subst hk;exact
  PS.imp (BI hc hR hg hm hq ha he j' hd) λD σ H q_=>q_.el λρ h ae w re p=>
  ⟨ρ,
   h,ae,w,re,cW p re λds h1 ρ1 H1 l1 w1 re1 p1 vs rs=>by
   split at p1
   .rename_i hl;exact⟨by rw[<- rs.len];exact hl,p1 ρ1 H1 σ C Le.refl w1 re1 hm⟩
   .exact p1.elim⟩
def EG(C:Callee X.prog X.w X.K X.mg X.base x k ps (spD K mg n S))(hr:Room k X.A)(hg:Gl X x)(hx:kT X ES)(ha:DA K mg X ES (e::es) A)
 (hdb:(x==("__debug__" : Str))=false) (he:starEach (e::es) X.env=(false,eval e X.env)::starEach es X.env) (hpl:(backTo pos (starEach es X.env)).any (·.1)=false):
 DE K mg X ES (.Call (.Name x p) (e::es) [] pos) (eFn (λds h=>if ds.length=n then S ds h else .stuck) A):=by
 obtain⟨f,fd,F',m,kp,bb,_⟩:=C.ex;intro pins s σ H Q I hh;refine NS (oP I hg m ?_ hdb);have rd:rdA K mg ES A σ H (λvs H1=>spD K mg n S vs H1 Q (ES σ)):=by
  obtain⟨ρ,h,ae,w,re,p⟩:=hh;refine⟨ρ,h,ae,w,re,p.bind.imp λds h1 ρ1 H1 l1 w1 p1 vs rs=>?_⟩;split at p1
  .rename_i hl;exact⟨ρ1,h1,ds,w1,rs,hl,p1⟩
  .exact p1.elim
 refine W.callWith_K (h₀:=X.base) I.ok.mod.kin kp (M6 (ha pos pins s σ H _ I rd) (λus s1 ⟨vs,H1,I1,r,q⟩=>⟨I1.kIn,?_⟩) λ_ _ z=>z) he hpl;have hl:(us++[]).length=ps.length:=by rw[Nn,<- r.length];exact F'.len _ _ _ _ q
 refine wpAny_call (codeAny_mono (F'.run X.A X.stack s1 H1 ⟨us,[]⟩ us vs Q (ES σ) hr I1.env0 (by simpa using bb s1 us I1.kIn hl) r q) λr s' hq=>?_);cases r with
 |error ex=>exact hx pins σ H1 s1 ex s' I1 hq
 |
  ok fl=>
  cases fl with
  |ret u=>exact I1.after hq
  |next=>exact False.elim hq
  |brk=>exact False.elim hq
  |cont=>exact False.elim hq
noncomputable def fnD(n:Nat)(F:MS):Fn:=λds h=>match F (ds.map some++List.replicate (n-ds.length) none) h with
 |.nx _ h'=>.ok .non h'
 |.rt d h'=>.ok d h'
 |.exc c _ h'=>.exc c h'
 |_=>.stuck
def ua(hp:sQ (CX1 X.prog X.w) X E):kT X (λ_=>E):=λpins σ H s e s' I h=>hp pins σ H s e s' I h
def Bh:kT X (λ_=>E0):=λpins σ H s e s' I h=>Kg pins σ H s e s' I h
end
section
variable{P:Program}{w:World}{K:W.Frag}{mg:Pa}{base:Heap}{x:Str}{st:Stmt}{k:Nat}{ps N:List Str}{F:MS}
def vX(rs:RelDs K mg ρ H ds vs):RelE K mg ρ H (ds.map some++List.replicate (N.length-ds.length) none) (gb N vs):=by
 unfold gb;refine⟨by rw[E_,E_,v_,v_,Ng,Ng,rs.len],λi d e=>?_⟩;by_cases hi:i<ds.length
 .rw[MH (by rw[v_];exact hi),MP] at e;have e':ds[i]?=some d:=by
   cases q:ds[i]? with
   |none=>rw[q] at e;cases e
   |some z=>rw[q] at e;cases e;rfl
  obtain⟨v,h1,h2⟩:=rs.getD e';refine⟨v,?_,h2⟩;rw[MH (by rw[v_,<- rs.len];exact hi),MP,h1];rfl
 .rw[MW (by rw[v_];omega),Nb] at e;split at e <;> cases e
def Def.okD(D:Def K mg x st)(S:FnScope N ps (bw st))
 (hb:∀(kV doc pm:Value) (an:Option Addr) (cdv ct:Value) (us:List Value),us.length=ps.length->bindArgs (W.fnOf x x (dg st) (bU st) (bw st) .none kV doc pm an cdv ct) ⟨us,[]⟩=pure (ps.zip us))
 (j_:∀(f:Addr) (cdv:Value) (A:Around) (outer:List Env) (s:Shared) (H:Hp) (E:XK),Room k (A.deeper (envOfC x (bw st) s.heap.objs.size f cdv))->
  DSs K mg (eJ (CX1 P w) P w K mg base N x (bw st) f cdv A outer s H E) (λ_=>E) (bU st) F):Callee P w K mg base x (k+1) ps (spD K mg ps.length (fnD N.length F)):=by
 refine D.okR S hb (λvs H Q E ⟨ρ,h,ds,w,rs,hl,p⟩=>by rw[<- rs.len];exact hl) λf cdv A outer s H vs Q E hr ⟨ρ,h,ds,w',rs,hl,p⟩=>?_;refine⟨_,j_ f cdv A outer s H E hr,ρ,h,_,w',vX rs,?_⟩;unfold fnD at p;split at p
 .rename_i e;rw[e];exact λρ1 H1 σ1 l1 w1 re1=>p ρ1 H1 l1 w1 _ .non
 .rename_i e;rw[e];exact λρ1 H1 v l1 w1 rv=>p ρ1 H1 l1 w1 v rv
 .rename_i e;rw[e];exact λρ1 H1 σ1 C l1 w1 re1 m=>p ρ1 H1 C l1 w1 m
 .exact p.elim
end
noncomputable def bS(h:AH)(n:Nat):Option (List D):=match h[n]? with
 |some (.lst xs)=>some xs
 |some (.fz xs)=>some xs
 |_=>none
noncomputable def hX(h:AH):D->Option (List D)
 |.tup xs=>some xs
 |.ref n=>bS h n
 |.kl xs=>some xs
 |_=>none
section
variable{K:W.Frag}{mg:Pa}{ρ:List Addr}{H:Hp}{h:AH}
def cE(w:Wd K mg ρ h H)(ea:ρ[n]?=some a)(e:bS h n=some xs):∃vs,SqL K H a vs/\RelDs K mg ρ H xs vs:=by
 unfold bS at e;split at e
 .rename_i ys eo;cases e;obtain⟨vs,h1,h2⟩:=w.ob n a _ ea eo;exact⟨vs,SqL.of h1,h2⟩
 .rename_i ys eo;cases e;obtain⟨o,vs,h1,h2⟩:=w.ob n a _ ea eo;exact⟨vs,.inl (.inr ⟨o,h1⟩),h2⟩
 .cases e
def gw(w:Wd K mg ρ h H)(r:RelD K mg ρ H d v)(e:hX h d=some xs):∃p vs,v=.ref p/\(SqL K H p vs\/SqT K H p vs)/\RelDs K mg ρ H xs vs:=by
 cases r with
 |tup q rs=>have e':some _=some xs:=e;cases e';exact⟨_,_,rfl,.inr q,rs⟩
 |ref ea=>obtain⟨vs,h1,h2⟩:=cE w ea e;exact⟨_,vs,rfl,.inl h1,h2⟩
 |kl q rs=>have e':some _=some xs:=e;cases e';exact⟨_,_,rfl,.inl (.inr q),rs⟩
 |_=>cases e
end
noncomputable def g2(f:Int->Int->R D)(x y:D):R D:=match x,y with
 |.int i,.int j=>f i j
 |_,_=>.stuck
noncomputable def gI(f:Int->Int->D):D->D->AH->R D:=λx y h=>match x,y with
 |.int i,.int j=>.ok (f i j) h
 |_,_=>.stuck
open Classical in
def gIc(C:Int->Int->Prop)(f:Int->Int->D):D->D->AH->R D:=λx y h=>match x,y with
 |.int i,.int j=>if C i j then .ok (f i j) h else .stuck
 |_,_=>.stuck
section
variable{K:W.Frag}{mg:Pa}
def kE(hr:∀i j ρ H,RelD K mg ρ H (g i j) (f i j)):OpD K mg (rI0 f) (gI g):=λρ h H dx dy x y Q E w rx ry p=>by
 unfold gI at p;split at p
 .cases rx;cases ry;exact⟨_,_,rfl,rfl,bC w (hr _ _ ρ H) p⟩
 .exact p.elim
def m8(hr:∀i j ρ H,RelD K mg ρ H (g i j) (f i j)):OpD K mg (rI C f) (gIc C g):=λρ h H dx dy x y Q E w rx ry p=>by
 unfold gIc at p;split at p
 .cases rx;cases ry;split at p
  .rename_i hc;exact⟨_,_,rfl,rfl,hc,bC w (hr _ _ ρ H) p⟩
  .exact p.elim
 .exact p.elim
noncomputable def gOr(g g':D->D->AH->R D):D->D->AH->R D:=λx y h=>match g x y h with
 |.stuck=>g' x y h
 |r=>r
def OpD.or(a:OpD K mg r g)(b:OpD K mg r' g'):OpD K mg (λx y H Q=>r x y H Q\/r' x y H Q) (gOr g g'):=λρ h H dx dy x y Q E w rx ry p=>by
 unfold gOr at p;split at p
 .exact .inr (b ρ h H dx dy x y Q E w rx ry p)
 .exact .inl (a ρ h H dx dy x y Q E w rx ry p)
end
noncomputable def lV:D->D->AH->R D:=λx y h=>match x,y with
 |.ref n,.ref m=>match h[n]?,h[m]? with
  |some (.lst xs),some (.lst ys)=>if xs.length+ys.length<=16777216 then .ok (.ref h.length) (h++[.lst (xs++ys)]) else .stuck
  |_,_=>.stuck
 |.tup xs,.tup ys=>if xs.length+ys.length<=16777216 then .ok (.tup (xs++ys)) h else .stuck
 |_,_=>.stuck
noncomputable def gIx:D->D->AH->R D:=λx y h=>match hX h x,y with
 |some xs,.int i=>match atI xs i with
  |some d=>.ok d h
  |none=>.stuck
 |_,_=>.stuck
section
variable{K:W.Frag}{mg:Pa}{X:Cx}
def lu(K:W.Frag):R2:=λx y H Q=>∃a b ys,x=.ref a/\y=.ref b/\SqT K H a []/\SqT K H b ys/\Q (.ref b) H
def Dq:OpR X (binaryOp .Add) (lu X.K):=by
 intro pins s σ H x y v u Q I rx ry h;obtain⟨a,b,ys,rfl,rfl,ha,hb,q⟩:=h;cases rx;cases ry;obtain⟨its,r1,p1,_⟩:=I.tuple ha;obtain⟨its2,r2,p2,_⟩:=I.tuple hb;have e:its=[]:=r1.nil_iff.mpr rfl;subst e;obtain⟨⟨cls,dd,data,sl⟩,ho,hc,n,hd⟩:=id p1;obtain⟨⟨cls2,dd2,data2,sl2⟩,ho2,hc2,n2,hd2⟩:=id p2;simp only at hc hd hc2 hd2;subst hc hd hc2 hd2;exact concat_meets ⟨_,ho,rfl⟩ ⟨_,ho2,rfl⟩ noFill_tuple_add seq_tuple_add Om Of (Oa _ _)
  (tuple_addW0 _ _ _ _ n n2 dd dd2 sl sl2 rfl) ⟨ho,ho2,⟨.ref b,H,I,rfl,q⟩⟩
def Du:OpD K mg (λx y H Q=>o3 x y H Q\/(kS K x y H Q\/lu K x y H Q)) lV:=λρ h H dx dy x y Q E w rx ry p=>by
 unfold lV at p;split at p
 .cases
   rx with
  |
   ref ea=>
   cases ry with
   |
    ref eb=>
    split at p
    .rename_i xs ys e1 e2;split at p
     .rename_i hl;obtain⟨vs,q1,r1⟩:=w.ob _ _ _ ea e1;obtain⟨ws,q2,r2⟩:=w.ob _ _ _ eb e2;exact .inl ⟨_,_,vs,ws,rfl,rfl,q1,q2,by rw[<- r1.len,<- r2.len];exact hl,λp' hp=>eR w (r1.append r2) hp p⟩
     .exact p.elim
    .exact p.elim
 .cases
   rx with
  |
   tup q1 r1=>
   cases ry with
   |
    tup q2 r2=>
    split at p
    .rename_i hl;cases r1 with
     |nil=>exact .inr (.inr ⟨_,_,_,rfl,rfl,q1,q2,bC w (.tup q2 r2) p⟩)
     |cons r0 r1=>refine .inr (.inl ⟨_,_,_,_,rfl,rfl,q1,q2,(λz=>nomatch z),by rw[<- (RelDs.cons r0 r1).len,<- r2.len];exact hl,λz=>?_,λ_ p' hp=>l7 w ((RelDs.cons r0 r1).append r2) hp p⟩);subst z;cases r2;rw[Nn] at p;exact bC w (.tup q1 (.cons r0 r1)) p
    .exact p.elim
 .exact p.elim
def DV(r:RelDs K mg ρ H xs vs)(e:atI xs i=some d):∃v,atI vs i=some v/\RelD K mg ρ H d v:=by
 unfold atI at e ⊢;rw[<- r.len];cases q:ixN xs.length i with
 |none=>rw[q] at e;cases e
 |some j=>rw[q] at e;exact r.getD e
def Gg:OpD K mg (λx y H Q=>wR K x y H Q\/wJ K x y H Q) gIx:=λρ h H dx dy x y Q E w rx ry p=>by
 unfold gIx at p;split at p
 .rename_i xs i e1;split at p
  .rename_i d e2;cases ry;obtain⟨pa,vs,rfl,hq,rs⟩:=gw w rx e1;obtain⟨v,e3,rv⟩:=DV rs e2;rcases hq with hq |hq
   .exact .inl ⟨_,_,_,_,rfl,rfl,hq,e3,bC w rv p⟩
   .exact .inr ⟨_,_,_,_,rfl,rfl,hq,e3,bC w rv p⟩
  .exact p.elim
 .exact p.elim
def ixK(h:X.K=K):IxR X (λx y H Q=>wR K x y H Q\/wJ K x y H Q):=by subst h;exact ER.or Hd
def catK(h:X.K=K):OpR X (binaryOp .Add) (λx y H Q=>o3 x y H Q\/(kS K x y H Q\/lu K x y H Q)):=by subst h;exact Hc.or (DR.or Dq)
end
noncomputable def eG:Nat->AH->D->Option PyData
 |0,_,_=>none
 |_+1,_,.non=>some .none
 |_+1,_,.bl b=>some (.bool b)
 |_+1,_,.int i=>some (.int i)
 |_+1,_,.str x=>some (.str x)
 |k+1,h,.tup xs=>(xs.mapM (eG k h)).map .tuple
 |k+1,h,.ref n=>match bS h n with
  |some xs=>(xs.mapM (eG k h)).map .list
  |none=>none
 |_+1,_,_=>none
def pY{K:W.Frag}{mg:Pa}{ρ:List Addr}{H:Hp}{f:D->Option PyData}(hf:∀d v pd,RelD K mg ρ H d v->f d=some pd->Rep K H v pd):∀{xs:List D}{vs:List V}{ps:List PyData},RelDs K mg ρ H xs vs->xs.mapM f=some ps->Reps K H vs ps:=by
 intro xs;induction xs with
 |nil=>intro vs ps r e;cases r;have e':some []=some _:=e;cases e';exact .nil
 |
  cons x xs ih=>
  intro vs ps r e;cases r with
  |
   cons r rr=>
   rw[NX] at e;cases q:f x with
   |none=>rw[q] at e;cases e
   |
    some pd=>
    rw[q] at e;cases q2:xs.mapM f with
    |none=>rw[q2] at e;cases e
    |some pds=>rw[q2] at e;have e':some (pd::pds)=some ps:=e;cases e';exact .cons (hf _ _ _ r q) (ih rr q2)
theorem gk{K:W.Frag}{mg:Pa}{ρ:List Addr}{H:Hp}{h:AH}(w:Wd K mg ρ h H):∀(k:Nat) {d:D}{v:V}{pd:PyData},RelD K mg ρ H d v->eG k h d=some pd->Rep K H v pd
 |0,_,_,_,_,e=>by cases e
 |
  k+1,d,v,pd,r,e=>by
  cases r with
  |non=>have e':some _=some pd:=e;cases e';exact .non
  |bl b=>have e':some _=some pd:=e;cases e';exact .bl b
  |int b=>have e':some _=some pd:=e;cases e';exact .int b
  |str b=>have e':some _=some pd:=e;cases e';exact .str b
  |
   tup q rs=>
   rename_i ds;have e':(ds.mapM (eG k h)).map PyData.tuple=some pd:=e;cases q2:ds.mapM (eG k h) with
   |none=>rw[q2] at e';cases e'
   |some ps=>rw[q2] at e';cases e';exact .tup q (pY (λd v pd r e=>gk w k r e) rs q2)
  |
   ref ea=>
   rename_i n a;unfold eG at e;split at e
   .rename_i xs e1;obtain⟨vs,h1,h2⟩:=cE w ea e1;cases q2:xs.mapM (eG k h) with
    |none=>rw[q2] at e;cases e
    |some ps=>rw[q2] at e;cases e;exact .lst h1 (pY (λd v pd r e=>gk w k r e) h2 q2)
   .cases e
  |_=>cases e
noncomputable def rX(h:AH)(x y:D):Option Bool:=match eG 164 h x,eG 164 h y with
 |some a,some b=>if shp a=true/\shp b=true then some (PyData.eqv a b) else none
 |_,_=>none
def gEq(h_:Bool):D->D->AH->R D:=λx y h=>match rX h x y with
 |some b=>.ok (.bl (if h_ then !b else b)) h
 |none=>.stuck
section
variable{K:W.Frag}{mg:Pa}
def vj(w:Wd K mg ρ h H)(rx:RelD K mg ρ H dx x)(ry:RelD K mg ρ H dy y)(e:rX h dx dy=some b):
 ∃a c,Rep K H x a/\Rep K H y c/\shp a=true/\shp c=true/\PyData.eqv a c=b:=by
 unfold rX at e;split at e
 .rename_i a c e1 e2;split at e
  .rename_i hs;cases e;exact⟨a,c,gk w 164 rx e1,gk w 164 ry e2,hs.1,hs.2,rfl⟩
  .cases e
 .cases e
def HK:OpD K mg (wU K) (gEq false):=λρ h H dx dy x y Q E w rx ry p=>by
 unfold gEq at p;split at p
 .rename_i b e;obtain⟨a,c,h1,h2,h3,h4,rfl⟩:=vj w rx ry e;exact⟨a,c,h1,h2,h3,h4,bC w (.bl _) p⟩
 .exact p.elim
def FR:OpD K mg (xj K) (gEq true):=λρ h H dx dy x y Q E w rx ry p=>by
 unfold gEq at p;split at p
 .rename_i b e;obtain⟨a,c,h1,h2,h3,h4,rfl⟩:=vj w rx ry e;exact⟨a,c,h1,h2,h3,h4,bC w (.bl _) p⟩
 .exact p.elim
end
noncomputable def kX:D->Bool
 |.non=>true
 |.bl _=>true
 |.int _=>true
 |.str _=>true
 |_=>false
noncomputable def toV:D->V
 |.bl b=>.bl b
 |.int i=>.int i
 |.str x=>.str x
 |_=>.non
noncomputable def eqF(x y:D):Bool:=eqV (toV x) (toV y)
def gIn(h_:Bool):D->D->AH->R D:=λx y h=>match hX h y with
 |some xs=>if kX x=true/\xs.all kX=true then .ok (.bl (if h_ then !(xs.any λd=>eqF d x) else xs.any λd=>eqF d x)) h else .stuck
 |none=>.stuck
section
variable{K:W.Frag}{mg:Pa}{ρ:List Addr}{H:Hp}
def rS(r:RelD K mg ρ H d v)(f:kX d=true):v=toV d/\flatV v=true:=by
 cases r with
 |non=>exact⟨rfl,rfl⟩
 |bl=>exact⟨rfl,rfl⟩
 |int=>exact⟨rfl,rfl⟩
 |str=>exact⟨rfl,rfl⟩
 |_=>cases f
def yM:∀{ds:List D}{vs:List V},RelDs K mg ρ H ds vs->ds.all kX=true->vs=ds.map toV/\vs.all flatV=true:=by
 intro ds;induction ds with
 |nil=>intro vs r f;cases r;exact⟨rfl,rfl⟩
 |
  cons d0 ds ih=>
  intro vs r f;cases r with
  |cons r rr=>rw[N3,z_] at f;obtain⟨rfl,h1⟩:=rS r f.1;obtain⟨rfl,h2⟩:=ih rr f.2;exact⟨rfl,by rw[N3,h1,h2];rfl⟩
def zA(h_:Bool):OpD K mg (rIn K h_) (gIn h_):=λρ h H dx dy x y Q E w rx ry p=>by
 unfold gIn at p;split at p
 .rename_i xs e;split at p
  .rename_i hf;obtain⟨pa,vs,rfl,hq,rs⟩:=gw w ry e;obtain⟨rfl,f1⟩:=rS rx hf.1;obtain⟨rfl,f2⟩:=yM rs hf.2;refine⟨pa,_,rfl,hq,f1,f2,?_⟩;have e2:inV (toV dx) (xs.map toV)=xs.any λd=>eqF d dx:=by unfold inV eqF;rw[List.any_map];rfl
   rw[e2];exact bC w (.bl _) p
  .exact p.elim
 .exact p.elim
def kx(h_:Bool):D->D->AH->R D:=λx y h=>match x,y with
 |.non,.non=>.ok (.bl (!h_)) h
 |_,.non=>.ok (.bl h_) h
 |_,_=>.stuck
def Dh:OpD K mg (λx y H Q=>y=.non/\Q (.bl (decide (x=.non))) H) (kx false):=λρ h H dx dy x y Q E w rx ry p=>by
 unfold kx at p;split at p
 .cases rx;cases ry;exact⟨rfl,bC w (.bl _) p⟩
 .rename_i hne;cases ry;refine⟨rfl,?_⟩;have e:decide (x=V.non)=false:=by rw[decide_eq_false_iff_not];rintro rfl;cases rx;exact hne rfl
  rw[e];exact bC w (.bl _) p
 .exact p.elim
def A0:OpD K mg (λx y H Q=>y=.non/\Q (.bl (!decide (x=.non))) H) (kx true):=λρ h H dx dy x y Q E w rx ry p=>by
 unfold kx at p;split at p
 .cases rx;cases ry;exact⟨rfl,bC w (.bl _) p⟩
 .rename_i hne;cases ry;refine⟨rfl,?_⟩;have e:decide (x=V.non)=false:=by rw[decide_eq_false_iff_not];rintro rfl;cases rx;exact hne rfl
  rw[e];exact bC w (.bl _) p
 .exact p.elim
end
noncomputable def Itd(lo:Int)(n:Nat):It:=⟨λj _=>j<n,λj G v G'=>G'=G/\v=.int (lo-j),λj _=>n<=j⟩
inductive AIt where
 |lst (n:Nat) (xs:List D) |tup (xs:List D) |rng (lo:Int) (k:Nat) |rgd (lo:Int) (k:Nat) |enm (s:AIt) |zip (s t:AIt)
noncomputable def i6:Nat->List D->List D
 |_,[]=>[]
 |i,d::ds=>.tup [.int (i:Nat),d]::i6 (i+1) ds
noncomputable def AIt.items:AIt->List D
 |.lst _ xs=>xs
 |.tup xs=>xs
 |.rng lo k=>(List.range k).map λi=>D.int (lo+(i:Nat))
 |.rgd lo k=>(List.range k).map λi=>D.int (lo-(i:Nat))
 |.enm s=>i6 0 s.items
 |.zip s t=>List.zipWith (λx y=>.tup [x,y]) s.items t.items
def AIt.guard:AIt->AH->Prop
 |.lst n xs,h=>bS h n=some xs
 |.enm s,h=>s.guard h
 |.zip s t,h=>s.guard h/\t.guard h
 |_,_=>True
def SrcR(K:W.Frag)(mg:Pa)(ρ:List Addr)(H:Hp):AIt->Bool->Addr->Prop
 |.lst n _,true,a=>ρ[n]?=some a
 |.tup xs,false,p=>∃vs,SqT K H p vs/\RelDs K mg ρ H xs vs
 |_,_,_=>False
def ItR(K:W.Frag)(mg:Pa)(ρ:List Addr)(H:Hp):AIt->It->Prop
 |.lst n _,J=>∃a,ρ[n]?=some a/\J=Itl K a
 |.tup xs,J=>∃p vs,SqT K H p vs/\RelDs K mg ρ H xs vs/\J=Itt K p
 |.rng lo k,J=>J=Itr lo k
 |.rgd lo k,J=>J=Itd lo k
 |.enm s,J=>∃b a,SrcR K mg ρ H s b a/\J=IteE K b a
 |.zip s t,J=>∃b c a d,SrcR K mg ρ H s b a/\SrcR K mg ρ H t c d/\J=ItZ K b c a d
theorem se:∀{ds:List D}{k i:Nat}{e:D},(i6 k ds)[i]?=some e->∃d,ds[i]?=some d/\e=.tup [.int ((k+i:Nat):Int),d]
 | [],_,_,_,q=>by simp [i6] at q
 |d::ds,k,0,e,q=>⟨d,rfl,by simpa [i6] using q.symm⟩
 |
  d::ds,k,i+1,e,q=>by
  obtain⟨d',q1,q2⟩:=se (ds:=ds) (k:=k+1) (i:=i) (e:=e) (by simpa [i6] using q);refine⟨d',by simpa using q1,?_⟩;rw[q2];congr 4;omega
theorem tJ:∀(ds:List D) (k:Nat),(i6 k ds).length=ds.length
 | [],_=>rfl
 |_::ds,k=>by show (i6 (k+1) ds).length+1=ds.length+1;rw[tJ ds]
section
variable{K:W.Frag}{mg:Pa}{ρ ρ1:List Addr}{H H1:Hp}{h1:AH}
def SrcR.at_(r:SrcR K mg ρ H s b a)(l:Le ρ H ρ1 H1)(w:Wd K mg ρ1 h1 H1)(g:s.guard h1):∃vs,SqB K b H1 a vs/\RelDs K mg ρ1 H1 s.items vs:=by
 cases s with
 |
  lst n xs=>
  cases b with
  |true=>exact cE w (l.pre _ _ r) g
  |false=>exact r.elim
 |
  tup xs=>
  cases b with
  |true=>exact r.elim
  |false=>obtain⟨vs,q,rs⟩:=r;exact⟨vs,l.sqT q,rs.mono l⟩
 |rng _ _=>cases b <;> exact r.elim
 |rgd _ _=>cases b <;> exact r.elim
 |enm _=>cases b <;> exact r.elim
 |zip _ _=>cases b <;> exact r.elim
def ItR.nums{f:Nat->Int}{k:Nat}(w:Wd K mg ρ1 h1 H1):(∀(i:Nat) (d:D),((List.range k).map λi=>D.int (f i))[i]?=some d->i<k/\∀x H',(H'=H1/\x=V.int (f i))->Le ρ1 H1 ρ1 H'/\Wd K mg ρ1 h1 H'/\RelD K mg ρ1 H' d x)/\k<=((List.range k).map λi=>D.int (f i)).length:=by
 refine⟨λi d e=>?_,by simp⟩;rw[MP] at e;cases q:(List.range k)[i]? with
 |none=>rw[q] at e;cases e
 |some j=>rw[q] at e;have hj:=x_.mp q;have e2:=hj.2;rw[List.getElem_range] at e2;subst e2;cases e;refine⟨by simpa using hj.1,λx H' ⟨e1,e2⟩=>?_⟩;subst e1 e2;exact⟨Le.refl,w,.int _⟩
def ItR.step(hJ:ItR K mg ρ H it J)(l:Le ρ H ρ1 H1)(w:Wd K mg ρ1 h1 H1)(g:it.guard h1):
 (∀(i:Nat) (d:D),it.items[i]?=some d->J.go i H1/\∀x H',J.yld i H1 x H'->Le ρ1 H1 ρ1 H'/\Wd K mg ρ1 h1 H'/\RelD K mg ρ1 H' d x)/\J.stop it.items.length H1:=by
 cases it with
 |
  lst n xs=>
  obtain⟨a,ea,rfl⟩:=hJ;obtain⟨vs,q,rs⟩:=cE w (l.pre _ _ ea) g;refine⟨λi d e=>?_,vs,q,by rw[<- rs.len];exact y_ _⟩;obtain⟨v,ev,rv⟩:=rs.getD e;refine⟨⟨vs,v,q,ev⟩,λx H' ⟨e1,y⟩=>?_⟩;subst e1
  have:=(y vs q).symm.trans ev
  cases this;exact⟨Le.refl,w,rv⟩
 |
  tup xs=>
  obtain⟨p,vs,q,rs,rfl⟩:=hJ;have q1:=l.sqT q;have rs1:=rs.mono l;refine⟨λi d e=>?_,vs,q1,by rw[<- rs1.len];exact y_ _⟩;obtain⟨v,ev,rv⟩:=rs1.getD e;refine⟨⟨vs,v,q1,ev⟩,λx H' ⟨e1,y⟩=>?_⟩;subst e1
  have:=(y vs q1).symm.trans ev
  cases this;exact⟨Le.refl,w,rv⟩
 |rng lo k=>cases hJ;exact ItR.nums w
 |rgd lo k=>cases hJ;exact ItR.nums w
 |
  enm s=>
  obtain⟨b,a,r,rfl⟩:=hJ;obtain⟨vs,q,rs⟩:=r.at_ l w g;refine⟨λi d e=>?_,vs,q,by show vs.length=(i6 0 s.items).length;rw[tJ,rs.len]⟩;obtain⟨d',q1,rfl⟩:=se (show (i6 0 s.items)[i]?=some d from e);obtain⟨v,ev,rv⟩:=rs.getD q1;refine⟨⟨vs,v,q,ev⟩,λx H' ⟨p,u,e1,hp,e2,hu⟩=>?_⟩;subst e1 e2
  have:=(hu vs q).symm.trans ev
  cases this;rw[Nat.zero_add];exact⟨dW hp,w.tuple hp,.tup (SqT.of cX) (.cons (.int _) (.cons (rv.mono (dW hp)) .nil))⟩
 |
  zip s t=>
  obtain⟨b,c,a,d,r1,r2,rfl⟩:=hJ;obtain⟨vs,q,rs⟩:=r1.at_ l w g.1;obtain⟨us,q',rs'⟩:=r2.at_ l w g.2;refine⟨λi e ei=>?_,vs,us,q,q',?_⟩
  .have ei':(List.zipWith (λx y=>D.tup [x,y]) s.items t.items)[i]?=some e:=ei;rw[NF] at ei';cases k1:s.items[i]? with
   |none=>rw[k1] at ei';cases ei'
   |
    some d1=>
    cases k2:t.items[i]? with
    |none=>rw[k1,k2] at ei';cases ei'
    |
     some d2=>
     rw[k1,k2] at ei';cases ei';obtain⟨v,ev,rv⟩:=rs.getD k1;obtain⟨v',ev',rv'⟩:=rs'.getD k2;refine⟨⟨vs,us,v,v',q,q',ev,ev'⟩,λx H' ⟨p,u,u',e1,hp,e2,hu,hu'⟩=>?_⟩;subst e1 e2
     have:=(hu vs q).symm.trans ev
     cases this
     have:=(hu' us q').symm.trans ev'
     cases this;exact⟨dW hp,w.tuple hp,.tup (SqT.of cX) (.cons (rv.mono (dW hp)) (.cons (rv'.mono (dW hp)) .nil))⟩
  .have hl:(AIt.zip s t).items.length=min s.items.length t.items.length:=NN ..;rw[hl,rs.len,rs'.len];rcases Nat.le_total vs.length us.length with z |z
   .left;rw[Nat.min_eq_left z];exact List.getElem?_eq_none (y_ _)
   .right;rw[Nat.min_eq_right z];exact List.getElem?_eq_none (y_ _)
end
noncomputable def SR.loop(r:SR)(f:AE->AH->SR):SR:=match r with
 |.nx ae h=>f ae h
 |.ct ae h=>f ae h
 |.bk ae h=>.nx ae h
 |.rt d h=>.rt d h
 |.exc c ae h=>.exc c ae h
 |.stuck=>.stuck
open Classical in
def jY(G:AH->Prop)(g:MG)(B:MS):List D->MS
 | [],ae,h=>if G h then .nx ae h else .stuck
 |d::ds,ae,h=>if G h then (g d ae h).toS ae λi_ h1=>(B i_ h1).loop (jY G g B ds) else .stuck
abbrev MI:=AE->AH->R AIt
def A1(I:MI)(g:MG)(B:MS):MS:=λae h=>(I ae h).toS ae λit h1=>jY it.guard g B it.items ae h1
open Classical in
def lcL(G:AH->Prop)(g:MG)(c:MT)(F:ME):List D->List D->AE->AH->R (List D)
 | [],acc,_,h=>if G h then .ok acc h else .stuck
 |d::ds,acc,ae,h=>if G h/\acc.length<16777216 then (g d ae h).bind λi_ h1=>(c i_ h1).bind λb h2=>if b=true then (F i_ h2).bind λy h3=>lcL G g c F ds (acc++[y]) i_ h3 else lcL G g c F ds acc i_ h2 else .stuck
noncomputable def jP(sub:Pd)(ae:AE):AE:=sub.map λo=>o.bind λi=>(ae[i]?).bind id
def eLC(I:MI)(sub:Pd)(g:MG)(c:MT)(F:ME):ME:=λae h=>(I ae h).bind λit h1=>(noX (lcL it.guard g c F it.items [] (jP sub ae) h1)).bind eN
noncomputable def tY:MT:=λ_ h=>.ok true h
section
variable(K:W.Frag)(mg:Pa)
def rdI(ES:St->XK)(F:MI):TI:=λσ H R'=>∃ρ h ae,Wd K mg ρ h H/\RelE K mg ρ H ae σ/\PostG K mg ρ H (ES σ) (λit _ ρ' H'=>∀J,ItR K mg ρ' H' it J->R' J H') (F ae h)
def DI(X:Cx)(ES:St->XK)(tg a_:Expr)(F:MI):Prop:=PI X tg a_ (rdI K mg ES F)
end
noncomputable def zU(F:ME):MI:=λae h=>(F ae h).bind λd h1=>match d with
 |.tup xs=>.ok (.tup xs) h1
 |.ref n=>match bS h1 n with
  |some xs=>.ok (.lst n xs) h1
  |none=>.stuck
 |_=>.stuck
noncomputable def BF(A:MA):MI:=λae h=>(A ae h).bind λds h1=>match ds with
 | [.int j]=>if -(2^62)<=j/\j<2^62 then .ok (.rng 0 j.toNat) h1 else .stuck
 |_=>.stuck
noncomputable def Bi(A:MA):MI:=λae h=>(A ae h).bind λds h1=>match ds with
 | [.int i,.int j]=>if -(2^62)<=i/\i<2^62/\-(2^62)<=j/\j<2^62 then .ok (.rng i (j-i).toNat) h1 else .stuck
 |_=>.stuck
noncomputable def gY(d:D)(h:AH):Option AIt:=match d with
 |.tup xs=>some (.tup xs)
 |.ref n=>(bS h n).map (.lst n)
 |_=>none
noncomputable def zS(A:MA):MI:=λae h=>(A ae h).bind λds h1=>match ds with
 | [d,e]=>(match gY d h1,gY e h1 with
  |some s,some t=>.ok (.zip s t) h1
  |_,_=>.stuck)
 |_=>.stuck
section
variable{K:W.Frag}{mg:Pa}{X:Cx}{ES:St->XK}{tg a_ e a b c g_:Expr}{F:ME}{A:MA}{I:MI}{g:MG}{cf:MT}{U:MS}{sts:List Stmt}{pos:Pos}
def PI.imp(h:PI X tg a_ t)(k:∀σ H Q,t' σ H Q->t σ H Q):PI X tg a_ t':=λpins s σ H Q I w=>h pins s σ H Q I (k σ H Q w)
def Fc(hl:PE X l tl):PI X tg l (λσ H R=>tl σ H λx H1=>(∃a,x=.ref a/\(∃xs,SqL X.K H1 a xs)/\R (Itl X.K a) H1)\/(∃a,x=.ref a/\(∃xs,SqT X.K H1 a xs)/\R (Itt X.K a) H1)):=by
 intro pins s σ H R I h;refine thn (hl pins s σ H _ I h) λv s1 ⟨x,H1,I1,r1,q1⟩=>?_;rcases q1 with ⟨a,e,⟨xs,hq⟩,q⟩ |⟨a,e,⟨xs,hq⟩,q⟩
 .subst e;cases r1;obtain⟨its,rv,p,hz⟩:=I1.list hq;refine Oj p.isList ?_;refine⟨s1.heap.objs.size,[s1.heap.objs.size],_,_,H1,rfl,I1.kept (t':=s1.toks) λb o e=>C_ _ e,yc a _,⟨_,MB _ rfl,rfl,rfl⟩,λb hb=>?_,q⟩;have e:b=s1.heap.objs.size:=by simpa using hb
  subst e;exact I1.fpOk (y_ _) (I1.hok.fresh (y_ _))
 .subst e;cases r1;obtain⟨its,rv,p,hz⟩:=I1.tuple hq;refine wpAny_pyIter_tuple (show s1.heap.IsTuple a its.toArray from p) ?_;refine⟨s1.heap.objs.size,[s1.heap.objs.size],_,_,H1,rfl,I1.kept (t':=s1.toks) λb o e=>C_ _ e,xf a _,⟨_,MB _ rfl,rfl,rfl⟩,λb hb=>?_,q⟩;have e:b=s1.heap.objs.size:=by simpa using hb
  subst e;exact I1.fpOk (y_ _) (I1.hok.fresh (y_ _))
def HQ(hK:X.K=K)(he:DE K mg X ES e F):DI K mg X ES tg e (zU F):=by
 subst hK;refine PI.imp (Fc he) λσ H R ⟨ρ,h,ae,w,re,p⟩=>⟨ρ,h,ae,w,re,p.bind.imp λd h1 ρ1 H1 l1 w1 p1 v rv=>?_⟩;cases rv with
 |tup q rs=>exact .inr ⟨_,rfl,⟨_,q⟩,p1 ρ1 H1 Le.refl w1 _ ⟨_,_,q,rs,rfl⟩⟩
 |
  ref ea=>
  dsimp only at p1;split at p1
  .rename_i xs e1;obtain⟨vs,q,rs⟩:=cE w1 ea e1;exact .inl ⟨_,rfl,⟨_,q⟩,p1 ρ1 H1 Le.refl w1 _ ⟨_,ea,rfl⟩⟩
  .exact p1.elim
 |_=>exact p1.elim
def yH(hg:Gl X "range")(hm:mg "range"=none)(ha:DA K mg X ES [a] A)(hk:X.mg=mg)(hs:starEach [a] X.env=[(false,eval a X.env)]):DI K mg X ES tg (.Call (.Name "range" p) [a] [] pos) (BF A):=by
 subst hk;refine PI.imp (yB hg hm ha hs) λσ H R ⟨ρ,h,ae,w,re,p⟩=>⟨ρ,h,ae,w,re,p.bind.imp λds h1 ρ1 H1 l1 w1 p1 vs rs=>?_⟩;split at p1
 .cases rs with
  |
   cons r rs=>
   cases r;cases rs;split at p1
   .rename_i hb;exact⟨_,rfl,hb.1,hb.2,p1 ρ1 H1 Le.refl w1 _ rfl⟩
   .exact p1.elim
 .exact p1.elim
def yg(hg:Gl X "range")(hm:mg "range"=none)(ha:DA K mg X ES [a,b] A)(hk:X.mg=mg)(hs:starEach [a,b] X.env=[(false,eval a X.env),(false,eval b X.env)])(hs2:starEach [b] X.env=[(false,eval b X.env)]):DI K mg X ES tg (.Call (.Name "range" p) [a,b] [] pos) (Bi A):=by
 subst hk;refine PI.imp (xZ hg hm ha hs hs2) λσ H R ⟨ρ,h,ae,w,re,p⟩=>⟨ρ,h,ae,w,re,p.bind.imp λds h1 ρ1 H1 l1 w1 p1 vs rs=>?_⟩;split at p1
 .cases
   rs with
  |
   cons r rs=>
   cases rs with
   |
    cons r2 rs=>
    cases r;cases r2;cases rs;split at p1
    .rename_i hb;exact⟨_,_,rfl,hb,p1 ρ1 H1 Le.refl w1 _ rfl⟩
    .exact p1.elim
 .exact p1.elim
def pO(w:Wd K mg ρ h H)(r:RelD K mg ρ H d v)(q:gY d h=some s):∃b p,v=.ref p/\SrcR K mg ρ H s b p/\∃vs,SqB K b H p vs:=by
 cases r with
 |tup hq rs=>cases q;exact⟨false,_,rfl,⟨_,hq,rs⟩,_,hq⟩
 |ref ea=>obtain⟨xs,q1,rfl⟩:=MF.mp q;obtain⟨vs,h1,h2⟩:=cE w ea q1;exact⟨true,_,rfl,ea,vs,h1⟩
 |_=>cases q
def Gk(hK:X.K=K)(hg:Gl X "zip")(hm:mg "zip"=none)(ha:DA K mg X ES [a,b] A)(hk:X.mg=mg)(hs:starEach [a,b] X.env=[(false,eval a X.env),(false,eval b X.env)])(hs2:starEach [b] X.env=[(false,eval b X.env)]):DI K mg X ES (.Tuple elts x1 tp) (.Call (.Name "zip" p) [a,b] [] pos) (zS A):=by
 subst hk hK;refine PI.imp (IV hg hm ha hs hs2) λσ H R ⟨ρ,h,ae,w,re,p⟩=>⟨ρ,h,ae,w,re,p.bind.imp λds h1 ρ1 H1 l1 w1 p1 vs rs=>?_⟩;split at p1
 .cases
   rs with
  |
   cons r rs=>
   cases rs with
   |
    cons r' rs=>
    cases rs;split at p1
    .rename_i s t q q';obtain⟨b,pa,rfl,sr,xs,hx⟩:=pO w1 r q;obtain⟨c,pd,rfl,sr',ys,hy⟩:=pO w1 r' q';exact⟨b,c,pa,pd,xs,ys,rfl,hx,hy,p1 ρ1 H1 Le.refl w1 _ ⟨b,c,pa,pd,sr,sr',rfl⟩⟩
    .exact p1.elim
 .exact p1.elim
def sT(p:PostS K mg ρ H De ES (r.loop f))(i:∀i_ h1 ρ1 H1 σ1,Le ρ H ρ1 H1->Wd K mg ρ1 h1 H1->RelE K mg ρ1 H1 i_ σ1->PostS K mg ρ1 H1 De ES (f i_ h1)->N σ1 H1):
 PostS K mg ρ H { De with nx:=N,ct:=N,bk:=De.nx } ES r:=by
 cases r with
 |nx i_ h1=>exact λρ1 H1 σ1 l1 w1 re1=>i i_ h1 ρ1 H1 σ1 l1 w1 re1 (PostS.mono l1 p)
 |rt d h1=>exact p
 |bk i_ h1=>exact p
 |ct i_ h1=>exact λρ1 H1 σ1 l1 w1 re1=>i i_ h1 ρ1 H1 σ1 l1 w1 re1 (PostS.mono l1 p)
 |exc c i_ h1=>exact p
 |stuck=>exact p
def IX(hp:PassesOwn (model X.prog X.w) X.A X.env X.xe)(hc:X.calm=true)(hi:DI K mg X ES tg a_ I)(hg:DG K mg X ES tg g)(hb:DSs K mg X ES sts U)
 (hs:∀x,foldedSetIterable a_ X.env x=pure x):DS K mg X ES (.For tg a_ sts [] pos) (A1 I g U):=by
 refine PS.imp (Gj hp hc hi hg hb hs) λDe σ H q_=>q_.el λρ h ae w re p=>⟨ρ,h,ae,w,re,cW p re λit h1 ρ1 H1 l1 w1 re1 p1 J hJ=>?_⟩;refine⟨λi m σ2 H2=>m=it.items.length-i/\i<=it.items.length/\∃ρ2 h2 ae2,Le ρ1 H1 ρ2 H2/\Wd K mg ρ2 h2 H2/\RelE K mg ρ2 H2 ae2 σ2/\PostS K mg ρ2 H2 De ES (jY it.guard g U (it.items.drop i) ae2 h2),⟨_,rfl,MX _,ρ1,h1,ae,Le.refl,w1,re1,p1⟩,?_⟩;rintro i m σ2 H2 ⟨rfl,hi',ρ2,h2,ae2,l2,w2,re2,p2⟩;by_cases hlt:i<it.items.length
 .have hd:it.items.drop i=it.items[i]::it.items.drop (i+1):=List.drop_eq_getElem_cons hlt;rw[hd] at p2;unfold jY at p2;split at p2
  .rename_i hG;obtain⟨st,_⟩:=hJ.step l2 w2 hG;obtain⟨go,yl⟩:=st i it.items[i] (MJ hlt);refine .inr ⟨go,λσ' H'=>∃ρ3 h3 ae3,Le ρ1 H1 ρ3 H'/\Wd K mg ρ3 h3 H'/\RelE K mg ρ3 H' ae3 σ'/\PostS K mg ρ3 H' De ES (jY it.guard g U (it.items.drop (i+1)) ae3 h3),
    λσ' H' ⟨ρ3,h3,ae3,q⟩=>⟨_,by omega,rfl,hlt,ρ3,h3,ae3,q⟩,λx H' hy=>?_⟩
   obtain⟨ly,wy,rx⟩:=yl x H' hy;refine⟨ρ2,h2,ae2,_,wy,re2.mono ly,rx,cW (PostS.mono ly p2) (re2.mono ly) λae3 h3 ρ3 H3 l3 w3 re3 p3 σ' re'=>⟨ρ3,h3,ae3,w3,re',sT p3 λae4 h4 ρ4 H4 σ4 l4 w4 re4 p4=>⟨ρ4,h4,ae4,((l2.trans ly).trans l3).trans l4,w4,re4,p4⟩⟩⟩
  .exact p2.elim
 .have hi2:i=it.items.length:=by omega
  subst hi2;rw[List.drop_length] at p2;unfold jY at p2;split at p2
  .rename_i hG;exact .inl ⟨(hJ.step l2 w2 hG).2,gR p2 w2 re2⟩
  .exact p2.elim
def zZ(re:RelE K mg ρ H ae σ)(sub:Pd):RelE K mg ρ H (jP sub ae) (gz sub σ):=by
 unfold jP gz;refine⟨by rw[v_,v_],λj d e=>?_⟩;rw[MP] at e ⊢;cases q:sub[j]? with
 |none=>rw[q] at e;cases e
 |
  some o=>
  rw[q] at e;cases o with
  |none=>cases e
  |
   some i=>
   have e':(ae[i]?).bind id=some d:=MC e;cases q2:ae[i]? with
   |none=>rw[q2] at e';cases e'
   |some z=>rw[q2] at e';have e3:z=some d:=e';subst e3;obtain⟨v,h1,h2⟩:=re.at_ i d q2;refine⟨v,?_,h2⟩;show some ((σ[i]?).bind id)=some (some v);rw[h1];rfl
def lU(p:PostG K mg ρ H E k ((noX (r.bind f)).bind m)):
 PostG K mg ρ H E0 (λa h1 ρ' H'=>PostG K mg ρ' H' E k ((noX (f a h1)).bind m)) r:=by
 cases r with
 |ok a h1=>exact λρ1 H1 l1 w1=>PostG.mono l1 p
 |exc c h1=>exact p.elim
 |stuck=>exact p.elim
def qN(σ:St)(H:Hp)(Q:VK)(q:rdE K mg ES (eLC I sub g cf F) σ H Q):iP (rdI K mg ES I) sub (rdG K mg (λ_=>E0) g) (rdT K mg (λ_=>E0) cf) (rdE K mg (λ_=>E0) F) σ H Q:=by
 obtain⟨ρ,h,ae,w,re,p⟩:=q;refine⟨ρ,h,ae,w,re,p.bind.imp λit h1 ρ1 H1 l1 w1 p1 J hJ=>?_⟩;have re1:=zZ (re.mono l1) sub;refine⟨λi m ys σ2 H2=>m=it.items.length-i/\i<=it.items.length/\∃ρ2 h2 ae2 acc,Le ρ1 H1 ρ2 H2/\Wd K mg ρ2 h2 H2/\RelE K mg ρ2 H2 ae2 σ2/\RelDs K mg ρ2 H2 acc ys/\
  PostG K mg ρ2 H2 (ES σ) (λd _ ρ' H'=>∀v,RelD K mg ρ' H' d v->Q v H') ((noX (lcL it.guard g cf F (it.items.drop i) acc ae2 h2)).bind eN),
  ⟨_,rfl,MX _,ρ1,h1,jP sub ae,[],Le.refl,w1,re1,.nil,p1⟩,?_⟩
 rintro i m ys σ2 H2 ⟨rfl,hi',ρ2,h2,ae2,acc,l2,w2,re2,rs,p2⟩;by_cases hlt:i<it.items.length
 .have hd:it.items.drop i=it.items[i]::it.items.drop (i+1):=List.drop_eq_getElem_cons hlt;rw[hd] at p2;unfold lcL at p2;split at p2
  .rename_i hG;obtain⟨st,_⟩:=hJ.step l2 w2 hG.1;obtain⟨go,yl⟩:=st i it.items[i] (MJ hlt);refine .inr ⟨go,by rw[<- rs.len];exact hG.2,λys' σ' H'=>∃ρ3 h3 ae3 acc3,Le ρ1 H1 ρ3 H'/\Wd K mg ρ3 h3 H'/\RelE K mg ρ3 H' ae3 σ'/\RelDs K mg ρ3 H' acc3 ys'/\
    PostG K mg ρ3 H' (ES σ) (λd _ ρ' H'=>∀v,RelD K mg ρ' H' d v->Q v H') ((noX (lcL it.guard g cf F (it.items.drop (i+1)) acc3 ae3 h3)).bind eN),
    λys' σ' H' ⟨ρ3,h3,ae3,acc3,q⟩=>⟨_,by omega,rfl,hlt,ρ3,h3,ae3,acc3,q⟩,λx H' hy=>?_⟩
   obtain⟨ly,wy,rx⟩:=yl x H' hy;refine⟨ρ2,h2,ae2,_,wy,re2.mono ly,rx,(lU (PostG.mono ly p2)).imp λae3 h3 ρ3 H3 l3 w3 p3 σ3 re3=>⟨ρ3,h3,ae3,w3,re3,(lU p3).imp λb h4 ρ4 H4 l4 w4 p4=>?_⟩⟩;cases b with
   |true=>exact⟨ρ4,h4,ae3,w4,re3.mono l4,(lU p4).imp λy h5 ρ5 H5 l5 w5 p5 v rv=>⟨ρ5,h5,ae3,acc++[y],(((l2.trans ly).trans l3).trans l4).trans l5,w5,(re3.mono l4).mono l5,((((rs.mono ly).mono l3).mono l4).mono l5).append (.cons rv .nil),p5⟩⟩
   |false=>exact⟨ρ4,h4,ae3,acc,((l2.trans ly).trans l3).trans l4,w4,re3.mono l4,((rs.mono ly).mono l3).mono l4,p4⟩
  .exact p2.elim
 .have hi2:i=it.items.length:=by omega
  subst hi2;rw[List.drop_length] at p2;unfold lcL at p2;split at p2
  .rename_i hG;refine .inl ⟨(hJ.step l2 w2 hG).2,?_⟩;have p3:PostG K mg ρ2 H2 (ES σ) (λd _ ρ' H'=>∀v,RelD K mg ρ' H' d v->Q v H') (eN acc h2):=p2;unfold eN at p3;split at p3
   .rename_i hl;exact⟨by rw[<- rs.len];exact hl,λq hq=>eR w2 rs hq p3⟩
   .exact p3.elim
  .exact p2.elim
def Ll(M:List Str)(kn:List (Str×NameKind))(N:List Str)(sub:Pd)
 (hc:X.calm=true) (hi:DI K mg X ES tg a_ I)
 (hg:∀cl C s₂ H fp,DG K mg (bz X N scope cl C s₂ H fp) (λ_=>E0) tg g) (he:∀cl C s₂ H fp,DE K mg (bz X N scope cl C s₂ H fp) (λ_=>E0) g_ F)
 (hM:X.N=M) (hkn:X.env.scope.names=kn) (f_:dE M scope.names sub N=true)
 (hk:scope.kind=.function) (o_:∀x∈scope.names,x.2 ≠ .cell) (b_:∀x∈scope.names,x.2=.local->scope.names.lookup x.1=some .local)
 (l_:eS kn scope.names=true)
 (p_:sub.length=N.length) (hs:∀x,foldedSetIterable a_ X.env x=pure x):
 DE K mg X ES (.ListComp g_ [⟨tg,a_,[],0⟩] scope pos) (eLC I sub g tY F):=
 PE.imp (JR M kn N sub hc hi hg he hM hkn f_ hk o_ b_ l_ p_ hs) λσ H Q q=>by
  have:=qN (cf:=tY) σ H Q q
  obtain⟨ρ,h,ae,w,re,p⟩:=this;refine⟨ρ,h,ae,w,re,p.imp λit h1 ρ1 H1 l1 w1 k J hJ=>?_⟩;obtain⟨W,w0,tn⟩:=k J hJ;refine⟨W,w0,λi m ys σ2 H2 hW=>?_⟩;rcases tn i m ys σ2 H2 hW with z |⟨go,hl,Nx,hN,st⟩
  .exact .inl z
  .refine .inr ⟨go,hl,Nx,hN,λx H' hy=>?_⟩;obtain⟨ρ3,h3,ae3,d3,w3,re3,rd3,p3⟩:=st x H' hy;refine⟨ρ3,h3,ae3,d3,w3,re3,rd3,p3.imp λae4 h4 ρ4 H4 l4 w4 k4 σ4 re4=>?_⟩;obtain⟨ρ5,h5,ae5,w5,re5,p5⟩:=k4 σ4 re4;exact p5 ρ5 _ Le.refl w5
def EM(M:List Str)(kn:List (Str×NameKind))(N:List Str)(sub:Pd)
 (hc:X.calm=true) (hi:DI K mg X ES tg a_ I)
 (hg:∀cl C s₂ H fp,DG K mg (bz X N scope cl C s₂ H fp) (λ_=>E0) tg g) (ht:∀cl C s₂ H fp,DT K mg (bz X N scope cl C s₂ H fp) (λ_=>E0) c cf) (he:∀cl C s₂ H fp,DE K mg (bz X N scope cl C s₂ H fp) (λ_=>E0) g_ F)
 (hM:X.N=M) (hkn:X.env.scope.names=kn) (f_:dE M scope.names sub N=true)
 (hk:scope.kind=.function) (o_:∀x∈scope.names,x.2 ≠ .cell) (b_:∀x∈scope.names,x.2=.local->scope.names.lookup x.1=some .local)
 (l_:eS kn scope.names=true)
 (p_:sub.length=N.length) (hs:∀x,foldedSetIterable a_ X.env x=pure x):
 DE K mg X ES (.ListComp g_ [⟨tg,a_,[c],0⟩] scope pos) (eLC I sub g cf F):=
 PE.imp (Df M kn N sub hc hi hg ht he hM hkn f_ hk o_ b_ l_ p_ hs) λσ H Q q=>qN σ H Q q
def FW(σ:St)(H:Hp)(Q:VK)(q:rdE K mg ES (eLC I sub g tY F) σ H Q):iP (rdI K mg ES I) sub (rdG K mg (λ_=>E0) g) zX (rdE K mg (λ_=>E0) F) σ H Q:=by
 have:=qN (cf:=tY) σ H Q q
 obtain⟨ρ,h,ae,w,re,p⟩:=this;refine⟨ρ,h,ae,w,re,p.imp λit h1 ρ1 H1 l1 w1 k J hJ=>?_⟩;obtain⟨W,w0,tn⟩:=k J hJ;refine⟨W,w0,λi m ys σ2 H2 hW=>?_⟩;rcases tn i m ys σ2 H2 hW with z |⟨go,hl,Nx,hN,st⟩
 .exact .inl z
 .refine .inr ⟨go,hl,Nx,hN,λx H' hy=>?_⟩;obtain⟨ρ3,h3,ae3,d3,w3,re3,rd3,p3⟩:=st x H' hy;refine⟨ρ3,h3,ae3,d3,w3,re3,rd3,p3.imp λae4 h4 ρ4 H4 l4 w4 k4 σ4 re4=>?_⟩;obtain⟨ρ5,h5,ae5,w5,re5,p5⟩:=k4 σ4 re4;exact p5 ρ5 _ Le.refl w5
def ve(ht:∀σ H Q,rdE K mg ES F σ H Q->t σ H Q)(De:Ends)(σ:St)(H:Hp)(q:rdS K mg ES (gH F (gN i)) De σ H):rB t (nU i) De σ H:=by obtain⟨ρ,h,ae,w,re,p⟩:=q;exact ht σ H _ ⟨ρ,h,ae,w,re,cW p re λd h1 ρ1 H1 l1 w1 re1 p1 v rv=>gR p1 w1 (re1.set i rv)⟩
def J3(M:List Str)(kn:List (Str×NameKind))(N:List Str)(sub:Pd)
 (hc:X.calm=true) (hN:X.N.Nodup) (hix:X.N[iT]?=some xT) (hxl:Loc X.env.scope xT) (hi:DI K mg X ES tg a_ I)
 (hg:∀cl C s₂ H fp,DG K mg (bz X N scope cl C s₂ H fp) (λ_=>E0) tg g) (he:∀cl C s₂ H fp,DE K mg (bz X N scope cl C s₂ H fp) (λ_=>E0) g_ F)
 (hsw:swapsWith (.ListComp g_ [⟨tg,a_,[],0⟩] scope pos) (some (.Name xT px)) spos.line X.env=pure true)
 (hM:X.N=M) (hkn:X.env.scope.names=kn) (f_:dE M scope.names sub N=true)
 (hk:scope.kind=.function) (o_:∀x∈scope.names,x.2 ≠ .cell) (b_:∀x∈scope.names,x.2=.local->scope.names.lookup x.1=some .local)
 (l_:eS kn scope.names=true)
 (p_:sub.length=N.length) (hs:∀x,foldedSetIterable a_ X.env x=pure x) (hf:X.fn xT=true\/X.env.scope.names.lookup xT=some .local):
 DS K mg X ES (.Assign [.Name xT px] (.ListComp g_ [⟨tg,a_,[],0⟩] scope pos) spos) (gH (eLC I sub g tY F) (gN iT)):=
 PS.imp (Lc M kn N sub hc hN hix hxl hi hg he hsw hM hkn f_ hk o_ b_ l_ p_ hs hf) (ve FW)
def Dy(M:List Str)(kn:List (Str×NameKind))(N:List Str)(sub:Pd)
 (hc:X.calm=true) (hN:X.N.Nodup) (hix:X.N[iT]?=some xT) (hxl:Loc X.env.scope xT) (hi:DI K mg X ES tg a_ I)
 (hg:∀cl C s₂ H fp,DG K mg (bz X N scope cl C s₂ H fp) (λ_=>E0) tg g) (ht:∀cl C s₂ H fp,DT K mg (bz X N scope cl C s₂ H fp) (λ_=>E0) c cf) (he:∀cl C s₂ H fp,DE K mg (bz X N scope cl C s₂ H fp) (λ_=>E0) g_ F)
 (hsw:swapsWith (.ListComp g_ [⟨tg,a_,[c],0⟩] scope pos) (some (.Name xT px)) spos.line X.env=pure true)
 (hM:X.N=M) (hkn:X.env.scope.names=kn) (f_:dE M scope.names sub N=true)
 (hk:scope.kind=.function) (o_:∀x∈scope.names,x.2 ≠ .cell) (b_:∀x∈scope.names,x.2=.local->scope.names.lookup x.1=some .local)
 (l_:eS kn scope.names=true)
 (p_:sub.length=N.length) (hs:∀x,foldedSetIterable a_ X.env x=pure x) (hf:X.fn xT=true\/X.env.scope.names.lookup xT=some .local):
 DS K mg X ES (.Assign [.Name xT px] (.ListComp g_ [⟨tg,a_,[c],0⟩] scope pos) spos) (gH (eLC I sub g cf F) (gN iT)):=
 PS.imp (xu hc hN hix hxl hi hk o_ b_ (by subst hkn;exact kW l_) p_ (by subst hM;exact jS f_) hg (λcl C s₂ H fp=>uz (ht cl C s₂ H fp)) he hsw hs hf) (ve qN)
end
noncomputable def whN(c:MT)(B:MS):Nat->MS
 |0,_,_=>.stuck
 |k+1,ae,h=>(c ae h).toS ae λb h1=>if b=true then (B ae h1).loop (whN c B k) else .nx ae h1
open Classical in
def sWh(c:MT)(B:MS):MS:=λae h=>if q:∃k,whN c B k ae h ≠ .stuck then whN c B q.choose ae h else .stuck
theorem lY:∀{k:Nat}{ae:AE}{h:AH},whN c B k ae h ≠ .stuck->whN c B (k+1) ae h=whN c B k ae h
 |0,_,_,q=>absurd rfl q
 |
  k+1,ae,h,q=>by
  have e1:whN c B (k+2) ae h=(c ae h).toS ae λb h1=>if b=true then (B ae h1).loop (whN c B (k+1)) else .nx ae h1:=rfl
  have e2:whN c B (k+1) ae h=(c ae h).toS ae λb h1=>if b=true then (B ae h1).loop (whN c B k) else .nx ae h1:=rfl
  rw[e2] at q;rw[e1,e2];cases r:c ae h with
  |exc _ _=>rfl
  |stuck=>rfl
  |
   ok b h1=>
   rw[r] at q;cases b with
   |false=>rfl
   |
    true=>
    have q':(B ae h1).loop (whN c B k) ≠ .stuck:=q;show (B ae h1).loop (whN c B (k+1))=(B ae h1).loop (whN c B k);cases s:B ae h1 with
    |nx a2 h2=>rw[s] at q';exact lY q'
    |ct a2 h2=>rw[s] at q';exact lY q'
    |_=>rfl
def xE(q:whN c B k ae h ≠ .stuck)(hj:k<=j):whN c B j ae h=whN c B k ae h:=by
 induction hj with
 |refl=>rfl
 |step _ ih=>rw[lY (by rw[ih];exact q),ih]
def xK(q:whN c B k ae h ≠ .stuck):sWh c B ae h=whN c B k ae h:=by
 have hq:∃k,whN c B k ae h ≠ .stuck:=⟨k,q⟩;unfold sWh;rw[dif_pos hq];rcases Nat.le_total hq.choose k with z |z
 .exact (xE hq.choose_spec z).symm
 .exact xE q z
section
variable{K:W.Frag}{mg:Pa}{X:Cx}{ES:St->XK}{c:Expr}{cf:MT}{U:MS}{sts:List Stmt}{pos:Pos}
def zD(hp:PassesOwn (model X.prog X.w) X.A X.env X.xe)(hc:DT K mg X ES c cf)(hb:DSs K mg X ES sts U):DS K mg X ES (.While c sts [] pos) (sWh cf U):=by
 refine PS.imp (Bo hp hc hb) λDe σ H q_=>q_.el λρ h ae w re p=>?_;have hx:∃k,whN cf U k ae h ≠ .stuck:=N5 λz=>by unfold sWh at p;rw[dif_neg z] at p;exact p.elim
 obtain⟨k,hk⟩:=hx;rw[xK hk] at p;refine⟨λm σ2 H2=>∃ρ2 h2 ae2,Wd K mg ρ2 h2 H2/\RelE K mg ρ2 H2 ae2 σ2/\PostS K mg ρ2 H2 De ES (whN cf U m ae2 h2),⟨k,ρ,h,ae,w,re,p⟩,?_⟩;rintro m σ2 H2 ⟨ρ2,h2,ae2,w2,re2,p2⟩;cases m with
 |zero=>exact p2.elim
 |
  succ m=>
  refine⟨ρ2,h2,ae2,w2,re2,cW p2 re2 λb h3 ρ3 H3 l3 w3 re3 p3=>?_⟩;cases b with
  |true=>exact⟨λσ' H'=>∃ρ4 h4 ae4,Wd K mg ρ4 h4 H'/\RelE K mg ρ4 H' ae4 σ'/\PostS K mg ρ4 H' De ES (whN cf U m ae4 h4),λσ' H' q=>⟨m,Nat.lt_succ_self _,q⟩,ρ3,h3,ae2,w3,re3,sT p3 λae4 h4 ρ4 H4 σ4 l4 w4 re4 p4=>⟨ρ4,h4,ae4,w4,re4,p4⟩⟩
  |false=>exact gR p3 w3 re3
end
noncomputable def rj:Fn:=λds h=>match ds with
 | [d]=>match hX h d with
  |some xs=>.ok (.int xs.length) h
  |none=>match d with
   |.str z=>if z.length<=16777216 then .ok (.int z.length) h else .stuck
   |_=>.stuck
 |_=>.stuck
noncomputable def vZ:Fn:=λds h=>match ds with
 | [.int i]=>.ok (.int (if i<0 then -i else i)) h
 |_=>.stuck
noncomputable def gy:List D->Option (List Bool)
 | []=>some []
 |.bl b::r=>(gy r).map (b :: ·)
 |_=>none
noncomputable def gB:List D->Option (List Int)
 | []=>some []
 |.int b::r=>(gB r).map (b :: ·)
 |_=>none
theorem mL:∀{ds:List D}{bs:List Bool},gy ds=some bs->ds=bs.map D.bl
 | [],bs,e=>by cases e;rfl
 |
  .bl b::r,bs,e=>by
  have e':(gy r).map (b :: ·)=some bs:=e;cases q:gy r with
  |none=>rw[q] at e';cases e'
  |some z=>rw[q] at e';cases e';rw[mL q];rfl
theorem pD:∀{ds:List D}{bs:List Int},gB ds=some bs->ds=bs.map D.int
 | [],bs,e=>by cases e;rfl
 |
  .int b::r,bs,e=>by
  have e':(gB r).map (b :: ·)=some bs:=e;cases q:gB r with
  |none=>rw[q] at e';cases e'
  |some z=>rw[q] at e';cases e';rw[pD q];rfl
noncomputable def sF:Fn:=λds h=>match ds with
 | [.ref n]=>match (bS h n).bind gy with
  |some bs=>.ok (.bl (bs.all id)) h
  |none=>.stuck
 |_=>.stuck
noncomputable def sR:Fn:=λds h=>match ds with
 | [.ref n]=>match (bS h n).bind gB with
  |some ns=>.ok (.int ns.sum) h
  |none=>.stuck
 |_=>.stuck
def mX:Fn:=λds h=>match ds with
 | [d]=>match hX h d with
  |some xs=>.ok (.ref h.length) (h++[.lst xs])
  |none=>.stuck
 |_=>.stuck
section
variable{K:W.Frag}{mg:Pa}{X:Cx}
def HF:cJ K mg (λxs H Q=>(∃p ys,xs=[.ref p]/\(SqL K H p ys\/SqT K H p ys)/\Q (.int ys.length) H)\/(∃z,xs=[.str z]/\z.length<=sizeLine/\Q (.int z.length) H)) rj:=λρ h H ds vs Q E w rs p=>by
 unfold rj at p;split at p
 .cases
   rs with
  |
   cons r rs=>
   cases rs;split at p
   .rename_i xs e;obtain⟨pa,vs,rfl,hq,rs⟩:=gw w r e;exact .inl ⟨_,_,rfl,hq,by rw[<- rs.len];exact bC w (.int _) p⟩
   .split at p
    .cases r;split at p
     .rename_i hl;exact .inr ⟨_,rfl,hl,bC w (.int _) p⟩
     .exact p.elim
    .exact p.elim
 .exact p.elim
def LY(h:X.K=K):CallR X (.builtin "len") (λxs H Q=>(∃p ys,xs=[.ref p]/\(SqL K H p ys\/SqT K H p ys)/\Q (.int ys.length) H)\/(∃z,xs=[.str z]/\z.length<=sizeLine/\Q (.int z.length) H)):=by subst h;exact tL.or tq
def II:cJ K mg (λxs H Q=>∃i,xs=[.int i]/\Q (.int (if i<0 then -i else i)) H) vZ:=λρ h H ds vs Q E w rs p=>by
 unfold vZ at p;split at p
 .cases rs with
  |cons r rs=>cases r;cases rs;exact⟨_,rfl,bC w (.int _) p⟩
 .exact p.elim
def Jh:cJ K mg (λxs H Q=>∃(a:Addr) (bs:List Bool),xs=[.ref a]/\SqL K H a (bs.map V.bl)/\Q (.bl (bs.all id)) H) sF:=λρ h H ds vs Q E w rs p=>by
 unfold sF at p;split at p
 .cases
   rs with
  |
   cons r rs=>
   cases r with
   |
    ref ea=>
    cases rs;split at p
    .rename_i bs e;obtain⟨xs,q,e2⟩:=M4.mp e
     .obtain⟨vs,h1,h2⟩:=cE w ea q;rw[mL e2] at h2;rw[h2.bls] at h1;exact⟨_,bs,rfl,h1,bC w (.bl _) p⟩
    .exact p.elim
 .exact p.elim
def Ig:cJ K mg (λxs H Q=>∃(a:Addr) (ns:List Int),xs=[.ref a]/\SqL K H a (ns.map V.int)/\Q (.int ns.sum) H) sR:=λρ h H ds vs Q E w rs p=>by
 unfold sR at p;split at p
 .cases
   rs with
  |
   cons r rs=>
   cases r with
   |
    ref ea=>
    cases rs;split at p
    .rename_i bs e;obtain⟨xs,q,e2⟩:=M4.mp e
     .obtain⟨vs,h1,h2⟩:=cE w ea q;rw[pD e2] at h2;rw[h2.ints] at h1;exact⟨_,bs,rfl,h1,bC w (.int _) p⟩
    .exact p.elim
 .exact p.elim
def Dm:cJ K mg (λxs H Q=>∃p ys,xs=[.ref p]/\(SqL K H p ys\/SqT K H p ys)/\∀l,H l=none->Q (.ref l) (upd H l (.lst ys))) mX:=λρ h H ds vs Q E w rs p=>by
 unfold mX at p;split at p
 .cases rs with
  |
   cons r rs=>
   cases rs;split at p
   .rename_i xs e;obtain⟨pa,vs,rfl,hq,rs⟩:=gw w r e;exact⟨_,_,rfl,hq,λl hl=>eR w rs hl p⟩
   .exact p.elim
 .exact p.elim
def yi(h:X.K=K):CallR X (.type "list") (λxs H Q=>∃p ys,xs=[.ref p]/\(SqL K H p ys\/SqT K H p ys)/\∀l,H l=none->Q (.ref l) (upd H l (.lst ys))):=by subst h;exact sS
end
inductive Cl where
 |b (n:String) |o (x:Str)
 deriving DecidableEq
noncomputable def tyD(h:AH):D->Option Cl
 |.non=>some (.b "NoneType")
 |.bl _=>some (.b "bool")
 |.int _=>some (.b "int")
 |.str _=>some (.b "str")
 |.tup _=>some (.b "tuple")
 |.exc x=>some (.o x)
 |.ref n=>match h[n]? with
  |some (.lst _)=>some (.b "list")
  |some (.fz _)=>some (.b "list")
  |some (.dct _)=>some (.b "dict")
  |_=>none
 |_=>none
noncomputable def clD:D->Option Cl
 |.ty n=>some (.b n)
 |.glb x=>some (.o x)
 |_=>none
def ClV(mg:Pa):Cl->Value->Prop
 |.b n,v=>v=.type n
 |.o x,v=>∃a,v=.ref a/\mg x=some (.ref a)
abbrev jC:=List (Cl×Cl×Bool)
structure KitsOk(K:W.Frag)(mg:Pa)(kt:jC):Prop where
 one:∀p∈kt,∀t v,ClV mg p.1 t->ClV mg p.2.1 v->W.kitOne K t v=some p.2.2
 xc:∀p∈kt,∀x C,p.1=.o x->mg x=some (.ref C)->XCls K C
noncomputable def kit(kt:jC)(t c:Cl):Option Bool:=(kt.find? λp=>decide (p.1=t)&&decide (p.2.1=c)).map (·.2.2)
noncomputable def gn(kt:jC)(t:Cl):List Cl->Option Bool
 | []=>some false
 |c::r=>match kit kt t c with
  |some true=>some true
  |some false=>gn kt t r
  |none=>none
noncomputable def qT(kt:jC):Fn:=λds h=>match ds with
 | [d,c]=>match tyD h d with
  |some t=>match c with
   |.tup cs=>match cs.mapM clD with
    |some (c0::cr)=>match gn kt t (c0::cr),kit kt t c0 with
     |some b,some _=>.ok (.bl b) h
     |_,_=>.stuck
    |_=>.stuck
   |c=>match clD c with
    |some cl=>match kit kt t cl with
     |some b=>.ok (.bl b) h
     |none=>.stuck
    |none=>.stuck
  |none=>.stuck
 |_=>.stuck
def oh(e:kit kt t c=some b):(t,c,b)∈kt:=by
 unfold kit at e;cases q:kt.find? (λp=>decide (p.1=t)&&decide (p.2.1=c)) with
 |none=>rw[q] at e;cases e
 |some p=>rw[q] at e;have h1:=List.find?_some q;have h2:=List.mem_of_find?_eq_some q;simp only[z_,NW] at h1;obtain⟨p1,p2,p3⟩:=p;have e3:p3=b:=MC e;obtain⟨rfl,rfl⟩:=h1;subst e3;exact h2
section
variable{K:W.Frag}{mg:Pa}{X:Cx}{ρ:List Addr}{H:Hp}{h:AH}
def vh(ok:KitsOk K mg kt)(w:Wd K mg ρ h H)(r:RelD K mg ρ H d v)(e:tyD h d=some t)(k:kit kt t c=some b):∃tv,TyX K H v tv/\ClV mg t tv:=by
 cases r with
 |non=>cases e;exact⟨_,.of .non,rfl⟩
 |bl=>cases e;exact⟨_,.of (.bl _),rfl⟩
 |int=>cases e;exact⟨_,.of (.int _),rfl⟩
 |str=>cases e;exact⟨_,.of (.str _),rfl⟩
 |tup q rs=>cases e;exact⟨_,.sqT q,rfl⟩
 |exc m ex=>cases e;exact⟨_,.exc ex (ok.xc _ (oh k) _ _ rfl m),_,rfl,m⟩
 |
  ref ea=>
  unfold tyD at e;dsimp only at e;split at e
  .rename_i e1;cases e;obtain⟨vs,h1,h2⟩:=w.ob _ _ _ ea e1;exact⟨_,.of (.lst h1),rfl⟩
  .rename_i e1;cases e;obtain⟨o,vs,h1,h2⟩:=w.ob _ _ _ ea e1;exact⟨_,.of (.frz h1),rfl⟩
  .rename_i e1;cases e;obtain⟨ws,h1,_⟩:=w.ob _ _ _ ea e1;exact⟨_,.of (.dK h1),rfl⟩
  .cases e
 |_=>cases e
def uM(r:RelD K mg ρ H d v)(e:clD d=some c):∃cv,fP v=some cv/\ClV mg c cv:=by
 cases r with
 |ty n=>cases e;exact⟨_,rfl,rfl⟩
 |glb m=>cases e;exact⟨_,rfl,_,rfl,m⟩
 |_=>cases e
def Ag:∀{ds:List D}{vs:List V}{cs:List Cl},RelDs K mg ρ H ds vs->ds.mapM clD=some cs->∃cvs,vs.mapM fP=some cvs/\Paired (ClV mg) cs cvs:=by
 intro ds;induction ds with
 |nil=>intro vs cs r e;cases r;have e':some ([]:List Cl)=some cs:=e;cases e';exact⟨[],rfl,.nil⟩
 |
  cons d ds ih=>
  intro vs cs r e;cases r with
  |
   cons r rr=>
   rw[NX] at e;cases q:clD d with
   |none=>rw[q] at e;cases e
   |
    some c=>
    rw[q] at e;cases q2:ds.mapM clD with
    |none=>rw[q2] at e;cases e
    |some cs'=>rw[q2] at e;have e':some (c::cs')=some cs:=e;cases e';obtain⟨cv,h1,h2⟩:=uM r q;obtain⟨cvs,h3,h4⟩:=ih rr q2;refine⟨cv::cvs,?_,.cons h2 h4⟩;rw[NX,h1,h3];rfl
def zi(ok:KitsOk K mg kt)(ht:ClV mg t tv):∀{cs:List Cl}{cvs:List Value}{b:Bool},Paired (ClV mg) cs cvs->gn kt t cs=some b->W.kitAny K tv cvs=some b:=by
 intro cs;induction cs with
 |nil=>intro cvs b r e;cases r;cases e;rfl
 |
  cons c cs ih=>
  intro cvs b r e;cases r with
  |
   cons r rr=>
   unfold gn at e;unfold W.kitAny;cases q:kit kt t c with
   |none=>rw[q] at e;cases e
   |
    some z=>
    rw[q] at e;rw[ok.one _ (oh q) _ _ ht r];cases z with
    |true=>exact e
    |false=>exact ih rr e
def xF:CallR X (.builtin "isinstance") (λxs H Q=>∃x tp cs t vs b,xs=[x,.ref tp]/\SqT X.K H tp cs/\TyX X.K H x t/\cs.mapM fP=some vs/\W.kitAny X.K t vs=some b/\Q (.bl b) H):=by intro pins s σ H xs us Q I r h;obtain⟨x,tp,cs,t,vs,b,rfl,ht,ty,hc,hk,q⟩:=h;obtain⟨u,w',rfl,rx,rc⟩:=Cw r;cases rc;obtain⟨its,rv,⟨o,e,c,n,d⟩,_⟩:=I.tuple ht;obtain rfl:=pI hc rv;obtain⟨Hh,Z,p,hne⟩:=uX I rx ty;obtain⟨oc,od,odt,osl⟩:=o;have c':oc=.type "tuple":=c;have d':odt=.seq its.toArray n:=d;subst c' d';exact W.kia_tup Z I.kIn p e hk hne λtk=>⟨.bl b,H,I.tok _,rfl,q⟩
def K0(hK:X.K=K):CallR X (.builtin "isinstance") (λxs H Q=>(∃x c t v b,xs=[x,c]/\TyX K H x t/\fP c=some v/\W.kitOne K t v=some b/\Q (.bl b) H)\/
 (∃x tp cs t vs b,xs=[x,.ref tp]/\SqT K H tp cs/\TyX K H x t/\cs.mapM fP=some vs/\W.kitAny K t vs=some b/\Q (.bl b) H)):=by subst hK;exact Ay.or xF
def Fj(ok:KitsOk K mg kt):cJ K mg (λxs H Q=>(∃x c t v b,xs=[x,c]/\TyX K H x t/\fP c=some v/\W.kitOne K t v=some b/\Q (.bl b) H)\/
 (∃x tp cs t vs b,xs=[x,.ref tp]/\SqT K H tp cs/\TyX K H x t/\cs.mapM fP=some vs/\W.kitAny K t vs=some b/\Q (.bl b) H)) (qT kt):=λρ h H ds vs Q E w rs p=>by
 unfold qT at p;split at p
 .cases
   rs with
  |
   cons r rs=>
   cases rs with
   |
    cons r2 rs=>
    cases rs;split at p
    .rename_i t e1;split at p
     .split
       at p
      .rename_i cs c0 cr e2;split at p
       .rename_i b b' e3 e4;cases r2 with
        |tup q rs2=>obtain⟨tv,h1,h2⟩:=vh ok w r e1 e4;obtain⟨cvs,h3,h4⟩:=Ag rs2 e2;exact .inr ⟨_,_,_,tv,cvs,b,rfl,q,h1,h3,zi ok h2 h4 e3,bC w (.bl _) p⟩
       .exact p.elim
      .exact p.elim
     .split at p
      .rename_i cl e2;split at p
       .rename_i b e3;obtain⟨tv,h1,h2⟩:=vh ok w r e1 e3;obtain⟨cv,h3,h4⟩:=uM r2 e2;exact .inl ⟨_,_,tv,cv,b,rfl,h1,h3,ok.one _ (oh e3) _ _ h2 h4,bC w (.bl _) p⟩
       .exact p.elim
      .exact p.elim
    .exact p.elim
 .exact p.elim
end
def MtD(K:W.Frag)(mg:Pa)(r:V->List V->Hp->VK->Prop)(g:D->List D->AH->R D):Prop:=∀ρ h H dx ds x vs Q E,Wd K mg ρ h H->RelD K mg ρ H dx x->RelDs K mg ρ H ds vs->eL K mg ρ H Q E (g dx ds h)->r x vs H Q
noncomputable def lq(h:AH):D->Bool
 |.ref n=>(bS h n).isSome
 |_=>false
noncomputable def eM(g:D->List D->AH->R D)(F:ME)(A:MA):ME:=λae h=>(F ae h).bind λx h1=>if lq h1 x=true then (A ae h1).bind λds h2=>g x ds h2 else .stuck
def eM0(g:D->List D->AH->R D)(F:ME):ME:=λae h=>(F ae h).bind λx h1=>if lq h1 x=true then g x [] h1 else .stuck
section
variable{K:W.Frag}{mg:Pa}{X:Cx}{ES:St->XK}{o e:Expr}{es:List Expr}{F:ME}{A:MA}
def pV(w:Wd K mg ρ h H)(r:RelD K mg ρ H d v)(q:lq h d=true):tyV K "list" v H:=by
 cases r with
 |ref ea=>obtain⟨xs,e⟩:=Nr.mp q;obtain⟨vs,h1,_⟩:=cE w ea e;exact .inl ⟨rfl,vs,h1⟩
 |_=>cases q
def de_m{name:Str}{id:String}{apos cpos:Pos}{r:V->List V->Hp->VK->Prop}{g:D->List D->AH->R D}(hK:X.K=K)(slot:Slot "list" name id)(hty:typeOf (.builtin id)=pure (.type "method_descriptor"))(hm:MtM X id r)(hd:MtD K mg r g)(ho:DE K mg X ES o F)(ha:DA K mg X ES (e::es) A)
 (r_:attributeBase o name X.env (eval o X.env)=eval o X.env)
 (hfew:((backTo cpos (starEach (e::es) X.env)).all (λx=>!x.1)&&(backToKw cpos (keywordEach [] X.env)).all (λx=>x.1.isSome)
  && decide ((e::es).length+([]:List Keyword).length+(if ([]:List Keyword).isEmpty then 0 else 1)<30))=true)
 (s_:(apos.endLine==cpos.line)=true) (hs:starEach (e::es) X.env=(false,eval e X.env)::starEach es X.env) (j':(backTo cpos (starEach es X.env)).any (·.1)=false):
 DE K mg X ES (.Call (.Attribute o name apos) (e::es) [] cpos) (eM g F A):=by
 subst hK;refine PE.imp (KJ PySem.F.plainAttrs_list slot hty hm ho ha r_ hfew s_ hs j') λσ H Q q_=>q_.el λρ h ae w re p=>⟨ρ,h,ae,w,re,p.bind.imp λdx h1 ρ1 H1 l1 w1 p1 x rx=>?_⟩;split at p1
 .rename_i hl;exact⟨pV w1 rx hl,ρ1,h1,ae,w1,re.mono l1,p1.bind.imp λds h2 ρ2 H2 l2 w2 p2 vs rs=>hd ρ2 h2 H2 dx ds x vs Q _ w2 (rx.mono l2) rs p2⟩
 .exact p1.elim
def K9{name:Str}{id:String}{apos cpos:Pos}{r:V->List V->Hp->VK->Prop}{g:D->List D->AH->R D}(hK:X.K=K)(slot:Slot "list" name id)(hty:typeOf (.builtin id)=pure (.type "method_descriptor"))(hm:MtM X id r)(hd:MtD K mg r g)(ho:DE K mg X ES o F)
 (r_:attributeBase o name X.env (eval o X.env)=eval o X.env) (s_:(apos.endLine==cpos.line)=true):DE K mg X ES (.Call (.Attribute o name apos) [] [] cpos) (eM0 g F):=by
 subst hK;refine PE.imp (Fv PySem.F.plainAttrs_list slot hty hm ho r_ s_) λσ H Q q_=>q_.el λρ h ae w re p=>⟨ρ,h,ae,w,re,p.bind.imp λdx h1 ρ1 H1 l1 w1 p1 x rx=>?_⟩;split at p1
 .rename_i hl;exact⟨pV w1 rx hl,hd ρ1 h1 H1 dx [] x [] Q _ w1 rx .nil p1⟩
 .exact p1.elim
end
noncomputable def kL(h:AH)(d:D)(f:Nat->List D->R D):R D:=match d with
 |.ref n=>match h[n]? with
  |some (.lst xs)=>f n xs
  |_=>.stuck
 |_=>.stuck
noncomputable def lA:D->List D->AH->R D:=λx ds h=>kL h x λn xs=>match ds with
 | [d]=>if xs.length<16777216 then .ok .non (h.set n (.lst (xs++[d]))) else .stuck
 |_=>.stuck
def jN:D->List D->AH->R D:=λx ds h=>kL h x λn xs=>match ds with
 | []=>.ok .non (h.set n (.lst xs.reverse))
 |_=>.stuck
section
variable{K:W.Frag}{mg:Pa}{ρ:List Addr}{H:Hp}{h:AH}
def pK(w:Wd K mg ρ h H)(r:RelD K mg ρ H d v)(p:eL K mg ρ H Q E (kL h d f)):
 ∃n xs a vs,d=.ref n/\h[n]?=some (.lst xs)/\ρ[n]?=some a/\v=.ref a/\H a=some (.lst vs)/\RelDs K mg ρ H xs vs/\eL K mg ρ H Q E (f n xs):=by
 unfold kL at p;split at p
 .cases r with
  |
   ref ea=>
   split at p
   .rename_i n xs e;obtain⟨vs,h1,h2⟩:=w.ob _ _ _ ea e;exact⟨_,_,_,vs,rfl,e,ea,rfl,h1,h2,p⟩
   .exact p.elim
 .exact p.elim
def rT(w:Wd K mg ρ h H)(ea:ρ[n]?=some a)(e:H a=some (.lst vs))(rs:RelDs K mg ρ H ys ws)(rd:RelD K mg ρ H d v)(p:eL K mg ρ H Q E (.ok d (h.set n (.lst ys)))):Q v (upd H a (.lst ws)):=by have l:Le ρ H ρ (upd H a (.lst ws)):=kR e qE;exact p ρ _ l (w.write ea e qE ⟨ws,cX,rs.mono l⟩) v (rd.mono l)
def yI:MtD K mg ox lA:=λρ h H dx ds x vs Q E w rx rs p=>by
 obtain⟨n,xs,a,us,rfl,e,ea,rfl,h1,h2,p⟩:=pK w rx p;split at p
 .cases rs with
  |
   cons r rs=>
   cases rs;split at p
   .rename_i hl;exact⟨a,us,_,rfl,rfl,h1,by rw[<- h2.len];exact hl,rT w ea h1 (h2.append (.cons r .nil)) .non p⟩
   .exact p.elim
 .exact p.elim
def wo:MtD K mg md jN:=λρ h H dx ds x vs Q E w rx rs p=>by
 obtain⟨n,xs,a,us,rfl,e,ea,rfl,h1,h2,p⟩:=pK w rx p;split at p
 .cases rs;exact⟨a,us,rfl,rfl,h1,rT w ea h1 h2.reverse .non p⟩
 .exact p.elim
def Room.u100(r:Room k A):A.units+190<cLine:=by have:=r.un;omega
end
noncomputable def wL(o i v:D)(h:AH):R Unit:=match o,i with
 |.ref n,.int k=>match h[n]? with
  |some (.lst xs)=>match ixN xs.length k with
   |some j=>.ok () (h.set n (.lst (xs.set j v)))
   |none=>.stuck
  |_=>.stuck
 |_,_=>.stuck
section
variable{K:W.Frag}{mg:Pa}{X:Cx}{ES:St->XK}{o i:Expr}{F G:ME}{pos:Pos}
def EN:ou K mg wW wL:=λρ h H do_ di dv o i v Q E w ro ri rv p=>by
 unfold wL at p;split at p
 .cases
   ro with
  |
   ref ea=>
   cases ri;split at p
   .rename_i n k xs e;split at p
    .rename_i j ej;obtain⟨vs,h1,h2⟩:=w.ob _ _ _ ea e;have l:Le ρ H ρ (upd H _ (.lst (vs.set j v))):=kR h1 qE;exact⟨_,vs,_,j,rfl,rfl,h1,by rw[<- h2.len];exact ej,p ρ _ l (w.write ea h1 qE ⟨_,cX,(h2.set rv j).mono l⟩)⟩
    .exact p.elim
   .exact p.elim
 .exact p.elim
def E4(ho:DE K mg X ES o F)(hi:DE K mg X ES i G)(hs:tT X t)(hd:ou K mg t f)
 (ha:∀v,assign (.Subscript o i pos) X.env v=(do
  let ov <- holding [v] (eval o X.env)
  let iv <- holding [v,ov] (eval i X.env)
  standAt pos
  holding [v,ov,iv] (setItem ov iv v)
  release [v,ov,iv] [])):DG K mg X ES (.Subscript o i pos) (gS F G f):=
 PG.imp (HG ho hi hs ha) λv σ H Q q_=>q_.el λρ h ae d w re rd p=>
  ⟨ρ,h,ae,w,re,p.bind.imp λdo_ h1 ρ1 H1 l1 w1 p1 o' ro=>⟨ρ1,h1,ae,w1,re.mono l1,p1.bind.imp λdi h2 ρ2 H2 l2 w2 p2 i' ri=>
   hd ρ2 h2 H2 do_ di d o' i' v _ _ w2 (ro.mono l2) ri ((rd.mono l1).mono l2) (p2.bind.imp λ_ h3 ρ3 H3 l3 w3 p3=>p3 ρ3 H3 Le.refl w3 σ (((re.mono l1).mono l2).mono l3))⟩⟩
end
noncomputable def cutD(xs:List D)(lo hi:Option Int):List D:=(xs.drop (HT.sIx xs.length 0 lo)).take (HT.sIx xs.length xs.length hi-HT.sIx xs.length 0 lo)
abbrev MO:=AE->AH->R (Option Int)
noncomputable def wg:MO:=λ_ h=>.ok none h
noncomputable def vI(F:ME):MO:=λae h=>(F ae h).bind λd h1=>match d with
 |.int i=>.ok (some i) h1
 |_=>.stuck
noncomputable def gSl(x:D)(lo hi:Option Int)(h:AH):R D:=match x with
 |.tup xs=>if HT.sIx xs.length 0 lo=0/\HT.sIx xs.length xs.length hi=xs.length then .stuck else .ok (.tup (cutD xs lo hi)) h
 |.ref n=>match bS h n with
  |some xs=>.ok (.ref h.length) (h++[.lst (cutD xs lo hi)])
  |none=>.stuck
 |.kl xs=>.ok (.ref h.length) (h++[.lst (cutD xs lo hi)])
 |_=>.stuck
noncomputable def eSl(F:ME)(L U:MO):ME:=λae h=>(F ae h).bind λx h1=>(L ae h1).bind λlo h2=>(U ae h2).bind λhi h3=>gSl x lo hi h3
section
variable{K:W.Frag}{mg:Pa}{X:Cx}{ES:St->XK}{e:Expr}{F:ME}{L U:MO}{lo hi:Option Expr}{pos p2:Pos}
def rdO(K:W.Frag)(mg:Pa)(ES:St->XK)(F:MO):TO:=λσ H Q=>∃ρ h ae,Wd K mg ρ h H/\RelE K mg ρ H ae σ/\PostG K mg ρ H (ES σ) (λo _ ρ' H'=>Q o H') (F ae h)
def DO(K:W.Frag)(mg:Pa)(X:Cx)(ES:St->XK)(e:Option Expr)(F:MO):Prop:=PO X e (rdO K mg ES F)
def EK:DO K mg X ES none wg:=PO.imp Et λσ H Q ⟨ρ,h,ae,w,re,p⟩=>p ρ H Le.refl w
def Dk(he:DE K mg X ES e F):DO K mg X ES (some e) (vI F):=PO.imp (Ei he) λσ H Q ⟨ρ,h,ae,w,re,p⟩=>⟨ρ,h,ae,w,re,p.bind.imp λd h1 ρ1 H1 l1 w1 p1 v rv=>by
 split at p1
 .cases rv;exact⟨_,rfl,p1 ρ1 H1 Le.refl w1⟩
 .exact p1.elim⟩
def nZ(r:RelDs K mg ρ H xs vs)(lo hi:Option Int):RelDs K mg ρ H (cutD xs lo hi) (kz vs lo hi):=by unfold cutD kz;rw[<- r.len];exact (r.drop _).take _
def slK(h:X.K=K):SlR X (λx lo hi H Q=>rSlL K x lo hi H Q\/rSlT K x lo hi H Q):=by subst h;exact Ee.or Fz
def AR(hK:X.K=K)(he:DE K mg X ES e F)(hl:DO K mg X ES lo L)(hu:DO K mg X ES hi U):DE K mg X ES (.Subscript e (.Slice lo hi none p2) pos) (eSl F L U):=
 PE.imp (
  Bf (slK hK) he hl hu) λσ H Q q_=>q_.el λρ h ae w re p=>⟨ρ,h,ae,w,re,p.bind.imp λd h1 ρ1 H1 l1 w1 p1 x rx=>⟨ρ1,h1,ae,w1,re.mono l1,p1.bind.imp λlo h2 ρ2 H2 l2 w2 p2=>⟨ρ2,h2,ae,w2,(re.mono l1).mono l2,p2.bind.imp λhi h3 ρ3 H3 l3 w3 p3=>by
  have rx3:=(rx.mono l2).mono l3;unfold gSl at p3;split at p3
  .split at p3
   .exact p3.elim
   .rename_i hn;cases rx3 with
    |tup q rs=>exact .inr ⟨_,_,rfl,q,by rw[<- rs.len];exact hn,λl hl=>l7 w3 (nZ rs lo hi) hl p3⟩
  .split at p3
   .rename_i xs e1;cases rx3 with
    |ref ea=>obtain⟨vs,q,rs⟩:=cE w3 ea e1;exact .inl ⟨_,_,rfl,q,λl hl=>eR w3 (nZ rs lo hi) hl p3⟩
   .exact p3.elim
  .cases rx3 with
   |kl q rs=>exact .inl ⟨_,_,rfl,.inr q,λl hl=>eR w3 (nZ rs lo hi) hl p3⟩
  .exact p3.elim⟩⟩⟩
end
structure Script(h:AH)(d:D)(ns:List Int):Prop where
 form:(∃n,d=.ref n/\h[n]?=some (.fz (ns.map D.int)))\/d=.kl (ns.map D.int)
theorem jM{K:W.Frag}{mg:Pa}{ρ:List Addr}{H:Hp}:∀(ns:List Int),RelDs K mg ρ H (ns.map D.int) (ns.map V.int)
 | []=>.nil
 |_::r=>.cons (.int _) (jM r)
def AD{P:Program}{w:World}{K:W.Frag}{mg:Pa}{base:Heap}{x y:Str}{k:Nat}{S:Fn}(C:Callee P w K mg base x k [y] (spD K mg 1 S))(hT:∀P q,¬ zL K mg P q)
 (hS:∀(d:D) (h:AH) (ns:List Int),ns.length<=63->Script h d ns->∃h',S [d] h=.ok (.bl true) h'):Callee P w K mg base x k [y] (λvs H Q _=>∃(a:Addr) (ns:List Int),vs=[.ref a]/\oa H/\SqL K H a (ns.map V.int)/\ns.length<=63/\∀H',Q (.bl true) H'):=by
 refine C.imp λvs H Q E ⟨a,ns,e,hO,hq,hl,q⟩=>?_;subst e;rcases hq with (hq |⟨o,hq⟩) |hq
 .rcases hO a with z |⟨o,xs,z⟩ <;> rw[hq] at z <;> cases z
 .obtain⟨h',e⟩:=hS (.ref 0) [.fz (ns.map D.int)] ns hl ⟨.inl ⟨0,rfl,rfl⟩⟩;refine⟨[a],[.fz (ns.map D.int)],[.ref 0],⟨rfl,by simp,λP q l=>(hT P q l).elim,λn b ob e1 e2=>?_⟩,.cons (.ref rfl) .nil,rfl,?_⟩
  .cases n with
   |zero=>cases e1;cases e2;exact⟨o,_,hq,jM ns⟩
   |succ n=>simp at e1
  .rw[e];exact λρ' H' l' w' v rv=>by cases rv;exact q H'
 .obtain⟨h',e⟩:=hS (.kl (ns.map D.int)) [] ns hl ⟨.inr rfl⟩;refine⟨[],[],[.kl (ns.map D.int)],⟨rfl,by simp,λP q l=>(hT P q l).elim,λn b ob e1 e2=>by simp at e1⟩,.cons (.kl hq (jM ns)) .nil,rfl,?_⟩;rw[e];exact λρ' H' l' w' v rv=>by cases rv;exact q H'
def walk_lawD{l:W.OpenLaw}{q:Program}{loose:List Str}{XP:(Str->Option Value)->Heap->Prop}{YP:World->Heap->Prop}{d:DefRec}{K:Params->W.Frag}{x:Str}{k:Nat}(hn:l.most=some 63)(hdf:d.params.defaults=[])(hr:Room k callerA)
 (hY:∀(w:World) (h:Heap),YP w h->(K w.params).In h)
 (F:∀(w:World) (mg:Pa) (h:Heap),(K w.params).In h->h.Ns mainGlobals mg->∀base:Heap,(K w.params).In base->base.Ns mainGlobals mg->Callee l.prog w (K w.params) mg base d.name k [x] (λvs H Q _=>∃(a:Addr) (ns:List Int),vs=[.ref a]/\oa H/\SqL (K w.params) H a (ns.map V.int)/\ns.length<=63/\∀H',Q (.bl true) H'))
 (D:∀(w:World) (mg:Pa) (h:Heap),(K w.params).In h->h.Ns mainGlobals mg->∃st,Def (K w.params) mg d.name st/\∀(kV doc pm:Value) (an:Option Addr) (cdv ct:Value) (us:List Value),us.length=1->bindArgs (W.fnOf d.name d.name (dg st) (bU st) (bw st) .none kV doc pm an cdv ct) ⟨us,[]⟩=pure ([x].zip us)):
 W.WalkO q loose XP YP l.row.toRowW d [] (λf vs=>PySem.call f vs):=by
 refine L2.walk_of (n:=63) (k:=k) (x:=x) (CX:=λw=>CX1 l.prog w) (sp:=λw=>λvs H Q _=>∃(a:Addr) (ns:List Int),vs=[.ref a]/\oa H/\SqL (K w.params) H a (ns.map V.int)/\ns.length<=63/\∀H',Q (.bl true) H') hn (by decide) hdf hr hY (λw mg fa h KX G hmg=>?_) (λ_ _ a ns hl hO hS=>⟨a,ns,rfl,hO,hS,hl,λ_=>rfl⟩) λ_ _ _ _ _ ⟨_,_,_,_,_,_,_,_,_,z⟩=>z;obtain⟨st,Dd,hbind⟩:=D w mg h KX G;obtain⟨f,fd,Ff,m⟩:=Dd.ex;have e:=hmg.symm.trans m;cases e;obtain⟨oc,od,kV,doc,pm,an,cdv,ct,osl,rfl,lk,hcd⟩:=Ff.ex;refine⟨_,λs u=>.of_eq (hbind kV doc pm an cdv ct [u] rfl),λbase kb nb=>?_⟩;obtain⟨f',fd',F',m',kp',b',oc',od',osl',lk'⟩:=(F w mg h KX G base kb nb).ex;rw[m] at m';cases m';rw[lk] at lk';cases lk';exact F'
noncomputable def wa:D->D->AH->R D:=gOr (gI λi j=>.int (i+j)) lV
noncomputable def Bj:D->D->AH->R D:=gI λi j=>.int (i-j)
def CMulA(i j:Int):Prop:=Ct i j\/CMul i j
def BD:D->D->AH->R D:=gIc CMulA λi j=>.int (i*j)
def zT:D->D->AH->R D:=gIc CDivB λi j=>.int (i.fdiv j)
def AJ:D->D->AH->R D:=gIc (λ_ j=>j≠0) λi j=>.int (i.fmod j)
def zO:D->D->AH->R D:=gIc gG λi j=>.int (i^j.toNat)
def Ak:D->D->AH->R D:=gIc gG λi j=>.int (i*2^j.toNat)
noncomputable def gLt:D->D->AH->R D:=gI λi j=>.bl (decide (i<j))
noncomputable def gGt:D->D->AH->R D:=gI λi j=>.bl (decide (j<i))
noncomputable def gGe:D->D->AH->R D:=gI λi j=>.bl (decide (j<=i))
noncomputable def wj:D->AH->R D:=λx h=>match x with
 |.int i=>.ok (.int (-i)) h
 |_=>.stuck
noncomputable def qL(n:Nat)(S:Fn)(A:MA):ME:=eFn (λds h=>if ds.length=n then S ds h else .stuck) A
section
variable{K:W.Frag}{mg:Pa}{X:Cx}
def qV(h:X.K=K):OpR X (binaryOp .Add) (λx y H Q=>rI0 (λi j=>.int (i+j)) x y H Q\/(o3 x y H Q\/(kS K x y H Q\/lu K x y H Q))):=Gn.or (catK h)
def GN:OpD K mg (λx y H Q=>rI0 (λi j=>.int (i+j)) x y H Q\/(o3 x y H Q\/(kS K x y H Q\/lu K x y H Q))) wa:=(kE λ_ _ _ _=>.int _).or Du
def Gw:OpD K mg (rI0 λi j=>.int (i-j)) Bj:=kE λ_ _ _ _=>.int _
def Hv:OpR X (binaryOp .Mult) (rI CMulA λi j=>.int (i*j)):=by
 intro pins s σ H x y v u Q I rx ry h;obtain⟨i,j,e1,e2,hc,q⟩:=h;rcases hc with hc |hc
 .exact EX pins s σ H x y v u Q I rx ry ⟨i,j,e1,e2,hc,q⟩
 .exact FH pins s σ H x y v u Q I rx ry ⟨i,j,e1,e2,hc,q⟩
def Ge:OpD K mg (rI CMulA λi j=>.int (i*j)) BD:=m8 λ_ _ _ _=>.int _
def HI:OpD K mg (rI CDivB λi j=>.int (i.fdiv j)) zT:=m8 λ_ _ _ _=>.int _
def Ha:OpD K mg (rI (λ_ j=>j≠0) λi j=>.int (i.fmod j)) AJ:=m8 λ_ _ _ _=>.int _
def GO:OpD K mg (rI gG λi j=>.int (i^j.toNat)) zO:=m8 λ_ _ _ _=>.int _
def JG:OpD K mg (rI gG λi j=>.int (i*2^j.toNat)) Ak:=m8 λ_ _ _ _=>.int _
def LW:OpD K mg (rI0 λi j=>.bl (decide (i<j))) gLt:=kE λ_ _ _ _=>.bl _
def LB:OpD K mg (rI0 λi j=>.bl (decide (j<i))) gGt:=kE λ_ _ _ _=>.bl _
def KC:OpD K mg (rI0 λi j=>.bl (decide (j<=i))) gGe:=kE λ_ _ _ _=>.bl _
def Jj:UnD K mg (rU λi=>.int (-i)) wj:=λρ h H dx x Q E w rx p=>by
 unfold wj at p;split at p
 .cases rx;exact⟨_,rfl,bC w (.int _) p⟩
 .exact p.elim
def Es:IpD K mg (ipI λi j=>i+j) (gI λi j=>.int (i+j)):=λρ h H dx dy x y Q E w rx ry p=>by
 unfold gI at p;split at p
 .cases rx;cases ry;exact⟨_,_,rfl,rfl,bC w (.int _) p⟩
 .exact p.elim
variable{ES:St->XK}{e:Expr}{es:List Expr}{A:MA}{pos:Pos}
def A8(C:Callee X.prog X.w X.K X.mg X.base x k ps (spD K mg n S))(hr:Room k X.A)(hg:Gl X x)(hx:kT X ES)(ha:DA K mg X ES (e::es) A)
 (hdb:(x==("__debug__" : Str))=false) (he:starEach (e::es) X.env=(false,eval e X.env)::starEach es X.env) (hpl:(backTo pos (starEach es X.env)).any (·.1)=false):
 DE K mg X ES (.Call (.Name x p) (e::es) [] pos) (qL n S A):=EG C hr hg hx ha hdb he hpl
end
section
variable{h:AH}
@[simp] theorem hE(a:α)(h:AH)(f:α->AH->R β):(R.ok a h).bind f=f a h:=rfl
end
def iK(h1:pd.canLay0=true)(h2:pd.depth<=160):shp pd=true:=by unfold shp;rw[h1,L_ h2];rfl
def lF(h1:pd.canLay0=true)(h2:pd.depth<=64):SeqAt.shaped pd=true:=by unfold SeqAt.shaped;rw[h1,L_ h2];rfl
def Sm(n:Nat)(x:Int):Prop:=x.natAbs<2^n
def Sm.mono(h:Sm n x)(l:n<=m):Sm m x:=I_ h (MZ (by omega) l)
def Sm.mul(h:Sm n x)(k:Sm m y):Sm (n+m) (x*y):=by unfold Sm at *;rw[NL,Nat.pow_add];exact Nat.mul_lt_mul'' h k
def Sm.add'(h:Sm n x)(k:Sm n y):Sm (n+1) (x+y):=by
 unfold Sm at *;have h3:2^(n+1)=2^n+2^n:=by rw[OD];omega
 have h4:(x+y).natAbs<=x.natAbs+y.natAbs:=Int.natAbs_add_le x y;omega
def Sm.bits(h:Sm n x):Builtin.Int.intBits x<=n:=intBits_le_iff.mpr h
def Sm.of_le(h:Sm n y)(l:x.natAbs<=y.natAbs):Sm n x:=Nat.lt_of_le_of_lt l h
def CMulA.of(h:Sm n x)(k:Sm m y)(hn:n<=100000)(hm:m<=100000):CMulA x y:=.inl ⟨G_ h.bits hn,G_ k.bits hm⟩
def CMulA.left(h:-(2^64)<x)(k:x<2^64):CMulA x y:=.inr (.inl ⟨h,k⟩)
def CMulA.right(h:-(2^64)<y)(k:y<2^64):CMulA x y:=.inr (.inr ⟨h,k⟩)
def CDivB.of(h0:y≠0)(h:Sm 8000 y):CDivB x y:=⟨h0,h.bits⟩
structure Sz(n:Nat)(q:Rat):Prop where
 top:Sm n q.num
 bot:Sm n (q.den:Int)
def Sz.mono(h:Sz n q)(l:n<=m):Sz m q:=⟨h.top.mono l,h.bot.mono l⟩
def zg{a b:Int}(hb:b≠0):((a:Rat)/(b:Rat)).num*b=a*((a:Rat)/(b:Rat)).den:=by
 have h2:=Rat.num_divInt_den ((a:Rat)/(b:Rat));have h3:Rat.divInt ((a:Rat)/(b:Rat)).num (((a:Rat)/(b:Rat)).den:Int)=Rat.divInt a b:=by rw[h2,Rat.divInt_eq_div]
 exact (Rat.divInt_eq_divInt_iff (by have:=((a:Rat)/(b:Rat)).den_nz;omega) hb).mp h3
def uE(q:Rat):Int.gcd q.num q.den=1:=by
 have:=q.reduced
 exact this
def nM(hb:b≠0):Fr.T a b=((a:Rat)/(b:Rat)).num/\Fr.B a b=(((a:Rat)/(b:Rat)).den:Int):=by
 refine Fr.uniq (Fr.B_pos hb) (by have:=((a:Rat)/(b:Rat)).den_pos;omega) (Fr.low hb) (uE _) ?_;have h1:=Fr.cross (a:=a) hb;have h2:=zg (a:=a) hb;generalize ((a:Rat)/(b:Rat)).num=n at *;generalize (((a:Rat)/(b:Rat)).den:Int)=d at *;generalize Fr.T a b=x at *;generalize Fr.B a b=y at *;have h3:(x*d)*b=(n*y)*b:=by
  calc x*d*b=(x*b)*d:=by rw[N8]
   _=a*y*d:=by rw[h1]
   _=(a*d)*y:=by rw[N8]
   _=n*b*y:=by rw[h2]
   _=n*y*b:=by rw[N8]
 exact N2 hb h3
def wI{a b:Int}(hb:b≠0):((a:Rat)/(b:Rat)).num.natAbs<=a.natAbs:=by
 have h:=(nM (a:=a) hb).1;rw[<- h];have h1:=Fr.T_mul (a:=a) hb;have h2:=Fr.dv_ne (a:=a) hb;have h3:(Fr.T a b).natAbs*(Fr.dv a b).natAbs=a.natAbs:=by rw[<- NL,h1]
 have h4:1<=(Fr.dv a b).natAbs:=by omega
 calc (Fr.T a b).natAbs=(Fr.T a b).natAbs*1:=by omega
  _<=(Fr.T a b).natAbs*(Fr.dv a b).natAbs:=Ny _ h4
  _=a.natAbs:=h3
def xp{a b:Int}(hb:b≠0):((((a:Rat)/(b:Rat)).den:Int)).natAbs<=b.natAbs:=by
 have h:=(nM (a:=a) hb).2;rw[<- h];have h1:=Fr.B_mul (a:=a) hb;have h2:=Fr.dv_ne (a:=a) hb;have h3:(Fr.B a b).natAbs*(Fr.dv a b).natAbs=b.natAbs:=by rw[<- NL,h1]
 have h4:1<=(Fr.dv a b).natAbs:=by omega
 calc (Fr.B a b).natAbs=(Fr.B a b).natAbs*1:=by omega
  _<=(Fr.B a b).natAbs*(Fr.dv a b).natAbs:=Ny _ h4
  _=b.natAbs:=h3
def Sz.div(hb:b≠0)(ha:Sm n a)(hb':Sm m b)(k:Nat)(h1:n<=k)(h2:m<=k):Sz k ((a:Rat)/(b:Rat)):=
 ⟨(ha.of_le (wI hb)).mono h1,(hb'.of_le (xp hb)).mono h2⟩
def c5(q:Rat):(q.den:Int)≠0:=by have:=q.den_nz;omega
def hZ(q:Rat):q=(q.num:Rat)/((q.den:Int):Rat):=by
 have:=Rat.num_divInt_den q
 rw[Rat.divInt_eq_div] at this;exact this.symm
def iw{b:Int}(h:b≠0):(b:Rat)≠0:=by intro z;exact h (by exact_mod_cast z)
def oE(p q:Rat):p+q=((p.num*q.den+q.num*p.den:Int):Rat)/((p.den*q.den:Int):Rat):=by
 have h1:=iw (c5 p);have h2:=iw (c5 q)
 conv=>lhs;rw[hZ p,hZ q]
 simp only[Rat.intCast_add,OF];grind
def oD(p q:Rat):p*q=((p.num*q.num:Int):Rat)/((p.den*q.den:Int):Rat):=by
 have h1:=iw (c5 p);have h2:=iw (c5 q)
 conv=>lhs;rw[hZ p,hZ q]
 simp only[OF];grind
def Sz.add(hp:Sz n p)(hq:Sz m q):Sz (n+m+1) (p+q):=by rw[oE];have h1:=(hp.top.mul hq.bot);have h2:=(hq.top.mul hp.bot);exact Sz.div (by have:=c5 p;have:=c5 q;exact ND ‹_› ‹_›) (h1.add' (by rw[Nat.add_comm n m];exact h2)) (hp.bot.mul hq.bot) _ (by omega) (by omega)
def Sz.mul(hp:Sz n p)(hq:Sz m q):Sz (n+m) (p*q):=by rw[oD];exact Sz.div (by have:=c5 p;have:=c5 q;exact ND ‹_› ‹_›) (hp.top.mul hq.top) (hp.bot.mul hq.bot) _ (by omega) (by omega)
def vw{q:Rat}:0<q.num ↔ 0<q:=by
 have h1:=Rat.num_nonneg (q:=q);have h2:=OG (q:=q);constructor
 .intro h;refine Rat.lt_of_le_of_ne (h1.mp (by omega)) λz=>?_
  have:=h2.mpr z.symm
  omega
 .intro h;have h3:=h1.mpr (Rat.le_of_lt h);have h4:q.num≠0:=λz=>(Rat.ne_of_lt h) (h2.mp z).symm;omega
def xv(p q:Rat):p<q ↔ p.num*q.den<q.num*p.den:=Rat.lt_iff p q
theorem iF:∀{ws:List Int},(∀w∈ws,0<=w)->0<=ws.sum
 | [],_=>Int.le_refl _
 |
  w::ws,h=>by
  have:=h w (H_ ..)
  have:=iF (ws:=ws) λv hv=>h v (A_ _ hv)
  rw[M3];omega
def JK{K:W.Frag}{h:Heap}{mg:Pa}{x:Str}{a:Addr}{dd:Option Addr}{its:Array Value}{n:Nat}{sl:Array (Option Value)}{vs:List V}{ds:List D}(X:K.In h)(G:h.Ns mainGlobals mg)(e:W.nsIn K mainGlobals x=some (some (.ref a)))
 (l:K.lookup a=some ⟨.type "tuple",dd,.seq its n,sl⟩) (hs:its.size<=sizeLine) (hv:Vals vs its.toList) (hr:∀ρ H,RelDs K mg ρ H ds vs):GC K mg x (.tup ds):=
 ⟨_,.ref a,W.mg_of X G e,rfl,λρ H=>.tup (.inr ⟨_,its,n,l,rfl,rfl,hs,hv⟩) (hr ρ H)⟩
def Az{P:Program}{w:World}{H:Hp}(h:Heap)(hb:sysModules<h.objs.size):ObjOk P w H (h.push { cls:=.type "dict",data:=.dict #[] }) h.objs.size (.dK []):=
 ⟨MX _,MM.mpr (Ne.symm (ML hb)),[],.nil,Heap.DictOf.new h⟩
def Inv.big{X:Cx}{pins:Pb}{σ:St}{H:Hp}{s:Shared}(I:Inv X pins σ H s):sysModules<s.heap.objs.size:=by have h:mainGlobals<s.heap.objs.size:=(I.mod.glob.keeps I.bk).lt;exact OC (by decide) h
variable{K:W.Frag}{mg:Pa}
section
variable{κ:Type}[DecidableEq κ]
noncomputable def fc(kvs:List (κ×V))(k:κ):Option V:=(kvs.find? λkv=>decide (kv.1=k)).map (·.2)
noncomputable def dw(kvs:List (κ×V))(k:κ)(v:V):List (κ×V):=
 if (kvs.any λkv=>decide (kv.1=k))=true then kvs.map (λkv=>if kv.1=k then (kv.1,v) else kv) else kvs++[(k,v)]
def my{p:κ×V}{r:List (κ×V)}{k:κ}(e:p.1=k):fc (p::r) k=some p.2:=by simp [fc,Np,e]
def l6{p:κ×V}{r:List (κ×V)}{k:κ}(e:¬ p.1=k):fc (p::r) k=fc r k:=by simp [fc,Np,e]
theorem mF(k:κ):∀kvs:List (κ×V),(kvs.any λkv=>decide (kv.1=k))=(fc kvs k).isSome
 | []=>rfl
 |
  p::r=>by
  rw[Nh];by_cases e:p.1=k
  .simp only[my e,L_ e,Bool.true_or,Option.isSome_some]
  .rw[l6 e,K_ e,Bool.false_or];exact mF k r
def i9(kvs:List (κ×V))(k:κ)(v:V):(dw kvs k v).length<=kvs.length+1:=by
 unfold dw;split
 .rw[v_];omega
 .rw[E_,MK,M1];omega
def Ax{kvs:List (κ×V)}{k:κ}(v:V)(h:fc kvs k=none):dw kvs k v=kvs++[(k,v)]:=by unfold dw;rw[mF,h];exact if_neg (by decide)
def RelO.isSome_eq(r:RelO o u):o.isSome=u.isSome:=by
 cases o with
 |none=>cases u with
  |none=>rfl
  |some _=>exact (show False from r).elim
 |some _=>cases u with
  |none=>exact (show False from r).elim
  |some _=>rfl
def KV.val(r:KV kvs vs)(k:κ):RelO (fc kvs k) (valueAt vs k):=by
 unfold KV at r;induction r with
 |nil=>exact True.intro
 |
  @cons p q ps qs h t ih=>
  obtain⟨h1,h2⟩:=h;by_cases e:p.1=k
  .have e':q.1=k:=h1.symm.trans e;have b:valueAt (q::qs) k=some q.2:=by simp [valueAt,Np,e']
   rw[my e,b];exact h2
  .have e':¬ q.1=k:=λz=>e (h1.trans z);have b:valueAt (q::qs) k=valueAt qs k:=by simp [valueAt,Np,e']
   rw[l6 e,b];exact ih
def KV.any(r:KV kvs vs)(k:κ):(kvs.any λkv=>decide (kv.1=k))=vs.any λkv=>decide (kv.1=k):=by
 unfold KV at r;induction r with
 |nil=>rfl
 |cons h t ih=>rw[Nh,Nh,ih,h.1]
def KV.repl(r:KV kvs vs)(k:κ)(ry:RelV y u):
 KV (kvs.map λkv=>if kv.1=k then (kv.1,y) else kv) (vs.map λkv=>if kv.1=k then (kv.1,u) else kv):=by
 unfold KV at r ⊢;induction r with
 |nil=>exact .nil
 |
  @cons p q ps qs h t ih=>
  rw[B_,B_];refine .cons ?_ ih;obtain⟨h1,h2⟩:=h;by_cases e:p.1=k
  .rw[if_pos e,if_pos (h1.symm.trans e)];exact⟨h1,ry⟩
  .rw[if_neg e,if_neg (λz=>e (h1.trans z))];exact⟨h1,h2⟩
def KV.put(r:KV kvs vs)(k:κ)(ry:RelV y u):KV (dw kvs k y) (stored vs k u):=by
 unfold dw stored;rw[r.any k];by_cases e:(vs.any λkv=>decide (kv.1=k))=true
 .rw[if_pos e,if_pos e];exact r.repl k ry
 .rw[if_neg e,if_neg e];exact Paired.snoc r ⟨rfl,ry⟩
def KV.length(r:KV kvs vs):kvs.length=vs.length:=Paired.length r
end
def kZ(r:RelV (kV k) u):(bW P w).is k u=true:=by
 cases k with
 |inl i=>obtain⟨t,e⟩:=(show ∃t,u=Value.int i t from r);subst e;exact ud P w i t
 |inr x=>obtain⟨t,e⟩:=(show ∃t,u=Value.str x t from r);subst e;exact lE P w x t
theorem pj:∀{ks:List Key}{us:List Value},Vals (ks.map kV) us->ItemsAre (bW P w) ks us
 | [],_,r=>by rw[M5] at r;cases r;exact .nil
 |
  k::ks,_,r=>by
  rw[B_] at r;cases r with
  |cons h t=>exact .cons (kZ h) (pj t)
abbrev KT(H:Hp):List (List Key×V)->List (List Key×Addr×Value)->Prop:=Paired λp q=>p.1=q.1/\H q.2.1=some (.tup (p.1.map kV))/\RelV p.2 q.2.2
def KT.val(r:KT H kvs xs)(k:List Key):RelO (fc kvs k) ((atKey xs k).map (·.2)):=by
 induction r with
 |nil=>exact True.intro
 |
  @cons p q ps qs h t ih=>
  obtain⟨h1,_,h2⟩:=h;by_cases e:p.1=k
  .have e':q.1=k:=h1.symm.trans e;have b:atKey (q::qs) k=some q.2:=by simp [atKey,Np,e']
   rw[my e,b];exact h2
  .have e':¬ q.1=k:=λz=>e (h1.trans z);have b:atKey (q::qs) k=atKey qs k:=by simp [atKey,Np,e']
   rw[l6 e,b];exact ih
def KT.repl(r:KT H kvs xs)(k:List Key)(ry:RelV y u):
 KT H (kvs.map λkv=>if kv.1=k then (kv.1,y) else kv) (xs.map (putAt k u)):=by
 induction r with
 |nil=>exact .nil
 |
  @cons p q ps qs h t ih=>
  rw[B_,B_];refine .cons ?_ ih;obtain⟨h1,h2,h3⟩:=h;unfold putAt;by_cases e:p.1=k
  .rw[if_pos e,if_pos (h1.symm.trans e)];exact⟨h1,h2,ry⟩
  .rw[if_neg e,if_neg (λz=>e (h1.trans z))];exact⟨h1,h2,h3⟩
def KT.put(r:KT H kvs xs)(k:List Key)(hb:H b=some (.tup (k.map kV)))(ry:RelV y u):
 KT H (dw kvs k y) (storedH xs k b u):=by
 have e:(kvs.any λkv=>decide (kv.1=k))=(atKey xs k).isSome:=by rw[mF,(r.val k).isSome_eq,Option.isSome_map]
 unfold dw storedH;rw[e];by_cases q:(atKey xs k).isSome=true
 .rw[if_pos q,if_pos q];exact r.repl k ry
 .rw[if_neg q,if_neg q];exact Paired.snoc r ⟨rfl,hb,ry⟩
def KT.keeps(r:KT H kvs xs)(ht:∀b ys,H b=some (.tup ys)->H' b=some (.tup ys)):KT H' kvs xs:=
 Paired.mapP r λ_ _ z=>⟨z.1,ht _ _ z.2.1,z.2.2⟩
section
variable{P:Program}{w:World}{H:Hp}{h:Heap}{a:Addr}
def B8(ok:HOk P w H h)(e:Rd H a u):ObjOk P w H h a u:=e.ok ok
def wY(ok:HOk P w H h)(e:Rd H a (.dK kvs)):kvs.length<=sizeLine/\(a==sysModules)=false/\∃vs,KV kvs vs/\h.DictOf (bW P w) a vs:=
 show ObjOk P w H h a (.dK kvs) from B8 ok e
def Cd(ok:HOk P w H h)(e:H a=some (.dK kvs)):kvs.length<=sizeLine/\(a==sysModules)=false/\∃vs,KV kvs vs/\h.DictOf (bW P w) a vs:=wY ok (.inl e)
def sA(ok:HOk P w H h)(e:H a=some (.tup (ks.map kV))):(tupleKind (bW P w)).is h ks a:=by obtain⟨_,its,r,o,h1,h2,n,h3⟩:=(show ObjOk P w H h a (.tup (ks.map kV)) from ok a _ e);exact⟨o,its.toArray,n,h1,h2,h3,by simpa using pj r⟩
def wN(ok:HOk P w H h)(e:Rd H a (.dT kvs)):kvs.length<=sizeLine/\(a==sysModules)=false/\
 ∃xs,KT H kvs xs/\h.DictOfH (tupleKind (bW P w)) a xs:=by
 obtain⟨z,y,xs,r,o,es,ep,h1,h2,h3,h4,h5⟩:=(show ObjOk P w H h a (.dT kvs) from B8 ok e);refine⟨z,y,xs,r,o,es,ep,h1,h2,h3,h4,λx hx=>?_,h5⟩;have all:∀{l:List (List Key×V)}{m:List (List Key×Addr×Value)},KT H l m->∀x∈m,(tupleKind (bW P w)).is h x.1 x.2.1:=by
  intro l m q;induction q with
  |nil=>intro x hx;exact nomatch hx
  |
   @cons p q ps qs hq t ih=>
   intro x hx;rcases MN.mp hx with e |hx
   .subst e;exact sA ok (by rw[<- hq.1];exact hq.2.1)
   .exact ih x hx
 exact all r x hx
def Lf(ok:HOk P w H h)(e:H a=some (.dT kvs)):kvs.length<=sizeLine/\(a==sysModules)=false/\
 ∃xs,KT H kvs xs/\h.DictOfH (tupleKind (bW P w)) a xs:=wN ok (.inl e)
end
def DGet(H:Hp)(a:Addr)(y:V)(r:Option V):Prop:=
 (∃kvs k,Rd H a (.dK kvs)/\y=kV k/\r=fc kvs k)\/∃kvs k b,Rd H a (.dT kvs)/\y=.ref b/\H b=some (.tup (k.map kV))/\r=fc kvs k
def DPut(H:Hp)(a:Addr)(y v:V)(H':Hp):Prop:=
 (∃kvs k,H a=some (.dK kvs)/\y=kV k/\kvs.length<sizeLine/\H'=upd H a (.dK (dw kvs k v)))\/
 ∃kvs k b,H a=some (.dT kvs)/\y=.ref b/\H b=some (.tup (k.map kV))/\kvs.length<sizeLine/\H'=upd H a (.dT (dw kvs k v))
def DGet.k{H:Hp}{a:Addr}{kvs:List (Key×V)}{k:Key}(e:H a=some (.dK kvs)):DGet H a (kV k) (fc kvs k):=.inl ⟨kvs,k,.inl e,rfl,rfl⟩
def DPut.k{H:Hp}{a:Addr}{kvs:List (Key×V)}{k:Key}{v:V}(e:H a=some (.dK kvs))(hl:kvs.length<sizeLine):DPut H a (kV k) v (upd H a (.dK (dw kvs k v))):=.inl ⟨kvs,k,e,rfl,hl,rfl⟩
section
variable{X:Cx}{pins:Pb}{σ:St}{H:Hp}{s:Shared}{a:Addr}{y v:V}{u r:Value}{o:Option V}{A:Around}{E:Pc}
def xA(hu:A.units+1<cLine)(I:Inv X pins σ H s)(g:DGet H a y (some v))(ry:RelV y u)(h:∀w' s',Inv X pins σ H s'->RelV v w'->Q w' s'):
 wpAny (model X.prog X.w) A (getItem (.ref a) u) Q E s:=by
 rcases g with ⟨kvs,k,e,ey,l⟩ |⟨kvs,k,b,e,ey,eb,l⟩
 .subst ey;obtain⟨z,hd,vs,rel,dd⟩:=wY I.hok e;obtain⟨w',hw,rw'⟩:=RelO.some_of (v:=v) (o:=valueAt vs k) (by rw[l];exact rel.val k);exact wpAny_getItem_of (kZ ry) dd.mapOf hw (h w' _ (I.tok _) rw')
 .subst ey;cases (show u=Value.ref b from ry);obtain⟨z,hd,xs,rel,dd⟩:=wN I.hok e;obtain⟨w',hw,rw'⟩:=RelO.some_of (v:=v) (o:=(atKey xs k).map (·.2)) (by rw[l];exact rel.val k);obtain⟨p,hp,hp2⟩:=MF.mp hw;refine wpAny_getItem_heap (tupleKind_room_in1 hu) (sA I.hok eb) dd hp ?_;rw[hp2];exact h w' _ (I.tok _) rw'
def nY(I:Inv X pins σ H s)(mu:Mut (H a))(hs:Heap.SameBut a s.heap h')(he:∃q,h'.get? a=some q)(new:ObjOk X.prog X.w (upd H a ob) h' a ob):
 Inv X pins σ (upd H a ob) { s with heap:=h',toks:=t' }:=
 I.write (x:=a) (e:=a) mu (.inl rfl) (λb q hb z=>(hs.2 b hb).trans z) he new
def xD(z:kvs.length<=sizeLine)(hd:(a==sysModules)=false)(rel:KV kvs vs)(dd:h'.DictOf (bW P w) a vs):
 ObjOk P w H' h' a (.dK kvs):=⟨z,hd,vs,rel,dd⟩
def ym(hu:A.units+1<cLine)(I:Inv X pins σ H s)(g:DPut H a y v H')(ry:RelV y u)(rv:RelV v r)(h:∀s',Inv X pins σ H' s'->Q () s'):
 wpAny (model X.prog X.w) A (setItem (.ref a) u r) Q E s:=by
 rcases g with ⟨kvs,k,e,ey,l,eH⟩ |⟨kvs,k,b,e,ey,eb,l,eH⟩
 .subst ey eH;obtain⟨z,hd,vs,rel,dd⟩:=Cd I.hok e;have hz:vs.length<=sizeLine:=by rw[<- rel.length];exact z
  have hl:(dw kvs k v).length<=sizeLine:=by have:=i9 kvs k v;omega
  refine wpAny_setItem_pairs (hsz:=hz) (kZ ry) dd λh' dd' hs=>h _ ?_;have he:∃q,h'.get? a=some q:=let ⟨q,_,_,hq,_⟩:=dd';⟨q,hq⟩;exact nY I (by rw[e];exact True.intro) hs he (xD hl hd (rel.put k rv) dd')
 .subst ey eH;cases (show u=Value.ref b from ry);obtain⟨z,hd,xs,rel,dd⟩:=Lf I.hok e;have hz:xs.length<=sizeLine:=by rw[<- Paired.length rel];exact z
  have hl:(dw kvs k v).length<=sizeLine:=by have:=i9 kvs k v;omega
  refine wpAny_setItem_heap (hsz:=hz) (tupleKind_room_in1 hu) (sA I.hok eb) dd λh' dd' hs=>h _ ?_;obtain⟨q,es,ep,hq,h2,h3,h4,_,h5⟩:=dd';refine nY I (by rw[e];exact True.intro) hs ⟨q,hq⟩ ⟨hl,hd,_,(rel.put k eb rv).keeps λc ys ec=>?_,q,es,ep,hq,h2,h3,h4,h5⟩;rw[bE (JO ec e (λz=>nomatch z))];exact ec
end
def xa(i:Expr):Prop:=∀ov iv,subscripted i false ov iv=operate [ov,iv] (getItem ov iv)
def EI{prog:Program}{w:World}{A:Around}{E:Pc}{s:Shared}{env:Env}{value m_:Expr}{pos:Pos}{T id:String}{Q:Pc}
 (hl:typeLookup (.type T) "__getitem__"=pure (some (.builtin id))) (hs:xa m_)
 (h:wpAny (model prog w) A (eval value env) (λo s₁=>wpAny (model prog w) A (eval m_ env) (λi s₂=>s₂.TypeIs o T/\wpAny (model prog w) A (getItem o i) Q E s₂) E s₁) E s):
 wpAny (model prog w) A (eval (.Subscript value m_ pos) env) Q E s:=by
 refine Subscript_ (M6 h (λo s₁ h₁=>M6 h₁ (λi s₂ h₂=>?_) λ_ _ x=>x) λ_ _ x=>x);obtain⟨hT,h₂⟩:=h₂;unfold subscriptTail;refine w_ ?_;rw[getitemInPython_of_ne hT.not_modules];refine w_ (wpAny_specialOf hT hl ?_);have k_:wpAny (model prog w) A (subscripted m_ false o i) (λr s₃=>wpAny (model prog w) A (letTemporaryGo value o r >>= λ_=>pure r) Q E s₃) E s₂:=by rw[hs o i];exact wpAny_operating (M6 h₂ (λr s₃ h₃=>w_ (wpAny_letTemporaryGo (F_ h₃))) λ_ _ x=>x)
 first
  |exact F_ (w_ k_)
  |exact w_ (F_ (w_ k_))
  |exact w_ k_
def uj(I:Inv X pins σ H s)(g:DGet H a y o):s.TypeIs (.ref a) "dict":=by
 rcases g with ⟨kvs,k,e,_,_⟩ |⟨kvs,k,b,e,_,_,_⟩
 .obtain⟨_,_,vs,_,dd⟩:=wY I.hok e;exact dd.typeIs
 .obtain⟨_,_,xs,_,dd⟩:=wN I.hok e;exact dd.typeIs
def Kt(td ty:TE):TE:=λσ H Q=>td σ H λx H1=>ty σ H1 λy H2=>∃a v,x=.ref a/\DGet H2 a y (some v)/\Q v H2
section
variable{X:Cx}{o i:Expr}{pos:Pos}{td ty:TE}
def Dj(hu:X.A.units+1<cLine)(ho:PE X o td)(hi:PE X i ty)(hs:xa i):PE X (.Subscript o i pos) (Kt td ty):=by intro pins s σ H Q I h;refine EI PySem.F.slot_dict_getitem.lookup hs (thn (ho pins s σ H _ I h) λu s1 ⟨x,H1,I1,rx,q1⟩=>thn (hi pins s1 σ H1 _ I1 q1) λiv s2 ⟨y,H2,I2,ry,a,v,ex,g,q2⟩=>?_);subst ex;obtain rfl:u=Value.ref a:=rx;exact⟨uj I2 g,xA hu I2 g ry λw' s3 I3 rw'=>⟨v,H2,I3,rw',q2⟩⟩
end
def mQ:List (TE×TE)->St->Hp->(List (V×V)->Hp->Prop)->Prop
 | [],_,H,Q=>Q [] H
 |(tk,tv)::r,σ,H,Q=>tk σ H λx H1=>tv σ H1 λy H2=>mQ r σ H2 λps H3=>Q ((x,y)::ps) H3
abbrev VV:List (V×V)->List (Value×Value)->Prop:=Paired λp q=>RelV p.1 q.1/\RelV p.2 q.2
def PPs(X:Cx)(pos:Pos)(keys:List (Option Expr))(values:List Expr)(trs:List (TE×TE)):Prop:=
 ∀
  (pins:Pb) (s:Shared) (σ:St) (H:Hp) (Q:List (V×V)->Hp->Prop),Inv X pins σ H s->mQ trs σ H Q->
  wpAny (model X.prog X.w) X.A (evalPairs (pairTrees keys values X.env pos)) (λvs s'=>∃ps H',Inv X pins σ H' s'/\VV ps vs/\Q ps H') X.xe s
def Dc:PPs X pos [] [] []:=λpins s σ H Q I h=>pairTrees_nil_walk ⟨[],H,I,.nil,h⟩
def Bz(hk:PE X k tk)(hv:PE X v tv)(hr:PPs X pos ks vs trs):
 PPs X pos (some k::ks) (v::vs) ((tk,tv)::trs):=λpins s σ H Q I h=>
 pairTrees_cons_walk (thn (hk pins s σ H _ I h) λu s1 ⟨x,H1,I1,rx,q1⟩=>thn (hv pins s1 σ H1 _ I1 q1) λw2 s2 ⟨y,H2,I2,ry,q2⟩=>
  thn (hr pins s2 σ H2 _ I2 q2) λws s3 ⟨ps,H3,I3,rel,q3⟩=>⟨(x,y)::ps,H3,I3,.cons ⟨rx,ry⟩ rel,q3⟩)
def iD(kvs more:List (Key×V)):List (Key×V):=more.foldl (λacc kv=>dw acc kv.1 kv.2) kvs
def KV.merge:∀{more:List (Key×V)}{rs:List (Key×Value)}{kvs:List (Key×V)}{vs:List (Key×Value)},KV more rs->KV kvs vs->KV (iD kvs more) (merged vs rs):=by
 intro more rs kvs vs r;unfold KV at r;induction r generalizing kvs vs with
 |nil=>intro q;exact q
 |
  @cons p q ps qs h t ih=>
  intro r0;have e:KV (dw kvs p.1 p.2) (stored vs q.1 q.2):=by
   have:=r0.put p.1 h.2
   rw[<- h.1];exact this
  exact ih e
theorem j6:∀(more kvs:List (Key×V)),(iD kvs more).length<=kvs.length+more.length
 | [],kvs=>by show kvs.length<=kvs.length+0;omega
 |
  p::r,kvs=>by
  have h1:=j6 r (dw kvs p.1 p.2);have h2:=i9 kvs p.1 p.2;show (iD (dw kvs p.1 p.2) r).length<=_;rw[MK];omega
theorem nK:∀{kvs:List (Key×V)}{ws:List (Value×Value)},VV (kvs.map λkv=>(kV kv.1,kv.2)) ws->∃rs,Carries (bW P w) ws rs/\KV kvs rs
 | [],_,r=>by rw[M5] at r;cases r;exact⟨[],True.intro,.nil⟩
 |
  p::kvs,_,r=>by
  rw[B_] at r;cases r with
  |@cons a b as bs h t=>obtain⟨rs,c,q⟩:=nK (P:=P) (w:=w) t;obtain⟨b1,b2⟩:=b;exact⟨(p.1,b2)::rs,⟨kZ h.1,rfl,c⟩,.cons ⟨rfl,h.2⟩ q⟩
def Mo(trs:List (TE×TE)):TE:=λσ H Q=>∀p,H p=none->mQ trs σ (upd H p (.dK [])) λps H2=>H2 p=some (.dK [])/\∃kvs:List (Key×V),ps=kvs.map (λkv=>(kV kv.1,kv.2))/\kvs.length<=15/\Q (.ref p) (upd H2 p (.dK (iD [] kvs)))
def EB(h:PPs X pos keys values trs)(hall:keys.all (·.isSome)=true)(hl:keys.length=values.length)(h0:keys≠[])
 (h15:keys.length<=15):PE X (.Dict keys values pos) (Mo trs):=by
 intro pins s σ H Q I q;have hn:=I.hok.fresh (y_ s.heap.objs.size);have I1:=I.laid (a:=s.heap.objs.size) (o:=.dK []) (h':=s.heap.push { cls:=.type "dict",data:=.dict #[] }) (t':=s.toks) (λ_ _ q=>C_ _ q) (y_ _) (Az s.heap I.big);refine wpAny_Dict_walk (knd:=bW X.prog X.w) hall hl h0 h15 (thn (h pins _ σ _ _ I1 (q _ hn)) λws s2 ⟨ps,H2,I2,rel,e,kvs,ep,lk,q2⟩=>?_);subst ep;obtain⟨rs,c,rk⟩:=nK (P:=X.prog) (w:=X.w) rel;obtain⟨z,hd,vs0,r0,dd⟩:=Cd I2.hok e;cases r0;refine⟨rs,c,dd,λh' dd' hs=>⟨.ref s.heap.objs.size,_,?_,rfl,q2⟩⟩;have hz:(iD [] kvs).length<=sizeLine:=by have h1:=j6 kvs [];rw[M1] at h1;rw[sizeLine_eq];omega
 have he:∃q,h'.get? s.heap.objs.size=some q:=let ⟨q,_,_,hq,_⟩:=dd';⟨q,hq⟩;exact nY I2 (by rw[e];exact True.intro) hs he (xD hz hd (rk.merge .nil) dd')
section
variable[DecidableEq κ]
noncomputable def lkD(kvs:List (κ×α))(k:κ):Option α:=(kvs.find? λkv=>decide (kv.1=k)).map (·.2)
noncomputable def jO(kvs:List (κ×α))(k:κ)(v:α):List (κ×α):=if (kvs.any λkv=>decide (kv.1=k))=true then kvs.map λkv=>if kv.1=k then (kv.1,v) else kv else kvs++[(k,v)]
end
section
variable{K:W.Frag}{mg:Pa}{ρ:List Addr}{H:Hp}
def CL:∀{kvs:List (Key×D)}{ws:List (Key×V)},ws.map (·.1)=kvs.map (·.1)->RelDs K mg ρ H (kvs.map (·.2)) (ws.map (·.2))->lkD kvs k=some d->∃v,fc ws k=some v/\RelD K mg ρ H d v:=by
 intro kvs;induction kvs with
 |nil=>intro ws e r q;cases q
 |
  cons p kvs ih=>
  intro ws e r q;cases ws with
  |nil=>cases e
  |
   cons w ws=>
   obtain⟨k1,d1⟩:=p;obtain⟨k2,v2⟩:=w;rw[B_,B_] at e;injection e with e1 e2;dsimp only at e1;subst e1;cases r with
   |
    cons r rr=>
    unfold lkD at q;unfold fc;rw[Np] at q ⊢;dsimp only at q ⊢;by_cases hk:k2=k
    .rw[L_ hk] at q ⊢;cases q;exact⟨v2,rfl,r⟩
    .rw[K_ hk] at q ⊢;exact ih e2 rr q
def rn[DecidableEq κ]:∀{kvs:List (κ×α)}{ws:List (κ×β)},ws.map (·.1)=kvs.map (·.1)->(ws.any λkv=>decide (kv.1=k))=kvs.any λkv=>decide (kv.1=k):=by
 intro kvs;induction kvs with
 |
  nil=>
  intro ws e;cases ws with
  |nil=>rfl
  |cons _ _=>cases e
 |
  cons p kvs ih=>
  intro ws e;cases ws with
  |nil=>cases e
  |cons w ws=>rw[B_,B_] at e;injection e with e1 e2;rw[Nh,Nh,ih e2,e1]
def AQ{k:Key}{d:D}{v:V}(rd:RelD K mg ρ H d v){kvs:List (Key×D)}{ws:List (Key×V)}(e:ws.map (·.1)=kvs.map (·.1))(r:RelDs K mg ρ H (kvs.map (·.2)) (ws.map (·.2))):(dw ws k v).map (·.1)=(jO kvs k d).map (·.1)/\RelDs K mg ρ H ((jO kvs k d).map (·.2)) ((dw ws k v).map (·.2)):=by
 unfold dw jO;rw[rn e];by_cases hc:(kvs.any λkv=>decide (kv.1=k))=true
 .rw[if_pos hc,if_pos hc];clear hc;induction kvs generalizing ws with
  |
   nil=>
   cases ws with
   |nil=>exact⟨rfl,.nil⟩
   |cons _ _=>cases e
  |
   cons p kvs ih=>
   cases ws with
   |nil=>cases e
   |
    cons w ws=>
    obtain⟨k1,d1⟩:=p;obtain⟨k2,v2⟩:=w;rw[B_,B_] at e;injection e with e1 e2;dsimp only at e1;subst e1;cases r with
    |
     cons r rr=>
     obtain⟨h1,h2⟩:=ih e2 rr;simp only[B_];by_cases hk:k2=k
     .rw[if_pos hk,if_pos hk];exact⟨by rw[h1],.cons rd h2⟩
     .rw[if_neg hk,if_neg hk];exact⟨by rw[h1],.cons r h2⟩
 .rw[if_neg hc,if_neg hc,MY,MY,MY,MY,e];exact⟨rfl,r.append (.cons rd .nil)⟩
def qX:D->D->AH->R D:=λx y h=>match x with
 |.ref n=>(match y with
  |.str k=>(match h[n]? with
   |some (.dct kvs)=>(match lkD kvs (.inr k) with
    |some d=>.ok d h
    |none=>.stuck)
   |_=>.stuck)
  |_=>.stuck)
 |_=>.stuck
def wD(o i v:D)(h:AH):R Unit:=match o with
 |.ref n=>(match i with
  |.str k=>(match h[n]? with
   |some (.dct kvs)=>if kvs.length<16777216 then .ok () (h.set n (.dct (jO kvs (.inr k) v))) else .stuck
   |_=>.stuck)
  |_=>.stuck)
 |_=>.stuck
def wF:vB:=λo i v H Q=>∃a H4,o=.ref a/\DPut H a i v H4/\Q H4
variable{X:Cx}{ES:St->XK}{a b:Expr}{F G:ME}{pos:Pos}
def BG(hu:X.A.units+1<cLine):tT X wF:=λpins s σ H o i v ov iv u Q I ro ri rv ⟨a,H4,eo,g,q⟩=>by subst eo;obtain rfl:ov=Value.ref a:=ro;exact ym hu I g ri rv λs4 I4=>⟨H4,I4,q⟩
def ED:ou K mg wF wD:=λρ h H do_ di dv o i v Q E w ro ri rv p=>by
 unfold wD at p;split at p
 .split
   at p
  .split
    at p
   .rename_i n k _ kvs e;split at p
    .rename_i hl;cases ro with
     |
      ref ea=>
      cases ri;obtain⟨ws,h1,h2,h3⟩:=w.ob _ _ _ ea e;have d_:ws.length=kvs.length:=by have:=Nd List.length h2;simpa using this
      have l:Le ρ H ρ (upd H _ (.dK (dw ws (.inr k) v))):=kR h1 wG;obtain⟨k1,k2⟩:=AQ (k:=.inr k) rv h2 h3;exact⟨_,_,rfl,DPut.k (k:=.inr k) h1 (by rw[d_];exact hl),p ρ _ l (w.write ea h1 wG ⟨_,cX,k1,k2.mono l⟩)⟩
    .exact p.elim
   .exact p.elim
  .exact p.elim
 .exact p.elim
def D1(hu:X.A.units+1<cLine)(ha:DE K mg X ES a F)(hb:DE K mg X ES b G)(hs:xa b):DE K mg X ES (.Subscript a b pos) (eOp qX F G):=PE.imp (Dj hu ha hb hs) λσ H Q q_=>q_.el λρ h ae w re p=>⟨ρ,h,ae,w,re,p.bind.imp λdx h1 ρ1 H1 l1 w1 p1 x rx=>⟨ρ1,h1,ae,w1,re.mono l1,p1.bind.imp λdy h2 ρ2 H2 l2 w2 p2 y ry=>by
 have rx2:=rx.mono l2;unfold qX at p2;split at p2
 .split
   at p2
  .split
    at p2
   .rename_i n k _ kvs e;split at p2
    .rename_i d q;cases rx2 with
     |ref ea=>cases ry;obtain⟨ws,k1,k2,k3⟩:=w2.ob _ _ _ ea e;obtain⟨v,q1,rv⟩:=CL k2 k3 q;refine⟨_,v,rfl,?_,bC w2 rv p2⟩;rw[<- q1];exact DGet.k (k:=.inr k) k1
    .exact p2.elim
   .exact p2.elim
  .exact p2.elim
 .exact p2.elim⟩⟩
def nG(ks:List Str)(A:MA):ME:=λae h=>(A ae (h++[.dct []])).bind λds h2=>match h2[h.length]? with
 |some (.dct [])=>if ks.length=ds.length then .ok (.ref h.length) (h2.set h.length (.dct ((ks.map Sum.inr).zip ds))) else .stuck
 |_=>.stuck
def aL:List (Str×ME)->MA
 | []=>jQ
 |p::r=>kN p.2 (aL r)
def tps(K:W.Frag)(mg:Pa)(ES:St->XK)(prs:List (Str×ME)):List (TE×TE):=prs.map λp=>(tC (.str p.1),rdE K mg ES p.2)
theorem tQ:∀(prs:List (Str×ME)) {ρ:List Addr}{h:AH}{ae:AE}{H:Hp}{Q:List (V×V)->Hp->Prop},Wd K mg ρ h H->RelE K mg ρ H ae σ->PostG K mg ρ H (ES σ) (λds _ ρ' H'=>∀vs,RelDs K mg ρ' H' ds vs->Q ((prs.map λp=>V.str p.1).zip vs) H') (aL prs ae h)->mQ (tps K mg ES prs) σ H Q
 | [],ρ,h,ae,H,Q,w,re,p=>p ρ H Le.refl w [] .nil
 |pr::r,ρ,h,ae,H,Q,w,re,p=>⟨ρ,h,ae,w,re,(PostG.bind p).imp λd h1 ρ1 H1 l1 w1 p1 y ry=>tQ r w1 (re.mono l1) ((PostG.bind p1).imp λds h2 ρ2 H2 l2 w2 p2 vs rs=>p2 ρ2 H2 Le.refl w2 (y::vs) (.cons (ry.mono l2) rs))⟩
theorem rH:∀(more acc:List (Key×V)),((acc++more).map (·.1)).Nodup->iD acc more=acc++more
 | [],acc,_=>(Nn _).symm
 |
  (k,v)::more,acc,h=>by
  show iD (dw acc k v) more=_;have hk:fc acc k=none:=by unfold fc;rw[Option.map_eq_none_iff,List.find?_eq_none];intro p hp z;have z:=of_decide_eq_true z;rw[MY,List.nodup_append] at h;exact h.2.2 p.1 (List.mem_map_of_mem hp) k (H_ ..) z
  rw[Ax v hk,rH more (acc++[(k,v)]) (by rw[Ni];exact h),Ni];rfl
def D6:PPs X pos [] [] (tps K mg ES []):=Dc
def BB(hv:DE K mg X ES v F)(hr:PPs X pos ks vs (tps K mg ES prs)):PPs X pos (some (.Constant (.str k) j kp)::ks) (v::vs) (tps K mg ES ((k,F)::prs)):=Bz yW hv hr
theorem rJ:∀(ks:List Str) (vs:List V),(ks.map V.str).zip vs=((ks.map Sum.inr).zip vs).map λkv:Key×V=>(kV kv.1,kv.2)
 | [],_=>rfl
 |_::_,[]=>rfl
 |
  k::ks,v::vs=>by
  show (V.str k,v)::(ks.map V.str).zip vs=_;rw[rJ ks vs];rfl
def DM(hp:PPs X pos keys values (tps K mg ES prs))(hall:keys.all (·.isSome)=true)(hl:keys.length=values.length)(h0:keys≠[])(h15:keys.length<=15)(hn:(prs.map (·.1)).Nodup)(hp15:prs.length<=15):DE K mg X ES (.Dict keys values pos) (nG (prs.map (·.1)) (aL prs)):=PE.imp (EB hp hall hl h0 h15) λσ H Q q_=>q_.el λρ h ae w re p=>λpp hpp=>by
 have l:Le ρ H (ρ++[pp]) (upd H pp (.dK [])):=(dW hpp).trans nW;have w1:=w.alloc hpp (o:=.dct []) (u:=.dK []) ⟨[],cX,rfl,.nil⟩;refine tQ prs w1 (re.mono l) ((PostG.mono l (PostG.bind p)).imp λds h2 ρ2 H2 l2 w2 p2 vs rs=>?_);split at p2
 .rename_i e;split at p2
  .rename_i d_;have ea:ρ2[h.length]?=some pp:=l2.pre _ _ (by rw[<- w.len,MW (y_ _),OE];rfl);obtain⟨ws,k1,k2,_⟩:=w2.ob _ _ _ ea e;have:ws=[]:=by cases ws with |nil=>rfl |cons _ _=>cases k2
   subst this;have hlv:vs.length=prs.length:=by rw[<- rs.len,<- d_,v_]
   refine⟨k1,((prs.map (·.1)).map Sum.inr).zip vs,?_,?_,?_⟩
   .rw[<- rJ,Nl];rfl
   .rw[List.length_zip,v_,v_];omega
   .have hz:(((prs.map (·.1)).map Sum.inr).zip vs:List (Key×V)).map (·.1)=(prs.map (·.1)).map Sum.inr:=List.map_fst_zip (by rw[v_,v_];omega);rw[rH _ [] (by rw[MQ,hz];exact List.Pairwise.map _ (λa b hab z=>hab (Sum.inr.inj z)) hn),MQ];have l3:Le ρ2 H2 ρ2 (upd H2 pp (.dK (((prs.map (·.1)).map Sum.inr).zip vs))):=kR k1 wG;refine p2 ρ2 _ l3 (w2.write ea k1 wG ⟨_,cX,?_,?_⟩) _ (.ref ea)
    .rw[hz,List.map_fst_zip (by rw[v_];omega)]
    .rw[List.map_snd_zip (by rw[v_];omega),List.map_snd_zip (by rw[v_,v_];omega)];exact rs.mono l3
  .exact p2.elim
 .exact p2.elim
end
def xJ(bs:List Bool):((List.range bs.length).any λi=>bs.getD i false)=bs.any id:=by
 rw[Ox,List.any_eq_true,List.any_eq_true];constructor
 .rintro⟨i,hi,h⟩;have hi':=NY.mp hi;exact⟨bs[i],List.getElem_mem hi',by simpa [MV,hi'] using h⟩
 .rintro⟨x,hx,h⟩;obtain⟨i,hi,rfl⟩:=List.mem_iff_getElem.mp hx;exact⟨i,NY.mpr hi,by simpa [MV,hi] using h⟩
section
variable{X:Cx}
def AF(hc:X.calm=true):CallR X (.builtin "any") (λxs H Q=>∃(a:Addr) (bs:List Bool),xs=[.ref a]/\SqL X.K H a (bs.map V.bl)/\Q (.bl (bs.any id)) H):=by
 intro pins s σ H xs us Q I r h;obtain⟨a,bs,rfl,hq,q⟩:=h;obtain⟨u,rfl,ru⟩:=iS r;cases ru;obtain⟨its,rv,p,hz⟩:=I.list hq;have hl:=rv.length;rw[v_] at hl;have hlt:a<s.heap.objs.size:=by obtain⟨o,n,e,_⟩:=p;exact Em e
 refine call_any_walk (Oj p.isList ?_);refine⟨s.heap.objs.size,_,_,_,_,_,λi=>bs.getD i false,rfl,Walks.list (A:=X.A.in1) (I.ok.hd hc) s.heap.objs.size a (ML hlt) its.toArray,⟨⟨_,MB _ rfl,rfl,rfl⟩,(p.keeps λb o e=>C_ _ e).isList⟩,λi v s' Q' E' hP hQ=>?_,λh' tk hk=>?_⟩
 .have hP':its[i]?=some v:=by simpa using hP
  have hi:i<bs.length:=by rw[hl];exact (x_.mp hP').1
  have hb:(bs.map V.bl)[i]?=some (V.bl bs[i]):=by simp [hi]
  obtain⟨u,hu,ru⟩:=rv.get hb;rw[hP'] at hu;cases hu;cases ru;refine Nt ?_;have e:bs.getD i false=bs[i]:=by simp [MV,hi]
  show Q' bs[i] s';rw[<- e];exact hQ
 .have e1:its.toArray.size=bs.length:=by rw[J_,hl]
  rw[e1,xJ];have hn:H s.heap.objs.size=none:=I.fresh;have I1:Inv X pins σ H { s with heap:=s.heap.push { cls:=.type "list_iterator",dict:=none,data:=.fields #[.ref a,rawInt 0] } }:=I.kept (t':=s.toks) λb o e=>C_ _ e;refine⟨.bl _,H,?_,rfl,q⟩;refine I.kept (t':=tk) λb o e=>?_;have hne:b≠s.heap.objs.size:=ML (Em e);exact hk b o (by simpa using hne) (C_ _ e)
def anyK{K:W.Frag}(h:X.K=K)(hc:X.calm=true):CallR X (.builtin "any") (λxs H Q=>∃(a:Addr) (bs:List Bool),xs=[.ref a]/\SqL K H a (bs.map V.bl)/\Q (.bl (bs.any id)) H):=by subst h;exact AF hc
end
def qZ:Fn:=λds h=>match ds with
 | [.ref n]=>match (bS h n).bind gy with
  |some bs=>.ok (.bl (bs.any id)) h
  |none=>.stuck
 |_=>.stuck
section
variable{K:W.Frag}{mg:Pa}
def Gi:cJ K mg (λxs H Q=>∃(a:Addr) (bs:List Bool),xs=[.ref a]/\SqL K H a (bs.map V.bl)/\Q (.bl (bs.any id)) H) qZ:=λρ h H ds vs Q E w rs p=>by
 unfold qZ at p;split at p
 .cases
   rs with
  |
   cons r rs=>
   cases r with
   |
    ref ea=>
    cases rs;split at p
    .rename_i bs e;obtain⟨xs,q,e2⟩:=M4.mp e
     .obtain⟨vs,h1,h2⟩:=cE w ea q;rw[mL e2] at h2;rw[h2.bls] at h1;exact⟨_,bs,rfl,h1,bC w (.bl _) p⟩
    .exact p.elim
 .exact p.elim
end
open PySem PySem.Spec PySem.Calls PyProof.Rows
section
variable{X:Cx}{K:W.Frag}{mg:Pa}{es:List Expr}{gs:MGs}{pos:Pos}
def gUnp(K:W.Frag)(n:Nat)(t:TGs):TG:=λv σ H Q=>∃a xs,v=.ref a/\(SqT K H a xs\/SqL K H a xs)/\xs.length=n/\t xs σ H Q
def E6{k:Nat}{t:TGs}{n:Nat}(hc:X.calm=true)(h:PGs X es t)
 (hn:(assignEach es X.env).length=n) (hst:(assignEach es X.env).findIdx? (·.1)=none):PG X (.Tuple es k pos) (gUnp X.K n t):=by
 intro pins s σ H v u Q I r hw;obtain⟨a,xs,e1,hq,hl,hw⟩:=hw;rcases hq with hq |hq
 .exact xN hc h hn hst pins s σ H v u Q I r ⟨a,xs,e1,hq,hl,hw⟩
 .subst e1;cases r;obtain⟨its,rv,⟨o,m,ho,oc,od,os⟩,hz⟩:=I.list hq;have ht:s.heap.IsList a its.toArray:=⟨o,ho,oc,m,os⟩;rw[assign_Tuple];refine w_ (Oq ?_);unfold unpack;rw[hst,hn,show n=its.toArray.size by simp [<- hl,rv.length]];refine w_ (NP (W.kun_itemsOf (I.ok.hd hc) ht λh' hx=>?_));have I1:Inv X pins σ H { s with heap:=h' }:=I.kept (t':=s.toks) λb o e=>hx b o (ML (Em e)) e;exact h pins _ σ H xs _ Q I1 (by simpa using rv) hw
noncomputable def gU(u:MGs):MG:=λd ae h=>match d with
 |.tup ds=>u ds ae h
 |.ref p=>match bS h p with
  |some ds=>u ds ae h
  |none=>.stuck
 |_=>.stuck
def GX{k n:Nat}(hK:X.K=K)(hc:X.calm=true)(h:DGs K mg X (λ_=>E0) es gs)
 (hn:(assignEach es X.env).length=n) (hst:(assignEach es X.env).findIdx? (·.1)=none):DG K mg X (λ_=>E0) (.Tuple es k pos) (gU λds ae h=>if ds.length=n then gs ds ae h else .stuck):=by
 subst hK;refine PG.imp (E6 hc h hn hst) λv σ H Q q_=>q_.el λρ h ae d w re rd p=>?_;unfold gU at p;cases rd with
 |
  tup q rs=>
  dsimp only at p;split at p
  .rename_i hl;exact⟨_,_,rfl,.inl q,by rw[<- rs.len];exact hl,ρ,h,ae,_,w,re,rs,p⟩
  .exact p.elim
 |
  ref ea=>
  dsimp only at p;split at p
  .rename_i ds q;obtain⟨vs,h1,h2⟩:=cE w ea q;split at p
   .rename_i hl;exact⟨_,_,rfl,.inr h1,by rw[<- h2.len];exact hl,ρ,h,ae,_,w,re,h2,p⟩
   .exact p.elim
  .exact p.elim
 |_=>exact p.elim
end
section
variable{X:Cx}{K:W.Frag}{mg:Pa}{ES:St->XK}{a:Expr}{A:MA}{pos q2 p1 p2:Pos}
def tE(j:Int):List V:=(List.range j.toNat).map λi=>V.int ((i:Nat):Int)
def rLrg:List V->Hp->VK->Prop:=λxs H Q=>∃j:Int,xs=[.int j]/\-(2^62)<=j/\j<=16777216/\∀l,H l=none->Q (.ref l) (upd H l (.lst (tE j)))
theorem uW:∀(n:Nat) (f:Nat->Int) (is:List Nat) (ys:List Value),CarriedAll ys (is.map λi=>PyData.int (f i))->Vals (is.map λi=>V.int (f i)) ys
 |n,f,[],ys,h=>by cases h;exact .nil
 |
  n,f,i::is,ys,h=>by
  cases h with
  |cons c r=>cases c;exact .cons ⟨_,rfl⟩ (uW n f is _ r)
def Iv(hc:X.calm=true)(hl:Gl X "list")(hml:X.mg "list"=none)(hg:Gl X "range")(hm:X.mg "range"=none)(ha:PA X [a] ta)(hs:starEach [a] X.env=[(false,eval a X.env)])
 (hs1:starEach [.Call (.Name "range" p2) [a] [] q2] X.env=[(false,eval (.Call (.Name "range" p2) [a] [] q2) X.env)]):
 PE X (.Call (.Name "list" p1) [.Call (.Name "range" p2) [a] [] q2] [] pos) (tCB rLrg ta):=by
 intro pins s σ H Q I h;refine NS (gC I hl hml (show bootBuiltins "list"=some (.type "list") from rfl) ?_ (by decide) (by decide));refine Na ?_ hs1 rfl;rw[hs1];show wpAny _ _ (spliced ((false,eval (.Call (.Name "range" p2) [a] [] q2) X.env)::[])) _ _ s;refine Calls.spliced_cons ?_;refine NS (gC I hg hm (show bootBuiltins "range"=some (.type "range") from rfl) ?_ (by decide) (by decide));refine Na (thn (ha q2 pins s σ H _ I h) λus s1 ⟨vs,H1,I1,r1,q1⟩=>?_) hs rfl;obtain⟨j,e,h1,h2,q⟩:=q1;subst e;cases r1 with
 |
  cons r rr=>
  cases rr;obtain⟨t,rfl⟩:=r;refine call_range_1 (Calls.spliced_nil ?_);have I2:Inv X pins σ H1 { s1 with heap:=s1.heap.push { cls:=.type "range",data:=.fields #[.int 0 s1.toks,.int j t,.int 1 (s1.toks+1)] },toks:=s1.toks+1+1 }:=I1.kept λb o e=>C_ _ e;obtain⟨m,hns,_⟩:=I2.loc;refine list_rangeD (I.ok.hd hc) (Att.fr_all hns) (news:=[]) (λp hp=>nomatch hp) (IsRange.new ..) (small_one (by omega) (by omega) (by omega) (by omega)) (n:=j.toNat) (by rw[rangeSize_one];split <;> omega) (by omega) ?_;intro h' tk ys hf hn hk _ _ ⟨⟨c,hpl⟩,_⟩ hcar;have rv:Vals (tE j) ys:=uW 0 (λi=>((i:Nat):Int)) (List.range j.toNat) ys (by
   unfold rangeInts at hcar;rw[Nl] at hcar;have e:((λi=>PyData.int i) ∘ λ(i:Nat)=>(0:Int)+(i:Int)*1)=λi:Nat=>PyData.int (i:Int):=by funext i;simp
   rw[show (PyData.int ∘ λ(i:Nat)=>(0:Int)+(i:Int)*1)=λi:Nat=>PyData.int (i:Int) from e] at hcar;exact hcar)
  have hz:(tE j).length<=sizeLine:=by unfold tE;rw[v_,Oi];have:sizeLine=16777216:=rfl;omega
  exact⟨.ref _,_,I2.laid (t':=tk) hk (y_ _) (show ObjOk X.prog X.w _ h' _ (.lst (tE j)) from ⟨hz,ys,c,rv,hpl⟩),rfl,q _ (I2.hok.fresh (y_ _))⟩
def AY(j:Int):List D:=(List.range j.toNat).map λi=>D.int ((i:Nat):Int)
def oZ:Fn:=λds h=>match ds with
 | [.int j]=>if -(2^62)<=j/\j<=16777216 then .ok (.ref h.length) (h++[.lst (AY j)]) else .stuck
 |_=>.stuck
theorem xP(ρ:List Addr)(H:Hp):∀is:List Nat,RelDs K mg ρ H (is.map λi=>D.int ((i:Nat):Int)) (is.map λi=>V.int ((i:Nat):Int))
 | []=>.nil
 |i::is=>.cons (.int _) (xP ρ H is)
def GG:cJ K mg rLrg oZ:=λρ h H ds vs Q E w rs p=>by
 unfold oZ at p;split at p
 .split at p
  .rename_i hb;cases rs with
   |cons r rs=>cases r;cases rs;exact⟨_,rfl,hb.1,hb.2,λl hl=>eR w (xP ρ H _) hl p⟩
  .exact p.elim
 .exact p.elim
def Gs(hc:X.calm=true)(hl:Gl X "list")(hml:mg "list"=none)(hg:Gl X "range")(hm:mg "range"=none)(ha:DA K mg X ES [a] A)(hk:X.mg=mg)(hs:starEach [a] X.env=[(false,eval a X.env)])
 (hs1:starEach [.Call (.Name "range" p2) [a] [] q2] X.env=[(false,eval (.Call (.Name "range" p2) [a] [] q2) X.env)]):
 DE K mg X ES (.Call (.Name "list" p1) [.Call (.Name "range" p2) [a] [] q2] [] pos) (eFn oZ A):=by
 subst hk;exact PE.imp (Iv hc hl hml hg hm ha hs hs1) (xn GG)
end
inductive EntOk(w:World):List DictEntry->List (Str×Int)->Prop
 |nil:EntOk w [] []
 |cons {e:DictEntry}{es:List DictEntry}{k:Str}{i:Int}{t t':Tok}{kvs:List (Str×Int)} (h:e.hash=hashStr w k) (hk:e.key=.str k t) (hv:e.val=.int i t') (r:EntOk w es kvs):EntOk w (e::es) ((k,i)::kvs)
def lkS(kvs:List (Str×Int))(k:Str):Option Int:=(kvs.find? λp=>decide (p.1=k)).map (·.2)
def KDict(w:World)(K:W.Frag)(mg:Pa)(n:Str)(kvs:List (Str×Int)):Prop:=
 ∃a o es ep,mg n=some (.ref a)/\(a==sysModules)=false/\List.lookup a K=some o/\o.ExactDict/\o.data=.dict es ep/\EntOk w es.toList kvs/\(kvs.map (·.1)).Nodup
theorem pP:∀{es:List DictEntry}{kvs:List (Str×Int)},EntOk w es kvs->(∀e∈es,∃k,(bW P w).is k e.key=true/\e.hash=(bW P w).hash k)/\∃vs:List (Key×Value),Pairs (bW P w) es vs/\vs.map (·.1)=kvs.map (λp=>.inr p.1)/\∀k:Str,(lkS kvs k=none/\valueAt vs (.inr k)=none)\/∃i t,lkS kvs k=some i/\valueAt vs (.inr k)=some (.int i t)
 |_,_,.nil=>⟨(λe h=>nomatch h),[],.nil,rfl,λk=>.inl ⟨rfl,rfl⟩⟩
 |
  _,_,.cons (e:=e) (es:=es) (k:=k) (i:=i) (t:=t) (t':=t') (kvs:=kvs) h hk hv r=>by
  obtain⟨h1,vs,h2,h3,h4⟩:=pP (P:=P) r;have is:(bW P w).is (.inr k) e.key=true:=by rw[hk];exact lE P w k t
  refine⟨λe' he=>?_,(.inr k,.int i t')::vs,.cons is hv h2,by simp [h3],λk'=>?_⟩
  .rcases MN.mp he with rfl |he
   .exact⟨.inr k,is,h⟩
   .exact h1 e' he
  .by_cases e:k=k'
   .subst e;exact .inr ⟨i,t',by simp [lkS],by simp [valueAt]⟩
   .have n1:¬ (Sum.inr k:Key)=.inr k':=λz=>e (Sum.inr.inj z);have a1:lkS ((k,i)::kvs) k'=lkS kvs k':=by simp [lkS,e]
    have a2:valueAt ((Sum.inr k,Value.int i t')::vs) (.inr k':Key)=valueAt vs (.inr k'):=by simp [valueAt,n1]
    rw[a1,a2];exact h4 k'
theorem pA:∀{l:List (Str×Int)},(l.map (·.1)).Nodup->(l.map (λp=>(Sum.inr p.1:Key))).Nodup
 | [],_=>.nil
 |
  p::l,h=>by
  rw[B_,Nq] at h;rw[B_,Nq];refine⟨λz=>h.1 ?_,pA h.2⟩;obtain⟨q,hq,e⟩:=M9.mp z;exact M9.mpr ⟨q,hq,Sum.inr.inj e⟩
section
variable{X:Cx}{K:W.Frag}{mg:Pa}{w:World}{n:Str}{kvs:List (Str×Int)}
def B1(I:Inv X pins σ H s)(g:KDict X.w X.K X.mg n kvs):∃a vs,X.mg n=some (.ref a)/\(a==sysModules)=false/\s.heap.DictOf (bW X.prog X.w) a vs/\∀k:Str,(lkS kvs k=none/\valueAt vs (.inr k)=none)\/∃i t,lkS kvs k=some i/\valueAt vs (.inr k)=some (.int i t):=by obtain⟨a,o,es,ep,h1,h2,h3,h4,h5,h6,h7⟩:=g;obtain⟨q1,vs,q2,q3,q4⟩:=pP (P:=X.prog) h6;refine⟨a,vs,h1,h2,⟨o,es,ep,I.kIn a o h3,h4,h5,λe he=>q1 e (by simpa using he),q2,?_⟩,q4⟩;rw[q3];exact pA h7
def zN(h_:Bool)(mg:Pa)(n:Str)(kvs:List (Str×Int)):R2:=λx y H Q=>∃k a,x=.str k/\y=.ref a/\mg n=some (.ref a)/\Q (.bl (h_ ^^ (lkS kvs k).isSome)) H
def wH(mg:Pa)(n:Str)(kvs:List (Str×Int)):R2:=λx y H Q=>∃k a i,y=.str k/\x=.ref a/\mg n=some (.ref a)/\lkS kvs k=some i/\Q (.int i) H
def EW(hw:X.w=w)(hK:X.K=K)(hm:X.mg=mg)(g:KDict w K mg n kvs):OpR X (compareOp .NotIn) (zN true mg n kvs):=by
 subst hw hK hm;intro pins s σ H x y v u Q I rx ry ⟨k,a,ex,ey,e1,q⟩;subst ex ey;cases ry;obtain⟨a',vs,h1,h2,dd,h4⟩:=B1 I g;have:a'=a:=by rw[h1] at e1;cases e1;rfl
 subst this;refine wpAny_notIn_of (kZ (k:=.inr k) rx) h2 dd.mapOf ⟨.bl (!(valueAt vs (.inr k)).isSome),H,I.tok _,rfl,?_⟩;rcases h4 k with ⟨z1,z2⟩ |⟨i,t,z1,z2⟩
 .rw[z2];rw[z1] at q;exact q
 .rw[z2];rw[z1] at q;exact q
def EE(hw:X.w=w)(hK:X.K=K)(hm:X.mg=mg)(g:KDict w K mg n kvs):IxR X (wH mg n kvs):=by
 subst hw hK hm;intro value m_ pins s σ H x y v u Q I rx ry ⟨k,a,i,ey,ex,e1,e2,q⟩ hs;subst ex ey;cases rx;obtain⟨a',vs,h1,h2,dd,h4⟩:=B1 I g;have:a'=a:=by rw[h1] at e1;cases e1;rfl
 subst this;rcases h4 k with ⟨z1,z2⟩ |⟨i',t,z1,z2⟩
 .rw[e2] at z1;cases z1
 .rw[e2] at z1;cases z1;exact Oo (x:=.int i t) dd.typeIs PySem.F.slot_dict_getitem.lookup (wpAny_getItem_of (kZ (k:=.inr k) ry) dd.mapOf z2 ⟨rfl,.int i,H,I.tok _,⟨t,rfl⟩,q⟩) hs
def rN(h_:Bool)(n:Str)(kvs:List (Str×Int)):D->D->AH->R D:=λx y h=>match x,y with
 |.str k,.glb m=>if m=n then .ok (.bl (h_ ^^ (lkS kvs k).isSome)) h else .stuck
 |_,_=>.stuck
def mP(n:Str)(kvs:List (Str×Int)):D->D->AH->R D:=λx y h=>match x,y with
 |.glb m,.str k=>(match lkS kvs k with
  |some i=>if m=n then .ok (.int i) h else .stuck
  |none=>.stuck)
 |_,_=>.stuck
def C1(h_:Bool):OpD K mg (zN h_ mg n kvs) (rN h_ n kvs):=λρ h H dx dy x y Q E w rx ry p=>by
 unfold rN at p;split at p
 .split at p
  .rename_i hm;subst hm;cases rx;cases ry with
   |glb m=>exact⟨_,_,rfl,rfl,m,bC w (.bl _) p⟩
  .exact p.elim
 .exact p.elim
def Ac:OpD K mg (wH mg n kvs) (mP n kvs):=λρ h H dx dy x y Q E w rx ry p=>by
 unfold mP at p;split at p
 .split at p
  .rename_i i e;split at p
   .rename_i hm;subst hm;cases ry;cases rx with
    |glb m=>exact⟨_,_,_,rfl,rfl,m,e,bC w (.int _) p⟩
   .exact p.elim
  .exact p.elim
 .exact p.elim
end
def zE{K:W.Frag}{h:Heap}{mg:Pa}{w:World}{n:Str}{kvs:List (Str×Int)}{a:Addr}{es:Array DictEntry}{ep:Nat}(X:K.In h)(G:h.Ns mainGlobals mg)(e1:W.nsIn K mainGlobals n=some (some (.ref a)))(e2:List.lookup a K=some { cls:=.type "dict",data:=.dict es ep })(hs:(a==sysModules)=false)(he:EntOk w es.toList kvs)(hn:(kvs.map (·.1)).Nodup):KDict w K mg n kvs:=
 ⟨a,_,es,ep,W.mg_of X G e1,hs,e2,⟨rfl,rfl,rfl⟩,rfl,he,hn⟩
def KDict.ex(g:KDict w K mg n kvs):∃a,mg n=some (.ref a):=let ⟨a,_,_,_,e,_⟩:=g;⟨a,e⟩
section
variable{X:Cx}{K:W.Frag}{mg:Pa}
def BJ(h_:Bool)(K:W.Frag):R2:=λx y H Q=>∃d ds,Rep K H x d/\Rep K H y (.list ds)/\SeqAt.shaped d=true/\SeqAt.shaped (.list ds)=true/\(ds.all λe=>SeqAt.noMix e d)=true/\Q (.bl (h_ ^^ decide (Spec.countIn d ds≠0))) H
def L6(h:X.K=K)(hu:X.A.units+190<cLine):OpR X (compareOp .NotIn) (BJ true K):=by subst h;intro pins s σ H x y v u Q I rx ry h;obtain⟨d,ds,r1,r2,h1,h2,h3,q⟩:=h;obtain⟨as,q1⟩:=r1.reads I rx;obtain⟨bs,q2⟩:=r2.reads I ry;rw[MD] at h3;rw[Bool.true_xor] at q;exact notIn_list_dataH q2 q1 h2 h1 (by omega) h3 (ka I q rfl)
def qz(h:AH)(x y:D):Option Bool:=match eG 64 h x,eG 64 h y with
 |some d,some (.list ds)=>if SeqAt.shaped d=true/\SeqAt.shaped (.list ds)=true/\(ds.all λe=>SeqAt.noMix e d)=true then some (decide (Spec.countIn d ds≠0)) else none
 |_,_=>none
def tf(h_:Bool):D->D->AH->R D:=λx y h=>match qz h x y with
 |some b=>.ok (.bl (h_ ^^ b)) h
 |none=>.stuck
def EY(h_:Bool):OpD K mg (BJ h_ K) (tf h_):=λρ h H dx dy x y Q E w rx ry p=>by
 unfold tf at p;split at p
 .rename_i b e;unfold qz at e;split at e
  .rename_i d ds e1 e2;split at e
   .rename_i hs;cases e;exact⟨d,ds,gk w 64 rx e1,gk w 64 ry e2,hs.1,hs.2.1,hs.2.2,bC w (.bl _) p⟩
   .cases e
  .cases e
 .exact p.elim
end
section
variable{K:W.Frag}{mg:Pa}
def ye{ρ:List Addr}{h:AH}{H:Hp}(w:Wd K mg ρ h H){n:Nat}{a:Addr}{xs:List D}(ea:ρ[n]?=some a)(e:h[n]?=some (.lst xs)):∃vs,H a=some (.lst vs)/\RelDs K mg ρ H xs vs:=by obtain⟨vs,h1,h2⟩:=w.ob _ _ _ ea e;exact⟨vs,h1,h2⟩
end
def srI(ns:List Int):List Int:=ns.mergeSort
def Er{a b:List Int}(p:a.Perm b)(h:a.Pairwise (·<=·))(k:b.Pairwise (·<=·)):a=b:=p.eq_of_pairwise (λx y _ _ h1 h2=>by omega) h k
def tu(ns:List Int):(srI ns).Perm ns:=List.mergeSort_perm ..
def Jv(ns:List Int):(srI ns).Pairwise (·<=·):=by
 have:=List.pairwise_mergeSort (le:=λa b:Int=>decide (a<=b)) (λa b c=>by simp;omega) (λa b=>by simp;omega) ns
 simpa [srI] using this
def yO{a b:List Int}(p:a.Perm b)(s:a.Pairwise (·<=·)):a=srI b:=Er (p.trans (tu b).symm) s (Jv b)
section
variable{X:Cx}
def og:List V->Hp->VK->Prop:=λxs H Q=>∃a ns,xs=[.ref a]/\H a=some (.lst (ns.map V.int))/\ns.length<64/\∀l,H l=none->Q (.ref l) (upd H l (.lst ((srI ns).map V.int)))
def sv:CallR X (.builtin "sorted") og:=by
 intro pins s σ H xs us Q I r h;obtain⟨a,ns,rfl,hA,hz,q⟩:=h;obtain⟨u,rfl,ru⟩:=iS r;cases ru;obtain⟨_,its,n,rv,hl,e⟩:=I.lstM hA;have la:s.heap.IsList a its.toArray:=⟨_,e,rfl,_,rfl⟩;have len:its.length=ns.length:=by rw[<- rv.length,v_]
 refine sorted_ints la (oT rv) (by omega) λout ns' a1 a2 a3=>?_;obtain⟨m',he⟩:=sortedAll_at s.heap its out;have en:=yO a2 a3;subst en;have rv':=kj a1;have l2:(srI ns).length=ns.length:=(tu ns).length_eq;have fr:s.heap.objs.size<=s.heap.objs.size+1:=Nat.le_succ _;have hsz:sizeLine=16777216:=rfl;exact⟨.ref (s.heap.objs.size+1),_,I.laid (t':=s.toks) (λb o z=>sortedAll_old z) fr (show ObjOk X.prog X.w _ _ _ (.lst ((srI ns).map V.int)) from ⟨by rw[v_];omega,_,m',rv',he⟩),rfl,q _ (I.hok.fresh fr)⟩
end
section
variable{K:W.Frag}{mg:Pa}
noncomputable def mV:List D->Option (List Int)
 | []=>some []
 |.int i::ds=>(mV ds).map (i :: ·)
 |_::_=>none
theorem pk{ρ:List Addr}{H:Hp}:∀{ds:List D}{vs:List V}{ns:List Int},RelDs K mg ρ H ds vs->mV ds=some ns->vs=ns.map V.int
 | [],_,_,r,e=>by cases r;cases e;rfl
 |
  d::ds,_,ns,r,e=>by
  cases r with
  |
   cons r rr=>
   cases d with
   |int i=>obtain⟨ms,e1,rfl⟩:=MF.mp e;cases r;rw[pk rr e1];rfl
   |_=>cases e
theorem sk{ρ:List Addr}{H:Hp}:∀ns:List Int,RelDs K mg ρ H (ns.map D.int) (ns.map V.int)
 | []=>.nil
 |i::ns=>.cons (.int i) (sk ns)
def jd:Fn:=λds h=>match ds with
 | [.ref a]=>match h[a]? with
  |some (.lst xs)=>match mV xs with
   |some ns=>if ns.length<64 then .ok (.ref h.length) (h++[.lst ((srI ns).map D.int)]) else .stuck
   |none=>.stuck
  |_=>.stuck
 |_=>.stuck
def yY:cJ K mg og jd:=λρ h H ds vs Q E w rs p=>by
 unfold jd at p;split at p
 .cases
   rs with
  |
   cons r1 rs=>
   cases rs;cases r1 with
   |
    ref ea=>
    split at p
    .rename_i xs q1;split at p
     .rename_i ns q2;split at p
      .rename_i hb;obtain⟨vs',g1,g2⟩:=ye w ea q1;rw[pk g2 q2] at g1;exact⟨_,ns,rfl,g1,hb,λl hl=>eR w (sk _) hl p⟩
      .exact p.elim
     .exact p.elim
    .exact p.elim
 .exact p.elim
end
open PySem PySem.W PyProof.Rows
abbrev Ask:=Nat->Nat->(Bool->Shared->Prop)->Shared->Prop
variable{lt:Nat->Nat->Bool}{N:Nat}{cmp:Ask}{s:Shared}
noncomputable def lexP(x y:Int×Int):Bool:=decide (x.1<y.1\/(x.1=y.1/\x.2<y.2))
def ltP(ks:List (Int×Int))(i j:Nat):Bool:=lexP (ks.getD i (0,0)) (ks.getD j (0,0))
set_option maxHeartbeats 4000000
end L2
namespace L3
open PySem PySem.Spec PyProof.Rows L2
set_option genInjectivity true in
inductive Val where
 |non |bl (b:Bool) |int (i:Int) |str (x:Str) |ty (n:String) |glb (x:Str) |exc (x:Str)
 |tup (xs:List Val) |lst (xs:List Val) |kl (xs:List Val) |dct (kvs:List (Key×Val)) |set (xs:List Int)
 deriving Inhabited
mutual
inductive Rd(P:Nat->Prop)(h:AH):D->Val->Prop where
 |non:Rd P h .non .non
 |bl (b:Bool):Rd P h (.bl b) (.bl b)
 |int (i:Int):Rd P h (.int i) (.int i)
 |str (x:Str):Rd P h (.str x) (.str x)
 |ty (n:String):Rd P h (.ty n) (.ty n)
 |glb (x:Str):Rd P h (.glb x) (.glb x)
 |exc (x:Str):Rd P h (.exc x) (.exc x)
 |tup {ds:List D}{vs:List Val} (r:Rds P h ds vs):Rd P h (.tup ds) (.tup vs)
 |kl {ds:List D}{vs:List Val} (r:Rds P h ds vs):Rd P h (.kl ds) (.kl vs)
 |cell {n:Nat}{o:Ob}{v:Val} (p:P n) (e:h[n]?=some o) (r:Rc P h o v):Rd P h (.ref n) v
inductive Rc(P:Nat->Prop)(h:AH):Ob->Val->Prop where
 |lst {ds:List D}{vs:List Val} (r:Rds P h ds vs):Rc P h (.lst ds) (.lst vs)
 |fz {ds:List D}{vs:List Val} (r:Rds P h ds vs):Rc P h (.fz ds) (.kl vs)
 |dct {ws:List (Key×D)}{us:List (Key×Val)} (r:Rk P h ws us):Rc P h (.dct ws) (.dct us)
 |set (xs:List Int):Rc P h (.set xs) (.set xs)
inductive Rds(P:Nat->Prop)(h:AH):List D->List Val->Prop where
 |nil:Rds P h [] []
 |cons {d:D}{v:Val}{ds:List D}{vs:List Val} (r:Rd P h d v) (rr:Rds P h ds vs):Rds P h (d::ds) (v::vs)
inductive Rk(P:Nat->Prop)(h:AH):List (Key×D)->List (Key×Val)->Prop where
 |nil:Rk P h [] []
 |cons {k:Key}{d:D}{v:Val}{ds:List (Key×D)}{vs:List (Key×Val)} (r:Rd P h d v) (rr:Rk P h ds vs):Rk P h ((k,d)::ds) ((k,v)::vs)
end
section
variable{P P':Nat->Prop}{h h':AH}
abbrev Mov(P P':Nat->Prop)(h h':AH):Prop:=∀n o,P n->h[n]?=some o->P' n/\h'[n]?=some o
def Rd.mono(m:Mov P P' h h')(r:Rd P h d v):Rd P' h' d v:=@Rd.rec P h (λd v _=>Rd P' h' d v) (λo v _=>Rc P' h' o v) (λds vs _=>Rds P' h' ds vs) (λws us _=>Rk P' h' ws us) .non (λb=>.bl b) (λi=>.int i) (λx=>.str x) (λn=>.ty n) (λx=>.glb x) (λx=>.exc x) (λ_ ih=>.tup ih) (λ_ ih=>.kl ih) (λp e _ ih=>.cell (m _ _ p e).1 (m _ _ p e).2 ih) (λ_ ih=>.lst ih) (λ_ ih=>.fz ih) (λ_ ih=>.dct ih) (λxs=>.set xs) .nil (λ_ _ a b=>.cons a b) .nil (λ_ _ a b=>.cons a b) d v r
def Rds.ind{M:List D->List Val->Prop}(h0:M [] [])(h1:∀{d v ds vs},Rd P h d v->Rds P h ds vs->M ds vs->M (d::ds) (v::vs)){ds:List D}{vs:List Val}(r:Rds P h ds vs):M ds vs:=by
 induction ds generalizing vs with
 |nil=>cases r;exact h0
 |
  cons d ds ih=>
  cases r with
  |cons r rr=>exact h1 r rr (ih rr)
def Rk.ind{M:List (Key×D)->List (Key×Val)->Prop}(h0:M [] [])(h1:∀{k d v ds vs},Rd P h d v->Rk P h ds vs->M ds vs->M ((k,d)::ds) ((k,v)::vs)){ds:List (Key×D)}{vs:List (Key×Val)}(r:Rk P h ds vs):M ds vs:=by
 induction ds generalizing vs with
 |nil=>cases r;exact h0
 |
  cons d ds ih=>
  cases r with
  |cons r rr=>exact h1 r rr (ih rr)
def Rds.mono(m:Mov P P' h h'){d:List D}{v:List Val}(r:Rds P h d v):Rds P' h' d v:=r.ind .nil λr _ ih=>.cons (r.mono m) ih
def Rk.mono(m:Mov P P' h h'){d:List (Key×D)}{v:List (Key×Val)}(r:Rk P h d v):Rk P' h' d v:=r.ind .nil λr _ ih=>.cons (r.mono m) ih
def Rc.mono(m:Mov P P' h h')(r:Rc P h d v):Rc P' h' d v:=by
 cases r with
 |lst r=>exact .lst (r.mono m)
 |fz r=>exact .fz (r.mono m)
 |dct r=>exact .dct (r.mono m)
 |set xs=>exact .set xs
def Rds.len{ds:List D}{vs:List Val}(r:Rds P h ds vs):ds.length=vs.length:=r.ind (M:=λds vs=>ds.length=vs.length) rfl λ_ _ ih=>Nd (· + 1) ih
def Rds.get{ds:List D}{vs:List Val}{i:Nat}{v:Val}(r:Rds P h ds vs)(e:vs[i]?=some v):∃d,ds[i]?=some d/\Rd P h d v:=
 r.ind (M:=λds vs=>∀i,vs[i]?=some v->∃d,ds[i]?=some d/\Rd P h d v) (λ_ e=>by rw[List.getElem?_nil] at e;cases e) (λr _ ih i e=>match i,e with
  |0,e=>by cases e;exact⟨_,rfl,r⟩
  |i+1,e=>ih i e) i e
def Rds.append{ds es:List D}{vs ws:List Val}(r:Rds P h ds vs)(q:Rds P h es ws):Rds P h (ds++es) (vs++ws):=r.ind (M:=λds vs=>Rds P h (ds++es) (vs++ws)) q λr _ ih=>.cons r ih
def Rds.take{ds:List D}{vs:List Val}(n:Nat)(r:Rds P h ds vs):Rds P h (ds.take n) (vs.take n):=
 r.ind (M:=λds vs=>∀n:Nat,Rds P h (ds.take n) (vs.take n)) (λn=>by rw[NO,NO];exact .nil) (λr _ ih n=>by cases n with |zero=>exact .nil |succ n=>exact .cons r (ih n)) n
def Rds.drop{ds:List D}{vs:List Val}(n:Nat)(r:Rds P h ds vs):Rds P h (ds.drop n) (vs.drop n):=
 r.ind (M:=λds vs=>∀n:Nat,Rds P h (ds.drop n) (vs.drop n)) (λn=>by rw[N4,N4];exact .nil) (λr rr ih n=>by cases n with |zero=>exact .cons r rr |succ n=>exact ih n) n
def Rds.set{d:D}{v:Val}(r:Rd P h d v){ds:List D}{vs:List Val}(i:Nat)(q:Rds P h ds vs):Rds P h (ds.set i d) (vs.set i v):=
 q.ind (M:=λds vs=>∀i:Nat,Rds P h (ds.set i d) (vs.set i v)) (λ_=>.nil) (λq qq ih i=>by cases i with |zero=>exact .cons r qq |succ i=>exact .cons q (ih i)) i
def Rds.reverse(r:Rds P h ds vs):Rds P h ds.reverse vs.reverse:=by
 induction ds generalizing vs with
 |nil=>cases r;exact .nil
 |
  cons d ds ih=>
  cases r with
  |cons q rr=>rw[NJ,NJ];exact (ih rr).append (.cons q .nil)
def ShR(P:Nat->Prop)(h:AH)(d:D)(v:Val):Prop:=Rd P h d v\/∃n o,d=.ref n/\h[n]?=some o/\Rc P h o v
inductive ShRs(P:Nat->Prop)(h:AH):List D->List Val->Prop where
 |nil:ShRs P h [] []
 |cons {d:D}{v:Val}{ds:List D}{vs:List Val} (r:ShR P h d v) (rr:ShRs P h ds vs):ShRs P h (d::ds) (v::vs)
noncomputable def Val.items:Val->Option (List Val)
 |.tup xs=>some xs
 |.lst xs=>some xs
 |.kl xs=>some xs
 |_=>none
def ShR.int(r:ShR P h d (.int i)):d=.int i:=by
 rcases r with r |⟨n,o,rfl,e,r⟩
 .cases r with
  |int=>rfl
  |cell p e r=>cases r
 .cases r
def ShR.str(r:ShR P h d (.str i)):d=.str i:=by
 rcases r with r |⟨n,o,rfl,e,r⟩
 .cases r with
  |str=>rfl
  |cell p e r=>cases r
 .cases r
def ShR.bl(r:ShR P h d (.bl i)):d=.bl i:=by
 rcases r with r |⟨n,o,rfl,e,r⟩
 .cases r with
  |bl=>rfl
  |cell p e r=>cases r
 .cases r
def ShR.non(r:ShR P h d .non):d=.non:=by
 rcases r with r |⟨n,o,rfl,e,r⟩
 .cases r with
  |non=>rfl
  |cell p e r=>cases r
 .cases r
def ShR.exc(r:ShR P h d (.exc x)):d=.exc x:=by
 rcases r with r |⟨n,o,rfl,e,r⟩
 .cases r with
  |exc=>rfl
  |cell p e r=>cases r
 .cases r
def ShR.ty(r:ShR P h d (.ty x)):d=.ty x:=by
 rcases r with r |⟨n,o,rfl,e,r⟩
 .cases r with
  |ty=>rfl
  |cell p e r=>cases r
 .cases r
def ShR.glb(r:ShR P h d (.glb x)):d=.glb x:=by
 rcases r with r |⟨n,o,rfl,e,r⟩
 .cases r with
  |glb=>rfl
  |cell p e r=>cases r
 .cases r
def ShR.tup(r:ShR P h d (.tup vs)):∃ds,d=.tup ds/\Rds P h ds vs:=by
 rcases r with r |⟨n,o,rfl,e,r⟩
 .cases r with
  |tup r=>exact⟨_,rfl,r⟩
  |cell p e r=>cases r
 .cases r
def Rc.seq(e:h[n]?=some o)(r:Rc P h o (.lst vs)):∃ds,h[n]?=some (.lst ds)/\bS h n=some ds/\Rds P h ds vs:=by
 cases r with
 |lst r=>exact⟨_,e,by unfold bS;rw[e],r⟩
def ShR.lst(r:ShR P h d (.lst vs)):∃n ds,d=.ref n/\h[n]?=some (.lst ds)/\bS h n=some ds/\Rds P h ds vs:=by
 rcases r with r |⟨n,o,rfl,e,r⟩
 .cases r with
  |cell p e r=>obtain⟨ds,q,r⟩:=Rc.seq e r;exact⟨_,ds,rfl,q,r⟩
 .obtain⟨ds,q,r⟩:=Rc.seq e r;exact⟨_,ds,rfl,q,r⟩
def ShR.kl(r:ShR P h d (.kl vs)):∃ds,Rds P h ds vs/\(d=.kl ds\/∃n,d=.ref n/\bS h n=some ds):=by
 rcases r with r |⟨n,o,rfl,e,r⟩
 .cases r with
  |kl r=>exact⟨_,r,.inl rfl⟩
  |cell p e r=>cases r with |fz r=>exact⟨_,r,.inr ⟨_,rfl,by unfold bS;rw[e]⟩⟩
 .cases r with |fz r=>exact⟨_,r,.inr ⟨_,rfl,by unfold bS;rw[e]⟩⟩
def ShR.dct(r:ShR P h d (.dct us)):∃n ws,d=.ref n/\h[n]?=some (.dct ws)/\Rk P h ws us:=by
 rcases r with r |⟨n,o,rfl,e,r⟩
 .cases r with
  |cell p e r=>cases r with |dct r=>exact⟨_,_,rfl,e,r⟩
 .cases r with |dct r=>exact⟨_,_,rfl,e,r⟩
def ShR.items(r:ShR P h d v)(e:v.items=some vs):∃ds,hX h d=some ds/\Rds P h ds vs:=by
 cases v with
 |tup xs=>cases e;obtain⟨ds,rfl,q⟩:=r.tup;exact⟨ds,rfl,q⟩
 |lst xs=>cases e;obtain⟨n,ds,rfl,_,e,q⟩:=r.lst;exact⟨ds,e,q⟩
 |
  kl xs=>
  cases e;obtain⟨ds,q,rfl |⟨n,rfl,e⟩⟩:=r.kl
  .exact⟨ds,rfl,q⟩
  .exact⟨ds,e,q⟩
 |_=>cases e
end
inductive Sl where
 |no |sh (v:Val) |ow (v:Val) |mu (v:Val) |lo (v:Val) |lm (v:Val)
 deriving Inhabited
abbrev E3:=List Sl
noncomputable def Sl.val:Sl->Option Val
 |.no=>none
 |.sh v=>some v
 |.ow v=>some v
 |.mu v=>some v
 |.lo v=>some v
 |.lm v=>some v
noncomputable def Sl.mt:Sl->Bool
 |.ow _=>true
 |.mu _=>true
 |_=>false
noncomputable def Sl.lk:Sl->Bool
 |.lo _=>true
 |.lm _=>true
 |_=>false
abbrev Ns:=List (Option Nat)
def Oc(X:Nat->Prop)(ns:Ns)(n:Nat):Prop:=¬ X n/\some n∉ns
def cH:Ob->Prop
 |.fz _=>False
 |.any=>False
 |_=>True
def SlR(P:Nat->Prop)(h0:Nat)(n:Option (Option Nat))(d:Option (Option D))(h:AH):Sl->Prop
 |.no=>n=some none
 |.sh v=>n=some none/\∃x,d=some (some x)/\Rd P h x v
 |.ow v=>∃m o,n=some (some m)/\d=some (some (.ref m))/\h0<=m/\h[m]?=some o/\cH o/\Rc P h o v
 |.lo v=>∃m o,n=some (some m)/\d=some (some (.ref m))/\h0<=m/\h[m]?=some o/\cH o/\Rc P h o v
 |.mu v=>∃m o,n=some (some m)/\d=some (some (.ref m))/\h[m]?=some o/\cH o/\Rc P h o v
 |.lm v=>∃m o,n=some (some m)/\d=some (some (.ref m))/\h[m]?=some o/\cH o/\Rc P h o v
structure Sat(X:Nat->Prop)(h0:Nat)(ns:Ns)(e:E3)(ae:AE)(h:AH):Prop where
 l1:ae.length=e.length
 l2:ns.length=e.length
 lh:h0<=h.length
 xl:∀(n:Nat),X n->n<h.length
 inj:∀(i j n:Nat),ns[i]?=some (some n)->ns[j]?=some (some n)->i=j
 nx:∀(i n:Nat),ns[i]?=some (some n)->¬ X n
 sl:∀(i:Nat) (s:Sl),e[i]?=some s->SlR (Oc X ns) h0 (ns[i]?) (ae[i]?) h s
def Mt(ns:Ns)(e:E3)(n:Nat):Prop:=∃(i:Nat) (s:Sl),ns[i]?=some (some n)/\e[i]?=some s/\s.mt=true
structure Stp(ns:Ns)(e:E3)(h:AH)(ns':Ns)(e':E3)(h':AH):Prop where
 len:h.length<=h'.length
 keep:∀(m:Nat) (o:Ob),h[m]?=some o->¬ Mt ns e m->h'[m]?=some o
 nw:∀(i n:Nat),ns'[i]?=some (some n)->ns[i]?=some (some n)\/h.length<=n
 lk:∀(i:Nat) (s:Sl),e[i]?=some s->s.lk=true->e'[i]?=some s/\ns'[i]?=ns[i]?
 lk':∀(i:Nat) (s:Sl),e'[i]?=some s->s.lk=true->e[i]?=some s/\ns'[i]?=ns[i]?
 mu:∀(i:Nat) (v:Val),e'[i]?=some (.mu v)->∃u,e[i]?=some (.mu u)/\ns'[i]?=ns[i]?
 mu':∀(i:Nat) (u:Val),e[i]?=some (.mu u)->∃v,e'[i]?=some (.mu v)/\ns'[i]?=ns[i]?
section
variable{X:Nat->Prop}{h0:Nat}{ns ns1 ns2:Ns}{e e1 e2:E3}{ae:AE}{h h' h1 h2:AH}
def bR:some n∈ns ↔ ∃i:Nat,ns[i]?=some (some n):=by
 constructor
 .intro m;exact List.getElem?_of_mem m
 .rintro⟨i,e⟩;exact NK e
def Sat.own(S:Sat X h0 ns e ae h){i n:Nat}(q:ns[i]?=some (some n)):∃s v o,e[i]?=some s/\(s.mt=true\/s.lk=true)/\s.val=some v/\ae[i]?=some (some (.ref n))/\h[n]?=some o/\cH o/\Rc (Oc X ns) h o v:=by
 have hi:i<e.length:=by rw[<- S.l2];exact (x_.mp q).1
 have hs:=S.sl i e[i] (MJ hi);refine⟨e[i],?_⟩;have he:=MJ hi;generalize e[i]=s at *;rw[q] at hs;cases s with
 |no=>cases hs
 |sh v=>cases hs.1
 |ow v=>obtain⟨m,o,e1,e2,_,e3,e4,e5⟩:=hs;cases e1;exact⟨v,o,he,.inl rfl,rfl,e2,e3,e4,e5⟩
 |lo v=>obtain⟨m,o,e1,e2,_,e3,e4,e5⟩:=hs;cases e1;exact⟨v,o,he,.inr rfl,rfl,e2,e3,e4,e5⟩
 |mu v=>obtain⟨m,o,e1,e2,e3,e4,e5⟩:=hs;cases e1;exact⟨v,o,he,.inl rfl,rfl,e2,e3,e4,e5⟩
 |lm v=>obtain⟨m,o,e1,e2,e3,e4,e5⟩:=hs;cases e1;exact⟨v,o,he,.inr rfl,rfl,e2,e3,e4,e5⟩
def Stp.refl:Stp ns e h ns e h:=⟨y_ _,λ_ _ q _=>q,λ_ _ q=>.inl q,λ_ _ q _=>⟨q,rfl⟩,λ_ _ q _=>⟨q,rfl⟩,λ_ _ q=>⟨_,q,rfl⟩,λ_ _ q=>⟨_,q,rfl⟩⟩
def Stp.trans(S:Sat X h0 ns e ae h)(a:Stp ns e h ns1 e1 h1)(b:Stp ns1 e1 h1 ns2 e2 h2):Stp ns e h ns2 e2 h2:=by
 refine⟨G_ a.len b.len,λm o q hm=>?_,λi n q=>?_,λi s q hl=>?_,λi s q hl=>?_,λi v q=>?_,λi v q=>?_⟩
 .refine b.keep m o (a.keep m o q hm) λ⟨i,s,z1,z2,z3⟩=>hm ?_;have hlt:=(x_.mp q).1;rcases a.nw i m z1 with z |z
  .obtain⟨s0,v,o',q1,q2,_⟩:=S.own z;rcases q2 with q2 |q2
   .exact⟨i,s0,z,q1,q2⟩
   .have:=(a.lk i s0 q1 q2).1
    rw[z2] at this;cases this;exfalso;cases s <;> first |cases z3;done |cases q2;done
  .omega
 .rcases b.nw i n q with z |z
  .exact a.nw i n z
  .exact .inr (G_ a.len z)
 .obtain⟨q1,q2⟩:=a.lk i s q hl;obtain⟨q3,q4⟩:=b.lk i s q1 hl;exact⟨q3,q4.trans q2⟩
 .obtain⟨q1,q2⟩:=b.lk' i s q hl;obtain⟨q3,q4⟩:=a.lk' i s q1 hl;exact⟨q3,q2.trans q4⟩
 .obtain⟨u,q1,q2⟩:=b.mu i v q;obtain⟨u',q3,q4⟩:=a.mu i u q1;exact⟨u',q3,q2.trans q4⟩
 .obtain⟨u,q1,q2⟩:=a.mu' i v q;obtain⟨u',q3,q4⟩:=b.mu' i u q1;exact⟨u',q3,q4.trans q2⟩
def Stp.mov(S:Sat X h0 ns e ae h)(a:Stp ns e h ns1 e1 h1):Mov (Oc X ns) (Oc X ns1) h h1:=λn o p q=>by
 have hlt:=(x_.mp q).1;have hm:¬ Mt ns e n:=λ⟨i,s,z,_⟩=>p.2 (bR.mpr ⟨i,z⟩);refine⟨⟨p.1,λz=>?_⟩,a.keep n o q hm⟩;obtain⟨i,z⟩:=bR.mp z;rcases a.nw i n z with z |z
 .exact p.2 (bR.mpr ⟨i,z⟩)
 .omega
def cZ(q:h[n]?=some o):n<h.length:=(x_.mp q).1
def lB{n:Nat}{o:Ob}{g:AH}(q:h[n]?=some o):(h++g)[n]?=some o:=by rw[MH (cZ q)];exact q
def vx:(h++[o])[h.length]?=some o:=by rw[MW (y_ _),OE];rfl
def SlR.mono(m:Mov P P' h h')(k:∀j o,n=some (some j)->h[j]?=some o->h'[j]?=some o)(r:SlR P h0 n d h s):SlR P' h0 n d h' s:=by
 cases s with
 |no=>exact r
 |sh v=>obtain⟨q,x,q1,q2⟩:=r;exact⟨q,x,q1,q2.mono m⟩
 |ow v=>obtain⟨j,o,q1,q2,q3,q4,q5,q6⟩:=r;exact⟨j,o,q1,q2,q3,k j o q1 q4,q5,q6.mono m⟩
 |lo v=>obtain⟨j,o,q1,q2,q3,q4,q5,q6⟩:=r;exact⟨j,o,q1,q2,q3,k j o q1 q4,q5,q6.mono m⟩
 |mu v=>obtain⟨j,o,q1,q2,q4,q5,q6⟩:=r;exact⟨j,o,q1,q2,k j o q1 q4,q5,q6.mono m⟩
 |lm v=>obtain⟨j,o,q1,q2,q4,q5,q6⟩:=r;exact⟨j,o,q1,q2,k j o q1 q4,q5,q6.mono m⟩
def Xn(X:Nat->Prop)(n:Nat):Nat->Prop:=λm=>X m\/m=n
def Sat.grow(S:Sat X h0 ns e ae h)(o:Ob):Sat (Xn X h.length) h0 ns e ae (h++[o]):=by
 have mv:Mov (Oc X ns) (Oc (Xn X h.length) ns) h (h++[o]):=λn o' p q=>⟨⟨λz=>by
  rcases z with z |z
  .exact p.1 z
  .have:=cZ q;omega,p.2⟩,lB q⟩
 refine⟨S.l1,S.l2,by rw[E_];have:=S.lh;omega,λn z=>?_,S.inj,λi n q z=>?_,λi s q=>(S.sl i s q).mono mv λj o' _ q'=>lB q'⟩
 .rw[E_];rcases z with z |z
  .have:=S.xl n z;omega
  .subst z;show h.length<h.length+1;omega
 .rcases z with z |z
  .exact S.nx i n q z
  .obtain⟨_,_,_,_,_,_,_,q',_⟩:=S.own q
   have:=cZ q';omega
def Sat.weak(S:Sat Y h0 ns e ae h)(hx:∀n,X n->Y n):Sat X h0 ns e ae h:=
 ⟨S.l1,S.l2,S.lh,λn z=>S.xl n (hx n z),S.inj,λi n q z=>S.nx i n q (hx n z),λi s q=>(S.sl i s q).mono (λn o p q=>⟨⟨λz=>p.1 (hx n z),p.2⟩,q⟩) λ_ _ _ q=>q⟩
def Stp.grow(o:Ob):Stp ns e h ns e (h++[o]):=⟨by rw[E_];omega,λ_ _ q _=>lB q,λ_ _ q=>.inl q,λ_ _ q _=>⟨q,rfl⟩,λ_ _ q _=>⟨q,rfl⟩,λ_ _ q=>⟨_,q,rfl⟩,λ_ _ q=>⟨_,q,rfl⟩⟩
end
section
variable{X:Nat->Prop}{h0:Nat}{ns:Ns}{e:E3}{ae:AE}{h hs:AH}
def cm{α:Type}{l:List α}{i j:Nat}{a b:α}(hi:i<l.length)(q:(l.set i a)[j]?=some b):(j=i/\b=a)\/(j≠i/\l[j]?=some b):=by
 rw[Oh] at q;by_cases z:i=j
 .subst z;rw[if_pos rfl,if_pos hi] at q;exact .inl ⟨rfl,(MC q).symm⟩
 .rw[if_neg z] at q;exact .inr ⟨λy=>z y.symm,q⟩
def cC{α:Type}{l:List α}{i:Nat}{a:α}(hi:i<l.length):(l.set i a)[i]?=some a:=by rw[Oh,if_pos rfl,if_pos hi]
def cq{α:Type}{l:List α}{i j:Nat}{a:α}(hi:j≠i):(l.set i a)[j]?=l[j]?:=by rw[NZ (λy=>hi y.symm)]
def eD(p:Oc X ns n):Oc X (ns.set i none) n:=⟨p.1,λz=>by
 rcases N6 z with z |z
 .exact p.2 z
 .cases z⟩
def Sat.putN(S:Sat X h0 ns e ae h)(hi:i<e.length)(q:SlR (Oc X (ns.set i none)) h0 (some none) (some d) h s):Sat X h0 (ns.set i none) (e.set i s) (ae.set i d) h:=by
 have hn:i<ns.length:=by rw[S.l2];exact hi
 have ha:i<ae.length:=by rw[S.l1];exact hi
 refine⟨by rw[Mz,Mz];exact S.l1,by rw[Mz,Mz];exact S.l2,S.lh,S.xl,λj k n q1 q2=>?_,λj n q1=>?_,λj s' q1=>?_⟩
 .rcases cm hn q1 with ⟨_,z⟩ |⟨_,z⟩
  .cases z
  rcases cm hn q2 with ⟨_,y⟩ |⟨_,y⟩
  .cases y
  exact S.inj j k n z y
 .rcases cm hn q1 with ⟨_,z⟩ |⟨_,z⟩
  .cases z
  exact S.nx j n z
 .rcases cm hi q1 with ⟨rfl,rfl⟩ |⟨z,q2⟩
  .rw[cC hn,cC ha];exact q
  .rw[cq z,cq z];exact (S.sl j s' q2).mono (λn o p q=>⟨eD p,q⟩) λ_ _ _ q=>q
def Sat.putN'(S:Sat X h0 ns e ae h)(hi:i<e.length)(q:SlR (Oc X (ns.set i none)) h0 (some none) (ae[i]?) h s):Sat X h0 (ns.set i none) (e.set i s) ae h:=by
 have ha:i<ae.length:=by rw[S.l1];exact hi
 have:=S.putN hi (s:=s) (d:=ae[i]) (by rw[MJ ha] at q;exact q)
 rw[List.set_getElem_self] at this;exact this
def Sat.putO(S:Sat (Xn X n) h0 ns e ae h)(hx:¬ X n)(hi:i<e.length)(hn0:h0<=n)(eo:h[n]?=some o)(hf:cH o)(r:Rc (Oc (Xn X n) ns) h o v):Sat X h0 (ns.set i (some n)) (e.set i (.ow v)) (ae.set i (some (.ref n))) h:=by
 have hn:i<ns.length:=by rw[S.l2];exact hi
 have ha:i<ae.length:=by rw[S.l1];exact hi
 have nn:∀j:Nat,ns[j]?≠some (some n):=λj q=>S.nx j n q (.inr rfl);have mv:Mov (Oc (Xn X n) ns) (Oc X (ns.set i (some n))) h h:=λm o' p q=>⟨⟨λz=>p.1 (.inl z),λz=>by
  rcases N6 z with z |z
  .exact p.2 z
  .cases z;exact p.1 (.inr rfl)⟩,q⟩
 refine⟨by rw[Mz,Mz];exact S.l1,by rw[Mz,Mz];exact S.l2,S.lh,λm z=>S.xl m (.inl z),λj k m q1 q2=>?_,λj m q1 z=>?_,λj s' q1=>?_⟩
 .rcases cm hn q1 with ⟨z1,z⟩ |⟨z1,z⟩ <;> rcases cm hn q2 with ⟨y1,y⟩ |⟨y1,y⟩
  .rw[z1,y1]
  .cases z;exact absurd y (nn k)
  .cases y;exact absurd z (nn j)
  .exact S.inj j k m z y
 .rcases cm hn q1 with ⟨_,y⟩ |⟨_,y⟩
  .cases y;exact hx z
  .exact S.nx j m y (.inl z)
 .rcases cm hi q1 with ⟨rfl,rfl⟩ |⟨z,q2⟩
  .rw[cC hn,cC ha];exact⟨n,o,rfl,rfl,hn0,eo,hf,r.mono mv⟩
  .rw[cq z,cq z];exact (S.sl j s' q2).mono mv λ_ _ _ q=>q
noncomputable def Sl.pl:Sl->Bool
 |.no=>true
 |.sh _=>true
 |.ow _=>true
 |_=>false
def Stp.put(A:Stp ns0 e0 hs ns e h)(hi:i<e.length)(hx:∀n,x=some n->hs.length<=n)(q0:e[i]?=some s0)(p0:s0.pl=true)(p:s.pl=true)(l2:ns.length=e.length):Stp ns0 e0 hs (ns.set i x) (e.set i s) h:=by
 have hn:i<ns.length:=by rw[l2];exact hi
 refine⟨A.len,A.keep,λj n q=>?_,λj s' q hl=>?_,λj s' q hl=>?_,λj v q=>?_,λj v q=>?_⟩
 .rcases cm hn q with ⟨_,z⟩ |⟨_,z⟩
  .exact .inr (hx n z.symm)
  .exact A.nw j n z
 .obtain⟨q1,q2⟩:=A.lk j s' q hl;have z:j≠i:=λz=>by subst z;rw[q0] at q1;cases q1;cases s0 <;> first |cases p0;done |cases hl;done
  rw[cq z,cq z];exact⟨q1,q2⟩
 .rcases cm hi q with ⟨_,z⟩ |⟨z,q1⟩
  .subst z;cases s' <;> first |cases p;done |cases hl;done
  .rw[cq z];exact A.lk' j s' q1 hl
 .rcases cm hi q with ⟨_,z⟩ |⟨z,q1⟩
  .subst z;cases p
  .rw[cq z];exact A.mu j v q1
 .obtain⟨u,q1,q2⟩:=A.mu' j v q;have z:j≠i:=λz=>by subst z;rw[q0] at q1;cases q1;cases p0
  exact⟨u,by rw[cq z];exact q1,by rw[cq z];exact q2⟩
end
inductive Tm where
 |val (v:Val) |new (v:Val) |bor (i:Nat)
inductive R3(α:Type) where
 |ok (a:α) (e:E3) |exc (c:Str) (e:E3) |stuck
noncomputable def R3.bind{α β:Type}(r:R3 α)(f:α->E3->R3 β):R3 β:=match r with
 |.ok a e=>f a e
 |.exc c e=>.exc c e
 |.stuck=>.stuck
abbrev ME3:=E3->R3 Tm
abbrev MT3:=E3->R3 Bool
abbrev MA3:=E3->R3 (List Tm)
def Po{δ α:Type}(X:Nat->Prop)(h0:Nat)(ns:Ns)(e:E3)(ae:AE)(h:AH)(rel:Ns->E3->AH->δ->α->Prop)(r2:R δ):R3 α->Prop
 |.stuck=>True
 |.ok t e'=>∃d h' ns',r2=.ok d h'/\Stp ns e h ns' e' h'/\Sat X h0 ns' e' ae h'/\rel ns' e' h' d t
 |.exc c e'=>∃h' ns',r2=.exc c h'/\Stp ns e h ns' e' h'/\Sat X h0 ns' e' ae h'
def relE(X:Nat->Prop)(h0 L:Nat)(ae:AE)(ns:Ns)(e:E3)(h:AH)(d:D):Tm->Prop
 |.val v=>Rd (Oc X ns) h d v
 |.new v=>∃n o,d=.ref n/\L<=n/\¬ X n/\h[n]?=some o/\cH o/\Sat (Xn X n) h0 ns e ae h/\Rc (Oc (Xn X n) ns) h o v
 |.bor i=>ae[i]?=some (some d)
def relT(_:Ns)(_:E3)(_:AH)(b c:Bool):Prop:=b=c
inductive TsR(X:Nat->Prop)(ns:Ns)(ae:AE)(h:AH):List D->List Tm->Prop where
 |nil:TsR X ns ae h [] []
 |val {d:D}{v:Val}{ds:List D}{ts:List Tm} (r:Rd (Oc X ns) h d v) (rr:TsR X ns ae h ds ts):TsR X ns ae h (d::ds) (.val v::ts)
 |bor {d:D}{i:Nat}{ds:List D}{ts:List Tm} (q:ae[i]?=some (some d)) (rr:TsR X ns ae h ds ts):TsR X ns ae h (d::ds) (.bor i::ts)
def relA(X:Nat->Prop)(ae:AE)(ns:Ns)(_:E3)(h:AH)(ds:List D)(ts:List Tm):Prop:=TsR X ns ae h ds ts
def RE(F:ME)(G:ME3):Prop:=∀X h0 L ns e ae h,Sat X h0 ns e ae h->L<=h.length->Po X h0 ns e ae h (relE X h0 L ae) (F ae h) (G e)
def RT(F:MT)(G:MT3):Prop:=∀X h0 ns e ae h,Sat X h0 ns e ae h->Po X h0 ns e ae h relT (F ae h) (G e)
def RA(F:MA)(G:MA3):Prop:=∀X h0 ns e ae h,Sat X h0 ns e ae h->Po X h0 ns e ae h (relA X ae) (F ae h) (G e)
section
variable{X:Nat->Prop}{h0 L:Nat}{ns ns':Ns}{e e':E3}{ae:AE}{h h':AH}
def Po.bind(S:Sat X h0 ns e ae h)(p:Po X h0 ns e ae h rel r2 r3)
 (k:∀d t h' ns' e',Stp ns e h ns' e' h'->Sat X h0 ns' e' ae h'->rel ns' e' h' d t->Po X h0 ns' e' ae h' rel' (f2 d h') (f3 t e')):Po X h0 ns e ae h rel' (r2.bind f2) (r3.bind f3):=by
 cases r3 with
 |stuck=>trivial
 |exc c e'=>obtain⟨h',ns',q,q1,q2⟩:=p;subst q;exact⟨h',ns',rfl,q1,q2⟩
 |
  ok t e'=>
  obtain⟨d,h',ns',q,q1,q2,q3⟩:=p;subst q
  have:=k d t h' ns' e' q1 q2 q3
  show Po X h0 ns e ae h rel' (f2 d h') (f3 t e');generalize f3 t e'=r at *;cases r with
  |stuck=>trivial
  |exc c e2=>obtain⟨h2,ns2,y,y1,y2⟩:=this;exact⟨h2,ns2,y,q1.trans S y1,y2⟩
  |ok t2 e2=>obtain⟨d2,h2,ns2,y,y1,y2,y3⟩:=this;exact⟨d2,h2,ns2,y,q1.trans S y1,y2,y3⟩
def Po.ret(S:Sat X h0 ns e ae h)(q:rel ns e h d t):Po X h0 ns e ae h rel (.ok d h) (.ok t e):=⟨d,h,ns,rfl,.refl,S,q⟩
def TsR.stp(S:Sat X h0 ns e ae h)(a:Stp ns e h ns' e' h')(r:TsR X ns ae h ds ts):TsR X ns' ae h' ds ts:=by
 induction r with
 |nil=>exact .nil
 |val r _ ih=>exact .val (r.mono (a.mov S)) ih
 |bor q _ ih=>exact .bor q ih
noncomputable def rs(e:E3):Tm->Option Val
 |.val v=>some v
 |.new v=>some v
 |.bor i=>(e[i]?).bind Sl.val
def Sat.bor(S:Sat X h0 ns e ae h){i:Nat}{d:D}{v:Val}(q:ae[i]?=some (some d))(r:(e[i]?).bind Sl.val=some v):ShR (Oc X ns) h d v:=by
 cases z:e[i]? with
 |none=>rw[z] at r;cases r
 |
  some s=>
  rw[z] at r;have y:=S.sl i s z;rw[q] at y;have r':s.val=some v:=r;cases s with
  |no=>cases r'
  |sh u=>cases r';obtain⟨_,x,e1,e2⟩:=y;cases e1;exact .inl e2
  |ow u=>cases r';obtain⟨m,o,_,e2,_,e3,_,e4⟩:=y;cases e2;exact .inr ⟨m,o,rfl,e3,e4⟩
  |lo u=>cases r';obtain⟨m,o,_,e2,_,e3,_,e4⟩:=y;cases e2;exact .inr ⟨m,o,rfl,e3,e4⟩
  |mu u=>cases r';obtain⟨m,o,_,e2,e3,_,e4⟩:=y;cases e2;exact .inr ⟨m,o,rfl,e3,e4⟩
  |lm u=>cases r';obtain⟨m,o,_,e2,e3,_,e4⟩:=y;cases e2;exact .inr ⟨m,o,rfl,e3,e4⟩
def relE.new(r:relE X h0 L ae ns e h d (.new v)):Rd (Oc X ns) h d v:=by obtain⟨n,o,rfl,_,hx,eo,_,S,rc⟩:=r;exact .cell ⟨hx,λz=>by obtain⟨i,z⟩:=bR.mp z;exact S.nx i n z (.inr rfl)⟩ eo (rc.mono λm o p q=>⟨⟨λz=>p.1 (.inl z),p.2⟩,q⟩)
def relE.sh{d:D}{t:Tm}{v:Val}(S:Sat X h0 ns e ae h)(r:relE X h0 L ae ns e h d t)(q:rs e t=some v):ShR (Oc X ns) h d v:=by
 cases t with
 |val u=>cases q;exact .inl r
 |new u=>cases q;exact .inl r.new
 |bor i=>exact S.bor r q
def relE.stp(S:Sat X h0 ns e ae h)(a:Stp ns e h ns' e' h')(r:relE X h0 L ae ns e h d t)(hn:∀v,t ≠ .new v):relE X h0 L ae ns' e' h' d t:=by
 cases t with
 |val u=>exact Rd.mono (a.mov S) r
 |new u=>exact absurd rfl (hn u)
 |bor i=>exact r
noncomputable def Tm.drop:Tm->Tm
 |.new v=>.val v
 |t=>t
def relE.drop(r:relE X h0 L ae ns e h d t):relE X h0 L ae ns e h d t.drop/\∀v,t.drop ≠ .new v:=by
 cases t with
 |val u=>exact⟨r,λ_ z=>nomatch z⟩
 |new u=>exact⟨r.new,λ_ z=>nomatch z⟩
 |bor i=>exact⟨r,λ_ z=>nomatch z⟩
noncomputable def rss(e:E3):List Tm->Option (List Val)
 | []=>some []
 |t::ts=>match rs e t,rss e ts with
  |some v,some vs=>some (v::vs)
  |_,_=>none
def TsR.sh{ds:List D}{ts:List Tm}{vs:List Val}(S:Sat X h0 ns e ae h)(r:TsR X ns ae h ds ts)(q:rss e ts=some vs):ShRs (Oc X ns) h ds vs:=by
 induction r generalizing vs with
 |nil=>cases q;exact .nil
 |
  val r _ ih=>
  unfold rss at q;split at q
  .rename_i e1 e2;cases q;cases e1;exact .cons (.inl r) (ih e2)
  .cases q
 |
  bor q' _ ih=>
  unfold rss at q;split at q
  .rename_i e1 e2;cases q;exact .cons (S.bor q' e1) (ih e2)
  .cases q
end
inductive Bv where
 |val (v:Val) |new (v:Val) |stuck
def BvR(P:Nat->Prop)(h:AH)(r:R D):Bv->Prop
 |.val v=>∃d,r=.ok d h/\Rd P h d v
 |.new v=>∃o,r=.ok (.ref h.length) (h++[o])/\cH o/\Rc P h o v
 |.stuck=>True
noncomputable def Bv.at(b:Bv)(e:E3):R3 Tm:=match b with
 |.val v=>.ok (.val v) e
 |.new v=>.ok (.new v) e
 |.stuck=>.stuck
def BvR.po(S:Sat X h0 ns e ae h)(hl:L<=h.length)(q:BvR (Oc X ns) h r b):Po X h0 ns e ae h (relE X h0 L ae) r (b.at e):=by
 cases b with
 |stuck=>trivial
 |val v=>obtain⟨d,rfl,r⟩:=q;exact Po.ret S r
 |
  new v=>
  obtain⟨o,rfl,hf,r⟩:=q;have S':=S.grow o;refine⟨_,_,ns,rfl,.grow o,S'.weak λn z=>.inl z,h.length,o,rfl,hl,λz=>?_,vx,hf,S',r.mono λn o' p q=>⟨⟨λz=>?_,p.2⟩,lB q⟩⟩
  .have:=S.xl _ z;omega
  .rcases z with z |z
   .exact p.1 z
   .have:=cZ q;omega
def RU(g2:D->AH->R D)(g3:Val->Bv):Prop:=∀P h d v,ShR P h d v->BvR P h (g2 d h) (g3 v)
def RO(g2:D->D->AH->R D)(g3:Val->Val->Bv):Prop:=∀P h d1 d2 v1 v2,ShR P h d1 v1->ShR P h d2 v2->BvR P h (g2 d1 d2 h) (g3 v1 v2)
def RFn(g2:Fn)(g3:List Val->Bv):Prop:=∀P h ds vs,ShRs P h ds vs->BvR P h (g2 ds h) (g3 vs)
noncomputable def Ao(i:Nat):ME3:=λe=>match e[i]? with
 |some (.sh v)=>.ok (.val v) e
 |some .no=>.stuck
 |some _=>.ok (.bor i) e
 |none=>.stuck
noncomputable def vC(v:Val):ME3:=λe=>.ok (.val v) e
noncomputable def vUn(g:Val->Bv)(F:ME3):ME3:=λe=>(F e).bind λt e1=>match rs e1 t with
 |some v=>(g v).at e1
 |none=>.stuck
noncomputable def vOp(g:Val->Val->Bv)(F G:ME3):ME3:=λe=>(F e).bind λt1 e1=>(G e1).bind λt2 e2=>match rs e2 t1.drop,rs e2 t2 with
 |some v1,some v2=>(g v1 v2).at e2
 |_,_=>.stuck
noncomputable def oz:MA3:=λe=>.ok [] e
noncomputable def Cn(F:ME3)(A:MA3):MA3:=λe=>(F e).bind λt e1=>(A e1).bind λts e2=>.ok (t.drop::ts) e2
noncomputable def vFn(g:List Val->Bv)(A:MA3):ME3:=λe=>(A e).bind λts e1=>match rss e1 ts with
 |some vs=>(g vs).at e1
 |none=>.stuck
noncomputable def cN(e:E3):Tm->Option (E3×Val)
 |.val v=>some (e,v)
 |.new v=>some (e,v)
 |.bor i=>match e[i]? with
  |some (.sh v)=>some (e,v)
  |some (.ow v)=>some (e.set i (.sh v),v)
  |_=>none
noncomputable def dem(e:E3):List Tm->Option (E3×List Val)
 | []=>some (e,[])
 |t::ts=>match cN e t with
  |some (e1,v)=>match dem e1 ts with
   |some (e2,vs)=>some (e2,v::vs)
   |none=>none
  |none=>none
noncomputable def vTup(A:MA3):ME3:=λe=>(A e).bind λts e1=>match dem e1 ts with
 |some (e2,vs)=>if vs.length<=16777216 then .ok (.val (.tup vs)) e2 else .stuck
 |none=>.stuck
noncomputable def vLst(A:MA3):ME3:=λe=>(A e).bind λts e1=>match dem e1 ts with
 |some (e2,vs)=>if vs.length<=16777216 then .ok (.new (.lst vs)) e2 else .stuck
 |none=>.stuck
noncomputable def bOf:Option Val->Option Bool
 |some (.bl b)=>some b
 |_=>none
noncomputable def vAnd(F G:ME3):ME3:=λe=>(F e).bind λt e1=>match bOf (rs e1 t) with
 |some true=>G e1
 |some false=>.ok (.val (.bl false)) e1
 |none=>.stuck
def vOr(F G:ME3):ME3:=λe=>(F e).bind λt e1=>match bOf (rs e1 t) with
 |some true=>.ok (.val (.bl true)) e1
 |some false=>G e1
 |none=>.stuck
noncomputable def vNot(F:ME3):ME3:=λe=>(F e).bind λt e1=>match bOf (rs e1 t) with
 |some b=>.ok (.val (.bl (!b))) e1
 |none=>.stuck
noncomputable def cOf(F:ME3):MT3:=λe=>(F e).bind λt e1=>match bOf (rs e1 t) with
 |some b=>.ok b e1
 |none=>.stuck
noncomputable def cAn(c d:MT3):MT3:=λe=>(c e).bind λb e1=>if b=true then d e1 else .ok false e1
noncomputable def cO(c d:MT3):MT3:=λe=>(c e).bind λb e1=>if b=true then .ok true e1 else d e1
noncomputable def cNo(c:MT3):MT3:=λe=>(c e).bind λb e1=>.ok (!b) e1
def cY:MT3:=λe=>.ok true e
section
variable{F G:ME}{F3 G3:ME3}{A:MA}{A3:MA3}{c d:MT}{c3 d3:MT3}
def Fi(i:Nat):RE (cT i) (Ao i):=λX h0 L ns e ae h S hl=>by
 unfold Ao;cases q:e[i]? with
 |none=>trivial
 |
  some s=>
  have y:=S.sl i s q;cases s with
  |no=>trivial
  |sh v=>obtain⟨_,x,e1,e2⟩:=y;unfold cT;rw[e1];exact Po.ret S e2
  |ow v=>obtain⟨m,o,_,e2,_⟩:=y;unfold cT;rw[e2];exact Po.ret S e2
  |lo v=>obtain⟨m,o,_,e2,_⟩:=y;unfold cT;rw[e2];exact Po.ret S e2
  |mu v=>obtain⟨m,o,_,e2,_⟩:=y;unfold cT;rw[e2];exact Po.ret S e2
  |lm v=>obtain⟨m,o,_,e2,_⟩:=y;unfold cT;rw[e2];exact Po.ret S e2
def mf{d:D}{v:Val}(r:∀P h,Rd P h d v):RE (eC d) (vC v):=λX h0 L ns e ae h S hl=>Po.ret S (r _ _)
def JQ(hg:RU g g3)(hF:RE F F3):RE (eUn g F) (vUn g3 F3):=λX h0 L ns e ae h S hl=>
 Po.bind S (hF X h0 L ns e ae h S hl) λd t h1 ns1 e1 a1 S1 r1=>by
  try dsimp only
  split
  .rename_i v q;exact BvR.po S1 (G_ hl a1.len) (hg _ _ _ _ (r1.sh S1 q))
  .trivial
def L7(hg:RO g g3)(hF:RE F F3)(hG:RE G G3):RE (eOp g F G) (vOp g3 F3 G3):=λX h0 L ns e ae h S hl=>
 Po.bind S (hF X h0 L ns e ae h S hl) λd1 t1 h1 ns1 e1 a1 S1 r1=>Po.bind S1 (hG X h0 L ns1 e1 ae h1 S1 (G_ hl a1.len)) λd2 t2 h2 ns2 e2 a2 S2 r2=>by
  try dsimp only
  split
  .rename_i v1 v2 q1 q2;obtain⟨r1',hn⟩:=r1.drop;exact BvR.po S2 (G_ hl (G_ a1.len a2.len)) (hg _ _ _ _ _ _ ((r1'.stp S1 a2 hn).sh S2 q1) (r2.sh S2 q2))
  .trivial
def xG:RA jQ oz:=λX h0 ns e ae h S=>Po.ret S .nil
def D9(hF:RE F F3)(hA:RA A A3):RA (kN F A) (Cn F3 A3):=λX h0 ns e ae h S=>
 Po.bind S (hF X h0 0 ns e ae h S (MX _)) λd1 t1 h1 ns1 e1 a1 S1 r1=>Po.bind S1 (hA X h0 ns1 e1 ae h1 S1) λds ts h2 ns2 e2 a2 S2 r2=>by
  obtain⟨r1',hn⟩:=r1.drop;have r3:=r1'.stp S1 a2 hn;refine Po.ret S2 ?_;show TsR X ns2 ae h2 (d1::ds) (t1.drop::ts);generalize t1.drop=t at *;cases t with
  |val v=>exact .val r3 r2
  |new v=>exact absurd rfl (hn v)
  |bor i=>exact .bor r3 r2
def Kb(hg:RFn g g3)(hA:RA A A3):RE (eFn g A) (vFn g3 A3):=λX h0 L ns e ae h S hl=>
 Po.bind S (hA X h0 ns e ae h S) λds ts h1 ns1 e1 a1 S1 r1=>by
  try dsimp only
  split
  .rename_i vs q;exact BvR.po S1 (G_ hl a1.len) (hg _ _ _ _ (TsR.sh S1 r1 q))
  .trivial
def Jm(S:Sat X h0 ns e ae h)(q:e[i]?=some (.ow v)):∃n,ae[i]?=some (some (.ref n))/\Sat X h0 (ns.set i none) (e.set i (.sh v)) ae h/\Stp ns e h (ns.set i none) (e.set i (.sh v)) h/\Rd (Oc X (ns.set i none)) h (.ref n) v:=by
 obtain⟨n,o,q1,q2,_,q3,_,q4⟩:=S.sl i _ q;have hi:=(x_.mp q).1;have hn:i<ns.length:=by rw[S.l2];exact hi
 have r:Rd (Oc X (ns.set i none)) h (.ref n) v:=.cell ⟨S.nx i n q1,λz=>by
  obtain⟨j,z⟩:=bR.mp z;rcases cm hn z with ⟨_,y⟩ |⟨y,z⟩
  .cases y
  .exact y (S.inj j i n z q1)⟩ q3 (q4.mono λm o p q=>⟨eD p,q⟩)
 exact⟨n,q2,S.putN' hi ⟨rfl,_,q2,r⟩,Stp.refl.put (x:=none) hi (λ_ z=>by cases z) q rfl rfl S.l2,r⟩
def fB{X:Nat->Prop}{h0 L:Nat}{ns:Ns}{e e':E3}{ae:AE}{h:AH}{d:D}{t:Tm}{v:Val}(S:Sat X h0 ns e ae h)(r:relE X h0 L ae ns e h d t)(q:cN e t=some (e',v)):∃ns',Sat X h0 ns' e' ae h/\Stp ns e h ns' e' h/\Rd (Oc X ns') h d v:=by
 cases t with
 |val u=>cases q;exact⟨ns,S,.refl,r⟩
 |new u=>cases q;exact⟨ns,S,.refl,r.new⟩
 |
  bor i=>
  unfold cN at q;dsimp only at q;have r':ae[i]?=some (some d):=r;split at q
  .rename_i u q1;cases q;obtain⟨_,x,e1,e2⟩:=S.sl i _ q1;rw[r'] at e1;cases e1;exact⟨ns,S,.refl,e2⟩
  .rename_i u q1;cases q;obtain⟨n,e1,S',a',e2⟩:=Jm S q1;rw[r'] at e1;cases e1;exact⟨_,S',a',e2⟩
  .cases q
def ji:∀{ds:List D}{vs:List Val}{ns:Ns}{e e':E3},Sat X h0 ns e ae h->TsR X ns ae h ds ts->dem e ts=some (e',vs)->∃ns',Sat X h0 ns' e' ae h/\Stp ns e h ns' e' h/\Rds (Oc X ns') h ds vs:=by
 induction ts with
 |nil=>intro ds vs ns e e' S r q;cases r;cases q;exact⟨ns,S,.refl,.nil⟩
 |
  cons t ts ih=>
  intro ds vs ns e e' S r q;unfold dem at q;split at q
  .rename_i e1 v q1;split at q
   .rename_i e2 vs' q2;cases q;have hr:∃d ds',ds=d::ds'/\relE X h0 0 ae ns e h d t/\TsR X ns ae h ds' ts:=by
     cases r with
     |val r rr=>exact⟨_,_,rfl,r,rr⟩
     |bor r rr=>exact⟨_,_,rfl,r,rr⟩
    obtain⟨d,ds',rfl,hr⟩:=hr;obtain⟨ns1,S1,a1,r1⟩:=fB S hr.1 q1;obtain⟨ns2,S2,a2,r2⟩:=ih S1 (hr.2.stp S a1) q2;exact⟨ns2,S2,a1.trans S a2,.cons (r1.mono (a2.mov S1)) r2⟩
   .cases q
  .cases q
def FK(hA:RA A A3):RE (eFn iM A) (vTup A3):=λX h0 L ns e ae h S hl=>
 Po.bind S (hA X h0 ns e ae h S) λds ts h1 ns1 e1 a1 S1 r1=>by
  try dsimp only
  split
  .rename_i e2 vs q;split
   .rename_i hv;obtain⟨ns2,S2,a2,r2⟩:=ji S1 r1 q;exact⟨.tup ds,h1,ns2,by unfold iM;rw[if_pos (by rw[r2.len];exact hv)],a2,S2,.tup r2⟩
   .trivial
  .trivial
def GK(hA:RA A A3):RE (eFn eN A) (vLst A3):=λX h0 L ns e ae h S hl=>
 Po.bind S (hA X h0 ns e ae h S) λds ts h1 ns1 e1 a1 S1 r1=>by
  try dsimp only
  split
  .rename_i e2 vs q;split
   .rename_i hv;obtain⟨ns2,S2,a2,r2⟩:=ji S1 r1 q;have p:=BvR.po (r:=eN ds h1) (b:=.new (.lst vs)) S2 (G_ hl a1.len) ⟨.lst ds,by unfold eN;rw[if_pos (by rw[r2.len];exact hv)],trivial,.lst r2⟩;obtain⟨d,h',ns',y,y1,y2,y3⟩:=p;exact⟨d,h',ns',y,a2.trans S1 y1,y2,y3⟩
   .trivial
  .trivial
def jc(S1:Sat X h0 ns1 e1 ae h1)(r1:relE X h0 L ae ns1 e1 h1 d1 t1)(q:bOf (rs e1 t1)=some b):d1=.bl b:=by
 unfold bOf at q;split at q
 .rename_i b' q';cases q;exact (r1.sh S1 q').bl
 .cases q
def IW(hF:RE F F3)(hG:RE G G3):RE (Bp F G) (vAnd F3 G3):=λX h0 L ns e ae h S hl=>
 Po.bind S (hF X h0 L ns e ae h S hl) λd1 t1 h1 ns1 e1 a1 S1 r1=>by
  try dsimp only
  split
  .rename_i q;rw[jc S1 r1 q];exact hG X h0 L ns1 e1 ae h1 S1 (G_ hl a1.len)
  .rename_i q;rw[jc S1 r1 q];exact Po.ret S1 (.bl false)
  .trivial
def JW(hF:RE F F3)(hG:RE G G3):RE (eOr F G) (vOr F3 G3):=λX h0 L ns e ae h S hl=>
 Po.bind S (hF X h0 L ns e ae h S hl) λd1 t1 h1 ns1 e1 a1 S1 r1=>by
  try dsimp only
  split
  .rename_i q;rw[jc S1 r1 q];exact Po.ret S1 (.bl true)
  .rename_i q;rw[jc S1 r1 q];exact hG X h0 L ns1 e1 ae h1 S1 (G_ hl a1.len)
  .trivial
def F9(hF:RE F F3):RE (zI F) (vNot F3):=λX h0 L ns e ae h S hl=>
 Po.bind S (hF X h0 L ns e ae h S hl) λd1 t1 h1 ns1 e1 a1 S1 r1=>by
  try dsimp only
  split
  .rename_i q;rw[jc S1 r1 q];exact Po.ret S1 (.bl _)
  .trivial
def LR(hF:RE F F3):RT (tOf F) (cOf F3):=λX h0 ns e ae h S=>
 Po.bind S (hF X h0 0 ns e ae h S (MX _)) λd1 t1 h1 ns1 e1 a1 S1 r1=>by
  try dsimp only
  split
  .rename_i q;rw[jc S1 r1 q];exact Po.ret S1 rfl
  .trivial
def Li(hc:RT c c3)(hd:RT d d3):RT (tAn c d) (cAn c3 d3):=λX h0 ns e ae h S=>
 Po.bind S (hc X h0 ns e ae h S) λb b' h1 ns1 e1 a1 S1 r1=>by
  cases r1;try dsimp only
  split
  .exact hd X h0 ns1 e1 ae h1 S1
  .exact Po.ret S1 rfl
def rt_o(hc:RT c c3)(hd:RT d d3):RT (tO c d) (cO c3 d3):=λX h0 ns e ae h S=>
 Po.bind S (hc X h0 ns e ae h S) λb b' h1 ns1 e1 a1 S1 r1=>by
  cases r1;try dsimp only
  split
  .exact Po.ret S1 rfl
  .exact hd X h0 ns1 e1 ae h1 S1
def Lv(hc:RT c c3):RT (tNo c) (cNo c3):=λX h0 ns e ae h S=>
 Po.bind S (hc X h0 ns e ae h S) λb b' h1 ns1 e1 a1 S1 r1=>by cases r1;exact Po.ret S1 rfl
def rt_y:RT tY cY:=λX h0 ns e ae h S=>Po.ret S rfl
end
inductive Rt where
 |val (v:Val) |new (v:Val) |par (i:Nat) |pr (v u:Val)
inductive SR3 where
 |nx (e:E3) |rt (r:Rt) (e:E3) |bk (e:E3) |ct (e:E3) |exc (c:Str) (e:E3) |stuck
abbrev MS3:=E3->SR3
def RtR(X:Nat->Prop)(h0:Nat)(ns:Ns)(e:E3)(ae:AE)(h:AH)(d:D):Rt->Prop
 |.val v=>Sat X h0 ns e ae h/\Rd (Oc X ns) h d v
 |.new v=>∃n o,d=.ref n/\h0<=n/\¬ X n/\h[n]?=some o/\cH o/\Sat (Xn X n) h0 ns e ae h/\Rc (Oc (Xn X n) ns) h o v
 |.par i=>Sat X h0 ns e ae h/\ae[i]?=some (some d)/\∃v,e[i]?=some (.mu v)
 |.pr v u=>∃d1 n o,d=.tup [d1,.ref n]/\h0<=n/\¬ X n/\h[n]?=some o/\cH o/\Sat (Xn X n) h0 ns e ae h/\Rd (Oc (Xn X n) ns) h d1 v/\Rc (Oc (Xn X n) ns) h o u
def PoS(X:Nat->Prop)(h0:Nat)(ns:Ns)(e:E3)(h:AH)(r2:SR):SR3->Prop
 |.stuck=>True
 |.nx e'=>∃c_ h' ns',r2=.nx c_ h'/\Stp ns e h ns' e' h'/\Sat X h0 ns' e' c_ h'
 |.bk e'=>∃c_ h' ns',r2=.bk c_ h'/\Stp ns e h ns' e' h'/\Sat X h0 ns' e' c_ h'
 |.ct e'=>∃c_ h' ns',r2=.ct c_ h'/\Stp ns e h ns' e' h'/\Sat X h0 ns' e' c_ h'
 |.exc c e'=>∃c_ h' ns',r2=.exc c c_ h'/\Stp ns e h ns' e' h'/\Sat X h0 ns' e' c_ h'
 |.rt r e'=>∃d c_ h' ns',r2=.rt d h'/\Stp ns e h ns' e' h'/\RtR X h0 ns' e' c_ h' d r
def RS(F:MS)(G:MS3):Prop:=∀X h0 ns e ae h,Sat X h0 ns e ae h->PoS X h0 ns e h (F ae h) (G e)
noncomputable def R3.toS{α:Type}(r:R3 α)(f:α->E3->SR3):SR3:=match r with
 |.ok a e=>f a e
 |.exc c e=>.exc c e
 |.stuck=>.stuck
def SR3.then(r:SR3)(f:E3->SR3):SR3:=match r with
 |.nx e=>f e
 |r=>r
section
variable{X:Nat->Prop}{h0:Nat}{ns ns1 ns':Ns}{e e1 e':E3}{ae:AE}{h h1 h':AH}
def PoS.after(S:Sat X h0 ns e ae h)(a:Stp ns e h ns1 e1 h1)(p:PoS X h0 ns1 e1 h1 r2 r3):PoS X h0 ns e h r2 r3:=by
 cases r3 with
 |stuck=>trivial
 |nx e'=>obtain⟨c_,h',ns',q,q1,q2⟩:=p;exact⟨c_,h',ns',q,a.trans S q1,q2⟩
 |bk e'=>obtain⟨c_,h',ns',q,q1,q2⟩:=p;exact⟨c_,h',ns',q,a.trans S q1,q2⟩
 |ct e'=>obtain⟨c_,h',ns',q,q1,q2⟩:=p;exact⟨c_,h',ns',q,a.trans S q1,q2⟩
 |exc c e'=>obtain⟨c_,h',ns',q,q1,q2⟩:=p;exact⟨c_,h',ns',q,a.trans S q1,q2⟩
 |rt r e'=>obtain⟨d,c_,h',ns',q,q1,q2⟩:=p;exact⟨d,c_,h',ns',q,a.trans S q1,q2⟩
def PoS.toS(p:Po X h0 ns e ae h rel r2 r3)
 (k:∀d t h' ns' e',Stp ns e h ns' e' h'->Sat X h0 ns' e' ae h'->rel ns' e' h' d t->PoS X h0 ns e h (f2 d h') (f3 t e')):PoS X h0 ns e h (r2.toS ae f2) (r3.toS f3):=by
 cases r3 with
 |stuck=>trivial
 |exc c e'=>obtain⟨h',ns',rfl,q1,q2⟩:=p;exact⟨ae,h',ns',rfl,q1,q2⟩
 |ok t e'=>obtain⟨d,h',ns',rfl,q1,q2,q3⟩:=p;exact k d t h' ns' e' q1 q2 q3
def PoS.nx(a:Stp ns e h ns' e' h')(S:Sat X h0 ns' e' c_ h'):PoS X h0 ns e h (.nx c_ h') (.nx e'):=⟨c_,h',ns',rfl,a,S⟩
end
noncomputable def wNx:MS3:=λe=>.nx e
def wCt:MS3:=λe=>.ct e
noncomputable def wSeq(F G:MS3):MS3:=λe=>(F e).then G
noncomputable def B9(F:ME3):MS3:=λe=>(F e).toS λ_ e1=>.nx e1
noncomputable def wIf(c:MT3)(F G:MS3):MS3:=λe=>(c e).toS λb e1=>if b=true then F e1 else G e1
noncomputable def nX(t:Tm)(e:E3):SR3:=match t with
 |.val v=>.rt (.val v) e
 |.new v=>.rt (.new v) e
 |.bor i=>match e[i]? with
  |some (.sh v)=>.rt (.val v) e
  |some (.ow v)=>.rt (.new v) (e.set i .no)
  |some (.mu _)=>.rt (.par i) e
  |_=>.stuck
noncomputable def wRet(F:ME3):MS3:=λe=>(F e).toS nX
noncomputable def i0(o:Bool)(i:Nat)(t:Tm)(e:E3):SR3:=match e[i]? with
 |some s0=>if s0.pl=true then (match t with
  |.val v=>.nx (e.set i (.sh v))
  |.new v=>.nx (e.set i (if o=true then .ow v else .sh v))
  |.bor j=>match cN e (.bor j) with
   |some (e2,v)=>.nx (e2.set i (.sh v))
   |none=>.stuck) else .stuck
 |none=>.stuck
noncomputable def wAsg(o:Bool)(i:Nat)(F:ME3):MS3:=λe=>(F e).toS (i0 o i)
abbrev MG3:=Val->E3->Option E3
abbrev jT:=List Val->E3->Option E3
noncomputable def pN(i:Nat):MG3:=λv e=>match e[i]? with
 |some s=>if s.pl=true then some (e.set i (.sh v)) else none
 |none=>none
noncomputable def psN:jT:=λvs e=>match vs with
 | []=>some e
 |_=>none
noncomputable def psC(g:MG3)(u:jT):jT:=λvs e=>match vs with
 |v::r=>(g v e).bind λe1=>u r e1
 | []=>none
noncomputable def pT(n:Nat)(u:jT):MG3:=λv e=>match v with
 |.tup vs=>if vs.length=n then u vs e else none
 |_=>none
noncomputable def B2(F:ME3)(g:MG3):MS3:=λe=>(F e).toS λt e1=>match cN e1 t with
 |some (e2,v)=>match g v e2 with
  |some e3=>.nx e3
  |none=>.stuck
 |none=>.stuck
noncomputable def wPar(i j:Nat)(A:MA3):MS3:=λe=>(A e).toS λts e1=>match dem e1 ts with
 |some (e2,[v,u])=>match (pN i v e2).bind (pN j u) with
  |some e3=>.nx e3
  |none=>.stuck
 |_=>.stuck
noncomputable def zM(i:Nat)(g:Val->Val->Bv)(F:ME3):MS3:=λe=>match e[i]? with
 |some (.sh x)=>(F e).toS λt e1=>match rs e1 t with
  |some y=>match g x y with
   |.val z=>match pN i z e1 with
    |some e2=>.nx e2
    |none=>.stuck
   |_=>.stuck
  |none=>.stuck
 |_=>.stuck
noncomputable def xM(c:Str)(A:MA3):MS3:=λe=>(A e).toS λts e1=>if ts.length<=16777216 then .exc c e1 else .stuck
def RG(g2:MG)(g3:MG3):Prop:=∀X h0 ns e ae h d v e',Sat X h0 ns e ae h->Rd (Oc X ns) h d v->g3 v e=some e'->∃c_ ns',g2 d ae h=.ok c_ h/\Sat X h0 ns' e' c_ h/\Stp ns e h ns' e' h
def RGs(g2:MGs)(g3:jT):Prop:=∀X h0 ns e ae h ds vs e',Sat X h0 ns e ae h->Rds (Oc X ns) h ds vs->g3 vs e=some e'->∃c_ ns',g2 ds ae h=.ok c_ h/\Sat X h0 ns' e' c_ h/\Stp ns e h ns' e' h
section
variable{F:ME}{F3:ME3}{A:MA}{A3:MA3}{c d:MT}{c3:MT3}{U V:MS}{U3 V3:MS3}{g:MG}{g3:MG3}{gs:MGs}{gs3:jT}
def Mw:RS sNx wNx:=λX h0 ns e ae h S=>.nx .refl S
def Lg:RS sCt wCt:=λX h0 ns e ae h S=>⟨ae,h,ns,rfl,.refl,S⟩
def Gb(hU:RS U U3)(hV:RS V V3):RS (BE U V) (wSeq U3 V3):=λX h0 ns e ae h S=>by
 have p:=hU X h0 ns e ae h S;show PoS X h0 ns e h ((U ae h).then V) ((U3 e).then V3);generalize U3 e=r at *;cases r with
 |stuck=>trivial
 |nx e'=>obtain⟨c_,h',ns',q,q1,q2⟩:=p;rw[q];exact PoS.after S q1 (hV X h0 ns' e' c_ h' q2)
 |bk e'=>obtain⟨c_,h',ns',q,q1,q2⟩:=p;rw[q];exact⟨c_,h',ns',rfl,q1,q2⟩
 |ct e'=>obtain⟨c_,h',ns',q,q1,q2⟩:=p;rw[q];exact⟨c_,h',ns',rfl,q1,q2⟩
 |exc c e'=>obtain⟨c_,h',ns',q,q1,q2⟩:=p;rw[q];exact⟨c_,h',ns',rfl,q1,q2⟩
 |rt r e'=>obtain⟨d,c_,h',ns',q,q1,q2⟩:=p;rw[q];exact⟨d,c_,h',ns',rfl,q1,q2⟩
def C2(hF:RE F F3):RS (wz F) (B9 F3):=λX h0 ns e ae h S=>PoS.toS (hF X h0 0 ns e ae h S (MX _)) λd t h1 ns1 e1 a1 S1 r1=>.nx a1 S1
def JT(hc:RT c c3)(hU:RS U U3)(hV:RS V V3):RS (sIf c U V) (wIf c3 U3 V3):=λX h0 ns e ae h S=>PoS.toS (hc X h0 ns e ae h S) λb b' h1 ns1 e1 a1 S1 r1=>by
 cases r1;try dsimp only
 split
 .exact PoS.after S a1 (hU X h0 ns1 e1 ae h1 S1)
 .exact PoS.after S a1 (hV X h0 ns1 e1 ae h1 S1)
def IQ(hF:RE F F3):RS (vO F) (wRet F3):=λX h0 ns e ae h S=>PoS.toS (hF X h0 h0 ns e ae h S S.lh) λd t h1 ns1 e1 a1 S1 r1=>by
 cases t with
 |val v=>exact⟨d,ae,h1,ns1,rfl,a1,S1,r1⟩
 |new v=>obtain⟨n,o,q⟩:=r1;exact⟨d,ae,h1,ns1,rfl,a1,n,o,q⟩
 |
  bor i=>
  unfold nX;dsimp only;have r':ae[i]?=some (some d):=r1;split
  .rename_i v q;obtain⟨_,x,e1',e2⟩:=S1.sl i _ q;rw[r'] at e1';cases e1';exact⟨d,ae,h1,ns1,rfl,a1,S1,e2⟩
  .rename_i v q;obtain⟨n,o,q1,q2,q3,q4,q5,q6⟩:=S1.sl i _ q;rw[r'] at q2;cases q2;have hi:=(x_.mp q).1;have hn:i<ns1.length:=by rw[S1.l2];exact hi
   have mv:Mov (Oc X ns1) (Oc (Xn X n) (ns1.set i none)) h1 h1:=λm o' p q'=>⟨⟨λz=>by
    rcases z with z |rfl
    .exact p.1 z
    .exact p.2 (bR.mpr ⟨i,q1⟩),(eD p).2⟩,q'⟩
   have S2:=S1.putN' hi (s:=.no) rfl;refine⟨.ref n,ae,h1,ns1.set i none,rfl,a1.put (x:=none) hi (λ_ z=>by cases z) q rfl rfl S1.l2,n,o,rfl,q3,S1.nx i n q1,q4,q5,⟨S2.l1,S2.l2,S2.lh,λm z=>?_,S2.inj,λj m qj z=>?_,λj s qj=>?_⟩,q6.mono mv⟩
   .rcases z with z |rfl
    .exact S2.xl m z
    .exact cZ q4
   .rcases z with z |rfl
    .exact S2.nx j m qj z
    .rcases cm hn qj with ⟨_,y⟩ |⟨y,z⟩
     .cases y
     .exact y (S1.inj j i _ z q1)
   .rcases cm hi qj with ⟨rfl,rfl⟩ |⟨z,qj'⟩
    .rw[cC hn];rfl
    .rw[cq z];exact (S1.sl j s qj').mono mv λ_ _ _ q=>q
  .rename_i v q;exact⟨d,ae,h1,ns1,rfl,a1,S1,r',v,q⟩
  .trivial
def Ir(o:Bool)(i:Nat)(hF:RE F F3):RS (gH F (gN i)) (wAsg o i F3):=λX h0 ns e ae h S=>PoS.toS (hF X h0 h.length ns e ae h S (y_ _)) λd t h1 ns1 e1 a1 S1 r1=>by
 show PoS X h0 ns e h (.nx (ae.set i (some d)) h1) (i0 o i t e1);unfold i0;split
 .rename_i s0 q0;split
  .rename_i p0;have hi:=(x_.mp q0).1;cases t with
   |val v=>exact .nx (a1.put (x:=none) (s:=.sh v) hi (λ_ z=>by cases z) q0 p0 rfl S1.l2) (S1.putN hi ⟨rfl,d,rfl,Rd.mono (λm o p q=>⟨eD p,q⟩) r1⟩)
   |
    new v=>
    try dsimp only
    split
    .obtain⟨n,ob,rfl,q1,q2,q3,q4,q5,q6⟩:=r1;exact .nx (a1.put (x:=some n) (s:=.ow v) hi (λm z=>by cases z;exact q1) q0 p0 rfl S1.l2) (Sat.putO q5 q2 hi (G_ S.lh q1) q3 q4 q6)
    .exact .nx (a1.put (x:=none) (s:=.sh v) hi (λ_ z=>by cases z) q0 p0 rfl S1.l2) (S1.putN hi ⟨rfl,d,rfl,Rd.mono (λm o p q=>⟨eD p,q⟩) r1.new⟩)
   |
    bor j=>
    try dsimp only
    split
    .rename_i e2 v q2;obtain⟨ns2,S2,a2,r2⟩:=fB S1 r1 q2;have hq:∃s2,e2[i]?=some s2/\s2.pl=true:=by
      unfold cN at q2;dsimp only at q2;split at q2
      .cases q2;exact⟨s0,q0,p0⟩
      .rename_i u q3;cases q2;by_cases z:i=j
       .subst z;exact⟨_,cC hi,rfl⟩
       .exact⟨s0,by rw[cq z];exact q0,p0⟩
      .cases q2
     obtain⟨s2,hq1,hq2⟩:=hq;have hi2:=(x_.mp hq1).1;exact .nx ((a1.trans S a2).put (x:=none) (s:=.sh v) hi2 (λ_ z=>by cases z) hq1 hq2 rfl S2.l2) (S2.putN hi2 ⟨rfl,d,rfl,Rd.mono (λm o p q=>⟨eD p,q⟩) r2⟩)
    .trivial
  .trivial
 .trivial
def vy(i:Nat):RG (gN i) (pN i):=λX h0 ns e ae h d v e' S r q=>by
 unfold pN at q;split at q
 .rename_i s q0;split at q
  .rename_i p0;cases q;have hi:=(x_.mp q0).1;exact⟨_,ns.set i none,rfl,S.putN hi ⟨rfl,d,rfl,Rd.mono (λm o p q=>⟨eD p,q⟩) r⟩,Stp.refl.put (x:=none) (s:=.sh v) hi (λ_ z=>by cases z) q0 p0 rfl S.l2⟩
  .cases q
 .cases q
def KS:RGs gsN psN:=λX h0 ns e ae h ds vs e' S r q=>by
 cases r with
 |nil=>cases q;exact⟨ae,ns,rfl,S,.refl⟩
 |cons _ _=>cases q
def L5(hg:RG g g3)(hs:RGs gs gs3):RGs (gsC g gs) (psC g3 gs3):=λX h0 ns e ae h ds vs e' S r q=>by
 cases r with
 |nil=>cases q
 |cons r rr=>obtain⟨e1,q1,q2⟩:=M4.mp q;obtain⟨i_,ns1,p1,S1,a1⟩:=hg _ _ _ _ _ _ _ _ _ S r q1;obtain⟨ae2,ns2,p2,S2,a2⟩:=hs _ _ _ _ _ _ _ _ _ S1 (rr.mono (a1.mov S)) q2;refine⟨ae2,ns2,?_,S2,a1.trans S a2⟩;unfold gsC;dsimp only;rw[p1];exact p2
def rg_t(n:Nat)(hs:RGs gs gs3):RG (gT λds ae h=>if ds.length=n then gs ds ae h else .stuck) (pT n gs3):=λX h0 ns e ae h d v e' S r q=>by
 unfold pT at q;split at q
 .split at q
  .rename_i hn;obtain⟨ds,rfl,r2⟩:=ShR.tup (.inl r);obtain⟨i_,ns1,p1,S1,a1⟩:=hs _ _ _ _ _ _ _ _ _ S r2 q;refine⟨i_,ns1,?_,S1,a1⟩;unfold gT;dsimp only;rw[if_pos (by rw[r2.len];exact hn)];exact p1
  .cases q
 .cases q
def JD(hg:RG g g3):RG (λd ae h=>noX (g d ae h)) g3:=λX h0 ns e ae h d v e' S r q=>by obtain⟨i_,ns1,p1,S1,a1⟩:=hg _ _ _ _ _ _ _ _ _ S r q;exact⟨i_,ns1,by dsimp only;rw[p1];rfl,S1,a1⟩
def EZ(hF:RE F F3)(hg:RG g g3):RS (gH F g) (B2 F3 g3):=λX h0 ns e ae h S=>PoS.toS (hF X h0 0 ns e ae h S (MX _)) λd t h1 ns1 e1 a1 S1 r1=>by
 try dsimp only
 split
 .rename_i e2 v q;obtain⟨ns2,S2,a2,r2⟩:=fB S1 r1 q;split
  .rename_i e3 q3;obtain⟨ae3,ns3,p3,S3,a3⟩:=hg _ _ _ _ _ _ _ _ _ S2 r2 q3;rw[p3];exact .nx ((a1.trans S a2).trans S a3) S3
  .trivial
 .trivial
def Fq(i j:Nat)(hA:RA A A3):RS (BQ i j A) (wPar i j A3):=λX h0 ns e ae h S=>PoS.toS (hA X h0 ns e ae h S) λds ts h1 ns1 e1 a1 S1 r1=>by
 try dsimp only
 cases q:dem e1 ts with
 |none=>trivial
 |
  some w=>
  obtain⟨e2,vs⟩:=w;obtain⟨ns2,S2,a2,r2⟩:=ji S1 r1 q
  match vs,ds,r2 with
  | [],_,_=>trivial
  | [_],_,_=>trivial
  |_::_::_::_,_,_=>trivial
  |
   [v,u],[d,d'],r2=>
   dsimp only;split
   .rename_i e3 q3;obtain⟨e4,q4,q5⟩:=M4.mp q3;cases r2 with
    |
     cons r rr=>
     cases rr with
     |
      cons r' rr=>
      obtain⟨ae3,ns3,p3,S3,a3⟩:=vy i _ _ _ _ _ _ _ _ _ S2 r q4;obtain⟨ae4,ns4,p4,S4,a4⟩:=vy j _ _ _ _ _ _ _ _ _ S3 (r'.mono (a3.mov S2)) q5;have z3:ae3=ae.set i (some d):=by have:=p3;unfold gN at this;cases this;rfl
      have z4:ae4=ae3.set j (some d'):=by have:=p4;unfold gN at this;cases this;rfl
      subst z4 z3;exact .nx (((a1.trans S a2).trans S a3).trans S a4) S4
   .trivial
def GW(i:Nat)(hg:RO gg gg3)(hF:RE F F3):RS (sP i gg F) (zM i gg3 F3):=λX h0 ns e ae h S=>by
 unfold zM;split
 .rename_i x q0;obtain⟨_,dx,e1,r0⟩:=S.sl i _ q0;unfold sP;rw[e1];refine PoS.toS (hF X h0 0 ns e ae h S (MX _)) λd t h1 ns1 e1 a1 S1 r1=>?_;try dsimp only
  split
  .rename_i y q1;have b:=hg _ _ _ _ _ _ (.inl (r0.mono (a1.mov S))) (r1.sh S1 q1);split
   .rename_i z q2;rw[q2] at b;obtain⟨dz,p1,r2⟩:=b;split
    .rename_i e2 q3;rw[p1];obtain⟨ae3,ns3,p3,S3,a3⟩:=vy i _ _ _ _ _ _ _ _ _ S1 r2 q3;have z3:ae3=ae.set i (some dz):=by have:=p3;unfold gN at this;cases this;rfl
     subst z3;exact .nx (a1.trans S a3) S3
    .trivial
   .trivial
  .trivial
 .trivial
def TsR.len(r:TsR X ns ae h ds ts):ds.length=ts.length:=by
 induction r with
 |nil=>rfl
 |val _ _ ih=>rw[MK,MK,ih]
 |bor _ _ ih=>rw[MK,MK,ih]
def zK(x:Str)(hA:RA A A3):RS (rA x A) (xM x A3):=λX h0 ns e ae h S=>PoS.toS (hA X h0 ns e ae h S) λds ts h1 ns1 e1 a1 S1 r1=>by
 try dsimp only
 by_cases hl:ts.length<=16777216
 .rw[if_pos hl,if_pos (by rw[TsR.len r1];exact hl)];exact⟨ae,h1,ns1,rfl,a1,S1⟩
 .rw[if_neg hl];trivial
end
noncomputable def Sl.re(s:Sl)(u:Val):Sl:=match s with
 |.ow _=>.ow u
 |.mu _=>.mu u
 |s=>s
def Sl.mv:Sl->Option Val
 |.ow v=>some v
 |.mu v=>some v
 |_=>none
section
variable{X:Nat->Prop}{h0:Nat}{ns:Ns}{e:E3}{ae:AE}{h:AH}
def Sat.write(S:Sat X h0 ns e ae h)(q:e[i]?=some s)(hm:s.mv=some u):∃n o,ae[i]?=some (some (.ref n))/\h[n]?=some o/\cH o/\Rc (Oc X ns) h o u/\
 ∀o' u',cH o'->Rc (Oc X ns) h o' u'->Mov (Oc X ns) (Oc X ns) h (h.set n o')/\Sat X h0 ns (e.set i (s.re u')) ae (h.set n o')/\Stp ns e h ns (e.set i (s.re u')) (h.set n o'):=by
 have hi:=(x_.mp q).1;have key:∃n o,ns[i]?=some (some n)/\ae[i]?=some (some (.ref n))/\h[n]?=some o/\cH o/\Rc (Oc X ns) h o u/\s.mt=true/\(∀o' u',cH o'->Rc (Oc X ns) (h.set n o') o' u'->SlR (Oc X ns) h0 (some (some n)) (some (some (.ref n))) (h.set n o') (s.re u')):=by
  have y:=S.sl i s q;cases s with
  |ow v=>cases hm;obtain⟨n,o,q1,q2,q3,q4,q5,q6⟩:=y;exact⟨n,o,q1,q2,q4,q5,q6,rfl,λo' u' hf r=>⟨n,o',rfl,rfl,q3,cC (cZ q4),hf,r⟩⟩
  |mu v=>cases hm;obtain⟨n,o,q1,q2,q4,q5,q6⟩:=y;exact⟨n,o,q1,q2,q4,q5,q6,rfl,λo' u' hf r=>⟨n,o',rfl,rfl,cC (cZ q4),hf,r⟩⟩
  |_=>cases hm
 obtain⟨n,o,k1,k2,k3,k4,k5,k6,k7⟩:=key;refine⟨n,o,k2,k3,k4,k5,λo' u' hf r=>?_⟩;have mv:Mov (Oc X ns) (Oc X ns) h (h.set n o'):=λm ob p q'=>⟨p,by have:m≠n:=λz=>p.2 (bR.mpr ⟨i,by rw[z];exact k1⟩);rw[cq this];exact q'⟩;refine⟨mv,⟨by rw[Mz];exact S.l1,by rw[Mz];exact S.l2,by rw[Mz];exact S.lh,λm z=>by rw[Mz];exact S.xl m z,S.inj,S.nx,λj s' qj=>?_⟩,?_⟩
 .rcases cm hi qj with ⟨rfl,rfl⟩ |⟨z,qj'⟩
  .rw[k1,k2];exact k7 o' u' hf (r.mono mv)
  .refine (S.sl j s' qj').mono mv λm ob qm qo=>?_;have:m≠n:=λy=>by subst y;exact z (S.inj j i m qm k1)
   rw[cq this];exact qo
 .refine⟨by rw[Mz];exact y_ _,λm ob qm hM=>?_,λ_ _ q=>.inl q,λj s' qj hl=>?_,λj s' qj hl=>?_,λj v qj=>?_,λj v qj=>?_⟩
  .have:m≠n:=λy=>by subst y;exact hM ⟨i,s,k1,q,k6⟩
   rw[cq this];exact qm
  .have z:j≠i:=λz=>by subst z;rw[q] at qj;cases qj;cases s <;> first |cases hl;done |cases k6;done
   rw[cq z];exact⟨qj,rfl⟩
  .rcases cm hi qj with ⟨_,y⟩ |⟨z,qj'⟩
   .subst y;cases s <;> first |cases hl;done |cases k6;done
   .exact⟨qj',rfl⟩
  .rcases cm hi qj with ⟨rfl,y⟩ |⟨z,qj'⟩
   .cases s with
    |mu w=>exact⟨w,q,rfl⟩
    |ow w=>cases y
    |_=>cases k6
   .exact⟨v,qj',rfl⟩
  .by_cases z:j=i
   .subst z;rw[q] at qj;cases qj;exact⟨u',cC hi,rfl⟩
   .exact⟨v,by rw[cq z];exact qj,rfl⟩
end
def vM(w2:D->D->D->AH->R Unit)(w3:Val->Val->Val->Option Val):Prop:=∀P h n o u di vi d v u',¬ P n->h[n]?=some o->cH o->Rc P h o u->ShR P h di vi->Rd P h d v->w3 u vi v=some u'->∃o',w2 (.ref n) di d h=.ok () (h.set n o')/\cH o'/\Rc P h o' u'
noncomputable def wSet(i:Nat)(G:ME3)(F:ME3)(w:Val->Val->Val->Option Val):MS3:=λe=>(F e).toS λt e1=>match (e1[i]?).bind Sl.mv with
 |none=>.stuck
 |some _=>(G e1).toS λt2 e2=>match rs e2 t2 with
  |none=>.stuck
  |some vi=>match cN e2 t.drop with
   |none=>.stuck
   |some (e3,v)=>match e3[i]? with
    |none=>.stuck
    |some s=>match s.mv with
     |none=>.stuck
     |some u=>match w u vi v with
      |some u'=>.nx (e3.set i (s.re u'))
      |none=>.stuck
def RM(m2:D->List D->AH->R D)(m3:Val->List Val->Option (Val×Val)):Prop:=∀P h n o u ds vs u' v,h[n]?=some o->cH o->Rc P h o u->Rds P h ds vs->m3 u vs=some (u',v)->lq h (.ref n)=true/\∃o' d,m2 (.ref n) ds h=.ok d (h.set n o')/\cH o'/\Rc P h o' u'/\Rd P h d v
noncomputable def kr:Val->Bool
 |.lst _=>true
 |_=>false
noncomputable def l8(i:Nat)(m:Val->List Val->Option (Val×Val))(A:MA3):ME3:=λe=>match e[i]? with
 |some s=>if (s.mv.map kr)=some true then (A e).bind λts e1=>match dem e1 ts with
  |some (e2,vs)=>match e2[i]? with
   |some s2=>match s2.mv with
    |some u=>match m u vs with
     |some (u',v)=>.ok (.val v) (e2.set i (s2.re u'))
     |none=>.stuck
    |none=>.stuck
   |none=>.stuck
  |none=>.stuck else .stuck
 |none=>.stuck
section
variable{F G:ME}{F3 G3:ME3}{A:MA}{A3:MA3}
def DX{X:Nat->Prop}{h0:Nat}{ns:Ns}{e:E3}{ae:AE}{h:AH}(S:Sat X h0 ns e ae h){i:Nat}{u:Val}(q:(e[i]?).bind Sl.mv=some u):∃n o,ae[i]?=some (some (.ref n))/\h[n]?=some o/\cH o/\Rc (Oc X ns) h o u:=by obtain⟨s,q1,q2⟩:=M4.mp q;obtain⟨n,o,k1,k2,k3,k4,_⟩:=S.write q1 q2;exact⟨n,o,k1,k2,k3,k4⟩
def Iy(i:Nat)(hw:vM w2 w3)(hG:RE G G3)(hF:RE F F3):RS (gH F (gS (cT i) G w2)) (wSet i G3 F3 w3):=λX h0 ns e ae h S=>PoS.toS (hF X h0 0 ns e ae h S (MX _)) λd t h1 ns1 e1 a1 S1 r1=>by
 try dsimp only
 cases qm:(e1[i]?).bind Sl.mv with
 |none=>trivial
 |
  some u0=>
  obtain⟨n0,o0,b1,b2,b3,b4⟩:=DX S1 qm;have L2e:∀h',(gS (cT i) G w2 d ae h').toS ae (λc_ h2=>SR.nx c_ h2)=(G ae h').toS ae λdi h2=>(w2 (.ref n0) di d h2).toS ae λ_ h3=>.nx ae h3:=λh'=>by
   unfold gS cT;rw[b1];simp only[hE];cases G ae h' with
   |ok di h2=>simp only[hE];show _=(w2 (.ref n0) di d h2).toS ae λ_ h3=>.nx ae h3;cases w2 (.ref n0) di d h2 <;> rfl
   |exc c h2=>rfl
   |stuck=>rfl
  rw[L2e];refine PoS.after S a1 (PoS.toS (hG X h0 0 ns1 e1 ae h1 S1 (MX _)) λdi t2 h2 ns2 e2 a2 S2 r2=>?_);try dsimp only
  cases qi:rs e2 t2 with
  |none=>trivial
  |
   some vi=>
   try dsimp only
   cases qd:cN e2 t.drop with
   |none=>trivial
   |
    some w=>
    obtain⟨e3,v⟩:=w;try dsimp only
    obtain⟨r1',hn⟩:=r1.drop;have r3:=r1'.stp S1 a2 hn;have si:=r2.sh S2 qi;obtain⟨ns3,S3,a3,r4⟩:=fB S2 r3 qd;have si3:ShR (Oc X ns3) h2 di vi:=by
     rcases si with z |⟨n,o,z1,z2,z3⟩
     .exact .inl (z.mono (a3.mov S2))
     .exact .inr ⟨n,o,z1,z2,z3.mono (a3.mov S2)⟩
    cases q3:e3[i]? with
    |none=>trivial
    |
     some s=>
     try dsimp only
     cases q4:s.mv with
     |none=>trivial
     |
      some u=>
      try dsimp only
      cases q5:w3 u vi v with
      |none=>trivial
      |
       some u'=>
       obtain⟨n,o,k1,k2,k3,k4,k5⟩:=S3.write q3 q4;rw[b1] at k1;cases k1;have nP:¬ Oc X ns3 n0:=λp=>by have z1:=((k5 (.lst []) (.lst []) trivial (.lst .nil)).1 _ _ p k2).2;have z2:=((k5 (.lst [.non]) (.lst [.non]) trivial (.lst (.cons .non .nil))).1 _ _ p k2).2;rw[cC (cZ k2)] at z1 z2;rw[<- z2] at z1;cases z1
       obtain⟨o',p1,p2,p3⟩:=hw _ _ _ _ _ _ _ _ _ _ nP k2 k3 k4 si3 r4 q5;obtain⟨mv,S4,a4⟩:=k5 o' u' p2 p3;rw[p1];exact .nx ((a2.trans S1 a3).trans S1 a4) S4
def yF(i:Nat)(hm:RM m2 m3)(hA:RA A A3):RE (eM m2 (cT i) A) (l8 i m3 A3):=λX h0 L ns e ae h S hl=>by
 unfold l8;cases q0:e[i]? with
 |none=>trivial
 |
  some s0=>
  dsimp only;split
  .rename_i hz;obtain⟨u0,z1,z2⟩:=MF.mp hz;obtain⟨n0,o0,b1,b2,b3,b4,_⟩:=S.write q0 z1;have hL:lq h (.ref n0)=true:=by
    cases u0 with
    |lst xs=>obtain⟨ds,_,e1,_⟩:=Rc.seq b2 b4;show (bS h n0).isSome=true;rw[e1];rfl
    |_=>cases z2
   have L2e:eM m2 (cT i) A ae h=(A ae h).bind λds h2=>m2 (.ref n0) ds h2:=by unfold eM cT;rw[b1];simp only[hE,hL,NM]
   rw[L2e];refine Po.bind S (hA X h0 ns e ae h S) λds ts h1 ns1 e1 a1 S1 r1=>?_;try dsimp only
   cases q1:dem e1 ts with
   |none=>trivial
   |
    some w=>
    obtain⟨e2,vs⟩:=w;try dsimp only
    obtain⟨ns2,S2,a2,r2⟩:=ji S1 r1 q1;cases q2:e2[i]? with
    |none=>trivial
    |
     some s2=>
     try dsimp only
     cases q3:s2.mv with
     |none=>trivial
     |
      some u=>
      try dsimp only
      cases q4:m3 u vs with
      |none=>trivial
      |some w=>obtain⟨u',v⟩:=w;obtain⟨n,o,k1,k2,k3,k4,k5⟩:=S2.write q2 q3;rw[b1] at k1;cases k1;obtain⟨_,o',d,p1,p2,p3,p4⟩:=hm _ _ _ _ _ _ _ _ _ k2 k3 k4 r2 q4;obtain⟨mv,S4,a4⟩:=k5 o' u' p2 p3;exact⟨d,_,ns2,p1,a2.trans S1 a4,S4,p4.mono mv⟩
  .trivial
def CN(i:Nat)(hm:RM m2 m3):RE (eM0 m2 (cT i)) (l8 i m3 oz):=by
 have:=yF i hm xG
 intro X h0 L ns e ae h S hl;have p:=this X h0 L ns e ae h S hl;have e1:eM m2 (cT i) jQ ae h=eM0 m2 (cT i) ae h:=by unfold eM eM0 jQ;rfl
 rw[e1] at p;exact p
end
noncomputable def jA:Sl->Sl
 |.ow v=>.lo v
 |.mu v=>.lm v
 |s=>s
noncomputable def kO:Sl->Sl
 |.lo v=>.ow v
 |.lm v=>.mu v
 |s=>s
noncomputable def lock(e:E3)(k:Nat):E3:=match e[k]? with
 |some s=>e.set k (jA s)
 |none=>e
noncomputable def unlock(e:E3)(k:Nat):E3:=match e[k]? with
 |some s=>e.set k (kO s)
 |none=>e
noncomputable def lockO(e:E3):Option Nat->E3
 |some k=>lock e k
 |none=>e
def fH(e:E3):Option Nat->E3
 |some k=>unlock e k
 |none=>e
section
variable{X:Nat->Prop}{h0:Nat}{ns ns':Ns}{e e':E3}{ae:AE}{h h':AH}
def SlR.lock(r:SlR P h0 n d h s):SlR P h0 n d h (jA s):=by cases s <;> exact r
def SlR.unlock(r:SlR P h0 n d h s):SlR P h0 n d h (kO s):=by cases s <;> exact r
def Sat.lock(S:Sat X h0 ns e ae h)(k:Nat):Sat X h0 ns (lock e k) ae h:=by
 unfold L3.lock;split
 .rename_i s q;have hi:=(x_.mp q).1;refine⟨by rw[Mz];exact S.l1,by rw[Mz];exact S.l2,S.lh,S.xl,S.inj,S.nx,λj s' qj=>?_⟩;rcases cm hi qj with ⟨rfl,rfl⟩ |⟨z,qj'⟩
  .exact (S.sl j s q).lock
  .exact S.sl j s' qj'
 .exact S
def Sat.unlock(S:Sat X h0 ns e ae h)(k:Nat):Sat X h0 ns (unlock e k) ae h:=by
 unfold L3.unlock;split
 .rename_i s q;have hi:=(x_.mp q).1;refine⟨by rw[Mz];exact S.l1,by rw[Mz];exact S.l2,S.lh,S.xl,S.inj,S.nx,λj s' qj=>?_⟩;rcases cm hi qj with ⟨rfl,rfl⟩ |⟨z,qj'⟩
  .exact (S.sl j s q).unlock
  .exact S.sl j s' qj'
 .exact S
def jb(z:j≠k):(lock e k)[j]?=e[j]?:=by
 unfold lock;split
 .rw[cq z]
 .rfl
def gF(z:j≠k):(unlock e k)[j]?=e[j]?:=by
 unfold unlock;split
 .rw[cq z]
 .rfl
def oU(q:e[k]?=some s):(lock e k)[k]?=some (jA s):=by unfold lock;rw[q];exact cC (x_.mp q).1
def iV(q:e[k]?=some s):(unlock e k)[k]?=some (kO s):=by unfold unlock;rw[q];exact cC (x_.mp q).1
def Stp.unlock(q:e[k]?=some s)(hs:s.mt=true)(a:Stp ns (L3.lock e k) h ns' e' h'):Stp ns e h ns' (L3.unlock e' k) h':=by
 have hl:(jA s).lk=true:=by cases s <;> first |rfl |cases hs
 have hu:kO (jA s)=s:=by cases s <;> first |rfl |cases hs
 obtain⟨qk,nk⟩:=a.lk k _ (oU q) hl;refine⟨a.len,λm o qm hM=>a.keep m o qm λ⟨j,s',z1,z2,z3⟩=>hM ?_,a.nw,λj s' qj hj=>?_,λj s' qj hj=>?_,λj v qj=>?_,λj v qj=>?_⟩
 .by_cases z:j=k
  .subst z;exact⟨j,s,z1,q,hs⟩
  .rw[jb z] at z2;exact⟨j,s',z1,z2,z3⟩
 .have z:j≠k:=λz=>by subst z;rw[q] at qj;cases qj;cases s <;> first |cases hs;done |cases hj;done
  rw[gF z];exact a.lk j s' (by rw[jb z];exact qj) hj
 .have z:j≠k:=λz=>by subst z;rw[iV qk,hu] at qj;cases qj;cases s <;> first |cases hs;done |cases hj;done
  rw[gF z] at qj;obtain⟨y1,y2⟩:=a.lk' j s' qj hj;rw[jb z] at y1;exact⟨y1,y2⟩
 .by_cases z:j=k
  .subst z;rw[iV qk,hu] at qj;cases qj;exact⟨v,q,nk⟩
  .rw[gF z] at qj;obtain⟨u,y1,y2⟩:=a.mu j v qj;rw[jb z] at y1;exact⟨u,y1,y2⟩
 .by_cases z:j=k
  .subst z;rw[q] at qj;cases qj;exact⟨v,by rw[iV qk,hu],nk⟩
  .obtain⟨u,y1,y2⟩:=a.mu' j v (by rw[jb z];exact qj);exact⟨u,by rw[gF z];exact y1,y2⟩
end
abbrev MI3:=E3->R3 (List Val×Option Nat)
def Stay(X:Nat->Prop)(ns:Ns)(k:Option Nat)(h h':AH):Prop:=∀(m:Nat) (o:Ob),h[m]?=some o->(Oc X ns m\/∃j:Nat,k=some j/\ns[j]?=some (some m))->h'[m]?=some o
def rG(X:Nat->Prop)(ns:Ns)(e:E3)(h:AH)(it:AIt)(p:List Val×Option Nat):Prop:=
 Rds (Oc X ns) h it.items p.1/\(∀h',Stay X ns p.2 h h'->it.guard h')/\∀k:Nat,p.2=some k->∃s,e[k]?=some s/\s.mt=true
def RI(I:MI)(J:MI3):Prop:=∀X h0 ns e ae h,Sat X h0 ns e ae h->Po X h0 ns e ae h (rG X) (I ae h) (J e)
noncomputable def iL:Val->Option (List Val)
 |.tup xs=>some xs
 |.lst xs=>some xs
 |_=>none
noncomputable def fC(t:Tm)(e:E3):Option (List Val×Option Nat):=match t with
 |.val v=>(iL v).map λxs=>(xs,none)
 |.new v=>(iL v).map λxs=>(xs,none)
 |.bor k=>match e[k]? with
  |some (.sh v)=>(iL v).map λxs=>(xs,none)
  |some (.ow (.lst xs))=>some (xs,some k)
  |some (.mu (.lst xs))=>some (xs,some k)
  |_=>none
noncomputable def B7(F:ME3):MI3:=λe=>(F e).bind λt e1=>match fC t e1 with
 |some p=>.ok p e1
 |none=>.stuck
noncomputable def BZ(A:MA3):MI3:=λe=>(A e).bind λts e1=>match ts with
 | [t,u]=>(match fC t e1,fC u e1 with
  |some (xs,k),some (ys,none)=>.ok (List.zipWith (λx y=>.tup [x,y]) xs ys,k) e1
  |_,_=>.stuck)
 |_=>.stuck
noncomputable def oC(lo:Int)(k:Nat):List Val:=(List.range k).map λi=>Val.int (lo+(i:Nat))
structure RgB(j:Int):Prop where
 lo:-(2^62)<=j
 hi:j<2^62
def ij:List Val->Option (List Val)
 | [.int j]=>@ite _ (RgB j) (Classical.propDecidable _) (some (oC 0 j.toNat)) none
 |_=>none
def oy:List Val->Option (List Val)
 | [.int i,.int j]=>@ite _ (RgB i/\RgB j) (Classical.propDecidable _) (some (oC i (j-i).toNat)) none
 |_=>none
noncomputable def rD(f:List Val->Option (List Val))(A:MA3):MI3:=λe=>(A e).bind λts e1=>match (rss e1 ts).bind f with
 |some xs=>.ok (xs,none) e1
 |none=>.stuck
section
variable{F:ME}{F3:ME3}{A:MA}{A3:MA3}
def xo(S:Sat X h0 ns e ae h)(r:Rd (Oc X ns) h d v)(q:iL v=some xs):∃it,gY d h=some it/\rG X ns e h it (xs,none):=by
 cases v with
 |tup ys=>cases q;obtain⟨ds,rfl,r2⟩:=ShR.tup (.inl r);exact⟨_,rfl,r2,λ_ _=>trivial,λ_ z=>nomatch z⟩
 |
  lst ys=>
  cases q;cases r with
  |
   cell p eo rc=>
   rename_i n o;obtain⟨ds,_,e1,r1⟩:=Rc.seq eo rc;refine⟨.lst n ds,by unfold gY;dsimp only;rw[e1];rfl,r1,λh' st=>?_,λ_ z=>nomatch z⟩;show bS h' n=some ds
   have:=st n o eo (.inl p)
   unfold bS at e1 ⊢;rw[eo] at e1;rw[this];exact e1
 |_=>cases q
def rW(S:Sat X h0 ns e ae h)(r:relE X h0 L ae ns e h d t)(q:fC t e=some p):∃it,gY d h=some it/\rG X ns e h it p:=by
 cases t with
 |val v=>obtain⟨xs,q1,rfl⟩:=MF.mp q;exact xo S r q1
 |new v=>obtain⟨xs,q1,rfl⟩:=MF.mp q;exact xo S r.new q1
 |
  bor k=>
  have r':ae[k]?=some (some d):=r;have own:∀{s xs},e[k]?=some s->s.mv=some (.lst xs)->∃it,gY d h=some it/\rG X ns e h it (xs,some k):=λ{s xs} q qm=>by
   have hns:∃n,ns[k]?=some (some n)/\ae[k]?=some (some (.ref n)):=by
    have y:=S.sl k s q;cases s with
    |ow v=>obtain⟨n,o,y1,y2,_⟩:=y;exact⟨n,y1,y2⟩
    |mu v=>obtain⟨n,o,y1,y2,_⟩:=y;exact⟨n,y1,y2⟩
    |_=>cases qm
   obtain⟨n,y1,y2⟩:=hns;obtain⟨n',o,k1,k2,k3,k4,_⟩:=S.write q qm;rw[y2] at k1;cases k1;rw[r'] at y2;cases y2;obtain⟨ds,_,e2,r2⟩:=Rc.seq k2 k4;refine⟨.lst n ds,by unfold gY;dsimp only;rw[e2];rfl,r2,λh' st=>?_,λj z=>?_⟩
   .show bS h' n=some ds
    have:=st n o k2 (.inr ⟨k,rfl,y1⟩)
    unfold bS at e2 ⊢;rw[k2] at e2;rw[this];exact e2
   .cases z;exact⟨s,q,by cases s <;> first |rfl |cases qm⟩
  unfold fC at q;dsimp only at q;split at q
  .rename_i v qs;obtain⟨_,x,e2,r2⟩:=S.sl k _ qs;rw[r'] at e2;cases e2;obtain⟨xs,q1,rfl⟩:=MF.mp q;exact xo S r2 q1
  .rename_i xs qs;cases q;exact own qs rfl
  .rename_i xs qs;cases q;exact own qs rfl
  .cases q
noncomputable def AX(d:D)(h:AH):R AIt:=match d with
 |.tup xs=>.ok (.tup xs) h
 |.ref n=>match bS h n with
  |some xs=>.ok (.lst n xs) h
  |none=>.stuck
 |_=>.stuck
def Dl(q:gY d h=some it):AX d h=.ok it h:=by
 cases d with
 |tup xs=>cases q;rfl
 |ref n=>obtain⟨xs,y1,rfl⟩:=MF.mp (show (bS h n).map (AIt.lst n)=some it from q);unfold AX;dsimp only;rw[y1]
 |_=>cases q
def Gx(hF:RE F F3):RI (zU F) (B7 F3):=λX h0 ns e ae h S=>
 Po.bind S (hF X h0 0 ns e ae h S (MX _)) λd t h1 ns1 e1 a1 S1 r1=>by
  show Po X h0 ns1 e1 ae h1 (rG X) (AX d h1) _;cases q:fC t e1 with
  |none=>trivial
  |some p=>dsimp only;obtain⟨it,q1,q2⟩:=rW S1 r1 q;exact⟨it,h1,ns1,Dl q1,.refl,S1,q2⟩
def DL(r:Rds P h ds vs)(q:Rds P h es us):Rds P h (List.zipWith (λx y=>D.tup [x,y]) ds es) (List.zipWith (λx y=>Val.tup [x,y]) vs us):=
 r.ind (M:=λds vs=>∀{es:List D}{us:List Val},Rds P h es us->Rds P h (List.zipWith (λx y=>D.tup [x,y]) ds es) (List.zipWith (λx y=>Val.tup [x,y]) vs us)) (λ_=>.nil) (λr _ ih _ _ q=>by
  cases q with
  |nil=>exact .nil
  |cons q qq=>exact .cons (.tup (.cons r (.cons q .nil))) (ih qq)) q
def tsr1(r:TsR X ns ae h ds [t]):∃d,ds=[d]/\relE X h0 0 ae ns e h d t:=by
 cases r with
 |val r rr=>cases rr;exact⟨_,rfl,r⟩
 |bor r rr=>cases rr;exact⟨_,rfl,r⟩
def tsr2(r:TsR X ns ae h ds [t,u]):∃d d',ds=[d,d']/\relE X h0 0 ae ns e h d t/\relE X h0 0 ae ns e h d' u:=by
 cases r with
 |val r rr=>obtain⟨d',rfl,r'⟩:=tsr1 (h0:=h0) (e:=e) rr;exact⟨_,_,rfl,r,r'⟩
 |bor r rr=>obtain⟨d',rfl,r'⟩:=tsr1 (h0:=h0) (e:=e) rr;exact⟨_,_,rfl,r,r'⟩
def I0(hA:RA A A3):RI (zS A) (BZ A3):=λX h0 ns e ae h S=>
 Po.bind
  S (hA X h0 ns e ae h S) λds ts h1 ns1 e1 a1 S1 r1=>by
  match ts,r1 with
  | [],_=>trivial
  | [_],_=>trivial
  |_::_::_::_,_=>trivial
  |
   [t,u],r1=>
   obtain⟨d,d',rfl,r2,r3⟩:=tsr2 (h0:=h0) (e:=e1) r1;dsimp only;cases q:fC t e1 with
   |none=>trivial
   |
    some p=>
    obtain⟨xs,k⟩:=p;cases q':fC u e1 with
    |none=>trivial
    |
     some p'=>
     obtain⟨ys,k'⟩:=p';cases k' with
     |some _=>trivial
     |none=>obtain⟨it,q1,q2,q3,q4⟩:=rW S1 r2 q;obtain⟨it',q1',q2',q3',q4'⟩:=rW S1 r3 q';rw[q1,q1'];exact⟨.zip it it',h1,ns1,rfl,.refl,S1,DL q2 q2',λh' st=>⟨q3 h' st,q3' h' λm o hm hc=>st m o hm (hc.elim .inl λ⟨_,z,_⟩=>nomatch z)⟩,q4⟩
def C8(lo:Int)(k:Nat):Rds P h (AIt.rng lo k).items (oC lo k):=by
 show Rds P h ((List.range k).map λi=>D.int (lo+(i:Nat))) ((List.range k).map λi=>Val.int (lo+(i:Nat)));generalize List.range k=l;induction l with
 |nil=>exact .nil
 |cons i l ih=>exact .cons (.int _) ih
def gK(r:ShRs P h ds [v]):∃d,ds=[d]/\ShR P h d v:=by cases r with |cons r rr=>cases rr;exact⟨_,rfl,r⟩
def Cm(r:ShRs P h ds [v,u]):∃d d',ds=[d,d']/\ShR P h d v/\ShR P h d' u:=by cases r with |cons r rr=>cases rr with |cons r' rr=>cases rr;exact⟨_,_,rfl,r,r'⟩
def Cp(hf:∀P h ds vs xs,ShRs P h ds vs->f3 vs=some xs->∃lo k,f2 ds h=.ok (.rng lo k) h/\xs=oC lo k)(hA:RA A A3):RI (λae h=>(A ae h).bind f2) (rD f3 A3):=λX h0 ns e ae h S=>
 Po.bind S (hA X h0 ns e ae h S) λds ts h1 ns1 e1 a1 S1 r1=>by
  try dsimp only
  split
  .rename_i xs q;obtain⟨vs,q1,q2⟩:=M4.mp q;obtain⟨lo,k,p1,rfl⟩:=hf _ _ _ _ _ (TsR.sh S1 r1 q1) q2;rw[p1];exact Po.ret S1 ⟨C8 _ _,λ_ _=>trivial,λ_ z=>nomatch z⟩
  .trivial
def IM(hA:RA A A3):RI (BF A) (rD ij A3):=Cp (f2:=λds h1=>match ds with
 | [.int j]=>if -(2^62)<=j/\j<2^62 then .ok (.rng 0 j.toNat) h1 else .stuck
 |
  _=>.stuck) (λP h ds vs xs r q=>by
  unfold ij at q;split at q
  .split at q
   .rename_i hb;cases q;obtain⟨d,rfl,r2⟩:=gK r;obtain rfl:=r2.int;exact⟨_,_,by dsimp only;rw[if_pos ⟨hb.lo,hb.hi⟩],rfl⟩
   .cases q
  .cases q) hA
def Gf(hA:RA A A3):RI (Bi A) (rD oy A3):=Cp (f2:=λds h1=>match ds with
 | [.int i,.int j]=>if -(2^62)<=i/\i<2^62/\-(2^62)<=j/\j<2^62 then .ok (.rng i (j-i).toNat) h1 else .stuck
 |
  _=>.stuck) (λP h ds vs xs r q=>by
  unfold oy at q;split at q
  .split at q
   .rename_i hb;cases q;obtain⟨d,d',rfl,r2,r3⟩:=Cm r;obtain rfl:=r2.int;obtain rfl:=r3.int;exact⟨_,_,by dsimp only;rw[if_pos ⟨hb.1.lo,hb.1.hi,hb.2.lo,hb.2.hi⟩],rfl⟩
   .cases q
  .cases q) hA
end
noncomputable def SR3.loop(r:SR3)(f:E3->SR3):SR3:=match r with
 |.nx e=>f e
 |.ct e=>f e
 |.bk e=>.nx e
 |.rt d e=>.rt d e
 |.exc c e=>.exc c e
 |.stuck=>.stuck
noncomputable def fb(g:MG3)(B:MS3):List Val->MS3
 | [],e=>.nx e
 |v::vs,e=>match g v e with
  |some e1=>(B e1).loop (fb g B vs)
  |none=>.stuck
noncomputable def SR3.unl(k:Option Nat)(r:SR3):SR3:=match r with
 |.nx e=>.nx (fH e k)
 |.ct e=>.ct (fH e k)
 |.bk e=>.bk (fH e k)
 |.rt d e=>.rt d (fH e k)
 |.exc c e=>.exc c (fH e k)
 |.stuck=>.stuck
def wFor(I:MI3)(g:MG3)(B:MS3):MS3:=λe=>(I e).toS λp e1=>(fb g B p.1 (lockO e1 p.2)).unl p.2
section
variable{I:MI}{I3:MI3}{g:MG}{g3:MG3}{B:MS}{B3:MS3}{c:MT}{c3:MT3}
def PoS.loop{X:Nat->Prop}{h0:Nat}{ns:Ns}{e:E3}{ae:AE}{h:AH}{r2:SR}{r3:SR3}{f2:AE->AH->SR}{f3:E3->SR3}(p:PoS X h0 ns e h r2 r3)
 (k:∀c_ h' ns' e',Stp ns e h ns' e' h'->Sat X h0 ns' e' c_ h'->PoS X h0 ns e h (f2 c_ h') (f3 e')):PoS X h0 ns e h (r2.loop f2) (r3.loop f3):=by
 cases r3 with
 |stuck=>trivial
 |nx e'=>obtain⟨c_,h',ns',q,q1,q2⟩:=p;rw[q];exact k c_ h' ns' e' q1 q2
 |ct e'=>obtain⟨c_,h',ns',q,q1,q2⟩:=p;rw[q];exact k c_ h' ns' e' q1 q2
 |bk e'=>obtain⟨c_,h',ns',q,q1,q2⟩:=p;rw[q];exact⟨c_,h',ns',rfl,q1,q2⟩
 |exc c e'=>obtain⟨c_,h',ns',q,q1,q2⟩:=p;rw[q];exact⟨c_,h',ns',rfl,q1,q2⟩
 |rt r e'=>obtain⟨d,c_,h',ns',q,q1,q2⟩:=p;rw[q];exact⟨d,c_,h',ns',rfl,q1,q2⟩
def CO(S:Sat X h0 ns e ae h)(hk:∀j:Nat,k=some j->∃s,e[j]?=some s/\s.mt=true)(a:Stp ns (lockO e k) h ns' e' h'):Stay X ns k h h':=λm o q hm=>by
 refine a.keep m o q λ⟨i,s,z1,z2,z3⟩=>?_;rcases hm with hm |⟨j,rfl,hj⟩
 .exact hm.2 (bR.mpr ⟨i,z1⟩)
 .have:i=j:=S.inj i j m z1 hj;subst this;obtain⟨s',y1,y2⟩:=hk i rfl;have:(lockO e (some i))[i]?=some (jA s'):=oU y1;rw[this] at z2;cases z2;cases s' <;> first |cases y2;done |cases z3;done
def PoS.unl(hk:∀j:Nat,k=some j->∃s,e[j]?=some s/\s.mt=true)(p:PoS X h0 ns (lockO e k) h r2 r3):PoS X h0 ns e h r2 (r3.unl k):=by
 cases k with
 |none=>cases r3 <;> exact p
 |
  some j=>
  obtain⟨s,y1,y2⟩:=hk j rfl;cases r3 with
  |stuck=>trivial
  |nx e'=>obtain⟨c_,h',ns',q,q1,q2⟩:=p;exact⟨c_,h',ns',q,q1.unlock y1 y2,q2.unlock j⟩
  |ct e'=>obtain⟨c_,h',ns',q,q1,q2⟩:=p;exact⟨c_,h',ns',q,q1.unlock y1 y2,q2.unlock j⟩
  |bk e'=>obtain⟨c_,h',ns',q,q1,q2⟩:=p;exact⟨c_,h',ns',q,q1.unlock y1 y2,q2.unlock j⟩
  |exc c e'=>obtain⟨c_,h',ns',q,q1,q2⟩:=p;exact⟨c_,h',ns',q,q1.unlock y1 y2,q2.unlock j⟩
  |
   rt r e'=>
   obtain⟨d,c_,h',ns',q,q1,q2⟩:=p;refine⟨d,c_,h',ns',q,q1.unlock y1 y2,?_⟩;cases r with
   |val v=>exact⟨q2.1.unlock j,q2.2⟩
   |new v=>obtain⟨n,o,z1,z2,z3,z4,z5,z6,z7⟩:=q2;exact⟨n,o,z1,z2,z3,z4,z5,z6.unlock j,z7⟩
   |
    par i=>
    obtain⟨z1,z2,v,z3⟩:=q2;refine⟨z1.unlock j,z2,v,?_⟩;by_cases z:i=j
    .subst z;exact iV z3
    .exact (gF z).trans z3
   |pr v u=>obtain⟨d1,n,o,z1,z2,z3,z4,z5,z6,z7⟩:=q2;exact⟨d1,n,o,z1,z2,z3,z4,z5,z6.unlock j,z7⟩
def Sat.lockO(S:Sat X h0 ns e ae h)(k:Option Nat):Sat X h0 ns (lockO e k) ae h:=by
 cases k with
 |none=>exact S
 |some k=>exact S.lock k
def C9{X:Nat->Prop}{h0:Nat}{ns:Ns}{e:E3}{ae:AE}{h:AH}{G:AH->Prop}(S:Sat X h0 ns e ae h)(hg:RG g g3)(hB:RS B B3)(hG:∀ns' e' h',Stp ns e h ns' e' h'->G h'):
 ∀{ds:List D}{vs:List Val},Rds (Oc X ns) h ds vs->∀{ns1:Ns}{e1:E3}{i_:AE}{h1:AH},Stp ns e h ns1 e1 h1->Sat X h0 ns1 e1 i_ h1->PoS X h0 ns e h (jY G g B ds i_ h1) (fb g3 B3 vs e1):=by
 intro ds;induction ds with
 |nil=>intro vs r ns1 e1 i_ h1 a1 S1;cases r;unfold jY;rw[if_pos (hG _ _ _ a1)];exact .nx a1 S1
 |
  cons d0 ds ih=>
  intro vs r ns1 e1 i_ h1 a1 S1;cases r with
  |
   cons r rr=>
   unfold jY fb;rw[if_pos (hG _ _ _ a1)];split
   .rename_i e2 q;obtain⟨ae2,ns2,p2,S2,a2⟩:=hg _ _ _ _ _ _ _ _ _ S1 (r.mono (a1.mov S)) q;rw[p2];have a12:=a1.trans S a2;show PoS X h0 ns e h ((B ae2 h1).loop _) _;refine PoS.loop (ae:=ae) (PoS.after S a12 (hB X h0 ns2 e2 ae2 h1 S2)) λae3 h3 ns3 e3 a3 S3=>ih rr a3 S3
   .trivial
def JA(hI:RI I I3)(hg:RG g g3)(hB:RS B B3):RS (A1 I g B) (wFor I3 g3 B3):=λX h0 ns e ae h S=>PoS.toS (hI X h0 ns e ae h S) λit p h1 ns1 e1 a1 S1 r1=>by obtain⟨r2,gd,hk⟩:=r1;refine PoS.after S a1 (PoS.unl hk ?_);have S2:=S1.lockO p.2;exact C9 S2 hg hB (λns' e' h' a=>gd h' (CO S1 hk a)) r2 .refl S2
noncomputable def whV(c:MT3)(B:MS3):Nat->MS3
 |0,_=>.stuck
 |k+1,e=>(c e).toS λb e1=>if b=true then (B e1).loop (whV c B k) else .nx e1
open Classical in
def wWh(c:MT3)(B:MS3):MS3:=λe=>if q:∃k,whV c B k e ≠ .stuck then whV c B q.choose e else .stuck
theorem lW{c:MT3}{B:MS3}:∀{k:Nat}{e:E3},whV c B k e ≠ .stuck->whV c B (k+1) e=whV c B k e
 |0,_,q=>absurd rfl q
 |
  k+1,e,q=>by
  have e1:whV c B (k+2) e=(c e).toS λb e1=>if b=true then (B e1).loop (whV c B (k+1)) else .nx e1:=rfl
  have e2:whV c B (k+1) e=(c e).toS λb e1=>if b=true then (B e1).loop (whV c B k) else .nx e1:=rfl
  rw[e2] at q;rw[e1,e2];cases r:c e with
  |exc _ _=>rfl
  |stuck=>rfl
  |
   ok b h1=>
   rw[r] at q;cases b with
   |false=>rfl
   |
    true=>
    have q':(B h1).loop (whV c B k) ≠ .stuck:=q;show (B h1).loop (whV c B (k+1))=(B h1).loop (whV c B k);cases s:B h1 with
    |nx a2=>rw[s] at q';exact lW q'
    |ct a2=>rw[s] at q';exact lW q'
    |_=>rfl
def y9{c:MT3}{B:MS3}{k j:Nat}{e:E3}(q:whV c B k e ≠ .stuck)(hj:k<=j):whV c B j e=whV c B k e:=by
 induction hj with
 |refl=>rfl
 |step _ ih=>rw[lW (by rw[ih];exact q),ih]
def nz{c:MT3}{B:MS3}{k:Nat}{e:E3}(q:whV c B k e ≠ .stuck):wWh c B e=whV c B k e:=by
 have hq:∃k,whV c B k e ≠ .stuck:=⟨k,q⟩;unfold wWh;rw[dif_pos hq];rcases Nat.le_total hq.choose k with z |z
 .exact (y9 hq.choose_spec z).symm
 .exact y9 q z
def By(c:MT3)(B:MS3)(e:E3):wWh c B e=(c e).toS λb e1=>if b=true then (B e1).loop (wWh c B) else .nx e1:=by
 by_cases q:∃k,whV c B k e ≠ .stuck
 .obtain⟨k,q⟩:=q;rw[nz q];cases k with
  |zero=>exact absurd rfl q
  |
   succ k=>
   have e2:whV c B (k+1) e=(c e).toS λb e1=>if b=true then (B e1).loop (whV c B k) else .nx e1:=rfl
   rw[e2] at q ⊢;cases r:c e with
   |exc _ _=>rfl
   |stuck=>rfl
   |
    ok b h1=>
    rw[r] at q;cases b with
    |false=>rfl
    |
     true=>
     have q':(B h1).loop (whV c B k) ≠ .stuck:=q;show (B h1).loop (whV c B k)=(B h1).loop (wWh c B);cases s:B h1 with
     |nx a2=>rw[s] at q';exact (nz q').symm
     |ct a2=>rw[s] at q';exact (nz q').symm
     |_=>rfl
 .have e0:wWh c B e=.stuck:=by unfold wWh;rw[dif_neg q]
  rw[e0];have hs:∀k,whV c B (k+1) e=.stuck:=λk=>N5 λz=>q ⟨_,z⟩;cases r:c e with
  |stuck=>rfl
  |
   exc c' h'=>
   have:=hs 0
   unfold whV at this;rw[r] at this;cases this
  |
   ok b h1=>
   cases b with
   |
    false=>
    have:=hs 0
    unfold whV at this;rw[r] at this;cases this
   |
    true=>
    have h2:∀k,(B h1).loop (whV c B k)=.stuck:=λk=>by
     have:=hs k
     unfold whV at this;rw[r] at this;exact this
    show SR3.stuck=(B h1).loop (wWh c B);have lim:∀a2,(∀k,whV c B k a2=.stuck)->wWh c B a2=.stuck:=λa2 z=>by unfold wWh;rw[dif_neg (λ⟨k,y⟩=>y (z k))]
    cases s:B h1 with
    |nx a2=>rw[s] at h2;exact (lim a2 h2).symm
    |ct a2=>rw[s] at h2;exact (lim a2 h2).symm
    |stuck=>rfl
    |_=>have:=h2 0;rw[s] at this;cases this
def Jf(p:PoS X h0 ns e h r2 r3)(q:r3 ≠ .stuck):r2 ≠ .stuck:=by
 cases r3 with
 |stuck=>exact absurd rfl q
 |nx e'=>obtain⟨c_,h',ns',z,_⟩:=p;rw[z];intro y;cases y
 |ct e'=>obtain⟨c_,h',ns',z,_⟩:=p;rw[z];intro y;cases y
 |bk e'=>obtain⟨c_,h',ns',z,_⟩:=p;rw[z];intro y;cases y
 |exc c e'=>obtain⟨c_,h',ns',z,_⟩:=p;rw[z];intro y;cases y
 |rt r e'=>obtain⟨d,c_,h',ns',z,_⟩:=p;rw[z];intro y;cases y
theorem yy(hc:RT c c3)(hB:RS B B3):∀(k:Nat) (X:Nat->Prop) (h0:Nat) (ns:Ns) (e:E3) (ae:AE) (h:AH),Sat X h0 ns e ae h->PoS X h0 ns e h (whN c B k ae h) (whV c3 B3 k e)
 |0,_,_,_,_,_,_,_=>trivial
 |
  k+1,X,h0,ns,e,ae,h,S=>by
  refine PoS.toS (hc X h0 ns e ae h S) λb b' h1 ns1 e1 a1 S1 r1=>?_;cases r1;try dsimp only
  split
  .exact PoS.after S a1 (PoS.loop (ae:=ae) (hB X h0 ns1 e1 ae h1 S1) λae2 h2 ns2 e2 a2 S2=>PoS.after S1 a2 (yy hc hB k X h0 ns2 e2 ae2 h2 S2))
  .exact .nx a1 S1
def Mu(hc:RT c c3)(hB:RS B B3):RS (sWh c B) (wWh c3 B3):=λX h0 ns e ae h S=>by
 by_cases q:∃k,whV c3 B3 k e ≠ .stuck
 .obtain⟨k,q⟩:=q;rw[nz q];have p:=yy hc hB k X h0 ns e ae h S;rw[xK (Jf p q)];exact p
 .unfold wWh;rw[dif_neg q];trivial
end
noncomputable def gm(o:Option Nat)(s:Sl)(e:E3):E3:=match o,s with
 |some i,.mu v=>(match e[i]? with
  |some t=>e.set i (t.re v)
  |none=>e)
 |_,_=>e
noncomputable def bH:List (Option Nat)->E3->E3->E3
 |o::sub,s::inner,e=>bH sub inner (gm o s e)
 |_,_,e=>e
def uU(hn:∀v,o=some i->s=.mu v->False):(gm o s e)[i]?=e[i]?:=by
 unfold gm;split
 .rename_i i' v;split
  .rename_i t q;by_cases z:i=i'
   .subst z;exact (hn v rfl rfl).elim
   .rw[cq z]
  .rfl
 .rfl
theorem oQ:∀{sub:Pd}{e2 e:E3}{i:Nat},(∀(j:Nat) v,sub[j]?=some (some i)->e2[j]?=some (.mu v)->False)->(bH sub e2 e)[i]?=e[i]?
 | [],_,_,_,_=>rfl
 |_::_,[],_,_,_=>rfl
 |
  o::sub,s::e2,e,i,hn=>by
  show (bH sub e2 (gm o s e))[i]?=_;rw[oQ (λj v q1 q2=>hn (j+1) v (by simpa using q1) (by simpa using q2))];exact uU λv z1 z2=>hn 0 v (by rw[z1];rfl) (by rw[z2];rfl)
theorem uV:∀{sub:Pd}{e2 e:E3}{i j:Nat}{v:Val},(∀(j k:Nat) i,sub[j]?=some (some i)->sub[k]?=some (some i)->j=k)->sub[j]?=some (some i)->e2[j]?=some (.mu v)->(bH sub e2 e)[i]?=(e[i]?).map (Sl.re · v)
 | [],_,_,_,j,_,_,q,_=>by simp at q
 |_::_,[],_,_,j,_,_,_,q=>by simp at q
 |
  o::sub,s::e2,e,i,0,v,hj,q1,q2=>by
  have z1:o=some i:=by simpa using q1
  have z2:s=.mu v:=by simpa using q2
  subst z1 z2;show (bH sub e2 (gm (some i) (.mu v) e))[i]?=_;rw[oQ (λk u y1 _=>by have:=hj 0 (k+1) i rfl (by simpa using y1);omega)];unfold gm;dsimp only;split
  .rename_i t q;rw[cC (x_.mp q).1,q];rfl
  .rename_i q;rw[q];rfl
 |
  o::sub,s::e2,e,i,j+1,v,hj,q1,q2=>by
  show (bH sub e2 (gm o s e))[i]?=_;have q1':sub[j]?=some (some i):=by simpa using q1
  rw[uV (λa b c y1 y2=>by have:=hj (a+1) (b+1) c (by simpa using y1) (by simpa using y2);omega) q1' (by simpa using q2)];rw[uU λv z1 _=>by have:=hj 0 (j+1) i (by rw[z1];rfl) q1;omega]
noncomputable def cz(sub:Pd)(ns:Ns):Ns:=sub.map λo=>o.bind λi=>(ns[i]?).bind id
def dh{sub:Pd}{ns:Ns}{j n:Nat}(q:(cz sub ns)[j]?=some (some n)):∃i,sub[j]?=some (some i)/\ns[i]?=some (some n):=by
 unfold cz at q;rw[MP] at q;cases z:sub[j]? with
 |none=>rw[z] at q;cases q
 |
  some o=>
  rw[z] at q;cases o with
  |none=>cases q
  |
   some i=>
   refine⟨i,rfl,?_⟩;have q':(ns[i]?).bind id=some n:=MC q;cases y:ns[i]? with
   |none=>rw[y] at q';cases q'
   |some w=>rw[y] at q';have:w=some n:=q';rw[this]
def Ed{sub:Pd}{ns:Ns}{j i:Nat}{w:Option Nat}(q:sub[j]?=some (some i))(q2:ns[i]?=some w):(cz sub ns)[j]?=some w:=by unfold cz;rw[MP,q];show some ((ns[i]?).bind id)=some w;rw[q2];rfl
structure Lnk(sub:Pd)(e ei:E3):Prop where
 inj:∀(j k:Nat) (i:Nat),sub[j]?=some (some i)->sub[k]?=some (some i)->j=k
 mu:∀(j:Nat) (v:Val),ei[j]?=some (.mu v)->∃(i:Nat) (s:Sl),sub[j]?=some (some i)/\e[i]?=some s/\s.mt=true
 mt:∀(j:Nat) (s:Sl),ei[j]?=some s->s.mt=true->∃v,s=.mu v
def Sat.back(S:Sat X h0 ns e ae h)(K:Lnk sub e ei)(a:Stp (cz sub ns) ei h ns2 e2 h2)
 (hY:∀n,Y n->n<h2.length/\(X n\/h.length<=n)) (hXY:∀n,X n->Y n)
 (hc:∀(j:Nat) v n,e2[j]?=some (.mu v)->ns2[j]?=some (some n)->∃o,h2[n]?=some o/\cH o/\Rc (Oc Y ns) h2 o v):Sat Y h0 ns (bH sub e2 e) ae h2/\Stp ns e h ns (bH sub e2 e) h2:=by
 have hM:∀n,Mt (cz sub ns) ei n->Mt ns e n:=λn ⟨j,s,z1,z2,z3⟩=>by obtain⟨v,rfl⟩:=K.mt j s z2 z3;obtain⟨i,s',y1,y2,y3⟩:=K.mu j v z2;obtain⟨i',y4,y5⟩:=dh z1;rw[y1] at y4;cases y4;exact⟨i,s',y5,y2,y3⟩
 have mv:Mov (Oc X ns) (Oc Y ns) h h2:=λn o p q=>⟨⟨λz=>by
  rcases (hY n z).2 with z |z
  .exact p.1 z
  .have:=cZ q;omega,p.2⟩,a.keep n o q λz=>by obtain⟨j,s,z1,_⟩:=z;obtain⟨i,_,y⟩:=dh z1;exact p.2 (bR.mpr ⟨i,y⟩)⟩
 have key:∀i:Nat,(∃(j:Nat) (v:Val) (s:Sl),sub[j]?=some (some i)/\e2[j]?=some (.mu v)/\e[i]?=some s/\s.mt=true/\(bH sub e2 e)[i]?=some (s.re v)/\ns2[j]?=ns[i]?)\/((∀n,ns[i]?=some (some n)->¬ Mt (cz sub ns) ei n)/\(bH sub e2 e)[i]?=e[i]?):=λi=>by
  by_cases hx:∃(j:Nat) (v:Val),sub[j]?=some (some i)/\e2[j]?=some (.mu v)
  .obtain⟨j,v,q1,q2⟩:=hx;obtain⟨u,q3,q4⟩:=a.mu j v q2;obtain⟨i',s,y1,y2,y3⟩:=K.mu j u q3;rw[q1] at y1;cases y1;refine .inl ⟨j,v,s,q1,q2,y2,y3,by rw[uV K.inj q1 q2,y2];rfl,?_⟩;rw[q4];have hl:i<ns.length:=by rw[S.l2];exact (x_.mp y2).1
   rw[MJ hl];exact Ed q1 (MJ hl)
  .refine .inr ⟨λn q ⟨j,s,z1,z2,z3⟩=>hx ?_,oQ λj v y1 y2=>hx ⟨j,v,y1,y2⟩⟩;obtain⟨v,rfl⟩:=K.mt j s z2 z3;obtain⟨i',y4,y5⟩:=dh z1;have:i'=i:=S.inj i' i n y5 q;subst this;obtain⟨v',y6,_⟩:=a.mu' j v z2;exact⟨j,v',y4,y6⟩
 have lenB:(bH sub e2 e).length=e.length:=by
  clear key hc a K S hY hXY hM mv;induction sub generalizing e2 e with
  |nil=>rfl
  |
   cons o sub ih=>
   cases e2 with
   |nil=>rfl
   |
    cons s e2=>
    show (bH sub e2 (gm o s e)).length=_;rw[ih];unfold gm;split
    .split
     .rw[Mz]
     .rfl
    .rfl
 refine⟨⟨by rw[lenB];exact S.l1,by rw[lenB];exact S.l2,G_ S.lh a.len,λn z=>(hY n z).1,S.inj,λi n q z=>?_,λi s q=>?_⟩,⟨a.len,λm o q hm=>a.keep m o q λz=>hm (hM m z),λ_ _ q=>.inl q,λi s q hl=>?_,λi s q hl=>?_,λi v q=>?_,λi v q=>?_⟩⟩
 .rcases (hY n z).2 with z |z
  .exact S.nx i n q z
  .obtain⟨_,_,_,_,_,_,_,q',_⟩:=S.own q
   have:=cZ q';omega
 .rcases key i with ⟨j,v,s0,k1,k2,k3,k4,k5,k6⟩ |⟨k1,k2⟩
  .rw[k5] at q;cases q;have y:=S.sl i s0 k3;cases s0 with
   |ow u=>obtain⟨n,o,y1,y2,y3,_⟩:=y;obtain⟨o',z1,z2,z3⟩:=hc j v n k2 (by rw[k6];exact y1);exact⟨n,o',y1,y2,y3,z1,z2,z3⟩
   |mu u=>obtain⟨n,o,y1,y2,_⟩:=y;obtain⟨o',z1,z2,z3⟩:=hc j v n k2 (by rw[k6];exact y1);exact⟨n,o',y1,y2,z1,z2,z3⟩
   |_=>cases k4
  .rw[k2] at q;exact (S.sl i s q).mono mv λn o q1 q2=>a.keep n o q2 (k1 n q1)
 .rcases key i with ⟨j,v,s0,k1,k2,k3,k4,k5,k6⟩ |⟨k1,k2⟩
  .rw[k3] at q;cases q;cases s <;> first |cases hl;done |cases k4;done
  .rw[k2];exact⟨q,rfl⟩
 .rcases key i with ⟨j,v,s0,k1,k2,k3,k4,k5,k6⟩ |⟨k1,k2⟩
  .rw[k5] at q;cases q;cases s0 <;> first |cases hl;done |cases k4;done
  .rw[k2] at q;exact⟨q,rfl⟩
 .rcases key i with ⟨j,u,s0,k1,k2,k3,k4,k5,k6⟩ |⟨k1,k2⟩
  .rw[k5] at q;cases s0 with
   |mu w=>exact⟨w,k3,rfl⟩
   |ow w=>cases q
   |_=>cases k4
  .rw[k2] at q;exact⟨v,q,rfl⟩
 .rcases key i with ⟨j,u,s0,k1,k2,k3,k4,k5,k6⟩ |⟨k1,k2⟩
  .rw[k3] at q;cases q;exact⟨u,k5,rfl⟩
  .exact⟨v,by rw[k2];exact q,rfl⟩
noncomputable def inS:Sl->Sl
 |.ow v=>.mu v
 |.lo v=>.lm v
 |s=>s
noncomputable def cn(sub:Pd)(e:E3):E3:=sub.map λo=>match o with
 |none=>.no
 |some i=>match e[i]? with
  |some s=>inS s
  |none=>.no
noncomputable def lcV(g:MG3)(c:MT3)(F:ME3):List Val->List Val->E3->R3 (List Val)
 | [],acc,e=>.ok acc e
 |v::vs,acc,e=>if acc.length<16777216 then (match g v e with
  |none=>.stuck
  |some e1=>(c e1).bind λb e2=>if b=true then (F e2).bind λt e3=>(match cN e3 t with
   |some (e4,y)=>lcV g c F vs (acc++[y]) e4
   |none=>.stuck) else lcV g c F vs acc e2) else .stuck
noncomputable def vLC(I:MI3)(sub:Pd)(g:MG3)(c:MT3)(F:ME3):ME3:=λe=>(I e).bind λp e1=>match lcV g c F p.1 [] (cn sub (lockO e1 p.2)) with
 |.ok ys e2=>if ys.length<=16777216 then .ok (.new (.lst ys)) (fH (bH sub e2 (lockO e1 p.2)) p.2) else .stuck
 |_=>.stuck
def nT(sub:Pd):Prop:=∀(j k:Nat) (i:Nat),sub[j]?=some (some i)->sub[k]?=some (some i)->j=k
def yJ(h:(sub.filterMap id).Nodup):nT sub:=by
 induction sub with
 |nil=>intro j k i q;simp at q
 |
  cons o sub ih=>
  have f_:(sub.filterMap id).Nodup:=by
   cases o with
   |none=>simpa using h
   |some i=>rw[Nw] at h;simp at h;exact h.2
  have hno:∀(i k:Nat),o=some i->sub[k]?=some (some i)->False:=λi k z q=>by subst z;rw[Nw] at h;simp at h;exact h.1 (NK q)
  intro j k i q1 q2;cases j with
  |
   zero=>
   cases k with
   |zero=>rfl
   |succ k=>exact (hno i k (by simpa using q1) (by simpa using q2)).elim
  |
   succ j=>
   cases k with
   |zero=>exact (hno i j (by simpa using q2) (by simpa using q1)).elim
   |succ k=>exact Nd (· + 1) (ih f_ j k i (by simpa using q1) (by simpa using q2))
def Xin(X:Nat->Prop)(ns:Ns)(sub:Pd)(n:Nat):Prop:=X n\/(some n∈ns/\some n∉cz sub ns)
def mz(q:some n∈cz sub ns):some n∈ns:=by obtain⟨j,q⟩:=bR.mp q;obtain⟨i,_,q2⟩:=dh q;exact bR.mpr ⟨i,q2⟩
def jU{sub:Pd}{e:E3}{j:Nat}{s:Sl}(q:(cn sub e)[j]?=some s):(sub[j]?=some none/\s=.no)\/(∃i,sub[j]?=some (some i)/\((e[i]?=none/\s=.no)\/∃t,e[i]?=some t/\s=inS t)):=by
 unfold cn at q;rw[MP] at q;cases z:sub[j]? with
 |none=>rw[z] at q;cases q
 |
  some o=>
  rw[z] at q;cases o with
  |none=>cases q;exact .inl ⟨rfl,rfl⟩
  |
   some i=>
   refine .inr ⟨i,rfl,?_⟩;have q':=MC q;dsimp only at q';cases y:e[i]? with
   |none=>rw[y] at q';exact .inl ⟨rfl,q'.symm⟩
   |some t=>rw[y] at q';exact .inr ⟨t,rfl,q'.symm⟩
def Sat.inner(S:Sat X h0 ns e ae h)(hs:nT sub):Sat (Xin X ns sub) h0 (cz sub ns) (cn sub e) (jP sub ae) h:=by
 refine⟨by unfold jP cn;rw[v_,v_],by unfold cz cn;rw[v_,v_],S.lh,λn z=>?_,λj k n q1 q2=>?_,λj n q z=>?_,λj s q=>?_⟩
 .rcases z with z |⟨z,_⟩
  .exact S.xl n z
  .obtain⟨i,z⟩:=bR.mp z;obtain⟨_,_,_,_,_,_,_,q',_⟩:=S.own z;exact cZ q'
 .obtain⟨i,y1,y2⟩:=dh q1;obtain⟨i',y3,y4⟩:=dh q2
  have:=S.inj i i' n y2 y4
  subst this;exact hs j k i y1 y3
 .rcases z with z |⟨_,z⟩
  .obtain⟨i,y1,y2⟩:=dh q;exact S.nx i n y2 z
  .exact z (bR.mpr ⟨j,q⟩)
 .have mv:Mov (Oc X ns) (Oc (Xin X ns sub) (cz sub ns)) h h:=λn o p q=>⟨⟨λz=>by
   rcases z with z |⟨z,_⟩
   .exact p.1 z
   .exact p.2 z,λz=>p.2 (mz z)⟩,q⟩
  have hj:∀{o},sub[j]?=some o->(cz sub ns)[j]?=some (o.bind λi=>(ns[i]?).bind id)/\(jP sub ae)[j]?=some (o.bind λi=>(ae[i]?).bind id):=λ{o} z=>by unfold cz jP;rw[MP,MP,z];exact⟨rfl,rfl⟩
  rcases jU q with ⟨z,rfl⟩ |⟨i,z,⟨y,rfl⟩ |⟨t,y,rfl⟩⟩
  .rw[(hj z).1];rfl
  .rw[(hj z).1];show some ((ns[i]?).bind id)=some none;have:ns[i]?=none:=by rw[Nm] at y ⊢;rw[S.l2];exact y
   rw[this];rfl
  .have k:=(S.sl i t y).mono mv λ_ _ _ q=>q;rw[(hj z).1,(hj z).2];show SlR _ h0 (some ((ns[i]?).bind id)) (some ((ae[i]?).bind id)) h (inS t);have w1:∀x,ns[i]?=some x->some ((ns[i]?).bind id)=some x:=λx q=>by rw[q];rfl
   have w2:∀x,ae[i]?=some x->some ((ae[i]?).bind id)=some x:=λx q=>by rw[q];rfl
   cases t with
   |no=>rw[w1 _ k];rfl
   |sh v=>obtain⟨k1,x,k2,k3⟩:=k;rw[w1 _ k1,w2 _ k2];exact⟨rfl,x,rfl,k3⟩
   |ow v=>obtain⟨m,o,k1,k2,_,k3⟩:=k;rw[w1 _ k1,w2 _ k2];exact⟨m,o,rfl,rfl,k3⟩
   |lo v=>obtain⟨m,o,k1,k2,_,k3⟩:=k;rw[w1 _ k1,w2 _ k2];exact⟨m,o,rfl,rfl,k3⟩
   |mu v=>obtain⟨m,o,k1,k2,k3⟩:=k;rw[w1 _ k1,w2 _ k2];exact⟨m,o,rfl,rfl,k3⟩
   |lm v=>obtain⟨m,o,k1,k2,k3⟩:=k;rw[w1 _ k1,w2 _ k2];exact⟨m,o,rfl,rfl,k3⟩
def vm(hs:nT sub):Lnk sub e (cn sub e):=by
 refine⟨hs,λj v q=>?_,λj s q hm=>?_⟩
 .rcases jU q with ⟨_,z⟩ |⟨i,z,⟨_,y⟩ |⟨t,y,y2⟩⟩
  .cases z
  .cases y
  .refine⟨i,t,z,y,?_⟩;cases t <;> first |rfl |cases y2
 .rcases jU q with ⟨_,z⟩ |⟨i,z,⟨_,y⟩ |⟨t,y,y2⟩⟩
  .subst z;cases hm
  .subst y;cases hm
  .subst y2;cases t with
   |ow v=>exact⟨v,rfl⟩
   |mu v=>exact⟨v,rfl⟩
   |_=>cases hm
section
variable{I:MI}{I3:MI3}{g:MG}{g3:MG3}{c:MT}{c3:MT3}{F:ME}{F3:ME3}
def GH(S:Sat X h0 ns e ae h)(hg:RG g g3)(hc:RT c c3)(hF:RE F F3)(hG:∀ns' e' h',Stp ns e h ns' e' h'->G h'):
 ∀
  {ds:List D}{vs:List Val},Rds (Oc X ns) h ds vs->∀{acc:List D}{accv:List Val}{ns1:Ns}{e1:E3}{i_:AE}{h1:AH},Stp ns e h ns1 e1 h1->Sat X h0 ns1 e1 i_ h1->Rds (Oc X ns1) h1 acc accv->lcV g3 c3 F3 vs accv e1=.ok ys e2->
  ∃dy h2 ns2 ae2,lcL G g c F ds acc i_ h1=.ok dy h2/\Stp ns e h ns2 e2 h2/\Sat X h0 ns2 e2 ae2 h2/\Rds (Oc X ns2) h2 dy ys:=by
 intro ds;induction ds with
 |nil=>intro vs r acc accv ns1 e1 i_ h1 a1 S1 ra q;cases r;unfold lcL;rw[if_pos (hG _ _ _ a1)];cases q;exact⟨acc,h1,ns1,i_,rfl,a1,S1,ra⟩
 |
  cons d0 ds ih=>
  intro vs r acc accv ns1 e1 i_ h1 a1 S1 ra q;cases r with
  |
   cons r rr=>
   rename_i v vs;unfold lcV at q;unfold lcL;by_cases hl:accv.length<16777216
   .rw[if_pos hl] at q;rw[if_pos ⟨hG _ _ _ a1,by rw[ra.len];exact hl⟩];cases q1:g3 v e1 with
    |none=>rw[q1] at q;cases q
    |
     some e3=>
     rw[q1] at q;dsimp only at q;obtain⟨ae3,ns3,p3,S3,a3⟩:=hg _ _ _ _ _ _ _ _ _ S1 (r.mono (a1.mov S)) q1;rw[p3,hE];have a13:=a1.trans S a3;have pc:=hc X h0 ns3 e3 ae3 h1 S3;cases q4:c3 e3 with
     |stuck=>rw[q4] at q;cases q
     |exc _ _=>rw[q4] at q;cases q
     |
      ok b e4=>
      rw[q4] at q pc;obtain⟨b',h4,ns4,p4,a4,S4,rfl⟩:=pc;rw[p4,hE];have a14:=a13.trans S a4;have ra4:=(ra.mono (a3.mov S1)).mono (a4.mov S3);have q':(if b'=true then (F3 e4).bind λt e3=>(match cN e3 t with
       |some (e4,y)=>lcV g3 c3 F3 _ (accv++[y]) e4
       |none=>.stuck) else lcV g3 c3 F3 _ accv e4)=.ok ys e2:=q
      by_cases hb:b'=true
      .rw[if_pos hb] at q' ⊢;have pF:=hF X h0 0 ns4 e4 ae3 h4 S4 (MX _);cases q5:F3 e4 with
       |stuck=>rw[q5] at q';cases q'
       |exc _ _=>rw[q5] at q';cases q'
       |
        ok t e5=>
        rw[q5] at q' pF;obtain⟨d5,h5,ns5,p5,a5,S5,r5⟩:=pF;rw[p5,hE];have q'':(match cN e5 t with
         |some (e4,y)=>lcV g3 c3 F3 _ (accv++[y]) e4
         |none=>.stuck)=.ok ys e2:=q'
        cases q6:cN e5 t with
        |none=>rw[q6] at q'';cases q''
        |some w=>obtain⟨e6,y⟩:=w;rw[q6] at q'';obtain⟨ns6,S6,a6,r6⟩:=fB S5 r5 q6;exact ih rr ((a14.trans S a5).trans S a6) S6 (((ra4.mono (a5.mov S4)).mono (a6.mov S5)).append (.cons r6 .nil)) q''
      .rw[if_neg hb] at q' ⊢;exact ih rr a14 S4 ra4 q'
   .rw[if_neg hl] at q;cases q
def L9(hs:(sub.filterMap id).Nodup)(hI:RI I I3)(hg:RG g g3)(hc:RT c c3)(hF:RE F F3):RE (eLC I sub g c F) (vLC I3 sub g3 c3 F3):=λX h0 L ns e ae h S hl=>
 Po.bind
  S (hI X h0 ns e ae h S) λit p h1 ns1 e1 a1 S1 r1=>by
  try dsimp only
  obtain⟨r2,gd,hk⟩:=r1;have hs':=yJ hs;have S2:=S1.lockO p.2;have S3:=S2.inner hs';cases q:lcV g3 c3 F3 p.1 [] (cn sub (lockO e1 p.2)) with
  |stuck=>trivial
  |exc _ _=>trivial
  |
   ok ys e2=>
   dsimp only;split
   .rename_i hy;have gd':∀ns' e' h',Stp (cz sub ns1) (cn sub (lockO e1 p.2)) h1 ns' e' h'->it.guard h':=λns' e' h' a=>gd h' λm o qm hm=>a.keep m o qm λ⟨j,s,z1,z2,z3⟩=>by
     obtain⟨i,y1,y2⟩:=dh z1;rcases hm with hm |⟨k,hk1,hk2⟩
     .exact hm.2 (bR.mpr ⟨i,y2⟩)
     .have:i=k:=S1.inj i k m y2 hk2;subst this;obtain⟨s',w1,w2⟩:=hk i hk1;rcases jU z2 with ⟨z,_⟩ |⟨i',z,y⟩
      .rw[y1] at z;cases z
      .rw[y1] at z;cases z;have hl:(lockO e1 p.2)[i]?=some (jA s'):=by rw[hk1];exact oU w1
       rcases y with ⟨y,_⟩ |⟨t,y,rfl⟩
       .rw[hl] at y;cases y
       .rw[hl] at y;cases y;cases s' <;> first |cases w2;done |cases z3;done
    have mvi:Mov (Oc X ns1) (Oc (Xin X ns1 sub) (cz sub ns1)) h1 h1:=λn o p q=>⟨⟨λz=>by
     rcases z with z |⟨z,_⟩
     .exact p.1 z
     .exact p.2 z,λz=>p.2 (mz z)⟩,q⟩
    obtain⟨dy,h2,ns2,ae2,p2,a2,S4,r4⟩:=GH (G:=it.guard) S3 hg hc hF gd' (r2.mono mvi) .refl S3 .nil q;have k3:∀n,Oc (Xin X ns1 sub) ns2 n->Oc X ns1 n:=λn z=>⟨λy=>z.1 (.inl y),λy=>by
     by_cases w:some n∈cz sub ns1
     .obtain⟨j,w⟩:=bR.mp w;obtain⟨s,v,o,b1,b2,_⟩:=S3.own w;rcases b2 with b2 |b2
      .obtain⟨v',rfl⟩:=(vm (e:=lockO e1 p.2) hs').mt j s b1 b2;obtain⟨u,c1,c2⟩:=a2.mu' j v' b1;exact z.2 (bR.mpr ⟨j,by rw[c2];exact w⟩)
      .obtain⟨c1,c2⟩:=a2.lk j s b1 b2;exact z.2 (bR.mpr ⟨j,by rw[c2];exact w⟩)
     .exact z.1 (.inr ⟨y,w⟩)⟩
    have bk:=S2.back (Y:=X) (vm hs') a2 (λn z=>⟨I_ (S2.xl n z) a2.len,.inl z⟩) (λ_ z=>z) λj v n q1 q2=>by obtain⟨s,u,o,b1,b2,b3,b4,b5,b6,b7⟩:=S4.own q2;rw[q1] at b1;cases b1;cases b3;exact⟨o,b5,b6,b7.mono λm o' z y=>⟨k3 m z,y⟩⟩
    obtain⟨S5,a5⟩:=bk;have r5:Rds (Oc X ns1) h2 dy ys:=r4.mono λm o' z y=>⟨k3 m z,y⟩;have k_:∀(e':E3),Sat X h0 ns1 e' ae h2->Stp ns1 e1 h1 ns1 e' h2->Po X h0 ns1 e1 ae h1 (relE X h0 L ae) ((noX (lcL it.guard g c F it.items [] (jP sub ae) h1)).bind eN) (.ok (.new (.lst ys)) e'):=λe' S6 a6=>by rw[p2];have pp:=BvR.po (L:=L) (r:=eN dy h2) (b:=.new (.lst ys)) S6 (G_ hl (G_ a1.len a6.len)) ⟨.lst dy,by unfold eN;rw[if_pos (by rw[r5.len];exact hy)],trivial,.lst r5⟩;obtain⟨d,h',ns',y,y1,y2,y3⟩:=pp;exact⟨d,h',ns',y,a6.trans S1 y1,y2,y3⟩
    cases hp:p.2 with
    |none=>rw[hp] at S5 a5;exact k_ _ S5 a5
    |some k=>rw[hp] at S5 a5;obtain⟨s,w1,w2⟩:=hk k hp;exact k_ _ (S5.unlock k) (a5.unlock w1 w2)
   .trivial
end
inductive R3F where
 |ok (r:Rt) (mv:List Val) |exc (c:Str) (mv:List Val) |stuck
abbrev Fn3:=List Val->R3F
noncomputable def sl1(b:Bool)(v:Val):Sl:=if b=true then .mu v else .sh v
noncomputable def sls(ms:List Bool)(vs:List Val):E3:=List.zipWith sl1 ms vs
noncomputable def bD:List Bool->List Val->E3
 |true::ms,v::vs=>.mu v::bD ms vs
 |true::ms,[]=>.no::bD ms []
 |false::ms,vs=>.no::bD ms vs
 | [],_=>[]
noncomputable def muV:List Bool->E3->Option (List Val)
 |true::ms,.mu v::e=>(muV ms e).map (v :: ·)
 |true::_,_=>none
 |false::ms,_::e=>muV ms e
 |false::_,[]=>none
 | [],_=>some []
def RFp(X:Nat->Prop)(ps:Ns)(ms:List Bool)(vs:List Val)(ds:List D)(h:AH)(r2:R D):R3F->Prop
 |.stuck=>True
 |.ok r mv=>∃d h',r2=.ok d h'/\Stp ps (sls ms vs) h ps (bD ms mv) h'/\RtR X h.length ps (bD ms mv) (ds.map some) h' d r
 |.exc c mv=>∃h',r2=.exc c h'/\Stp ps (sls ms vs) h ps (bD ms mv) h'/\Sat X h.length ps (bD ms mv) (ds.map some) h'
def RF(ms:List Bool)(G2:Fn)(G3:Fn3):Prop:=∀X ps ds vs h,vs.length=ms.length->Sat X h.length ps (sls ms vs) (ds.map some) h->RFp X ps ms vs ds h (G2 ds h) (G3 vs)
noncomputable def fnV(ms:List Bool)(N:Nat)(F:MS3):Fn3:=λvs=>if vs.length=ms.length then (match F (sls ms vs++List.replicate (N-vs.length) .no) with
 |.nx e=>(match muV ms e with |some mv=>.ok (.val .non) mv |none=>.stuck)
 |.rt r e=>(match muV ms e with |some mv=>.ok r mv |none=>.stuck)
 |.exc c e=>(match muV ms e with |some mv=>.exc c mv |none=>.stuck)
 |_=>.stuck) else .stuck
def fI{ms:List Bool}{vs:List Val}{i:Nat}{s:Sl}(q:(sls ms vs)[i]?=some s):∃b v,ms[i]?=some b/\vs[i]?=some v/\s=sl1 b v:=by
 unfold sls at q;rw[NF] at q;cases h1:ms[i]? with
 |none=>rw[h1] at q;cases q
 |
  some b=>
  cases h2:vs[i]? with
  |none=>rw[h1,h2] at q;cases q
  |some v=>rw[h1,h2] at q;cases q;exact⟨b,v,rfl,rfl,rfl⟩
theorem iE:∀{ms:List Bool}{e:E3}{mv:List Val}{i:Nat}{s:Sl},muV ms e=some mv->(bD ms mv)[i]?=some s->(ms[i]?=some false/\s=.no)\/(ms[i]?=some true/\∃v,e[i]?=some (.mu v)/\s=.mu v)
 | [],_,_,_,_,_,q=>by unfold bD at q;simp at q
 |
  true::ms,.mu v::e,mv,i,s,q,q2=>by
  obtain⟨mv',z1,z2⟩:=MF.mp (show (muV ms e).map (v :: ·)=some mv from q);subst z2;cases i with
  |zero=>
   right;have:Sl.mu v=s:=by simpa [bD] using q2
   subst this;exact⟨rfl,v,rfl,rfl⟩
  |
   succ i=>
   have:=iE (i:=i) (s:=s) z1 (by simpa [bD] using q2)
   simpa using this
 |true::ms,[],mv,i,s,q,q2=>by cases q
 |true::ms,.no::e,mv,i,s,q,q2=>by cases q
 |true::ms,.sh v::e,mv,i,s,q,q2=>by cases q
 |true::ms,.ow v::e,mv,i,s,q,q2=>by cases q
 |true::ms,.lo v::e,mv,i,s,q,q2=>by cases q
 |true::ms,.lm v::e,mv,i,s,q,q2=>by cases q
 |false::ms,[],mv,i,s,q,q2=>by cases q
 |
  false::ms,t::e,mv,i,s,q,q2=>by
  cases i with
  |zero=>
   left;have:Sl.no=s:=by simpa [bD] using q2
   exact⟨rfl,this.symm⟩
  |
   succ i=>
   have:=iE (i:=i) (s:=s) (show muV ms e=some mv from q) (by simpa [bD] using q2)
   simpa using this
theorem oH:∀{ms:List Bool}{e:E3}{mv:List Val}{i:Nat},muV ms e=some mv->ms[i]?=some true->∃v,e[i]?=some (.mu v)/\(bD ms mv)[i]?=some (.mu v)
 | [],_,_,i,_,q=>by simp at q
 |
  true::ms,.mu v::e,mv,i,q,q2=>by
  obtain⟨mv',z1,z2⟩:=MF.mp (show (muV ms e).map (v :: ·)=some mv from q);subst z2;cases i with
  |zero=>exact⟨v,rfl,rfl⟩
  |succ i=>obtain⟨u,y1,y2⟩:=oH (i:=i) z1 (by simpa using q2);exact⟨u,by simpa using y1,by simpa [bD] using y2⟩
 |true::ms,[],mv,i,q,q2=>by cases q
 |true::ms,.no::e,mv,i,q,q2=>by cases q
 |true::ms,.sh v::e,mv,i,q,q2=>by cases q
 |true::ms,.ow v::e,mv,i,q,q2=>by cases q
 |true::ms,.lo v::e,mv,i,q,q2=>by cases q
 |true::ms,.lm v::e,mv,i,q,q2=>by cases q
 |false::ms,[],mv,i,q,q2=>by cases q
 |
  false::ms,t::e,mv,i,q,q2=>by
  cases i with
  |zero=>simp at q2
  |succ i=>obtain⟨u,y1,y2⟩:=oH (i:=i) (show muV ms e=some mv from q) (by simpa using q2);exact⟨u,by simpa using y1,by simpa [bD] using y2⟩
theorem ip:∀{ms:List Bool}{mv:List Val},(bD ms mv).length=ms.length
 | [],_=>rfl
 |true::ms,v::mv=>by show (bD ms mv).length+1=ms.length+1;rw[ip]
 |true::ms,[]=>by show (bD ms []).length+1=ms.length+1;rw[ip]
 |false::ms,mv=>by show (bD ms mv).length+1=ms.length+1;rw[ip]
def CC(hF:RS F F3):RF ms (fnD N F) (fnV ms N F3):=λX ps ds vs h hl S=>by
 unfold fnV;rw[if_pos hl];have lS:(sls ms vs).length=vs.length:=by unfold sls;rw[NN];omega
 have lD:ds.length=vs.length:=by have:=S.l1;rw[v_,lS] at this;exact this
 have lP:ps.length=vs.length:=S.l2.trans lS;have ltS:∀{i:Nat},i<ms.length->i<(sls ms vs).length:=λh=>by omega
 have ltP:∀{i:Nat},i<(sls ms vs).length->i<ps.length:=λh=>S.l2.symm ▸ h;have S1
  : Sat X h.length (ps++List.replicate (N-vs.length) none) (sls ms vs++List.replicate (N-vs.length) .no) (ds.map some++List.replicate (N-vs.length) none) h:=by
  have mns:∀n,some n∈ps++List.replicate (N-vs.length) (none:Option Nat) ↔ some n∈ps:=λn=>by
   rw[M7];constructor
   .rintro (z |z)
    .exact z
    .have:=List.eq_of_mem_replicate z;cases this
   .exact .inl
  have gns:∀{i n:Nat},(ps++List.replicate (N-vs.length) (none:Option Nat))[i]?=some (some n)->ps[i]?=some (some n):=λ{i n} q=>by
   rw[OB] at q;split at q
   .exact q
   .rw[Nb] at q;split at q <;> cases q
  refine⟨?_,?_,S.lh,S.xl,λi j n q1 q2=>S.inj i j n (gns q1) (gns q2),λi n q=>S.nx i n (gns q),λi s q=>?_⟩
  .rw[E_,E_,Ng,Ng,S.l1]
  .rw[E_,E_,Ng,Ng,S.l2]
  .rw[OB] at q;split at q
   .rename_i hi;have k:=S.sl i s q;rw[MH (ltP hi),MH (by rw[S.l1];exact hi)];exact k.mono (λn o p q=>⟨⟨p.1,λz=>p.2 ((mns n).mp z)⟩,q⟩) λ_ _ _ q=>q
   .rename_i hi;rw[Nb] at q;split at q
    .cases q;rw[MW (by rw[S.l2];exact Nat.le_of_not_lt hi),Nb,if_pos (by rw[S.l2];assumption)];rfl
    .cases q
 have p:=hF _ _ _ _ _ _ S1;have e2:fnD N F ds h=match F (ds.map some++List.replicate (N-vs.length) none) h with
  |.nx _ h'=>.ok .non h'
  |.rt d h'=>.ok d h'
  |.exc c _ h'=>.exc c h'
  |_=>.stuck:=by rw[<- lD];rfl
 rw[e2];have k_:∀(Y:Nat->Prop) (ns':Ns) (e':E3) (c_:AE) (h':AH) (mv:List Val),(∀n,X n->Y n)->Stp (ps++List.replicate (N-vs.length) none) (sls ms vs++List.replicate (N-vs.length) .no) h ns' e' h'->Sat Y h.length ns' e' c_ h'->muV ms e'=some mv->
  Stp ps (sls ms vs) h ps (bD ms mv) h'/\Sat Y h.length ps (bD ms mv) (ds.map some) h'/\∀n,Oc Y ns' n->Oc Y ps n:=by
  intro Y ns' e' c_ h' mv hXY a S2 qm;have kmu:∀{i:Nat},ms[i]?=some true->∃v u n o,e'[i]?=some (.mu v)/\(bD ms mv)[i]?=some (.mu v)/\(sls ms vs)[i]?=some (.mu u)/\ns'[i]?=ps[i]?/\ps[i]?=some (some n)/\(ds.map some)[i]?=some (some (.ref n))/\h'[n]?=some o/\cH o/\Rc (Oc Y ns') h' o v:=by intro i hi;obtain⟨v,y1,y2⟩:=oH qm hi;have hil:i<ms.length:=(x_.mp hi).1;obtain⟨u,y3,y4⟩:=a.mu i v y1;rw[MH (ltS hil)] at y3;rw[MH (ltP (ltS hil))] at y4;obtain⟨n,o,z1,z2,_⟩:=S.sl i _ y3;obtain⟨n',o',w1,w2,w3,w4,w5⟩:=S2.sl i _ y1;rw[y4,z1] at w1;cases w1;exact⟨v,u,n,o',y1,y2,y3,y4,z1,z2,w3,w4,w5⟩
  have kown:∀{i n:Nat},ps[i]?=some (some n)->ms[i]?=some true:=λ{i n} q=>by
   obtain⟨s,v,o,z1,z2,_⟩:=S.own q;obtain⟨b,u,y1,_,y2⟩:=fI z1;cases b with
   |true=>exact y1
   |false=>subst y2;rcases z2 with z2 |z2 <;> cases z2
  have koc:∀n,Oc Y ns' n->Oc Y ps n:=λn z=>⟨z.1,λy=>by obtain⟨i,y⟩:=bR.mp y;obtain⟨v,u,n',o,_,_,_,k1,k2,_⟩:=kmu (kown y);exact z.2 (bR.mpr ⟨i,by rw[k1];exact y⟩)⟩;refine⟨⟨a.len,λm o q hm=>a.keep m o q λ⟨i,s,z1,z2,z3⟩=>hm ?_,λ_ _ q=>.inl q,λi s q hl'=>?_,λi s q hl'=>?_,λi v q=>?_,λi v q=>?_⟩,⟨?_,?_,G_ (y_ _) a.len,S2.xl,S.inj,λi n q z=>?_,λi s q=>?_⟩,koc⟩
  .rw[OB] at z1;split at z1
   .rename_i hi;rw[MH (by rw[<- S.l2];exact hi)] at z2;exact⟨i,s,z1,z2,z3⟩
   .rw[Nb] at z1;split at z1 <;> cases z1
  .obtain⟨b,u,_,_,y⟩:=fI q;subst y;cases b <;> cases hl'
  .rcases iE qm q with ⟨_,z⟩ |⟨_,v,_,z⟩ <;> subst z <;> cases hl'
  .rcases iE qm q with ⟨_,z⟩ |⟨z,_⟩
   .cases z
   .obtain⟨v',u,n,o,_,_,k1,_⟩:=kmu z;exact⟨u,k1,rfl⟩
  .obtain⟨b,u,y1,_,y2⟩:=fI q;cases b with
   |false=>cases y2
   |true=>obtain⟨v',u,n,o,_,k0,k1,_⟩:=kmu y1;exact⟨v',k0,rfl⟩
  .rw[v_,ip];omega
  .rw[ip];omega
  .obtain⟨v,u,n',o,_,_,_,k1,k2,_⟩:=kmu (kown q);exact S2.nx i n (by rw[k1];exact q) z
  .rcases iE qm q with ⟨z,rfl⟩ |⟨z,v,z2,rfl⟩
   .have hil:i<ms.length:=(x_.mp z).1;have hi:i<(sls ms vs).length:=ltS hil;obtain⟨b,u,y1,_,y2⟩:=fI (MJ hi);rw[z] at y1;cases y1;have k:=S.sl i _ (MJ hi);rw[y2] at k;exact k.1
   .obtain⟨v',u,n,o,k0,_,_,k1,k2,k3,k4,k5,k6⟩:=kmu z;rw[z2] at k0;cases k0;exact⟨n,o,k2,k3,k4,k5,k6.mono λm o' y q=>⟨koc m y,q⟩⟩
 generalize F3 (sls ms vs++List.replicate (N-vs.length) .no)=r3 at *;cases r3 with
 |stuck=>trivial
 |bk _=>trivial
 |ct _=>trivial
 |
  nx e'=>
  obtain⟨c_,h',ns',q,a,S2⟩:=p;rw[q];dsimp only;cases qm:muV ms e' with
  |none=>trivial
  |some mv=>obtain⟨a3,S3,koc⟩:=k_ X ns' e' c_ h' mv (λ_ z=>z) a S2 qm;exact⟨.non,h',rfl,a3,S3,.non⟩
 |
  exc c e'=>
  obtain⟨c_,h',ns',q,a,S2⟩:=p;rw[q];dsimp only;cases qm:muV ms e' with
  |none=>trivial
  |some mv=>obtain⟨a3,S3,koc⟩:=k_ X ns' e' c_ h' mv (λ_ z=>z) a S2 qm;exact⟨h',rfl,a3,S3⟩
 |
  rt r e'=>
  obtain⟨d,c_,h',ns',q,a,rr⟩:=p;rw[q];dsimp only;cases qm:muV ms e' with
  |none=>trivial
  |
   some mv=>
   cases r with
   |val v=>obtain⟨a3,S3,koc⟩:=k_ X ns' e' c_ h' mv (λ_ z=>z) a rr.1 qm;exact⟨d,h',rfl,a3,S3,rr.2.mono λm o y q=>⟨koc m y,q⟩⟩
   |new v=>obtain⟨n,o,z1,z2,z3,z4,z5,z6,z7⟩:=rr;obtain⟨a3,S3,koc⟩:=k_ (Xn X n) ns' e' c_ h' mv (λ_ z=>.inl z) a z6 qm;exact⟨d,h',rfl,a3,n,o,z1,z2,z3,z4,z5,S3,z7.mono λm o y q=>⟨koc m y,q⟩⟩
   |pr v u=>obtain⟨d1,n,o,z1,z2,z3,z4,z5,z6,z7,z8⟩:=rr;obtain⟨a3,S3,koc⟩:=k_ (Xn X n) ns' e' c_ h' mv (λ_ z=>.inl z) a z6 qm;exact⟨d,h',rfl,a3,d1,n,o,z1,z2,z3,z4,z5,S3,z7.mono λm o y q=>⟨koc m y,q⟩,z8.mono λm o y q=>⟨koc m y,q⟩⟩
   |
    par i=>
    obtain⟨R1,R2,v,R3⟩:=rr;obtain⟨a3,S3,koc⟩:=k_ X ns' e' c_ h' mv (λ_ z=>z) a R1 qm;obtain⟨u,k1,k2⟩:=a.mu i v R3;have hi:i<(sls ms vs).length:=by apply Decidable.byContradiction;intro hi;rw[MW (Nat.le_of_not_lt hi),Nb] at k1;split at k1 <;> cases k1
    rw[MH hi] at k1;rw[MH (by rw[S.l2];exact hi)] at k2;obtain⟨m,o,w1,w2,_⟩:=S.sl i _ k1;obtain⟨m',o',x1,x2,_⟩:=R1.sl i _ R3;rw[k2,w1] at x1;cases x1;rw[R2] at x2;cases x2;obtain⟨v',y,_⟩:=a3.mu' i u k1;exact⟨_,h',rfl,a3,S3,w2,v',y⟩
noncomputable def iZ(i:Nat):List Tm->Bool
 |.bor j::ts=>(i==j) || iZ i ts
 |_::ts=>iZ i ts
 | []=>false
noncomputable def i5(i:Nat):List Bool->List Tm->Bool
 |true::ms,.bor j::ts=>(i==j) || i5 i ms ts
 |_::ms,_::ts=>i5 i ms ts
 |_,_=>false
noncomputable def okA(e:E3):List Bool->List Tm->Bool
 |true::ms,.bor i::ts=>((e[i]?).bind Sl.mv).isSome && !(iZ i ts)&&okA e ms ts
 |true::_,_::_=>false
 |false::ms,.bor i::ts=>!(i5 i ms ts)&&okA e ms ts
 |false::ms,_::ts=>okA e ms ts
 | [],[]=>true
 |_,_=>false
noncomputable def n5(b:Bool)(t:Tm):Option Nat:=match b,t with
 |true,.bor i=>some i
 |_,_=>none
noncomputable def bN(ms:List Bool)(ts:List Tm):List (Option Nat):=List.zipWith n5 ms ts
noncomputable def bI(e:E3):List Bool->List Tm->List Nat
 |false::ms,.bor i::ts=>(match e[i]? with
  |some (.sh _)=>bI e ms ts
  |_=>i::bI e ms ts)
 |_::ms,_::ts=>bI e ms ts
 |_,_=>[]
mutual
def flatV:Val->Bool
 |.tup xs=>flatVs xs
 |.lst _=>false
 |.kl _=>false
 |.dct _=>false
 |.set _=>false
 |_=>true
def flatVs:List Val->Bool
 | []=>true
 |v::vs=>flatV v&&flatVs vs
end
noncomputable def m7:List (Key×Val)->Bool
 | []=>true
 |(_,v)::vs=>flatV v&&m7 vs
noncomputable def cK:Val->Bool
 |.lst xs=>flatVs xs
 |.dct xs=>m7 xs
 |.set _=>true
 |_=>false
def fO:Rt->Bool
 |.val v=>flatV v
 |.new v=>cK v
 |.par _=>true
 |.pr v u=>flatV v&&cK u
noncomputable def oR(e:E3):List Nat->Option E3
 | []=>some e
 |i::is=>match cN e (.bor i) with
  |some (e1,_)=>oR e1 is
  |none=>none
def Rt.tm(ts:List Tm):Rt->Tm
 |.val v=>.val v
 |.new v=>.new v
 |.par i=>(ts[i]?).getD (.val .non)
 |.pr v u=>.val (.tup [v,u])
noncomputable def Cg(ms:List Bool)(G:Fn3)(A:MA3):ME3:=λe=>(A e).bind λts e1=>match rss e1 ts with
 |none=>.stuck
 |some vs=>if okA e1 ms ts=true then (match G vs with
  |.stuck=>.stuck
  |.ok r mv=>if (bI e1 ms ts).isEmpty || (fO r&&mv.all cK) then .ok (r.tm ts) (bH (bN ms ts) (bD ms mv) e1) else (match oR e1 (bI e1 ms ts) with
   |some e2=>.ok (r.tm ts) (bH (bN ms ts) (bD ms mv) e2)
   |none=>.stuck)
  |.exc c mv=>if (bI e1 ms ts).isEmpty || mv.all cK then .exc c (bH (bN ms ts) (bD ms mv) e1) else .stuck) else .stuck
section
variable{P P':Nat->Prop}{h h':AH}
def Rd.flat(f:flatV v=true)(r:Rd P h d v):Rd P' h' d v:=
 @Rd.rec P h (λd v _=>flatV v=true->Rd P' h' d v) (λo v _=>flatV v=true->Rd P' h' .non v) (λds vs _=>flatVs vs=true->Rds P' h' ds vs) (λws us _=>True) (λ_=>.non) (λb _=>.bl b) (λi _=>.int i) (λx _=>.str x) (λn _=>.ty n) (λx _=>.glb x) (λx _=>.exc x) (λ_ ih f=>.tup (ih f)) (λ_ _ f=>absurd f D_) (λ_ _ r _ f=>by cases r <;> exact absurd f D_) (λ_ _ f=>absurd f D_) (λ_ _ f=>absurd f D_) (λ_ _ f=>absurd f D_) (λ_ f=>absurd f D_) (λ_=>.nil) (λ_ _ a b f=>.cons (a (z_ .. ▸ f).1) (b (z_ .. ▸ f).2)) trivial (λ_ _ _ _=>trivial) d v r f
def Rds.flat(f:flatVs v=true)(r:Rds P h d v):Rds P' h' d v:=
 r.ind (M:=λds vs=>flatVs vs=true->Rds P' h' ds vs) (λ_=>.nil) (λr _ ih f=>by rw[flatVs,z_] at f;exact .cons (Rd.flat f.1 r) (ih f.2)) f
def Rk.flat(f:m7 v=true)(r:Rk P h d v):Rk P' h' d v:=
 r.ind (M:=λds vs=>m7 vs=true->Rk P' h' ds vs) (λ_=>.nil) (λr _ ih f=>by rw[m7,z_] at f;exact .cons (Rd.flat f.1 r) (ih f.2)) f
def Rc.flat(f:cK v=true)(r:Rc P h o v):Rc P' h' o v:=by
 cases r with
 |lst r=>exact .lst (Rds.flat (by simpa [cK] using f) r)
 |fz r=>simp [cK] at f
 |dct r=>exact .dct (Rk.flat (by simpa [cK] using f) r)
 |set xs=>exact .set xs
end
theorem oI:∀{ts:List Tm}{k:Nat},ts[k]?=some (.bor i)->iZ i ts=true
 | [],_,q=>by simp at q
 |
  t::ts,0,q=>by
  have:t=.bor i:=by simpa using q
  subst this;simp [iZ]
 |
  t::ts,k+1,q=>by
  have:=oI (ts:=ts) (k:=k) (by simpa using q)
  cases t <;> simp [iZ,this]
theorem vp:∀{ms:List Bool}{ts:List Tm}{k:Nat},ms[k]?=some true->ts[k]?=some (.bor i)->i5 i ms ts=true
 | [],_,_,q,_=>by simp at q
 |_::_,[],_,_,q=>by simp at q
 |
  b::ms,t::ts,0,q1,q=>by
  have:t=.bor i:=by simpa using q
  have:b=true:=by simpa using q1
  subst_vars;simp [i5]
 |
  b::ms,t::ts,k+1,q1,q=>by
  have:=vp (ms:=ms) (ts:=ts) (k:=k) (by simpa using q1) (by simpa using q)
  cases b <;> cases t <;> simp [i5,this]
theorem lj:∀{ms:List Bool}{ts:List Tm}{k:Nat},okA e ms ts=true->ms[k]?=some true->∃i,ts[k]?=some (.bor i)/\∃u,(e[i]?).bind Sl.mv=some u
 | [],_,_,_,q=>by simp at q
 |b::ms,[],_,o,_=>by cases b <;> simp [okA] at o
 |
  b::ms,t::ts,0,o,q=>by
  have:b=true:=by simpa using q
  subst this;cases t with
  |bor i=>simp only[okA,z_] at o;exact⟨i,rfl,Nr.mp o.1.1⟩
  |_=>simp [okA] at o
 |
  b::ms,t::ts,k+1,o,q=>by
  have o':okA e ms ts=true:=by cases b <;> cases t <;> simp only[okA,z_] at o <;> first |exact o.2 |exact o |(simp at o;done)
  obtain⟨i,y⟩:=lj (k:=k) o' (by simpa using q);exact⟨i,by simpa using y⟩
theorem je:∀{ms:List Bool}{ts:List Tm}{k j i:Nat},okA e ms ts=true->ms[k]?=some true->ts[k]?=some (.bor i)->ts[j]?=some (.bor i)->j=k
 | [],_,_,_,_,_,q,_,_=>by simp at q
 |b::ms,[],_,_,_,o,_,_,_=>by cases b <;> simp [okA] at o
 |b::ms,t::ts,0,0,i,o,q1,q2,q3=>rfl
 |
  b::ms,t::ts,0,j+1,i,o,q1,q2,q3=>by
  have h1:b=true:=by simpa using q1
  have h2:t=.bor i:=by simpa using q2
  subst h1 h2;simp only[okA,z_] at o
  have:=oI (i:=i) (ts:=ts) (k:=j) (by simpa using q3)
  rw[this] at o;simp at o
 |
  b::ms,t::ts,k+1,0,i,o,q1,q2,q3=>by
  have h2:t=.bor i:=by simpa using q3
  subst h2;have hm:=vp (i:=i) (ms:=ms) (ts:=ts) (k:=k) (by simpa using q1) (by simpa using q2);have hb:=oI (i:=i) (ts:=ts) (k:=k) (by simpa using q2);cases b <;> simp [okA,hm,hb] at o
 |
  b::ms,t::ts,k+1,j+1,i,o,q1,q2,q3=>by
  have o':okA e ms ts=true:=by cases b <;> cases t <;> simp only[okA,z_] at o <;> first |exact o.2 |exact o |(simp at o;done)
  exact Nd (· + 1) (je (k:=k) (j:=j) (i:=i) o' (by simpa using q1) (by simpa using q2) (by simpa using q3))
theorem gi:∀{ms:List Bool}{ts:List Tm},okA e ms ts=true->ms.length=ts.length
 | [],[],_=>rfl
 | [],_::_,o=>by simp [okA] at o
 |b::ms,[],o=>by cases b <;> simp [okA] at o
 |
  b::ms,t::ts,o=>by
  have o':okA e ms ts=true:=by cases b <;> cases t <;> simp only[okA,z_] at o <;> first |exact o.2 |exact o |(simp at o;done)
  exact Nd (· + 1) (gi o')
theorem mJ:∀{ms:List Bool}{ts:List Tm}{k i:Nat},ms[k]?=some false->ts[k]?=some (.bor i)->(∀v,e[i]?≠some (.sh v))->i∈bI e ms ts
 | [],_,_,_,q,_,_=>by simp at q
 |_::_,[],_,_,_,q,_=>by simp at q
 |
  b::ms,t::ts,0,i,q1,q2,hn=>by
  have h1:b=false:=by simpa using q1
  have h2:t=.bor i:=by simpa using q2
  subst h1 h2;unfold bI;split
  .rename_i v q;exact absurd q (hn v)
  .exact H_ ..
 |
  b::ms,t::ts,k+1,i,q1,q2,hn=>by
  have ih:=mJ (ms:=ms) (ts:=ts) (k:=k) (by simpa using q1) (by simpa using q2) hn;cases b <;> cases t <;> simp only[bI] <;> first |exact ih |(split;exact ih;exact A_ _ ih)
def fu{ms:List Bool}{ts:List Tm}{k i:Nat}(q:(bN ms ts)[k]?=some (some i)):ms[k]?=some true/\ts[k]?=some (.bor i):=by
 unfold bN at q;rw[NF] at q;cases h1:ms[k]? with
 |none=>rw[h1] at q;cases q
 |
  some b=>
  cases h2:ts[k]? with
  |none=>rw[h1,h2] at q;cases q
  |some t=>rw[h1,h2] at q;have q':n5 b t=some i:=MC q;cases b <;> cases t <;> first |(cases q';done) |(cases q';exact⟨rfl,rfl⟩)
def CV{ms:List Bool}{ts:List Tm}{k i:Nat}(q1:ms[k]?=some true)(q2:ts[k]?=some (.bor i)):(bN ms ts)[k]?=some (some i):=by unfold bN;rw[NF,q1,q2];rfl
theorem vk:∀{ts:List Tm}{vs:List Val}{k:Nat}{v:Val},rss e ts=some vs->vs[k]?=some v->∃t,ts[k]?=some t/\rs e t=some v
 | [],_,_,_,q,q2=>by cases q;simp at q2
 |
  t::ts,vs,k,v,q,q2=>by
  unfold rss at q;split at q
  .rename_i u us e1 e2;cases q;cases k with
   |zero=>
    have:u=v:=by simpa using q2
    subst this;exact⟨t,rfl,e1⟩
   |succ k=>obtain⟨t',y1,y2⟩:=vk (k:=k) e2 (by simpa using q2);exact⟨t',by simpa using y1,y2⟩
  .cases q
theorem jo:∀{ts:List Tm}{vs:List Val},rss e ts=some vs->vs.length=ts.length
 | [],_,q=>by cases q;rfl
 |
  t::ts,vs,q=>by
  unfold rss at q;split at q
  .rename_i u us e1 e2;cases q;exact Nd (· + 1) (jo e2)
  .cases q
theorem TsR.get:∀{ds:List D}{ts:List Tm}{k:Nat}{t:Tm},TsR X ns ae h ds ts->ts[k]?=some t->∃d,ds[k]?=some d/\((∃v,t=.val v/\Rd (Oc X ns) h d v)\/∃i,t=.bor i/\ae[i]?=some (some d))
 |_,_,_,_,.nil,q=>by simp at q
 |_,_,0,_,.val r rr,q=>by have:=(by simpa using q:Tm.val _=_);subst this;exact⟨_,rfl,.inl ⟨_,rfl,r⟩⟩
 |_,_,0,_,.bor r rr,q=>by have:=(by simpa using q:Tm.bor _=_);subst this;exact⟨_,rfl,.inr ⟨_,rfl,r⟩⟩
 |_,_,k+1,t,.val r rr,q=>by obtain⟨d,y⟩:=rr.get (k:=k) (by simpa using q);exact⟨d,by simpa using y⟩
 |_,_,k+1,t,.bor r rr,q=>by obtain⟨d,y⟩:=rr.get (k:=k) (by simpa using q);exact⟨d,by simpa using y⟩
def Xc(X:Nat->Prop)(ns:Ns)(e:E3)(ms:List Bool)(ts:List Tm)(n:Nat):Prop:=(X n\/some n∈ns)/\some n∉cz (bN ms ts) ns/\∀i∈bI e ms ts,ns[i]?≠some (some n)
def lZ(S:Sat X h0 ns e ae h)(rt:TsR X ns ae h ds ts)(qv:rss e ts=some vs)(ok:okA e ms ts=true):
 Sat (Xc X ns e ms ts) h.length (cz (bN ms ts) ns) (sls ms vs) (ds.map some) h:=by
 have l1:=gi ok;have l2:=jo qv;have l3:=TsR.len rt;have hs:nT (bN ms ts):=λj k i q1 q2=>je ok (fu q2).1 (fu q2).2 (fu q1).2;have mv:Mov (Oc X ns) (Oc (Xc X ns e ms ts) (cz (bN ms ts) ns)) h h:=λn o p q=>⟨⟨λz=>by
  rcases z.1 with z |z
  .exact p.1 z
  .exact p.2 z,λz=>p.2 (mz z)⟩,q⟩
 refine⟨?_,?_,y_ _,λn z=>?_,λj k n q1 q2=>?_,λj n q z=>z.2.1 (bR.mpr ⟨j,q⟩),λk s q=>?_⟩
 .unfold sls;rw[v_,NN];omega
 .unfold cz bN sls;rw[v_,NN,NN];omega
 .rcases z.1 with z |z
  .exact S.xl n z
  .obtain⟨i,z⟩:=bR.mp z;obtain⟨_,_,_,_,_,_,_,q',_⟩:=S.own z;exact cZ q'
 .obtain⟨i,y1,y2⟩:=dh q1;obtain⟨i',y3,y4⟩:=dh q2
  have:=S.inj i i' n y2 y4
  subst this;exact hs j k i y1 y3
 .obtain⟨b,v,
   q1,q2,rfl⟩:=fI q
  obtain⟨t,q3,q4⟩:=vk qv q2;obtain⟨d,q5,q6⟩:=rt.get q3;have qd:(ds.map some)[k]?=some (some d):=by rw[MP,q5];rfl
  rw[qd];have qn:(cz (bN ms ts) ns)[k]?=some ((n5 b t).bind λi=>(ns[i]?).bind id):=by unfold cz bN;rw[MP,NF,q1,q3];rfl
  rw[qn];cases b with
  |
   true=>
   obtain⟨i,y1,u,y2⟩:=lj ok q1;rw[q3] at y1;cases y1;have q4':(e[i]?).bind Sl.val=some v:=q4;obtain⟨s,z1,z2⟩:=M4.mp y2;rw[z1] at q4';have hv:s.val=some v:=q4';have huv:u=v:=by cases s <;> first |cases z2;done |(cases z2;cases hv;rfl)
   subst huv;have hns:∃n,ns[i]?=some (some n):=by
    have y:=S.sl i s z1;cases s with
    |ow v=>obtain⟨n,o,y1,_⟩:=y;exact⟨n,y1⟩
    |mu v=>obtain⟨n,o,y1,_⟩:=y;exact⟨n,y1⟩
    |_=>cases z2
   obtain⟨n,hn⟩:=hns;obtain⟨n',o,k1,k2,k3,k4,_⟩:=S.write z1 z2;rcases q6 with ⟨_,z,_⟩ |⟨i',z,q6⟩
   .cases z
   .cases z;rw[q6] at k1;cases k1;obtain⟨_,_,_,_,_,_,w,_⟩:=S.own hn;rw[q6] at w;cases w;exact⟨n,o,by show some ((ns[i]?).bind id)=_;rw[hn];rfl,rfl,k2,k3,k4.mono mv⟩
  |
   false=>
   refine⟨by cases t <;> rfl,d,rfl,?_⟩;rcases q6 with ⟨u,rfl,q6⟩ |⟨i,rfl,q6⟩
   .cases q4;exact q6.mono mv
   .have q4':(
     e[i]?).bind Sl.val=some v:=q4
    rcases S.bor q6 q4' with z |⟨n,o,rfl,z1,z2⟩
    .exact z.mono mv
    .refine .cell ⟨λy=>?_,λy=>?_⟩ z1 (z2.mono mv)
     .
      by_cases hsh:∃w,e[i]?=some (.sh w)
      .obtain⟨w,hsh⟩:=hsh;obtain⟨_,x,w1,w2⟩:=S.sl i _ hsh;rw[q6] at w1;cases w1;cases w2 with
       |cell p _ _=>rcases y.1 with y |y;exact p.1 y;exact p.2 y
      .have hl:=mJ q1 q3 λw z=>hsh ⟨w,z⟩;cases w:ns[i]? with
       |
        none=>
        have hi:i<e.length:=by
         cases z:e[i]? with
         |none=>rw[z] at q4';cases q4'
         |some _=>exact (x_.mp z).1
        rw[Nm,S.l2] at w;omega
       |
        some w'=>
        cases w' with
        |
         none=>
         cases z:e[i]? with
         |none=>rw[z] at q4';cases q4'
         |
          some s=>
          have k:=S.sl i s z;rw[w] at k;cases s with
          |no=>rw[z] at q4';cases q4'
          |sh w=>exact hsh ⟨w,z⟩
          |ow w=>obtain⟨_,_,k,_⟩:=k;cases k
          |lo w=>obtain⟨_,_,k,_⟩:=k;cases k
          |mu w=>obtain⟨_,_,k,_⟩:=k;cases k
          |lm w=>obtain⟨_,_,k,_⟩:=k;cases k
        |some n'=>obtain⟨_,_,_,_,_,_,w2,_⟩:=S.own w;rw[q6] at w2;cases w2;exact y.2.2 i hl w
     .obtain⟨j,y⟩:=bR.mp y;obtain⟨i',y1,y2⟩:=dh y;obtain⟨y3,y4⟩:=fu y1;obtain⟨_,_,_,_,_,_,w2,_⟩:=S.own y2;have:i'
       = i:=by
       cases w:ns[i]? with
       |
        none=>
        have hi:i<e.length:=by
         cases z:e[i]? with
         |none=>rw[z] at q4';cases q4'
         |some _=>exact (x_.mp z).1
        rw[Nm,S.l2] at w;omega
       |
        some w'=>
        cases w' with
        |some n'=>obtain⟨_,_,_,_,_,_,w3,_⟩:=S.own w;rw[q6] at w3;cases w3;exact S.inj i' i n y2 w
        |
         none=>
         cases z:e[i]? with
         |none=>rw[z] at q4';cases q4'
         |
          some s=>
          have k:=S.sl i s z;rw[w,q6] at k;cases s with
          |no=>rw[z] at q4';cases q4'
          |
           sh w=>
           obtain⟨_,x,k1,k2⟩:=k;cases k1;cases k2 with
           |cell p _ _=>exact (p.2 (bR.mpr ⟨i',y2⟩)).elim
          |ow w=>obtain⟨_,_,k,_⟩:=k;cases k
          |lo w=>obtain⟨_,_,k,_⟩:=k;cases k
          |mu w=>obtain⟨_,_,k,_⟩:=k;cases k
          |lm w=>obtain⟨_,_,k,_⟩:=k;cases k
      subst this
      have:=je ok y3 y4 q3
      subst this;rw[q1] at y3;cases y3
theorem fD:∀{ms:List Bool}{mv:List Val}{j:Nat}{v:Val},(bD ms mv)[j]?=some (.mu v)->v∈mv
 | [],_,_,_,q=>by simp [bD] at q
 |true::ms,u::mv,0,v,q=>by
  have:Sl.mu u=.mu v:=by simpa [bD] using q
  cases this;exact H_ ..
 |true::ms,u::mv,j+1,v,q=>A_ _ (fD (ms:=ms) (mv:=mv) (j:=j) (by simpa [bD] using q))
 |true::ms,[],0,v,q=>by simp [bD] at q
 |true::ms,[],j+1,v,q=>fD (ms:=ms) (mv:=[]) (j:=j) (by simpa [bD] using q)
 |false::ms,mv,0,v,q=>by simp [bD] at q
 |false::ms,mv,j+1,v,q=>fD (ms:=ms) (mv:=mv) (j:=j) (by simpa [bD] using q)
theorem mK:∀{ms:List Bool}{ts:List Tm}{i:Nat},i∈bI e ms ts->∃k:Nat,ms[k]?=some false/\ts[k]?=some (.bor i)
 | [],_,_,q=>by simp [bI] at q
 |_::_,[],_,q=>by simp [bI] at q
 |
  b::ms,t::ts,i,q=>by
  have up:i∈bI e ms ts->∃k:Nat,(b::ms)[k]?=some false/\(t::ts)[k]?=some (.bor i):=λz=>by obtain⟨k,y1,y2⟩:=mK z;exact⟨k+1,by simpa using y1,by simpa using y2⟩
  cases b <;> cases t <;> simp only[bI] at q <;> first |exact up q |skip
  split at q
  .exact up q
  .rcases MN.mp q with rfl |q
   .exact⟨0,rfl,rfl⟩
   .exact up q
def Dg(q:cN e (.bor i)=some (e1,v)):(∀j,j≠i->e1[j]?=e[j]?)/\e1[i]?=some (.sh v)/\(e[i]?).bind Sl.val=some v:=by
 unfold cN at q;dsimp only at q;split at q
 .rename_i u q1;cases q;exact⟨λ_ _=>rfl,q1,by rw[q1];rfl⟩
 .rename_i u q1;cases q;exact⟨λj z=>cq z,cC (x_.mp q1).1,by rw[q1];rfl⟩
 .cases q
theorem sE:∀{is:List Nat}{ns:Ns}{e e2:E3},Sat X h0 ns e ae h->(∀i∈is,∃d,ae[i]?=some (some d))->oR e is=some e2->∃ns2,Sat X h0 ns2 e2 ae h/\Stp ns e h ns2 e2 h/\(∀i,i∉is->e2[i]?=e[i]?)/\(∀i∈is,∃v,e2[i]?=some (.sh v))/\∀i:Nat,(e2[i]?).bind Sl.val=(e[i]?).bind Sl.val
 | [],ns,e,e2,S,_,q=>by cases q;exact⟨ns,S,.refl,λ_ _=>rfl,(λ_ z=>by cases z),λ_=>rfl⟩
 |
  i::is,ns,e,e2,S,hd,q=>by
  unfold oR at q;split at q
  .rename_i e1 v q1;obtain⟨d,hd0⟩:=hd i (H_ ..);obtain⟨ns1,S1,a1,r1⟩:=fB (L:=0) (t:=.bor i) S hd0 q1;obtain⟨ns2,S2,a2,k1,k2,k3⟩:=sE S1 (λj z=>hd j (A_ _ z)) q;obtain⟨y1,y2,y3⟩:=Dg q1;refine⟨ns2,S2,a1.trans S a2,λj hj=>?_,λj hj=>?_,λj=>?_⟩
   .rw[MN,not_or] at hj;rw[k1 j hj.2,y1 j hj.1]
   .by_cases z:j∈is
    .exact k2 j z
    .rcases MN.mp hj with rfl |hj
     .exact⟨v,by rw[k1 j z];exact y2⟩
     .exact absurd hj z
   .rw[k3 j];by_cases z:j=i
    .subst z;rw[y2,y3];rfl
    .rw[y1 j z]
  .cases q
theorem pJ:∀{ms:List Bool}{ts:List Tm},(∀(k i:Nat),ms[k]?=some true->ts[k]?=some (.bor i)->e2[i]?=e[i]?)->okA e ms ts=true->okA e2 ms ts=true
 | [],[],_,o=>rfl
 | [],_::_,_,o=>by simp [okA] at o
 |b::ms,[],_,o=>by cases b <;> simp [okA] at o
 |
  b::ms,t::ts,hk,o=>by
  have o':okA e ms ts=true:=by cases b <;> cases t <;> simp only[okA,z_] at o <;> first |exact o.2 |exact o |(simp at o;done)
  have ih:=pJ (λk i q1 q2=>hk (k+1) i (by simpa using q1) (by simpa using q2)) o';cases b with
  |false=>cases t <;> simp only[okA,z_] at o ⊢ <;> first |exact⟨o.1,ih⟩ |exact ih
  |
   true=>
   cases t with
   |bor i=>simp only[okA,z_] at o ⊢;rw[hk 0 i rfl rfl];exact⟨o.1,ih⟩
   |_=>simp [okA] at o
theorem rR:∀{ms:List Bool}{ts:List Tm},(∀(k i:Nat),ms[k]?=some false->ts[k]?=some (.bor i)->∃v,e[i]?=some (.sh v))->bI e ms ts=[]
 | [],_,_=>by simp [bI]
 |_::_,[],_=>by simp [bI]
 |
  b::ms,t::ts,hk=>by
  have ih:=rR (λk i q1 q2=>hk (k+1) i (by simpa using q1) (by simpa using q2));cases b <;> cases t <;> simp only[bI] <;> first |exact ih |skip
  rename_i i;obtain⟨v,q⟩:=hk 0 i rfl rfl;rw[q];exact ih
theorem pq(hv:∀i:Nat,(e2[i]?).bind Sl.val=(e[i]?).bind Sl.val):∀(ts:List Tm),rss e2 ts=rss e ts
 | []=>rfl
 |
  t::ts=>by
  unfold rss;rw[pq hv ts];have:rs e2 t=rs e t:=by
   cases t with
   |bor i=>exact hv i
   |_=>rfl
  rw[this]
def mH(ok:okA e ms ts=true):Lnk (bN ms ts) e (sls ms vs):=by
 refine⟨λj k i q1 q2=>je ok (fu q2).1 (fu q2).2 (fu q1).2,λj v q=>?_,λj s q hm=>?_⟩
 .obtain⟨b,u,q1,_,q2⟩:=fI q;cases b with
  |false=>cases q2
  |true=>obtain⟨i,y1,w,y2⟩:=lj ok q1;obtain⟨s,z1,z2⟩:=M4.mp y2;exact⟨i,s,CV q1 y1,z1,by cases s <;> first |rfl |cases z2⟩
 .obtain⟨b,u,q1,_,q2⟩:=fI q;cases b with
  |false=>subst q2;cases hm
  |true=>exact⟨u,q2⟩
section
variable{X:Nat->Prop}{h0 L:Nat}{ns:Ns}{e:E3}{ae:AE}{h:AH}{ms:List Bool}{ts:List Tm}{ds:List D}{vs:List Val}{S2:Fn}{G3:Fn3}
def ja(Y:Nat->Prop)(hY:∀n,Y n->X n\/Y n)(hl:bI e ms ts=[])(z:¬ Xc X ns e ms ts n)(z2:some n∉cz (bN ms ts) ns):Oc X ns n:=by refine⟨λy=>z ⟨.inl y,z2,λi hi=>by rw[hl] at hi;cases hi⟩,λy=>z ⟨.inr y,z2,λi hi=>by rw[hl] at hi;cases hi⟩⟩
def mr{B:Prop}(S:Sat X h0 ns e ae h)(ok:okA e ms ts=true)(a:Stp (cz (bN ms ts) ns) (sls ms vs) h (cz (bN ms ts) ns) (bD ms mv) h')(hf:bI e ms ts=[]\/(B/\mv.all cK=true))(z2:h.length<=n)(z4:h'[n]?=some o)(S3:Sat (Xn (Xc X ns e ms ts) n) h.length (cz (bN ms ts) ns) (bD ms mv) (ds.map some) h'):
 Sat (Xn X n) h0 ns (bH (bN ms ts) (bD ms mv) e) ae h'/\Stp ns e h ns (bH (bN ms ts) (bD ms mv) e) h'/\(bI e ms ts=[]->∀m,Oc (Xn (Xc X ns e ms ts) n) (cz (bN ms ts) ns) m->Oc (Xn X n) ns m):=by
 have K:=mH (vs:=vs) ok;have kk:bI e ms ts=[]->∀m,Oc (Xn (Xc X ns e ms ts) n) (cz (bN ms ts) ns) m->Oc (Xn X n) ns m:=λhf m z=>by
  have:=ja X (λ_ z=>.inl z) hf (λy=>z.1 (.inl y)) z.2
  exact⟨λy=>by
   rcases y with y |y
   .exact this.1 y
   .exact z.1 (.inr y),this.2⟩
 obtain⟨S4,a4⟩:=S.back (Y:=Xn X n) K a (λm z=>by
  rcases z with z |rfl
  .exact⟨I_ (S.xl m z) a.len,.inl z⟩
  .exact⟨cZ z4,.inr z2⟩) (λ_ z=>.inl z) λj w n' q1 q2=>by
  obtain⟨s,u,o,b1,b2,b3,b4,b5,b6,b7⟩:=S3.own q2;rw[q1] at b1;cases b1;cases b3;rcases hf with hf |hf
  .exact⟨o,b5,b6,b7.mono λm o' z y=>⟨kk hf m z,y⟩⟩
  .exact⟨o,b5,b6,b7.flat (MD.mp hf.2 w (fD q1))⟩
 exact⟨S4,a4,kk⟩
def uO(S:Sat X h0 ns e ae h)(hL:L<=h.length)(rt:TsR X ns ae h ds ts)(qv:rss e ts=some vs)(ok:okA e ms ts=true)(hG:RF ms S2 G3)(q:G3 vs=.ok r mv)(hf:bI e ms ts=[]\/(fO r=true/\mv.all cK=true)):
 Po X h0 ns e ae h (relE X h0 L ae) (S2 ds h) (.ok (r.tm ts) (bH (bN ms ts) (bD ms mv) e)):=by
 have p:=hG _ _ ds vs h (by rw[jo qv,gi ok]) (lZ S rt qv ok);rw[q] at p;obtain⟨d,h',p1,a,rr⟩:=p;have K:=mH (vs:=vs) ok;have xcl:∀n,X n->n<h.length:=S.xl;cases r with
 |
  val v=>
  obtain⟨S3,rv⟩:=rr;obtain⟨S4,a4⟩:=S.back (Y:=X) K a (λn z=>⟨I_ (xcl n z) a.len,.inl z⟩) (λ_ z=>z) λj w n q1 q2=>by
   obtain⟨s,u,o,b1,b2,b3,b4,b5,b6,b7⟩:=S3.own q2;rw[q1] at b1;cases b1;cases b3;rcases hf with hf |hf
   .exact⟨o,b5,b6,b7.mono λm o' z y=>⟨ja X (λ_ z=>.inl z) hf z.1 z.2,y⟩⟩
   .exact⟨o,b5,b6,b7.flat (MD.mp hf.2 w (fD q1))⟩
  refine⟨d,h',ns,p1,a4,S4,?_⟩;rcases hf with hf |hf
  .exact rv.mono λm o' z y=>⟨ja X (λ_ z=>.inl z) hf z.1 z.2,y⟩
  .exact rv.flat hf.1
 |
  new v=>
  obtain⟨n,o,z1,z2,z3,z4,z5,S3,z7⟩:=rr;obtain⟨S4,a4,r4⟩:=mr S ok a hf z2 z4 S3;refine⟨d,h',ns,p1,a4,S4.weak λ_ z=>.inl z,n,o,z1,G_ hL z2,λy=>by have:=xcl n y;omega,z4,z5,S4,?_⟩;rcases hf with hf |hf
  .exact z7.mono λm o' z y=>⟨r4 hf m z,y⟩
  .exact z7.flat hf.1
 |
  pr v u=>
  obtain⟨d1,n,o,rfl,z2,z3,z4,z5,S3,z6,z7⟩:=rr;obtain⟨S4,a4,r4⟩:=mr S ok a hf z2 z4 S3;have on:Oc X ns n:=⟨λy=>by have:=xcl n y;omega,λy=>by obtain⟨i,y⟩:=bR.mp y;exact S4.nx i n y (.inr rfl)⟩;have wk:Mov (Oc (Xn X n) ns) (Oc X ns) h' h':=λm o' z y=>⟨⟨λc=>z.1 (.inl c),z.2⟩,y⟩;refine⟨_,h',ns,p1,a4,S4.weak λ_ z=>.inl z,.tup (.cons ?_ (.cons (.cell on z4 ?_) .nil))⟩
  .rcases hf with hf |hf
   .exact (z6.mono λm o' z y=>⟨r4 hf m z,y⟩).mono wk
   .exact z6.flat (z_ _ _ ▸ hf.1).1
  .rcases hf with hf |hf
   .exact (z7.mono λm o' z y=>⟨r4 hf m z,y⟩).mono wk
   .exact z7.flat (z_ _ _ ▸ hf.1).2
 |
  par i=>
  obtain⟨S3,w1,w,w2⟩:=rr;obtain⟨S4,a4⟩:=S.back (Y:=X) K a (λn z=>⟨I_ (xcl n z) a.len,.inl z⟩) (λ_ z=>z) λj w n q1 q2=>by
   obtain⟨s,u,o,b1,b2,b3,b4,b5,b6,b7⟩:=S3.own q2;rw[q1] at b1;cases b1;cases b3;rcases hf with hf |hf
   .exact⟨o,b5,b6,b7.mono λm o' z y=>⟨ja X (λ_ z=>.inl z) hf z.1 z.2,y⟩⟩
   .exact⟨o,b5,b6,b7.flat (MD.mp hf.2 w (fD q1))⟩
  refine⟨d,h',ns,p1,a4,S4,?_⟩;obtain⟨u,x1,_⟩:=a.mu i w w2;obtain⟨b,u',x2,_,x3⟩:=fI x1;cases b with
  |false=>cases x3
  |
   true=>
   obtain⟨k,y1,_⟩:=lj ok x2;obtain⟨d',y2,z⟩:=rt.get y1;have e1:(Rt.par i).tm ts=.bor k:=by show (ts[i]?).getD _=_;rw[y1];rfl
   rw[e1];rcases z with ⟨_,z,_⟩ |⟨j,z,z2⟩
   .cases z
   .cases z;rw[MP,y2] at w1;cases w1;exact z2
def Aj(S:Sat X h0 ns e ae h)(rt:TsR X ns ae h ds ts)(qv:rss e ts=some vs)(ok:okA e ms ts=true)(hG:RF ms S2 G3)(q:G3 vs=.exc c mv)(hf:bI e ms ts=[]\/mv.all cK=true):
 Po X h0 ns e ae h (relE X h0 L ae) (S2 ds h) (.exc c (bH (bN ms ts) (bD ms mv) e)):=by
 have p:=hG _ _ ds vs h (by rw[jo qv,gi ok]) (lZ S rt qv ok);rw[q] at p;obtain⟨h',p1,a,S3⟩:=p;have K:=mH (vs:=vs) ok;obtain⟨S4,a4⟩:=S.back (Y:=X) K a (λn z=>⟨I_ (S.xl n z) a.len,.inl z⟩) (λ_ z=>z) λj w n q1 q2=>by
  obtain⟨s,u,o,b1,b2,b3,b4,b5,b6,b7⟩:=S3.own q2;rw[q1] at b1;cases b1;cases b3;rcases hf with hf |hf
  .exact⟨o,b5,b6,b7.mono λm o' z y=>⟨ja X (λ_ z=>.inl z) hf z.1 z.2,y⟩⟩
  .exact⟨o,b5,b6,b7.flat (MD.mp hf w (fD q1))⟩
 exact⟨h',ns,p1,a4,S4⟩
def Dz(hn:n=ms.length)(hG:RF ms S2 G3)(hA:RA A A3):RE (qL n S2 A) (Cg ms G3 A3):=λX h0 L ns e ae h S hl=>
 Po.bind
  S (hA X h0 ns e ae h S) λds ts h1 ns1 e1 a1 S1 r1=>by
  try dsimp only
  cases qv:rss e1 ts with
  |none=>trivial
  |
   some vs=>
   dsimp only;by_cases ok:okA e1 ms ts=true
   .rw[if_pos ok];have d_:ds.length=n:=by rw[hn,gi ok];exact TsR.len r1
    rw[if_pos d_];have hL:L<=h1.length:=G_ hl a1.len;cases q:G3 vs with
    |stuck=>trivial
    |
     exc c mv=>
     dsimp only;by_cases hf:((bI e1 ms ts).isEmpty || mv.all cK)=true
     .rw[if_pos hf];refine Aj S1 r1 qv ok hG q ?_;rw[Bool.or_eq_true] at hf;rcases hf with hf |hf
      .exact .inl (List.isEmpty_iff.mp hf)
      .exact .inr hf
     .rw[if_neg hf];trivial
    |
     ok r mv=>
     dsimp only;by_cases hf:((bI e1 ms ts).isEmpty || (fO r&&mv.all cK))=true
     .rw[if_pos hf];refine uO S1 hL r1 qv ok hG q ?_;rw[Bool.or_eq_true,z_] at hf;rcases hf with hf |hf
      .exact .inl (List.isEmpty_iff.mp hf)
      .exact .inr hf
     .rw[if_neg hf];cases qd:oR e1 (bI e1 ms ts) with
      |none=>trivial
      |
       some e2=>
       dsimp only;obtain⟨ns2,S2',a2,k1,k2,k3⟩:=sE S1 (λi hi=>by
        obtain⟨k,_,y⟩:=mK hi;obtain⟨d,_,z⟩:=r1.get y;rcases z with ⟨_,z,_⟩ |⟨j,z,z2⟩
        .cases z
        .cases z;exact⟨d,z2⟩) qd
       have ok2:okA e2 ms ts=true:=pJ (λk i q1 q2=>k1 i λz=>by
        obtain⟨k',y1,y2⟩:=mK z
        have:=je ok q1 q2 y2
        subst this;rw[q1] at y1;cases y1) ok
       have ln:bI e2 ms ts=[]:=rR λk i q1 q2=>by
        by_cases z:i∈bI e1 ms ts
        .exact k2 i z
        .rw[k1 i z];exact N5 λw=>z (mJ q1 q2 λv y=>w ⟨v,y⟩)
       have pp:=uO (L:=L) S2' hL (r1.stp S1 a2) (by rw[pq k3];exact qv) ok2 hG q (.inl ln);obtain⟨d,h',ns',y,y1,y2,y3⟩:=pp;exact⟨d,h',ns',y,a2.trans S1 y1,y2,y3⟩
   .rw[if_neg ok];trivial
end
noncomputable def aI(f:Int->Int->Val):Val->Val->Bv:=λx y=>match x,y with
 |.int i,.int j=>.val (f i j)
 |_,_=>.stuck
open Classical in
def aIc(C:Int->Int->Prop)(f:Int->Int->Val):Val->Val->Bv:=λx y=>match x,y with
 |.int i,.int j=>if C i j then .val (f i j) else .stuck
 |_,_=>.stuck
noncomputable def wd:Val->Val->Bv:=λx y=>match x,y with
 |.lst xs,.lst ys=>if xs.length+ys.length<=16777216 then .new (.lst (xs++ys)) else .stuck
 |.tup xs,.tup ys=>if xs.length+ys.length<=16777216 then .val (.tup (xs++ys)) else .stuck
 |_,_=>.stuck
noncomputable def AN:Val->Val->Bv:=λx y=>match x,y with
 |.int i,.int j=>.val (.int (i+j))
 |x,y=>wd x y
noncomputable def aMin:=aI λi j=>.int (i-j)
def vE:=aIc CMulA λi j=>.int (i*j)
def wV:=aIc CDivB λi j=>.int (i.fdiv j)
def v8:=aIc (λ_ j=>j≠0) λi j=>.int (i.fmod j)
def vY:=aIc gG λi j=>.int (i^j.toNat)
def vP:=aIc gG λi j=>.int (i*2^j.toNat)
noncomputable def aLt:=aI λi j=>.bl (decide (i<j))
noncomputable def aGt:=aI λi j=>.bl (decide (j<i))
noncomputable def aGe:=aI λi j=>.bl (decide (j<=i))
noncomputable def Bq:Val->Bv:=λx=>match x with
 |.int i=>.val (.int (-i))
 |_=>.stuck
noncomputable def aIx:Val->Val->Bv:=λx y=>match x.items,y with
 |some xs,.int i=>(match atI xs i with
  |some v=>.val v
  |none=>.stuck)
 |_,_=>.stuck
section
def tM(hr:∀i j P h,Rd P h (f2 i j) (f3 i j)):RO (gI f2) (aI f3):=λP h d1 d2 v1 v2 r1 r2=>by
 unfold aI;split
 .obtain rfl:=r1.int;obtain rfl:=r2.int;exact⟨_,rfl,hr _ _ P h⟩
 .trivial
def nA(hr:∀i j P h,Rd P h (f2 i j) (f3 i j)):RO (gIc C f2) (aIc C f3):=λP h d1 d2 v1 v2 r1 r2=>by
 unfold aIc;split
 .obtain rfl:=r1.int;obtain rfl:=r2.int;split
  .rename_i hc;exact⟨_,by unfold gIc;dsimp only;rw[if_pos hc],hr _ _ P h⟩
  .trivial
 .trivial
def Hq:RO lV wd:=λP h d1 d2 v1 v2 r1 r2=>by
 unfold wd;split
 .obtain⟨n,ds,rfl,e1,_,q1⟩:=r1.lst;obtain⟨m,es,rfl,e2,_,q2⟩:=r2.lst;split
  .rename_i hl;exact⟨.lst (ds++es),by unfold lV;dsimp only;rw[e1,e2];dsimp only;rw[if_pos (by rw[q1.len,q2.len];exact hl)],trivial,.lst (q1.append q2)⟩
  .trivial
 .obtain⟨ds,rfl,q1⟩:=r1.tup;obtain⟨es,rfl,q2⟩:=r2.tup;split
  .rename_i hl;exact⟨_,by unfold lV;dsimp only;rw[if_pos (by rw[q1.len,q2.len];exact hl)],.tup (q1.append q2)⟩
  .trivial
 .trivial
def G4:RO wa AN:=λP h d1 d2 v1 v2 r1 r2=>by
 unfold AN;split
 .obtain rfl:=r1.int;obtain rfl:=r2.int;exact⟨_,rfl,.int _⟩
 .rename_i hn;have k:=Hq P h d1 d2 v1 v2 r1 r2;have e:wa d1 d2 h=lV d1 d2 h\/wd v1 v2=.stuck:=by
   cases v1 <;> first |(right;rfl) |(left;skip)
   .obtain⟨ds,rfl,_⟩:=r1.tup;rfl
   .obtain⟨n,ds,rfl,_⟩:=r1.lst;rfl
  rcases e with e |e
  .rw[e];exact k
  .rw[e];trivial
def FJ:RO Bj aMin:=tM λ_ _ _ _=>.int _
def Gv:RO BD vE:=nA λ_ _ _ _=>.int _
def HU:RO zT wV:=nA λ_ _ _ _=>.int _
def IG:RO AJ v8:=nA λ_ _ _ _=>.int _
def Hw:RO zO vY:=nA λ_ _ _ _=>.int _
def Jt:RO Ak vP:=nA λ_ _ _ _=>.int _
def KG:RO gLt aLt:=tM λ_ _ _ _=>.bl _
def Lz:RO gGt aGt:=tM λ_ _ _ _=>.bl _
def Lj:RO gGe aGe:=tM λ_ _ _ _=>.bl _
def Fm:RU wj Bq:=λP h d v r=>by
 unfold Bq;split
 .obtain rfl:=r.int;exact⟨_,rfl,.int _⟩
 .trivial
def La(r:Rds P h ds vs)(e:atI vs i=some v):∃d,atI ds i=some d/\Rd P h d v:=by
 unfold atI at e ⊢;rw[r.len];cases q:ixN vs.length i with
 |none=>rw[q] at e;cases e
 |some j=>rw[q] at e;exact r.get e
def Kn:RO gIx aIx:=λP h d1 d2 v1 v2 r1 r2=>by
 unfold aIx;split
 .rename_i xs i e1;obtain⟨ds,e2,q⟩:=r1.items e1;obtain rfl:=r2.int;split
  .rename_i v e3;obtain⟨d,e4,q2⟩:=La q e3;exact⟨d,by unfold gIx;rw[e2];dsimp only;rw[e4],q2⟩
  .trivial
 .trivial
end
mutual
def du:Nat->Val->Option PyData
 |0,_=>none
 |_+1,.non=>some .none
 |_+1,.bl b=>some (.bool b)
 |_+1,.int i=>some (.int i)
 |_+1,.str x=>some (.str x)
 |k+1,.tup xs=>(fg k xs).map .tuple
 |k+1,.lst xs=>(fg k xs).map .list
 |_+1,_=>none
def fg:Nat->List Val->Option (List PyData)
 |_,[]=>some []
 |k,x::xs=>match du k x,fg k xs with
  |some a,some b=>some (a::b)
  |_,_=>none
end
def A7(hk:∀d v pd,Rd P h d v->du k v=some pd->eG k h d=some pd):∀{ds:List D}{vs:List Val}{ps:List PyData},Rds P h ds vs->fg k vs=some ps->ds.mapM (eG k h)=some ps:=by
 intro ds;induction ds with
 |nil=>intro vs ps r q;cases r;unfold fg at q;cases q;rfl
 |
  cons d0 ds ih=>
  intro vs ps r q;cases r with
  |
   cons r rr=>
   unfold fg at q;split at q
   .rename_i a b e1 e2;cases q;rw[NX,hk _ _ _ r e1,ih rr e2];rfl
   .cases q
theorem jl:∀(k:Nat) (d:D) (v:Val) (pd:PyData),ShR P h d v->du k v=some pd->eG k h d=some pd
 |0,_,_,_,_,q=>by unfold du at q;cases q
 |
  k+1,d,v,pd,r,q=>by
  have ih:∀{ds:List D}{vs:List Val}{ps:List PyData},Rds P h ds vs->fg k vs=some ps->ds.mapM (eG k h)=some ps:=A7 λd v pd r q=>jl k d v pd (.inl r) q;cases v with
  |non=>obtain rfl:=r.non;simp only[du] at q;cases q;rfl
  |bl b=>obtain rfl:=r.bl;simp only[du] at q;cases q;rfl
  |int b=>obtain rfl:=r.int;simp only[du] at q;cases q;rfl
  |str b=>obtain rfl:=r.str;simp only[du] at q;cases q;rfl
  |tup xs=>obtain⟨ds,rfl,r2⟩:=r.tup;simp only[du] at q;obtain⟨ps,q1,rfl⟩:=MF.mp q;show (ds.mapM (eG k h)).map PyData.tuple=_;rw[ih r2 q1];rfl
  |lst xs=>obtain⟨n,ds,rfl,_,e1,r2⟩:=r.lst;simp only[du] at q;obtain⟨ps,q1,rfl⟩:=MF.mp q;unfold eG;rw[e1];show (ds.mapM (eG k h)).map PyData.list=_;rw[ih r2 q1];rfl
  |_=>simp only[du] at q;cases q
noncomputable def ek(x y:Val):Option Bool:=match du 164 x,du 164 y with
 |some a,some b=>if shp a=true/\shp b=true then some (PyData.eqv a b) else none
 |_,_=>none
noncomputable def aEq(h_:Bool):Val->Val->Bv:=λx y=>match ek x y with
 |some b=>.val (.bl (if h_ then !b else b))
 |none=>.stuck
def FD(r1:ShR P h d1 v1)(r2:ShR P h d2 v2)(q:ek v1 v2=some b):rX h d1 d2=some b:=by
 unfold ek at q;split at q
 .rename_i a c e1 e2;unfold rX;rw[jl 164 _ _ _ r1 e1,jl 164 _ _ _ r2 e2];exact q
 .cases q
def CG(h_:Bool):RO (gEq h_) (aEq h_):=λP h d1 d2 v1 v2 r1 r2=>by
 unfold aEq;split
 .rename_i b q;exact⟨_,by unfold gEq;rw[FD r1 r2 q],.bl _⟩
 .trivial
noncomputable def nF:Val->Bool
 |.non=>true
 |.bl _=>true
 |.int _=>true
 |.str _=>true
 |_=>false
noncomputable def wZ:Val->V
 |.bl b=>.bl b
 |.int i=>.int i
 |.str x=>.str x
 |_=>.non
noncomputable def eq1(x y:Val):Bool:=eqV (wZ x) (wZ y)
noncomputable def aIn(h_:Bool):Val->Val->Bv:=λx y=>match y.items with
 |some xs=>if nF x=true/\xs.all nF=true then .val (.bl (if h_ then !(xs.any λd=>eq1 d x) else xs.any λd=>eq1 d x)) else .stuck
 |none=>.stuck
def uN(r:ShR P h d v)(f:nF v=true):kX d=true/\toV d=wZ v:=by
 cases v with
 |non=>obtain rfl:=r.non;exact⟨rfl,rfl⟩
 |bl b=>obtain rfl:=r.bl;exact⟨rfl,rfl⟩
 |int b=>obtain rfl:=r.int;exact⟨rfl,rfl⟩
 |str b=>obtain rfl:=r.str;exact⟨rfl,rfl⟩
 |_=>cases f
def Ba(x:D)(y:Val)(hx:toV x=wZ y):∀{ds:List D}{vs:List Val},Rds P h ds vs->vs.all nF=true->ds.all kX=true/\(ds.any λd=>eqF d x)=vs.any λd=>eq1 d y:=by
 intro ds;induction ds with
 |nil=>intro vs r f;cases r;exact⟨rfl,rfl⟩
 |
  cons d0 ds ih=>
  intro vs r f;cases r with
  |cons r rr=>rw[N3,z_] at f;obtain⟨h1,h2⟩:=uN (.inl r) f.1;obtain⟨h3,h4⟩:=ih rr f.2;refine⟨by rw[N3,h1,h3];rfl,?_⟩;rw[Nh,Nh,h4];unfold eqF eq1;rw[h2,hx]
def BV(h_:Bool):RO (gIn h_) (aIn h_):=λP h d1 d2 v1 v2 r1 r2=>by
 unfold aIn;split
 .rename_i xs e;obtain⟨ds,e2,q⟩:=r2.items e;split
  .rename_i hf;obtain⟨f1,f2⟩:=uN r1 hf.1;obtain⟨f3,f4⟩:=Ba d1 v1 f2 q hf.2;exact⟨_,by unfold gIn;rw[e2];dsimp only;rw[if_pos ⟨f1,f3⟩,f4],.bl _⟩
  .trivial
 .trivial
noncomputable def vF(h_:Bool):Val->Val->Bv:=λx y=>match x,y with
 |.non,.non=>.val (.bl (!h_))
 |_,.non=>.val (.bl h_)
 |_,_=>.stuck
def yh(h_:Bool):RO (kx h_) (vF h_):=λP h d1 d2 v1 v2 r1 r2=>by
 unfold vF;split
 .obtain rfl:=r1.non;obtain rfl:=r2.non;exact⟨_,rfl,.bl _⟩
 .rename_i hn;obtain rfl:=r2.non;have:d1 ≠ .non:=by
   rintro rfl;rcases r1 with r |⟨n,o,z,_⟩
   .cases r;exact hn rfl
   .cases z
  refine⟨_,?_,.bl h_⟩;unfold kx;split
  .exact absurd rfl this
  .rfl
  .rename_i h1 h2;exact (h1 rfl).elim
 .trivial
noncomputable def Ai:List Val->Bv:=λvs=>match vs with
 | [v]=>(match v.items with
  |some xs=>.val (.int xs.length)
  |none=>(match v with
   |.str z=>if z.length<=16777216 then .val (.int z.length) else .stuck
   |_=>.stuck))
 |_=>.stuck
noncomputable def Bs:List Val->Bv:=λvs=>match vs with
 | [.int i]=>.val (.int (if i<0 then -i else i))
 |_=>.stuck
noncomputable def gq:List Val->Option (List Bool)
 | []=>some []
 |.bl b::r=>(gq r).map (b :: ·)
 |_=>none
noncomputable def gW:List Val->Option (List Int)
 | []=>some []
 |.int b::r=>(gW r).map (b :: ·)
 |_=>none
noncomputable def BM:List Val->Bv:=λvs=>match vs with
 | [.lst xs]=>(match gq xs with
  |some bs=>.val (.bl (bs.all id))
  |none=>.stuck)
 |_=>.stuck
noncomputable def BS:List Val->Bv:=λvs=>match vs with
 | [.lst xs]=>(match gW xs with
  |some bs=>.val (.int bs.sum)
  |none=>.stuck)
 |_=>.stuck
noncomputable def wC:List Val->Bv:=λvs=>match vs with
 | [v]=>(match v.items with
  |some xs=>.new (.lst xs)
  |none=>.stuck)
 |_=>.stuck
def Ho:RFn rj Ai:=λP h ds vs r=>by
 unfold Ai;split
 .obtain⟨d,hd,rr1⟩:=gK r;subst hd;clear r;have r:=rr1;split
  .rename_i xs e;obtain⟨es,e2,q⟩:=r.items e;exact⟨_,by unfold rj;dsimp only;rw[e2],by rw[<- q.len];exact .int _⟩
  .split
   .rename_i z _;obtain rfl:=r.str;split
    .rename_i hl;exact⟨_,by show (if z.length<=16777216 then _ else _)=_;rw[if_pos hl],.int _⟩
    .trivial
   .trivial
 .trivial
def Fh:RFn vZ Bs:=λP h ds vs r=>by
 unfold Bs;split
 .obtain⟨d,hd,rr1⟩:=gK r;subst hd;clear r;have r:=rr1;obtain rfl:=r.int;exact⟨_,rfl,.int _⟩
 .trivial
def B4:∀{ds:List D}{vs:List Val}{bs:List Bool},Rds P h ds vs->gq vs=some bs->gy ds=some bs:=by
 intro ds;induction ds with
 |nil=>intro vs bs r q;cases r;cases q;rfl
 |
  cons d0 ds ih=>
  intro vs bs r q;cases r with
  |
   cons r rr=>
   rename_i v vs;cases v with
   |bl b=>obtain rfl:=ShR.bl (.inl r);obtain⟨b',q1,rfl⟩:=MF.mp (show (gq vs).map (b :: ·)=some bs from q);show (gy _).map (b :: ·)=_;rw[ih rr q1];rfl
   |_=>cases q
def Il:∀{ds:List D}{vs:List Val}{bs:List Int},Rds P h ds vs->gW vs=some bs->gB ds=some bs:=by
 intro ds;induction ds with
 |nil=>intro vs bs r q;cases r;cases q;rfl
 |
  cons d0 ds ih=>
  intro vs bs r q;cases r with
  |
   cons r rr=>
   rename_i v vs;cases v with
   |int b=>obtain rfl:=ShR.int (.inl r);obtain⟨b',q1,rfl⟩:=MF.mp (show (gW vs).map (b :: ·)=some bs from q);show (gB _).map (b :: ·)=_;rw[ih rr q1];rfl
   |_=>cases q
def Ja:RFn sF BM:=λP h ds vs r=>by
 unfold BM;split
 .obtain⟨d,hd,rr1⟩:=gK r;subst hd;clear r;have r:=rr1;obtain⟨n,es,rfl,_,e1,q⟩:=r.lst;split
  .rename_i bs e2;exact⟨_,by unfold sF;dsimp only;rw[e1];show (match gy es with |some bs=>_ |none=>_)=_;rw[B4 q e2],.bl _⟩
  .trivial
 .trivial
def JC:RFn sR BS:=λP h ds vs r=>by
 unfold BS;split
 .obtain⟨d,hd,rr1⟩:=gK r;subst hd;clear r;have r:=rr1;obtain⟨n,es,rfl,_,e1,q⟩:=r.lst;split
  .rename_i bs e2;exact⟨_,by unfold sR;dsimp only;rw[e1];show (match gB es with |some bs=>_ |none=>_)=_;rw[Il q e2],.int _⟩
  .trivial
 .trivial
def CI:RFn mX wC:=λP h ds vs r=>by
 unfold wC;split
 .obtain⟨d,hd,rr1⟩:=gK r;subst hd;clear r;have r:=rr1;split
  .rename_i xs e;obtain⟨es,e2,q⟩:=r.items e;exact⟨.lst es,by unfold mX;dsimp only;rw[e2],trivial,.lst q⟩
  .trivial
 .trivial
noncomputable def tyC:Val->Option Cl
 |.non=>some (.b "NoneType")
 |.bl _=>some (.b "bool")
 |.int _=>some (.b "int")
 |.str _=>some (.b "str")
 |.tup _=>some (.b "tuple")
 |.exc x=>some (.o x)
 |.lst _=>some (.b "list")
 |.dct _=>some (.b "dict")
 |_=>none
noncomputable def clV:Val->Option Cl
 |.ty n=>some (.b n)
 |.glb x=>some (.o x)
 |_=>none
noncomputable def w6:List Val->Option (List Cl)
 | []=>some []
 |v::vs=>match clV v,w6 vs with
  |some c,some cs=>some (c::cs)
  |_,_=>none
noncomputable def J1:Val->Option (List Cl)
 |.tup cs=>w6 cs
 |v=>(clV v).map ([·])
noncomputable def Bg(kt:jC):List Val->Bv:=λvs=>match vs with
 | [v,c]=>(match tyC v,J1 c with
  |some t,some (c0::cr)=>(match gn kt t (c0::cr),kit kt t c0 with
   |some b,some _=>.val (.bl b)
   |_,_=>.stuck)
  |_,_=>.stuck)
 |_=>.stuck
def J9(r:ShR P h d v)(q:tyC v=some t):tyD h d=some t:=by
 cases v with
 |non=>obtain rfl:=r.non;exact q
 |bl b=>obtain rfl:=r.bl;exact q
 |int b=>obtain rfl:=r.int;exact q
 |str b=>obtain rfl:=r.str;exact q
 |exc b=>obtain rfl:=r.exc;exact q
 |tup b=>obtain⟨ds,rfl,_⟩:=r.tup;exact q
 |lst b=>obtain⟨n,ds,rfl,e,_⟩:=r.lst;unfold tyD;dsimp only;rw[e];exact q
 |dct b=>obtain⟨n,ds,rfl,e,_⟩:=r.dct;unfold tyD;dsimp only;rw[e];exact q
 |_=>cases q
def Cu(r:ShR P h d v)(q:clV v=some c):clD d=some c:=by
 cases v with
 |ty b=>obtain rfl:=r.ty;exact q
 |glb b=>obtain rfl:=r.glb;exact q
 |_=>cases q
def Fu:∀{ds:List D}{vs:List Val}{cs:List Cl},Rds P h ds vs->w6 vs=some cs->ds.mapM clD=some cs:=by
 intro ds;induction ds with
 |nil=>intro vs cs r q;cases r;cases q;rfl
 |
  cons d0 ds ih=>
  intro vs cs r q;cases r with
  |
   cons r rr=>
   unfold w6 at q;split at q
   .rename_i c cs' e1 e2;cases q;rw[NX,Cu (.inl r) e1,ih rr e2];rfl
   .cases q
def IT(kt:jC):RFn (qT kt) (Bg kt):=λP h ds vs r=>by
 unfold Bg;split
 .rename_i v c;obtain⟨d,d',rfl,r1,r2⟩:=Cm r;split
  .rename_i t c0 cr e1 e2;have e3:=J9 r1 e1;split
   .rename_i b b' e4 e5;refine⟨.bl b,?_,.bl b⟩;unfold qT;dsimp only;rw[e3];dsimp only;by_cases ht:∃cs,c=.tup cs
    .obtain⟨cs,rfl⟩:=ht;obtain⟨es,rfl,q⟩:=r2.tup;dsimp only;rw[Fu q e2];dsimp only;rw[e4,e5]
    .have e2':(clV c).map ([·])=some (c0::cr):=by
      cases c with
      |tup cs=>exact absurd ⟨cs,rfl⟩ ht
      |_=>exact e2
     obtain⟨cl,y1,y2⟩:=MF.mp e2';cases y2;have y3:=Cu r2 y1;have hd:∀cs,d' ≠ .tup cs:=λcs z=>by subst z;cases y3
     split
     .rename_i cs;exact absurd rfl (hd cs)
     .rw[y3];dsimp only;have:kit kt t c0=some b:=by
       unfold gn at e4;rw[e5] at e4 ⊢;cases b' with
       |true=>exact e4
       |false=>unfold gn at e4;exact e4
      rw[this]
   .trivial
  .trivial
 .trivial
noncomputable def fK(xs:List Val)(lo hi:Option Int):List Val:=(xs.drop (HT.sIx xs.length 0 lo)).take (HT.sIx xs.length xs.length hi-HT.sIx xs.length 0 lo)
abbrev MO3:=E3->R3 (Option Int)
def zW(_:Ns)(_:E3)(_:AH)(b c:Option Int):Prop:=b=c
def ROp(F:MO)(G:MO3):Prop:=∀X h0 ns e ae h,Sat X h0 ns e ae h->Po X h0 ns e ae h zW (F ae h) (G e)
noncomputable def xQ:MO3:=λe=>.ok none e
noncomputable def za(F:ME3):MO3:=λe=>(F e).bind λt e1=>match rs e1 t with
 |some (.int i)=>.ok (some i) e1
 |_=>.stuck
noncomputable def aSl(x:Val)(lo hi:Option Int):Bv:=match x with
 |.tup xs=>if HT.sIx xs.length 0 lo=0/\HT.sIx xs.length xs.length hi=xs.length then .stuck else .val (.tup (fK xs lo hi))
 |.lst xs=>.new (.lst (fK xs lo hi))
 |.kl xs=>.new (.lst (fK xs lo hi))
 |_=>.stuck
noncomputable def vSl(F:ME3)(L U:MO3):ME3:=λe=>(F e).bind λt e1=>(L e1).bind λlo e2=>(U e2).bind λhi e3=>match rs e3 t.drop with
 |some v=>(aSl v lo hi).at e3
 |none=>.stuck
def C4:ROp wg xQ:=λX h0 ns e ae h S=>Po.ret S rfl
def C7(hF:RE F F3):ROp (vI F) (za F3):=λX h0 ns e ae h S=>
 Po.bind S (hF X h0 0 ns e ae h S (MX _)) λd t h1 ns1 e1 a1 S1 r1=>by
  by_cases hq:∃i,rs e1 t=some (.int i)
  .obtain⟨i,hq⟩:=hq;have hd:=(r1.sh S1 hq).int;subst hd;show Po X h0 ns1 e1 ae h1 zW (R.ok (some i) h1) (match rs e1 t with |some (.int i)=>R3.ok (some i) e1 |_=>.stuck);rw[hq];exact Po.ret S1 rfl
  .have:(match rs e1 t with |some (.int i)=>R3.ok (some i) e1 |_=>.stuck)=(.stuck:R3 (Option Int)):=by
    split
    .rename_i i q;exact absurd ⟨i,q⟩ hq
    .rfl
   show Po X h0 ns1 e1 ae h1 zW _ (match rs e1 t with |some (.int i)=>R3.ok (some i) e1 |_=>.stuck);rw[this];trivial
def Mn(hF:RE F F3)(hL:ROp L L3')(hU:ROp U U3):RE (eSl F L U) (vSl F3 L3' U3):=λX h0 LL ns e ae h S hl=>
 Po.bind
  S (hF X h0 LL ns e ae h S hl) λd t h1 ns1 e1 a1 S1 r1=>Po.bind S1 (hL X h0 ns1 e1 ae h1 S1) λlo lo' h2 ns2 e2 a2 S2 r2=>Po.bind S2 (hU X h0 ns2 e2 ae h2 S2) λhi hi' h3 ns3 e3 a3 S3 r3=>by
  cases r2;cases r3;obtain⟨r1',hn⟩:=r1.drop;have r4:=(r1'.stp S1 a2 hn).stp S2 a3 hn;try dsimp only
  split
  .rename_i v q;have rr:=r4.sh S3 q;refine BvR.po S3 (G_ hl (G_ a1.len (G_ a2.len a3.len))) ?_;unfold aSl;split
   .rename_i xs;obtain⟨ds,rfl,q1⟩:=rr.tup;split
    .trivial
    .rename_i hne;refine⟨_,by unfold gSl;dsimp only;rw[if_neg (by rw[q1.len];exact hne)],.tup ?_⟩;unfold L2.cutD fK;rw[q1.len];exact (q1.drop _).take _
   .rename_i xs;obtain⟨n,ds,rfl,_,e1,q1⟩:=rr.lst;refine⟨.lst (L2.cutD ds lo hi),by unfold gSl;dsimp only;rw[e1],trivial,.lst ?_⟩;unfold L2.cutD fK;rw[q1.len];exact (q1.drop _).take _
   .rename_i xs;have key:∃ds,gSl d lo hi h3=.ok (.ref h3.length) (h3++[.lst (L2.cutD ds lo hi)])/\Rds (Oc X ns3) h3 ds xs:=by
     rcases rr with rr |⟨n,o,rfl,e,rr⟩
     .cases rr with
      |kl q1=>exact⟨_,rfl,q1⟩
      |cell p e rc=>cases rc with |fz q1=>exact⟨_,by unfold gSl bS;dsimp only;rw[e],q1⟩
     .cases rr with |fz q1=>exact⟨_,by unfold gSl bS;dsimp only;rw[e],q1⟩
    obtain⟨ds,e1,q1⟩:=key;refine⟨.lst (L2.cutD ds lo hi),e1,trivial,.lst ?_⟩;unfold L2.cutD fK;rw[q1.len];exact (q1.drop _).take _
   .trivial
  .trivial
noncomputable def oi:Val->List Val->Option (Val×Val):=λu vs=>match u,vs with
 |.lst xs,[v]=>if xs.length<16777216 then some (.lst (xs++[v]),.non) else none
 |_,_=>none
def lR:Val->List Val->Option (Val×Val):=λu vs=>match u,vs with
 |.lst xs,[]=>some (.lst xs.reverse,.non)
 |_,_=>none
section
variable{P:Nat->Prop}{h:AH}
def xm(e:h[n]?=some o)(r:Rc P h o (.lst xs)):lq h (.ref n)=true/\∃ds,h[n]?=some (.lst ds)/\Rds P h ds xs/\∀f,kL h (.ref n) f=f n ds:=by obtain⟨ds,e1,e2,q⟩:=Rc.seq e r;refine⟨by show (bS h n).isSome=true;rw[e2];rfl,ds,e1,q,λf=>?_⟩;unfold kL;dsimp only;rw[e1]
def rds1(r:Rds P h ds [v]):∃d,ds=[d]/\Rd P h d v:=by cases r with |cons r rr=>cases rr;exact⟨_,rfl,r⟩
end
def x9:RM lA oi:=λP h n o u ds vs u' v e hf r rs q=>by
 unfold oi at q;split at q
 .split at q
  .rename_i hl;cases q;obtain⟨q1,es,q2,q3,q4⟩:=xm e r;obtain⟨d,rfl,rd⟩:=rds1 rs;refine⟨q1,.lst (es++[d]),.non,?_,trivial,.lst (q3.append (.cons rd .nil)),.non⟩;unfold lA;rw[q4];dsimp only;rw[if_pos (by rw[q3.len];exact hl)]
  .cases q
 .cases q
def vH:RM jN lR:=λP h n o u ds vs u' v e hf r rs q=>by
 unfold lR at q;split at q
 .cases q;obtain⟨q1,es,q2,q3,q4⟩:=xm e r;cases rs;exact⟨q1,.lst es.reverse,.non,by unfold jN;rw[q4],trivial,.lst q3.reverse,.non⟩
 .cases q
noncomputable def sL:Val->Val->Val->Option Val:=λu i v=>match u,i with
 |.lst xs,.int k=>(match ixN xs.length k with
  |some j=>some (.lst (xs.set j v))
  |none=>none)
 |_,_=>none
def HE:vM wL sL:=λP h n o u di vi d v u' _ e hf r ri rd q=>by
 unfold sL at q;split at q
 .split at q
  .rename_i j hj;cases q;obtain⟨q1,es,q2,q3,q4⟩:=xm e r;obtain rfl:=ri.int;refine⟨.lst (es.set j d),?_,trivial,.lst (q3.set rd j)⟩;unfold wL;dsimp only;rw[q2];dsimp only;rw[q3.len,hj]
  .cases q
 .cases q
structure PEx where
 F:ME
 G:ME3
 ok:RE F G
structure PTs where
 F:MT
 G:MT3
 ok:RT F G
structure PAs where
 F:MA
 G:MA3
 ok:RA F G
structure PSt where
 F:MS
 G:MS3
 ok:RS F G
structure PGt where
 F:MG
 G:MG3
 ok:RG F G
structure PGs where
 F:MGs
 G:jT
 ok:RGs F G
structure PIt where
 F:MI
 G:MI3
 ok:RI F G
structure POp where
 F:MO
 G:MO3
 ok:ROp F G
structure PO2 where
 F:D->D->AH->R D
 G:Val->Val->Bv
 ok:RO F G
structure PU1 where
 F:D->AH->R D
 G:Val->Bv
 ok:RU F G
structure PBf where
 F:Fn
 G:List Val->Bv
 ok:RFn F G
structure PMm where
 F:D->List D->AH->R D
 G:Val->List Val->Option (Val×Val)
 ok:RM F G
structure PSe where
 F:D->D->D->AH->R Unit
 G:Val->Val->Val->Option Val
 ok:vM F G
structure PFn where
 ms:List Bool
 F:Fn
 G:Fn3
 ok:RF ms F G
structure PFx(ms:List Bool) where
 F:Fn
 G:Fn3
 ok:RF ms F G
noncomputable section
noncomputable def PFx.fn{ms:List Bool}(p:PFx ms):PFn:=⟨ms,p.F,p.G,p.ok⟩
noncomputable def av(i:Nat):PEx:=⟨cT i,Ao i,Fi i⟩
noncomputable def br(i:Int):PEx:=⟨eC (.int i),vC (.int i),mf λ_ _=>.int i⟩
noncomputable def pBl(i:Bool):PEx:=⟨eC (.bl i),vC (.bl i),mf λ_ _=>.bl i⟩
noncomputable def bX(i:Str):PEx:=⟨eC (.str i),vC (.str i),mf λ_ _=>.str i⟩
def gj:PEx:=⟨eC .non,vC .non,mf λ_ _=>.non⟩
noncomputable def pTy(i:String):PEx:=⟨eC (.ty i),vC (.ty i),mf λ_ _=>.ty i⟩
noncomputable def vK(i:Str):PEx:=⟨eC (.glb i),vC (.glb i),mf λ_ _=>.glb i⟩
noncomputable def rC(d:D)(v:Val)(r:∀P h,Rd P h d v):PEx:=⟨eC d,vC v,mf r⟩
noncomputable def pUn(o:PU1)(a:PEx):PEx:=⟨eUn o.F a.F,vUn o.G a.G,JQ o.ok a.ok⟩
noncomputable def pOp(o:PO2)(a b:PEx):PEx:=⟨eOp o.F a.F b.F,vOp o.G a.G b.G,L7 o.ok a.ok b.ok⟩
noncomputable def bj:PAs:=⟨jQ,oz,xG⟩
noncomputable def aq(a:PEx)(r:PAs):PAs:=⟨kN a.F r.F,Cn a.G r.G,D9 a.ok r.ok⟩
noncomputable def pFn(o:PBf)(a:PAs):PEx:=⟨eFn o.F a.F,vFn o.G a.G,Kb o.ok a.ok⟩
noncomputable def dH(a:PAs):PEx:=⟨eFn iM a.F,vTup a.G,FK a.ok⟩
noncomputable def dk(a:PAs):PEx:=⟨eFn eN a.F,vLst a.G,GK a.ok⟩
noncomputable def mD(a b:PEx):PEx:=⟨Bp a.F b.F,vAnd a.G b.G,IW a.ok b.ok⟩
def pOr(a b:PEx):PEx:=⟨eOr a.F b.F,vOr a.G b.G,JW a.ok b.ok⟩
noncomputable def sf(a:PEx):PEx:=⟨zI a.F,vNot a.G,F9 a.ok⟩
noncomputable def qOf(a:PEx):PTs:=⟨tOf a.F,cOf a.G,LR a.ok⟩
noncomputable def qAn(a b:PTs):PTs:=⟨tAn a.F b.F,cAn a.G b.G,Li a.ok b.ok⟩
noncomputable def qO(a b:PTs):PTs:=⟨tO a.F b.F,cO a.G b.G,rt_o a.ok b.ok⟩
noncomputable def qNo(a:PTs):PTs:=⟨tNo a.F,cNo a.G,Lv a.ok⟩
noncomputable def qY:PTs:=⟨tY,cY,rt_y⟩
noncomputable def xNx:PSt:=⟨sNx,wNx,Mw⟩
noncomputable def xCt:PSt:=⟨sCt,wCt,Lg⟩
noncomputable def bA(a:PEx):PSt:=⟨vO a.F,wRet a.G,IQ a.ok⟩
noncomputable def dS(a:PEx):PSt:=⟨wz a.F,B9 a.G,C2 a.ok⟩
noncomputable def bu(a b:PSt):PSt:=⟨BE a.F b.F,wSeq a.G b.G,Gb a.ok b.ok⟩
noncomputable def xIf(c:PTs)(a b:PSt):PSt:=⟨sIf c.F a.F b.F,wIf c.G a.G b.G,JT c.ok a.ok b.ok⟩
noncomputable def bF(o:Bool)(i:Nat)(a:PEx):PSt:=⟨gH a.F (gN i),wAsg o i a.G,Ir o i a.ok⟩
noncomputable def gtN(i:Nat):PGt:=⟨gN i,pN i,vy i⟩
noncomputable def eI:PGs:=⟨gsN,psN,KS⟩
noncomputable def bQ(a:PGt)(b:PGs):PGs:=⟨gsC a.F b.F,psC a.G b.G,L5 a.ok b.ok⟩
noncomputable def gtT(n:Nat)(a:PGs):PGt:=⟨gT λds ae h=>if ds.length=n then a.F ds ae h else .stuck,pT n a.G,rg_t n a.ok⟩
noncomputable def gtX(a:PGt):PGt:=⟨λd ae h=>noX (a.F d ae h),a.G,JD a.ok⟩
noncomputable def gx(a:PEx)(g:PGt):PSt:=⟨gH a.F g.F,B2 a.G g.G,EZ a.ok g.ok⟩
noncomputable def iG(i j:Nat)(a:PAs):PSt:=⟨BQ i j a.F,wPar i j a.G,Fq i j a.ok⟩
noncomputable def Bm(i:Nat)(o:PO2)(a:PEx):PSt:=⟨sP i o.F a.F,zM i o.G a.G,GW i o.ok a.ok⟩
noncomputable def fm(c:Str)(a:PAs):PSt:=⟨rA c a.F,xM c a.G,zK c a.ok⟩
noncomputable def n6(i:Nat)(w:PSe)(k a:PEx):PSt:=⟨gH a.F (gS (cT i) k.F w.F),wSet i k.G a.G w.G,Iy i w.ok k.ok a.ok⟩
noncomputable def l9(i:Nat)(m:PMm)(a:PAs):PEx:=⟨eM m.F (cT i) a.F,l8 i m.G a.G,yF i m.ok a.ok⟩
noncomputable def wA(i:Nat)(m:PMm):PEx:=⟨eM0 m.F (cT i),l8 i m.G oz,CN i m.ok⟩
noncomputable def bP(a:PEx):PIt:=⟨zU a.F,B7 a.G,Gx a.ok⟩
def kM(a:PAs):PIt:=⟨BF a.F,rD ij a.G,IM a.ok⟩
def qM(a:PAs):PIt:=⟨Bi a.F,rD oy a.G,Gf a.ok⟩
noncomputable def vS(a:PAs):PIt:=⟨zS a.F,BZ a.G,I0 a.ok⟩
def ff(i:PIt)(g:PGt)(b:PSt):PSt:=⟨A1 i.F g.F b.F,wFor i.G g.G b.G,JA i.ok g.ok b.ok⟩
def xWh(c:PTs)(b:PSt):PSt:=⟨sWh c.F b.F,wWh c.G b.G,Mu c.ok b.ok⟩
def pLC(i:PIt)(sub:Pd)(hs:(sub.filterMap id).Nodup)(g:PGt)(c:PTs)(a:PEx):PEx:=⟨eLC i.F sub g.F c.F a.F,vLC i.G sub g.G c.G a.G,L9 hs i.ok g.ok c.ok a.ok⟩
noncomputable def bt(f:PFn)(a:PAs):PEx:=⟨qL f.ms.length f.F a.F,Cg f.ms f.G a.G,Dz rfl f.ok a.ok⟩
noncomputable def oN:POp:=⟨wg,xQ,C4⟩
noncomputable def oS(a:PEx):POp:=⟨vI a.F,za a.G,C7 a.ok⟩
noncomputable def pSl(a:PEx)(l u:POp):PEx:=⟨eSl a.F l.F u.F,vSl a.G l.G u.G,Mn a.ok l.ok u.ok⟩
noncomputable def PFx.none(ms:List Bool)(N:Nat:=0):PFx ms:=⟨λ_ _=>.stuck,λ_=>.stuck,λ_ _ _ _ _ _ _=>trivial⟩
noncomputable def PFx.of(ms:List Bool)(N:Nat)(c:PSt):PFx ms:=⟨fnD N c.F,fnV ms N c.G,CC c.ok⟩
noncomputable def fnP(ms:List Bool)(N:Nat)(c:PSt):PFn:=⟨ms,fnD N c.F,fnV ms N c.G,CC c.ok⟩
noncomputable def b8:PO2:=⟨wa,AN,G4⟩
noncomputable def xi:PO2:=⟨Bj,aMin,FJ⟩
def bT:PO2:=⟨BD,vE,Gv⟩
def i7:PO2:=⟨zT,wV,HU⟩
def da:PO2:=⟨AJ,v8,IG⟩
def om:PO2:=⟨zO,vY,Hw⟩
def zV:PO2:=⟨Ak,vP,Jt⟩
noncomputable def bLt:PO2:=⟨gLt,aLt,KG⟩
noncomputable def bGt:PO2:=⟨gGt,aGt,Lz⟩
noncomputable def bGe:PO2:=⟨gGe,aGe,Lj⟩
noncomputable def bIx:PO2:=⟨gIx,aIx,Kn⟩
noncomputable def bEq:PO2:=⟨gEq false,aEq false,CG false⟩
noncomputable def bNe:PO2:=⟨gEq true,aEq true,CG true⟩
noncomputable def bIn:PO2:=⟨gIn false,aIn false,BV false⟩
noncomputable def jB:PO2:=⟨gIn true,aIn true,BV true⟩
noncomputable def bIs:PO2:=⟨kx false,vF false,yh false⟩
def A6:PO2:=⟨kx true,vF true,yh true⟩
noncomputable def AW:PO2:=⟨gI λi j=>.int (i+j),aI λi j=>.int (i+j),tM λ_ _ _ _=>.int _⟩
noncomputable def rE:PU1:=⟨wj,Bq,Fm⟩
noncomputable def cG:PBf:=⟨rj,Ai,Ho⟩
noncomputable def nt:PBf:=⟨vZ,Bs,Fh⟩
noncomputable def qQ:PBf:=⟨sF,BM,Ja⟩
noncomputable def fU:PBf:=⟨sR,BS,JC⟩
noncomputable def ke:PBf:=⟨mX,wC,CI⟩
noncomputable def cc(kt:jC):PBf:=⟨qT kt,Bg kt,IT kt⟩
noncomputable def fE:PMm:=⟨lA,oi,x9⟩
noncomputable def kq:PMm:=⟨jN,lR,vH⟩
noncomputable def seL:PSe:=⟨wL,sL,HE⟩
end
theorem oB:∀(ns:List Int),Rds P h (ns.map D.int) (ns.map Val.int)
 | []=>.nil
 |_::r=>.cons (.int _) (oB r)
def law3(p:PFn)(hm:p.ms=[false])(hG:∀ns:List Int,ns.length<=63->p.G [.kl (ns.map .int)]=.ok (.val (.bl true)) [])(d:D)(h:AH)(ns:List Int)(hl:ns.length<=63)(sc:Script h d ns):∃h',p.F [d] h=.ok (.bl true) h':=by
 have hp:=p.ok;rw[hm] at hp;have rd:Rd (Oc (λ_=>False) [none]) h d (.kl (ns.map .int)):=by
  rcases sc.form with ⟨n,rfl,e⟩ |rfl
  .exact .cell ⟨λz=>z,by simp⟩ e (.fz (oB ns))
  .exact .kl (oB ns)
 have S:Sat (λ_=>False) h.length [none] (sls [false] [.kl (ns.map .int)]) ([d].map some) h:=by
  refine⟨rfl,rfl,y_ _,λ_ z=>z.elim,λi j n q=>?_,λi n q z=>z,λi s q=>?_⟩
  .cases i with
   |zero=>simp at q
   |succ i=>simp at q
  .cases i with
   |
    zero=>
    have:sl1 false (.kl (ns.map .int))=s:=by simpa [sls] using q
    subst this;exact⟨rfl,d,rfl,rd⟩
   |succ i=>simp [sls] at q
 have:=hp _ _ [d] [.kl (ns.map .int)] h rfl S
 rw[hG ns hl] at this;obtain⟨d',h',e,_,_,r⟩:=this;cases r with
 |bl=>exact⟨h',e⟩
 |cell p e r=>cases r
section
variable(e:E3)
@[simp] theorem lg(a:α)(f:α->E3->R3 β):(R3.ok a e).bind f=f a e:=rfl
@[simp] theorem JX(a:α)(f:α->E3->SR3):(R3.ok a e).toS f=f a e:=rfl
@[simp] theorem Ms(f:E3->SR3):(SR3.nx e).then f=f e:=rfl
@[simp] theorem K3(r:Rt)(f:E3->SR3):(SR3.rt r e).then f=.rt r e:=rfl
@[simp] theorem Mp(f:E3->SR3):(SR3.ct e).then f=.ct e:=rfl
@[simp] theorem Fg(c:Str)(f:E3->SR3):(SR3.exc c e).then f=.exc c e:=rfl
@[simp] theorem iU(f:E3->SR3):(SR3.nx e).loop f=f e:=rfl
@[simp] theorem BW(f:E3->SR3):(SR3.ct e).loop f=f e:=rfl
@[simp] theorem L8(r:SR3):r.unl none=r:=by cases r <;> rfl
@[simp] theorem AO:lockO e none=e:=rfl
@[simp] theorem wc:fH e none=e:=rfl
@[simp] theorem Ga(v:Val):(Bv.val v).at e=.ok (.val v) e:=rfl
@[simp] theorem GP(v:Val):(Bv.new v).at e=.ok (.new v) e:=rfl
@[simp] theorem E5(v:Val):rs e (.val v)=some v:=rfl
@[simp] theorem G6(v:Val):rs e (.new v)=some v:=rfl
@[simp] theorem F6(i:Nat):rs e (.bor i)=(e[i]?).bind Sl.val:=rfl
@[simp] theorem Gd(v:Val):(Tm.val v).drop=.val v:=rfl
@[simp] theorem Hn(v:Val):(Tm.new v).drop=.val v:=rfl
@[simp] theorem IC(i:Nat):(Tm.bor i).drop=.bor i:=rfl
@[simp] theorem Dx:rss e []=some []:=rfl
@[simp] theorem Al(t:Tm)(ts:List Tm):rss e (t::ts)=match rs e t,rss e ts with
 |some v,some vs=>some (v::vs)
 |_,_=>none:=rfl
@[simp] theorem F1(v:Val):cN e (.val v)=some (e,v):=rfl
@[simp] theorem IK(v:Val):cN e (.new v)=some (e,v):=rfl
@[simp] theorem yC:dem e []=some (e,[]):=rfl
@[simp] theorem El(t:Tm)(ts:List Tm):dem e (t::ts)=match cN e t with
 |some (e1,v)=>match dem e1 ts with
  |some (e2,vs)=>some (e2,v::vs)
  |none=>none
 |none=>none:=rfl
@[simp] theorem FO(b:Bool):bOf (some (.bl b))=some b:=rfl
@[simp] theorem LK(i:Nat):(av i).G e=match e[i]? with
 |some (.sh v)=>.ok (.val v) e
 |some .no=>.stuck
 |some _=>.ok (.bor i) e
 |none=>.stuck:=rfl
@[simp] theorem My(i:Int):(br i).G e=.ok (.val (.int i)) e:=rfl
@[simp] theorem v_bl(i:Bool):(pBl i).G e=.ok (.val (.bl i)) e:=rfl
@[simp] theorem KD(i:Str):(bX i).G e=.ok (.val (.str i)) e:=rfl
@[simp] theorem KO:gj.G e=.ok (.val .non) e:=rfl
@[simp] theorem v_ty(i:String):(pTy i).G e=.ok (.val (.ty i)) e:=rfl
@[simp] theorem Ml(i:Str):(vK i).G e=.ok (.val (.glb i)) e:=rfl
@[simp] theorem v_un(o:PU1)(a:PEx):(pUn o a).G e=(a.G e).bind λt e1=>match rs e1 t with
 |some v=>(o.G v).at e1
 |none=>.stuck:=rfl
@[simp] theorem v_op(o:PO2)(a b:PEx):(pOp o a b).G e=(a.G e).bind λt1 e1=>(b.G e1).bind λt2 e2=>match rs e2 t1.drop,rs e2 t2 with
 |some v1,some v2=>(o.G v1 v2).at e2
 |_,_=>.stuck:=rfl
@[simp] theorem KH:bj.G e=.ok [] e:=rfl
@[simp] theorem Fw(a:PEx)(r:PAs):(aq a r).G e=(a.G e).bind λt e1=>(r.G e1).bind λts e2=>.ok (t.drop::ts) e2:=rfl
@[simp] theorem v_fn(o:PBf)(a:PAs):(pFn o a).G e=(a.G e).bind λts e1=>match rss e1 ts with
 |some vs=>(o.G vs).at e1
 |none=>.stuck:=rfl
@[simp] theorem Ka(a:PAs):(dH a).G e=(a.G e).bind λts e1=>match dem e1 ts with
 |some (e2,vs)=>if vs.length<=16777216 then .ok (.val (.tup vs)) e2 else .stuck
 |none=>.stuck:=rfl
@[simp] theorem K6(a:PAs):(dk a).G e=(a.G e).bind λts e1=>match dem e1 ts with
 |some (e2,vs)=>if vs.length<=16777216 then .ok (.new (.lst vs)) e2 else .stuck
 |none=>.stuck:=rfl
@[simp] theorem KL(a b:PEx):(mD a b).G e=(a.G e).bind λt e1=>match bOf (rs e1 t) with
 |some true=>b.G e1
 |some false=>.ok (.val (.bl false)) e1
 |none=>.stuck:=rfl
@[simp] theorem y_or(a b:PEx):(pOr a b).G e=(a.G e).bind λt e1=>match bOf (rs e1 t) with
 |some true=>.ok (.val (.bl true)) e1
 |some false=>b.G e1
 |none=>.stuck:=rfl
@[simp] theorem Kd(a:PEx):(sf a).G e=(a.G e).bind λt e1=>match bOf (rs e1 t) with
 |some b=>.ok (.val (.bl (!b))) e1
 |none=>.stuck:=rfl
@[simp] theorem c_of(a:PEx):(qOf a).G e=(a.G e).bind λt e1=>match bOf (rs e1 t) with
 |some b=>.ok b e1
 |none=>.stuck:=rfl
@[simp] theorem c_an(a b:PTs):(qAn a b).G e=(a.G e).bind λk e1=>if k=true then b.G e1 else .ok false e1:=rfl
@[simp] theorem c_o(a b:PTs):(qO a b).G e=(a.G e).bind λk e1=>if k=true then .ok true e1 else b.G e1:=rfl
@[simp] theorem c_no(a:PTs):(qNo a).G e=(a.G e).bind λk e1=>.ok (!k) e1:=rfl
@[simp] theorem c_y:qY.G e=.ok true e:=rfl
@[simp] theorem x_nx:xNx.G e=.nx e:=rfl
@[simp] theorem x_ct:xCt.G e=.ct e:=rfl
@[simp] theorem L4(a:PEx):(bA a).G e=(a.G e).toS nX:=rfl
@[simp] theorem CT(v:Val):nX (.val v) e=.rt (.val v) e:=rfl
@[simp] theorem Ep(v:Val):nX (.new v) e=.rt (.new v) e:=rfl
@[simp] theorem EH(i:Nat):nX (.bor i) e=match e[i]? with
 |some (.sh v)=>.rt (.val v) e
 |some (.ow v)=>.rt (.new v) (e.set i .no)
 |some (.mu _)=>.rt (.par i) e
 |_=>.stuck:=rfl
@[simp] theorem GB(a:PEx):(dS a).G e=(a.G e).toS λ_ e1=>.nx e1:=rfl
@[simp] theorem B6(a b:PSt):(bu a b).G e=(a.G e).then b.G:=rfl
@[simp] theorem x_if(c:PTs)(a b:PSt):(xIf c a b).G e=(c.G e).toS λk e1=>if k=true then a.G e1 else b.G e1:=rfl
@[simp] theorem Mv(o:Bool)(i:Nat)(a:PEx):(bF o i a).G e=(a.G e).toS (i0 o i):=rfl
@[simp] theorem LV:Sl.no.pl=true:=rfl
@[simp] theorem K5(v:Val):(Sl.sh v).pl=true:=rfl
@[simp] theorem Ec(o:Bool)(i:Nat)(v:Val):i0 o i (.val v) e=match e[i]? with
 |some s0=>if s0.pl=true then .nx (e.set i (.sh v)) else .stuck
 |none=>.stuck:=by unfold i0;rfl
@[simp] theorem BA(i:Nat)(v:Val):i0 true i (.new v) e=match e[i]? with
 |some s0=>if s0.pl=true then .nx (e.set i (.ow v)) else .stuck
 |none=>.stuck:=by unfold i0;rfl
@[simp] theorem Bt(i:Nat)(v:Val):i0 false i (.new v) e=match e[i]? with
 |some s0=>if s0.pl=true then .nx (e.set i (.sh v)) else .stuck
 |none=>.stuck:=by unfold i0;rfl
@[simp] theorem g_n(i:Nat)(v:Val):(gtN i).G v e=match e[i]? with
 |some s=>if s.pl=true then some (e.set i (.sh v)) else none
 |none=>none:=rfl
@[simp] theorem g_sn:eI.G [] e=some e:=rfl
@[simp] theorem g_sc(a:PGt)(b:PGs)(v:Val)(vs:List Val):(bQ a b).G (v::vs) e=(a.G v e).bind λe1=>b.G vs e1:=rfl
@[simp] theorem g_t(n:Nat)(a:PGs)(vs:List Val):(gtT n a).G (.tup vs) e=if vs.length=n then a.G vs e else none:=rfl
@[simp] theorem g_x(a:PGt)(v:Val):(gtX a).G v e=a.G v e:=rfl
@[simp] theorem HC(a:PEx)(g:PGt):(gx a g).G e=(a.G e).toS λt e1=>match cN e1 t with
 |some (e2,v)=>match g.G v e2 with
  |some e3=>.nx e3
  |none=>.stuck
 |none=>.stuck:=rfl
@[simp] theorem LU(i j:Nat)(a:PAs):(iG i j a).G e=(a.G e).toS λts e1=>match dem e1 ts with
 |some (e2,[v,u])=>match (pN i v e2).bind (pN j u) with
  |some e3=>.nx e3
  |none=>.stuck
 |_=>.stuck:=rfl
@[simp] theorem LA(i:Nat)(v:Val):pN i v e=match e[i]? with
 |some s=>if s.pl=true then some (e.set i (.sh v)) else none
 |none=>none:=rfl
@[simp] theorem Mc(i:Nat)(o:PO2)(a:PEx):(Bm i o a).G e=match e[i]? with
 |some (.sh x)=>(a.G e).toS λt e1=>match rs e1 t with
  |some y=>match o.G x y with
   |.val z=>match pN i z e1 with
    |some e2=>.nx e2
    |none=>.stuck
   |_=>.stuck
  |none=>.stuck
 |_=>.stuck:=rfl
@[simp] theorem DP(c:Str)(a:PAs):(fm c a).G e=(a.G e).toS λts e1=>if ts.length<=16777216 then .exc c e1 else .stuck:=rfl
@[simp] theorem KA(i:Nat)(w:PSe)(k a:PEx):(n6 i w k a).G e=(a.G e).toS λt e1=>match (e1[i]?).bind Sl.mv with
 |none=>.stuck
 |some _=>(k.G e1).toS λt2 e2=>match rs e2 t2 with
  |none=>.stuck
  |some vi=>match cN e2 t.drop with
   |none=>.stuck
   |some (e3,v)=>match e3[i]? with
    |none=>.stuck
    |some s=>match s.mv with
     |none=>.stuck
     |some u=>match w.G u vi v with
      |some u'=>.nx (e3.set i (s.re u'))
      |none=>.stuck:=rfl
@[simp] theorem LD(v:Val):(Sl.ow v).mv=some v:=rfl
@[simp] theorem Ky(v:Val):(Sl.mu v).mv=some v:=rfl
@[simp] theorem JZ(v u:Val):(Sl.ow v).re u=.ow u:=rfl
@[simp] theorem Mx(v u:Val):(Sl.mu v).re u=.mu u:=rfl
@[simp] theorem FG(v:Val):(Sl.ow v).val=some v:=rfl
@[simp] theorem JF(v:Val):(Sl.mu v).val=some v:=rfl
@[simp] theorem JY(i:Nat)(m:PMm)(a:PAs):(l9 i m a).G e=match e[i]? with
 |some s=>if (s.mv.map kr)=some true then (a.G e).bind λts e1=>match dem e1 ts with
  |some (e2,vs)=>match e2[i]? with
   |some s2=>match s2.mv with
    |some u=>match m.G u vs with
     |some (u',v)=>.ok (.val v) (e2.set i (s2.re u'))
     |none=>.stuck
    |none=>.stuck
   |none=>.stuck
  |none=>.stuck else .stuck
 |none=>.stuck:=rfl
@[simp] theorem Jb(i:Nat)(m:PMm):(wA i m).G e=match e[i]? with
 |some s=>if (s.mv.map kr)=some true then (match s.mv with
  |some u=>match m.G u [] with
   |some (u',v)=>.ok (.val v) (e.set i (s.re u'))
   |none=>.stuck
  |none=>.stuck) else .stuck
 |none=>.stuck:=by
 show l8 i m.G oz e=_;unfold l8;cases q:e[i]? with
 |none=>rfl
 |
  some s=>
  dsimp only;split
  .simp only[oz,lg,yC,q];try rfl
  .rfl
@[simp] theorem BC(xs:List Val):kr (.lst xs)=true:=rfl
@[simp] theorem LN(a:PEx):(bP a).G e=(a.G e).bind λt e1=>match fC t e1 with
 |some p=>.ok p e1
 |none=>.stuck:=rfl
@[simp] theorem Kp(a:PAs):(vS a).G e=(a.G e).bind λts e1=>match ts with
 | [t,u]=>(match fC t e1,fC u e1 with
  |some (xs,k),some (ys,none)=>.ok (List.zipWith (λx y=>.tup [x,y]) xs ys,k) e1
  |_,_=>.stuck)
 |_=>.stuck:=rfl
@[simp] theorem Iz(v:Val):fC (.val v) e=(iL v).map λxs=>(xs,none):=rfl
@[simp] theorem GJ(v:Val):fC (.new v) e=(iL v).map λxs=>(xs,none):=rfl
@[simp] theorem Fe(xs:List Val):iL (.tup xs)=some xs:=rfl
@[simp] theorem GR(xs:List Val):iL (.lst xs)=some xs:=rfl
@[simp] theorem Mf(a:PAs):(kM a).G e=(a.G e).bind λts e1=>match (rss e1 ts).bind ij with
 |some xs=>.ok (xs,none) e1
 |none=>.stuck:=rfl
@[simp] theorem Kh(a:PAs):(qM a).G e=(a.G e).bind λts e1=>match (rss e1 ts).bind oy with
 |some xs=>.ok (xs,none) e1
 |none=>.stuck:=rfl
@[simp] theorem Ld(i:PIt)(g:PGt)(b:PSt):(ff i g b).G e=(i.G e).toS λp e1=>(fb g.G b.G p.1 (lockO e1 p.2)).unl p.2:=rfl
@[simp] theorem jy(g:MG3)(B:MS3):fb g B [] e=.nx e:=rfl
theorem bZ(g:MG3)(B:MS3)(v:Val)(vs:List Val):fb g B (v::vs) e=match g v e with
 |some e1=>(B e1).loop (fb g B vs)
 |none=>.stuck:=rfl
def xb(c:PTs)(b:PSt):(xWh c b).G e=(c.G e).toS λk e1=>if k=true then (b.G e1).loop (xWh c b).G else .nx e1:=By c.G b.G e
@[simp] theorem v_lc(i:PIt)(sub:Pd)(hs:(sub.filterMap id).Nodup)(g:PGt)(c:PTs)(a:PEx):(pLC i sub hs g c a).G e=(i.G e).bind λp e1=>match lcV g.G c.G a.G p.1 [] (cn sub (lockO e1 p.2)) with
 |.ok ys e2=>if ys.length<=16777216 then .ok (.new (.lst ys)) (fH (bH sub e2 (lockO e1 p.2)) p.2) else .stuck
 |_=>.stuck:=rfl
@[simp] theorem Gq(f:PFn)(a:PAs):(bt f a).G e=(a.G e).bind λts e1=>match rss e1 ts with
 |none=>.stuck
 |some vs=>if okA e1 f.ms ts=true then (match f.G vs with
  |.stuck=>.stuck
  |.ok r mv=>if (bI e1 f.ms ts).isEmpty || (fO r&&mv.all cK) then .ok (r.tm ts) (bH (bN f.ms ts) (bD f.ms mv) e1) else (match oR e1 (bI e1 f.ms ts) with
   |some e2=>.ok (r.tm ts) (bH (bN f.ms ts) (bD f.ms mv) e2)
   |none=>.stuck)
  |.exc c mv=>if (bI e1 f.ms ts).isEmpty || mv.all cK then .exc c (bH (bN f.ms ts) (bD f.ms mv) e1) else .stuck) else .stuck:=rfl
@[simp] theorem G0(ts:List Tm)(v:Val):(Rt.val v).tm ts=.val v:=rfl
@[simp] theorem Ie(ts:List Tm)(v:Val):(Rt.new v).tm ts=.new v:=rfl
@[simp] theorem bq(ts:List Tm)(v u:Val):(Rt.pr v u).tm ts=.val (.tup [v,u]):=rfl
@[simp] theorem o_n:oN.G e=.ok none e:=rfl
@[simp] theorem o_s(a:PEx):(oS a).G e=(a.G e).bind λt e1=>match rs e1 t with
 |some (.int i)=>.ok (some i) e1
 |_=>.stuck:=rfl
@[simp] theorem v_sl(a:PEx)(l u:POp):(pSl a l u).G e=(a.G e).bind λt e1=>(l.G e1).bind λlo e2=>(u.G e2).bind λhi e3=>match rs e3 t.drop with
 |some v=>(aSl v lo hi).at e3
 |none=>.stuck:=rfl
theorem bJ(ms:List Bool)(N:Nat)(c:PSt)(vs:List Val):(fnP ms N c).G vs=if vs.length=ms.length then (match c.G (sls ms vs++List.replicate (N-vs.length) .no) with
 |.nx e=>(match muV ms e with |some mv=>.ok (.val .non) mv |none=>.stuck)
 |.rt r e=>(match muV ms e with |some mv=>.ok r mv |none=>.stuck)
 |.exc c e=>(match muV ms e with |some mv=>.exc c mv |none=>.stuck)
 |_=>.stuck) else .stuck:=rfl
theorem iX(ms:List Bool)(N:Nat)(c:PSt)(vs:List Val):(PFx.of ms N c).G vs=if vs.length=ms.length then (match c.G (sls ms vs++List.replicate (N-vs.length) .no) with
 |.nx e=>(match muV ms e with |some mv=>.ok (.val .non) mv |none=>.stuck)
 |.rt r e=>(match muV ms e with |some mv=>.ok r mv |none=>.stuck)
 |.exc c e=>(match muV ms e with |some mv=>.exc c mv |none=>.stuck)
 |_=>.stuck) else .stuck:=rfl
@[simp] theorem Kq(p:PFx ms):p.fn.ms=ms:=rfl
@[simp] theorem fx_G(p:PFx ms)(vs:List Val):p.fn.G vs=p.G vs:=rfl
end
@[simp] theorem J7(i j:Int):b8.G (.int i) (.int j)=.val (.int (i+j)):=rfl
@[simp] theorem K8(i j:Int):xi.G (.int i) (.int j)=.val (.int (i-j)):=rfl
@[simp] theorem k_lt(i j:Int):bLt.G (.int i) (.int j)=.val (.bl (decide (i<j))):=rfl
@[simp] theorem k_gt(i j:Int):bGt.G (.int i) (.int j)=.val (.bl (decide (j<i))):=rfl
@[simp] theorem k_ge(i j:Int):bGe.G (.int i) (.int j)=.val (.bl (decide (j<=i))):=rfl
@[simp] theorem LC(i j:Int):AW.G (.int i) (.int j)=.val (.int (i+j)):=rfl
@[simp] theorem K1(i:Int):rE.G (.int i)=.val (.int (-i)):=rfl
def ck(c:CMulA i j):bT.G (.int i) (.int j)=.val (.int (i*j)):=by show vE (.int i) (.int j)=_;unfold vE aIc;dsimp only;rw[if_pos c]
def kK(c:CDivB i j):i7.G (.int i) (.int j)=.val (.int (i.fdiv j)):=by show wV (.int i) (.int j)=_;unfold wV aIc;dsimp only;rw[if_pos c]
def gu(c:j≠0):da.G (.int i) (.int j)=.val (.int (i.fmod j)):=by show v8 (.int i) (.int j)=_;unfold v8 aIc;dsimp only;rw[if_pos c]
def B0(c:gG i j):om.G (.int i) (.int j)=.val (.int (i^j.toNat)):=by show vY (.int i) (.int j)=_;unfold vY aIc;dsimp only;rw[if_pos c]
def Km(c:gG i j):zV.G (.int i) (.int j)=.val (.int (i*2^j.toNat)):=by show vP (.int i) (.int j)=_;unfold vP aIc;dsimp only;rw[if_pos c]
@[simp] theorem k_ix(x:Val)(i:Int):bIx.G x (.int i)=match x.items with
 |some xs=>(match atI xs i with
  |some v=>.val v
  |none=>.stuck)
 |none=>.stuck:=by show aIx x (.int i)=_;unfold aIx;cases x.items <;> rfl
@[simp] theorem Jk(xs:List Val):(Val.tup xs).items=some xs:=rfl
@[simp] theorem xB(xs:List Val):(Val.lst xs).items=some xs:=rfl
@[simp] theorem k_eq(x y:Val):bEq.G x y=match ek x y with
 |some b=>.val (.bl b)
 |none=>.stuck:=by show aEq false x y=_;unfold aEq;cases ek x y <;> rfl
@[simp] theorem k_ne(x y:Val):bNe.G x y=match ek x y with
 |some b=>.val (.bl (!b))
 |none=>.stuck:=by show aEq true x y=_;unfold aEq;cases ek x y <;> rfl
@[simp] theorem Mg(x y:Int):ek (.int x) (.int y)=some (x==y):=rfl
def eq_str(hx:PyData.strOk x=true)(hy:PyData.strOk y=true):ek (.str x) (.str y)=some (x==y):=by unfold ek;show (if shp (.str x)=true/\shp (.str y)=true then _ else _)=_;rw[if_pos ⟨iK hx (MX _),iK hy (MX _)⟩];rfl
@[simp] theorem k_is(x:Val):bIs.G x .non=match x with
 |.non=>.val (.bl true)
 |_=>.val (.bl false):=by cases x <;> rfl
@[simp] theorem Kc(x:Val):A6.G x .non=match x with
 |.non=>.val (.bl false)
 |_=>.val (.bl true):=by cases x <;> rfl
@[simp] theorem Mh(v:Val):cG.G [v]=match v.items with
 |some xs=>.val (.int xs.length)
 |none=>(match v with
  |.str z=>if z.length<=16777216 then .val (.int z.length) else .stuck
  |_=>.stuck):=rfl
@[simp] theorem Me(i:Int):nt.G [.int i]=.val (.int (if i<0 then -i else i)):=rfl
@[simp] theorem Kv(xs:List Val):qQ.G [.lst xs]=match gq xs with
 |some bs=>.val (.bl (bs.all id))
 |none=>.stuck:=rfl
@[simp] theorem Mi(xs:List Val):fU.G [.lst xs]=match gW xs with
 |some bs=>.val (.int bs.sum)
 |none=>.stuck:=rfl
@[simp] theorem HS(v:Val):ke.G [v]=match v.items with
 |some xs=>.new (.lst xs)
 |none=>.stuck:=rfl
@[simp] theorem A2(xs:List Val)(v:Val):fE.G (.lst xs) [v]=if xs.length<16777216 then some (.lst (xs++[v]),.non) else none:=rfl
@[simp] theorem kf:∀(bs:List Int),gW (bs.map Val.int)=some bs
 | []=>rfl
 |b::r=>by show (gW (r.map Val.int)).map (b :: ·)=_;rw[kf r];rfl
@[simp] theorem sy:∀(bs:List Bool),gq (bs.map Val.bl)=some bs
 | []=>rfl
 |b::r=>by show (gq (r.map Val.bl)).map (b :: ·)=_;rw[sy r];rfl
def zc{K:W.Frag}{mg:Pa}{X:Cx}{ES:L2.St->XK}{sts:List Stmt}:DSs K mg X ES sts (λ_ _=>.stuck):=λpins s σ H D I ⟨_,_,_,_,_,p⟩=>p.elim
section
variable(K:W.Frag)(mg:Pa)(X:Cx)(ES:L2.St->XK)
@[irreducible] def DE(e:Expr)(F:ME):Prop:=L2.DE K mg X ES e F
@[irreducible] def DT(e:Expr)(F:MT):Prop:=L2.DT K mg X ES e F
@[irreducible] def DA(es:List Expr)(F:MA):Prop:=L2.DA K mg X ES es F
@[irreducible] def DS(st:Stmt)(F:MS):Prop:=L2.DS K mg X ES st F
@[irreducible] def DSs(st:List Stmt)(F:MS):Prop:=L2.DSs K mg X ES st F
@[irreducible] def DI(tg a_:Expr)(F:MI):Prop:=L2.DI K mg X ES tg a_ F
end
section
variable{K:W.Frag}{mg:Pa}{X:Cx}{ES:L2.St->XK}{e a b c o i tg a_ g_:Expr}{es:List Expr}{st:Stmt}{sts sts':List Stmt}{p q r:PEx}{A:PAs}{t u:PTs}{x y:PSt}{g:PGt}{gs:PGs}{I:PIt}{pos:Pos}
def tN(i:Nat){x:Str}(hN:X.N[i]?=some x:=by rfl)(hv:Vis X.env.scope x:=by first |exact Or.inl rfl |exact Or.inr (Or.inl rfl) |exact Or.inr (Or.inr rfl))(hd:(x==("__debug__" : Str))=false:=by decide)(hcd:(x==("__classdict__" : Str))=false:=by decide):DE K mg X ES (.Name x pos) (av i).F:=by with_unfolding_all exact GZ i hN hv hd hcd
def ng{i:Int}{j:Nat}:DE K mg X ES (.Constant (.int i) j pos) (br i).F:=by with_unfolding_all exact IL
def Mr{i:Bool}{j:Nat}:DE K mg X ES (.Constant (.bool i) j pos) (pBl i).F:=by with_unfolding_all exact K2
def Hj:DE K mg X ES (.Constant .none j pos) gj.F:=by with_unfolding_all exact E7
def He{i:Str}{j:Nat}:DE K mg X ES (.Constant (.str i) j pos) (bX i).F:=by with_unfolding_all exact Jg
def FL{x:Str}(hg:Gl X x)(ha:∃a,mg x=some (.ref a))(hm:X.mg=mg:=by rfl)(hd:(x==("__debug__" : Str))=false:=by decide):DE K mg X ES (.Name x pos) (vK x).F:=by with_unfolding_all exact Ib hg ha hm hd
def J4{x:Str}{d:D}{v:Val}{r:∀P h,Rd P h d v}(hg:Gl X x)(ha:GC K mg x d)(hm:X.mg=mg:=by rfl)(hd:(x==("__debug__" : Str))=false:=by decide):DE K mg X ES (.Name x pos) (rC d v r).F:=by with_unfolding_all exact Lo hg ha hm hd
def KQ{x:Str}{n:String}(hg:Gl X x)(hm:mg x=none)(hv:bootBuiltins x=some (.type n))(he:X.mg=mg:=by rfl)(hn:x ≠ "__name__":=by decide)(hd:(x==("__debug__" : Str))=false:=by decide):DE K mg X ES (.Name x pos) (pTy n).F:=by with_unfolding_all exact KW hg hm hv he hn hd
def vG(ho:OpR X (binaryOp op) r')(hd:OpD K mg r' k.F)(ha:DE K mg X ES a p.F)(hb:DE K mg X ES b q.F):DE K mg X ES (.BinOp a op b pos) (pOp k p q).F:=by with_unfolding_all exact K7 ho hd ha hb
def KY(hr:IxR X r')(hd:OpD K mg r' k.F)(ha:DE K mg X ES a p.F)(hb:DE K mg X ES b q.F)(hs:nV b:=by exact λ_ _=>rfl):DE K mg X ES (.Subscript a b pos) (pOp k p q).F:=by with_unfolding_all exact JN hr hd ha hb hs
def IP(ho:OpR X (compareOp op) r')(hd:OpD K mg r' k.F)(ha:DE K mg X ES a p.F)(hb:DE K mg X ES b q.F)(hm:behindInMarks op b=false:=by first |exact xV _ |with_unfolding_all rfl):DE K mg X ES (.Compare a [op] [b] pos) (pOp k p q).F:=by with_unfolding_all exact Jq ho hd ha hb hm
def FU(ho:OpR X (compareOp op) r')(hd:OpD K mg r' k.F)(ha:DE K mg X ES a p.F)(hb:DE K mg X ES b q.F)(hm:behindInMarks op b=false:=by first |exact xV _ |with_unfolding_all rfl):DT K mg X ES (.Compare a [op] [b] pos) (qOf (pOp k p q)).F:=by with_unfolding_all exact HY ho hd ha hb hm
def nS(ha:DE K mg X ES a p.F)(he:∀u_,isTrue a X.env u_=(do let v <- u_;standAt a.pos;holding [v] (truthy v)):=by intro _;rfl):DT K mg X ES a (qOf p).F:=by with_unfolding_all exact Hy ha he
def tP(ha:DT K mg X ES a t.F):DT K mg X ES (.UnaryOp .Not a pos) (qNo t).F:=by with_unfolding_all exact Jr ha
def D4(ha:DT K mg X ES a t.F):DW K mg X ES (.BoolOp .And [a] pos) t.F:=by with_unfolding_all exact DN ha
def zr(ha:DT K mg X ES a t.F):DW K mg X ES (.BoolOp .Or [a] pos) t.F:=by with_unfolding_all exact GA ha
def Hk(ha:DT K mg X ES a t.F)(hb:DW K mg X ES (.BoolOp .And (b::es) pos) u.F):DW K mg X ES (.BoolOp .And (a::b::es) pos) (qAn t u).F:=by with_unfolding_all exact Iq ha hb
def B5(ha:DT K mg X ES a t.F)(hb:DW K mg X ES (.BoolOp .Or (b::es) pos) u.F):DW K mg X ES (.BoolOp .Or (a::b::es) pos) (qO t u).F:=by with_unfolding_all exact J6 ha hb
def ZW.dt(h:DW K mg X ES a t.F):DT K mg X ES a t.F:=by with_unfolding_all exact DW.dt h
def zt_w{op}(h:DW K mg X ES (.BoolOp op es pos) t.F):DT K mg X ES (.BoolOp op es pos) t.F:=ZW.dt h
def E9{op}(h:DE K mg X ES a p.F):DE K mg X ES (.BoolOp op [a] pos) p.F:=by with_unfolding_all exact FV h
def F4(ha:DE K mg X ES a p.F)(hb:DE K mg X ES (.BoolOp .And (b::es) pos) q.F):DE K mg X ES (.BoolOp .And (a::b::es) pos) (mD p q).F:=by with_unfolding_all exact FX ha hb
def KI(ha:DE K mg X ES a p.F)(hb:DE K mg X ES (.BoolOp .Or (b::es) pos) q.F):DE K mg X ES (.BoolOp .Or (a::b::es) pos) (pOr p q).F:=by with_unfolding_all exact KZ ha hb
def zw(ha:DE K mg X ES a p.F):DE K mg X ES (.UnaryOp .Not a pos) (sf p).F:=by with_unfolding_all exact Hi ha
def Kw(ho:UnR X (unaryOp op) r')(hd:UnD K mg r' k.F)(ha:DE K mg X ES a p.F):DE K mg X ES (.UnaryOp op a pos) (pUn k p).F:=by with_unfolding_all exact Kj ho hd ha
def yj:DA K mg X ES [] bj.F:=by with_unfolding_all exact HJ
def cB(ha:DE K mg X ES e p.F)(hr:DA K mg X ES es A.F)(hs:starEach (e::es) X.env=(false,eval e X.env)::starEach es X.env:=by rfl):DA K mg X ES (e::es) (aq p A).F:=by with_unfolding_all exact EU ha hr hs
def xW{x1}(h:DA K mg X ES es A.F):DE K mg X ES (.Tuple es x1 pos) (dH A).F:=by with_unfolding_all exact Je h
def zt(h:DA K mg X ES es A.F):DE K mg X ES (.List es pos) (dk A).F:=by with_unfolding_all exact Jd h
def eg{id:String}{r':List V->Hp->VK->Prop}{k:PBf}{x:Str}{p0:Pos}(hc:CallR X (.builtin id) r')(hd:cJ K mg r' k.F)(hg:Gl X x)(hm:mg x=none)(hv:bootBuiltins x=some (.builtin id))(ha:DA K mg X ES (e::es) A.F)(hk:X.mg=mg:=by rfl)(hn:x ≠ "__name__":=by decide)(hdb:(x==("__debug__" : Str))=false:=by decide)(he:starEach (e::es) X.env=(false,eval e X.env)::starEach es X.env:=by rfl)(hpl:(backTo pos (starEach es X.env)).any (·.1)=false:=by rfl):DE K mg X ES (.Call (.Name x p0) (e::es) [] pos) (pFn k A).F:=by with_unfolding_all exact Be hc hd hg hm hv ha hk hn hdb he hpl
def pX{id:String}{r':List V->Hp->VK->Prop}{k:PBf}{x:Str}{p0:Pos}(hc:CallR X (.type id) r')(hd:cJ K mg r' k.F)(hg:Gl X x)(hm:mg x=none)(hv:bootBuiltins x=some (.type id))(ha:DA K mg X ES (e::es) A.F)(hk:X.mg=mg:=by rfl)(hn:x ≠ "__name__":=by decide)(hdb:(x==("__debug__" : Str))=false:=by decide)(he:starEach (e::es) X.env=(false,eval e X.env)::starEach es X.env:=by rfl)(hpl:(backTo pos (starEach es X.env)).any (·.1)=false:=by rfl):DE K mg X ES (.Call (.Name x p0) (e::es) [] pos) (pFn k A).F:=by with_unfolding_all exact yz hc hd hg hm hv ha hk hn hdb he hpl
def Bd{f:PFn}{x:Str}{p0:Pos}{k n:Nat}{ps:List Str}(C:Callee X.prog X.w X.K X.mg X.base x k ps (spD K mg n f.F))(hr:Room k X.A)(hg:Gl X x)(hx:kT X ES)(ha:DA K mg X ES (e::es) A.F)(hn:f.ms.length=n)(hdb:(x==("__debug__" : Str))=false)(he:starEach (e::es) X.env=(false,eval e X.env)::starEach es X.env)(hpl:(backTo pos (starEach es X.env)).any (·.1)=false):DE K mg X ES (.Call (.Name x p0) (e::es) [] pos) (bt f A).F:=by subst hn;with_unfolding_all exact A8 C hr hg hx ha hdb he hpl
def DD:DSs K mg X ES [] xNx.F:=by with_unfolding_all exact C6
def dC(h1:DS K mg X ES st x.F):DSs K mg X ES [st] x.F:=by with_unfolding_all exact EF h1
def bx(h1:DS K mg X ES st x.F)(h2:DSs K mg X ES sts y.F):DSs K mg X ES (st::sts) (bu x y).F:=by with_unfolding_all exact AS h1 h2
def tZ:DS K mg X ES (.Continue pos) xCt.F:=by with_unfolding_all exact um
def fM(he:DE K mg X ES e p.F):DS K mg X ES (.Return (some e) pos) (bA p).F:=by with_unfolding_all exact Ft he
def ur(he:DE K mg X ES e p.F)(hs:swapsWith e none pos.line X.env=pure false:=by rfl):DS K mg X ES (.Expr e pos) (dS p).F:=by with_unfolding_all exact Ey he hs
def jH(hc:DT K mg X ES c t.F)(ha:DSs K mg X ES sts x.F)(hb:DSs K mg X ES sts' y.F):DS K mg X ES (.If c sts sts' pos) (xIf t x y).F:=by with_unfolding_all exact Kf hc ha hb
def Ds{i:Nat}{x:Str}(hN:X.N.Nodup)(hi:X.N[i]?=some x)(hx:Loc X.env.scope x)(hf:X.fn x=true\/X.env.scope.names.lookup x=some .local):DG K mg X ES (.Name x pos) (gtN i).F:=Dt hN hi hx hf
def DU:DGs K mg X ES [] eI.F:=Ej
def zC(h1:DG K mg X (λ_=>E0) e g.F)(h2:DGs K mg X (λ_=>E0) es gs.F)(hs:(assignEach (e::es) X.env).map (·.2)=assign e X.env::(assignEach es X.env).map (·.2):=by rfl):DGs K mg X (λ_=>E0) (e::es) (bQ g gs).F:=AA h1 h2 hs
def Hu(hK:X.K=K)(hc:X.calm=true)(h:DGs K mg X (λ_=>E0) es gs.F)(hn:(assignEach es X.env).length=n:=by rfl)(hst:(assignEach es X.env).findIdx? (·.1)=none:=by rfl):DG K mg X (λ_=>E0) (.Tuple es k pos) (gtT n gs).F:=F5 hK hc h hn hst
def ZG.weak(hg:DG K mg X (λ_=>E0) e g.F):DG K mg X ES e (gtX g).F:=DG.weak hg
def oA(he:DE K mg X ES e p.F)(hg:DG K mg X ES a g.F)(hs:swapsWithSole [a] e pos.line X.env=pure false:=by rfl)(hw:swappedStores [a] e X.env=pure none:=by rfl)(h1:(assignEach [a] X.env).map (·.2)=[assign a X.env]:=by rfl):DS K mg X ES (.Assign [a] e pos) (gx p g).F:=by with_unfolding_all exact yo he hg hs hw h1
def EJ(he:DE K mg X ES e p.F)(ho:DE K mg X ES o (av j).F)(hi:DE K mg X ES i q.F)(hs':tT X r')(hd:ou K mg r' w.F)(hs:swapsWithSole [.Subscript o i p1] e pos.line X.env=pure false:=by rfl)(hw:swappedStores [.Subscript o i p1] e X.env=pure none:=by rfl)(h1:(assignEach [.Subscript o i p1] X.env).map (·.2)=[assign (.Subscript o i p1) X.env]:=by rfl)
 (ha:∀v,assign (.Subscript o i p1) X.env v=(do
  let ov <- holding [v] (eval o X.env)
  let iv <- holding [v,ov] (eval i X.env)
  standAt p1
  holding [v,ov,iv] (setItem ov iv v)
  release [v,ov,iv] []):=by intro _;rfl):DS K mg X ES (.Assign [.Subscript o i p1] e pos) (n6 j w q p).F:=by with_unfolding_all exact yo he (E4 ho hi hs' hd ha) hs hw h1
def JE{ow:Bool}{i:Nat}{x:Str}{t_:Pos}(hN:X.N.Nodup)(hi:X.N[i]?=some x)(hx:Loc X.env.scope x)(he:DE K mg X ES e p.F)(hs:swapsWith e (some (.Name x t_)) pos.line X.env=pure false)(hf:X.fn x=true\/X.env.scope.names.lookup x=some .local):DS K mg X ES (.Assign [.Name x t_] e pos) (bF ow i p).F:=by with_unfolding_all exact Jc hN hi hx he hs hf
def IA{i j:Nat}{x y:Str}{px py pt:Pos}{kt k2 pt2}(hN:X.N.Nodup)(ha:DA K mg X ES [a,b] A.F)(hc:X.calm=true:=by rfl)(hi:X.N[i]?=some x:=by rfl)(hj:X.N[j]?=some y:=by rfl)(hij:i≠j:=by decide)(hx:X.env.scope.names.lookup x=some .local:=by rfl)(hy:X.env.scope.names.lookup y=some .local:=by rfl)(hw:swappedStores [.Tuple [.Name x px,.Name y py] kt pt] (.Tuple [a,b] k2 pt2) X.env=pure (some [x,y]):=by rfl)(hs:swapsWithSole [.Tuple [.Name x px,.Name y py] kt pt] (.Tuple [a,b] k2 pt2) pos.line X.env=pure false:=by rfl):DS K mg X ES (.Assign [.Tuple [.Name x px,.Name y py] kt pt] (.Tuple [a,b] k2 pt2) pos) (iG i j A).F:=by with_unfolding_all exact IE hc hN hi hj hij hx hy ha hw hs
def Fy{i:Nat}{x:Str}{op:Operator}{ti:TIp}{t_:Pos}{k:PO2}(hN:X.N.Nodup)(he:DE K mg X ES e p.F)(ho:PIp X op ti)(hd:IpD K mg ti k.F)(hi:X.N[i]?=some x:=by rfl)(hx:Loc X.env.scope x:=by first |exact Or.inl rfl |exact Or.inr rfl)(hf:X.fn x=true\/X.env.scope.names.lookup x=some .local:=by first |exact .inl rfl |exact .inr rfl |assumption):DS K mg X ES (.AugAssign (.Name x t_) op e pos) (Bm i k p).F:=by with_unfolding_all exact FE hN hi hx he ho hd hf
def AU{x:Str}{C:Addr}{E:XK}{np cpos:Pos}(hc:X.calm=true)(hR:Rz X E)(hg:Gl X x)(hm:mg x=some (.ref C))(hq:W.excIn X.K C me "ValueError.__new__"=true)(ha:DA K mg X (λ_=>E) (e::es) A.F)(hk:X.mg=mg:=by rfl)(he:starEach (e::es) X.env=(false,eval e X.env)::starEach es X.env:=by rfl)(j':(backTo cpos (starEach es X.env)).any (·.1)=false:=by rfl)(hd:(x==("__debug__" : Str))=false:=by decide):DS K mg X (λ_=>E) (.Raise (some (.Call (.Name x np) (e::es) [] cpos)) none pos) (fm x A).F:=by with_unfolding_all exact zF hc hR hg hm hq ha hk he j' hd
def HZ(hK:X.K=K)(he:DE K mg X ES e p.F):DI K mg X ES tg e (bP p).F:=by with_unfolding_all exact HQ hK he
def zk(hg:Gl X "range")(hm:mg "range"=none)(ha:DA K mg X ES [a] A.F)(hk:X.mg=mg:=by rfl)(hs:starEach [a] X.env=[(false,eval a X.env)]:=by rfl):DI K mg X ES tg (.Call (.Name "range" p0) [a] [] pos) (kM A).F:=by with_unfolding_all exact yH hg hm ha hk hs
def yp(hg:Gl X "range")(hm:mg "range"=none)(ha:DA K mg X ES [a,b] A.F)(hk:X.mg=mg:=by rfl)(hs:starEach [a,b] X.env=[(false,eval a X.env),(false,eval b X.env)]:=by rfl)(hs2:starEach [b] X.env=[(false,eval b X.env)]:=by rfl):DI K mg X ES tg (.Call (.Name "range" p0) [a,b] [] pos) (qM A).F:=by with_unfolding_all exact yg hg hm ha hk hs hs2
def FQ(hK:X.K=K)(hg:Gl X "zip")(hm:mg "zip"=none)(ha:DA K mg X ES [a,b] A.F)(hk:X.mg=mg:=by rfl)(hs:starEach [a,b] X.env=[(false,eval a X.env),(false,eval b X.env)]:=by rfl)(hs2:starEach [b] X.env=[(false,eval b X.env)]:=by rfl):DI K mg X ES (.Tuple elts x1 tp) (.Call (.Name "zip" p0) [a,b] [] pos) (vS A).F:=by with_unfolding_all exact Gk hK hg hm ha hk hs hs2
def jj(hp:PassesOwn (model X.prog X.w) X.A X.env X.xe)(hc:X.calm=true)(hi:DI K mg X ES tg a_ I.F)(hg:DG K mg X ES tg g.F)(hb:DSs K mg X ES sts x.F)(hs:∀x,foldedSetIterable a_ X.env x=pure x:=by intro _;rfl):DS K mg X ES (.For tg a_ sts [] pos) (ff I g x).F:=by with_unfolding_all exact IX hp hc hi hg hb hs
def Bc(hp:PassesOwn (model X.prog X.w) X.A X.env X.xe)(hc:DT K mg X ES c t.F)(hb:DSs K mg X ES sts x.F):DS K mg X ES (.While c sts [] pos) (xWh t x).F:=by with_unfolding_all exact zD hp hc hb
def Lm{scope:Scope}(M:List Str)(kn:List (Str×NameKind))(N:List Str)(sub:Pd){hsb:(sub.filterMap id).Nodup}(hc:X.calm=true)(hi:DI K mg X ES tg a_ I.F)(hg:∀cl C s₂ H fp,DG K mg (bz X N scope cl C s₂ H fp) (λ_=>E0) tg g.F)(he:∀cl C s₂ H fp,DE K mg (bz X N scope cl C s₂ H fp) (λ_=>E0) g_ p.F)(hM:X.N=M)(hkn:X.env.scope.names=kn)(f_:dE M scope.names sub N=true)(hk:scope.kind=.function)(o_:∀x∈scope.names,x.2 ≠ .cell)(b_:∀x∈scope.names,x.2=.local->scope.names.lookup x.1=some .local)(l_:eS kn scope.names=true)(p_:sub.length=N.length)(hs:∀x,foldedSetIterable a_ X.env x=pure x):DE K mg X ES (.ListComp g_ [⟨tg,a_,[],0⟩] scope pos) (pLC I sub hsb g qY p).F:=by with_unfolding_all exact Ll M kn N sub hc hi hg he hM hkn f_ hk o_ b_ l_ p_ hs
def Ea{scope:Scope}(M:List Str)(kn:List (Str×NameKind))(N:List Str)(sub:Pd){hsb:(sub.filterMap id).Nodup}(hc:X.calm=true)(hi:DI K mg X ES tg a_ I.F)(hg:∀cl C s₂ H fp,DG K mg (bz X N scope cl C s₂ H fp) (λ_=>E0) tg g.F)(ht:∀cl C s₂ H fp,DT K mg (bz X N scope cl C s₂ H fp) (λ_=>E0) c t.F)(he:∀cl C s₂ H fp,DE K mg (bz X N scope cl C s₂ H fp) (λ_=>E0) g_ p.F)(hM:X.N=M)(hkn:X.env.scope.names=kn)(f_:dE M scope.names sub N=true)(hk:scope.kind=.function)(o_:∀x∈scope.names,x.2 ≠ .cell)(b_:∀x∈scope.names,x.2=.local->scope.names.lookup x.1=some .local)(l_:eS kn scope.names=true)(p_:sub.length=N.length)(hs:∀x,foldedSetIterable a_ X.env x=pure x):DE K mg X ES (.ListComp g_ [⟨tg,a_,[c],0⟩] scope pos) (pLC I sub hsb g t p).F:=by with_unfolding_all exact EM M kn N sub hc hi hg ht he hM hkn f_ hk o_ b_ l_ p_ hs
def K4{ow:Bool}{px spos:Pos}{iT:Nat}{xT:Str}{scope:Scope}(M:List Str)(kn:List (Str×NameKind))(N:List Str)(sub:Pd){hsb:(sub.filterMap id).Nodup}(hc:X.calm=true)(hN:X.N.Nodup)(hix:X.N[iT]?=some xT)(hxl:Loc X.env.scope xT)(hi:DI K mg X ES tg a_ I.F)(hg:∀cl C s₂ H fp,DG K mg (bz X N scope cl C s₂ H fp) (λ_=>E0) tg g.F)(he:∀cl C s₂ H fp,DE K mg (bz X N scope cl C s₂ H fp) (λ_=>E0) g_ p.F)(hsw:swapsWith (.ListComp g_ [⟨tg,a_,[],0⟩] scope pos) (some (.Name xT px)) spos.line X.env=pure true)(hM:X.N=M)(hkn:X.env.scope.names=kn)(f_:dE M scope.names sub N=true)(hk:scope.kind=.function)(o_:∀x∈scope.names,x.2 ≠ .cell)(b_:∀x∈scope.names,x.2=.local->scope.names.lookup x.1=some .local)(l_:eS kn scope.names=true)(p_:sub.length=N.length)(hs:∀x,foldedSetIterable a_ X.env x=pure x)(hf:X.fn xT=true\/X.env.scope.names.lookup xT=some .local):DS K mg X ES (.Assign [.Name xT px] (.ListComp g_ [⟨tg,a_,[],0⟩] scope pos) spos) (bF ow iT (pLC I sub hsb g qY p)).F:=by with_unfolding_all exact J3 M kn N sub hc hN hix hxl hi hg he hsw hM hkn f_ hk o_ b_ l_ p_ hs hf
def Eg{ow:Bool}{px spos:Pos}{iT:Nat}{xT:Str}{scope:Scope}(M:List Str)(kn:List (Str×NameKind))(N:List Str)(sub:Pd){hsb:(sub.filterMap id).Nodup}(hc:X.calm=true)(hN:X.N.Nodup)(hix:X.N[iT]?=some xT)(hxl:Loc X.env.scope xT)(hi:DI K mg X ES tg a_ I.F)(hg:∀cl C s₂ H fp,DG K mg (bz X N scope cl C s₂ H fp) (λ_=>E0) tg g.F)(ht:∀cl C s₂ H fp,DT K mg (bz X N scope cl C s₂ H fp) (λ_=>E0) c t.F)(he:∀cl C s₂ H fp,DE K mg (bz X N scope cl C s₂ H fp) (λ_=>E0) g_ p.F)(hsw:swapsWith (.ListComp g_ [⟨tg,a_,[c],0⟩] scope pos) (some (.Name xT px)) spos.line X.env=pure true)(hM:X.N=M)(hkn:X.env.scope.names=kn)(f_:dE M scope.names sub N=true)(hk:scope.kind=.function)(o_:∀x∈scope.names,x.2 ≠ .cell)(b_:∀x∈scope.names,x.2=.local->scope.names.lookup x.1=some .local)(l_:eS kn scope.names=true)(p_:sub.length=N.length)(hs:∀x,foldedSetIterable a_ X.env x=pure x)(hf:X.fn xT=true\/X.env.scope.names.lookup xT=some .local):DS K mg X ES (.Assign [.Name xT px] (.ListComp g_ [⟨tg,a_,[c],0⟩] scope pos) spos) (bF ow iT (pLC I sub hsb g t p)).F:=by with_unfolding_all exact Dy M kn N sub hc hN hix hxl hi hg ht he hsw hM hkn f_ hk o_ b_ l_ p_ hs hf
def xt{j:Nat}{name:Str}{id:String}{apos cpos:Pos}{r':V->List V->Hp->VK->Prop}{k:PMm}(hK:X.K=K)(slot:Slot "list" name id)(hty:typeOf (.builtin id)=pure (.type "method_descriptor"))(hm:MtM X id r')(hd:MtD K mg r' k.F)(ho:DE K mg X ES o (av j).F)(ha:DA K mg X ES (e::es) A.F)(r_:attributeBase o name X.env (eval o X.env)=eval o X.env:=by rfl)(hfew:((backTo cpos (starEach (e::es) X.env)).all (λx=>!x.1)&&(backToKw cpos (keywordEach [] X.env)).all (λx=>x.1.isSome)&&decide ((e::es).length+([]:List Keyword).length+(if ([]:List Keyword).isEmpty then 0 else 1)<30))=true:=by rfl)(s_:(apos.endLine==cpos.line)=true:=by rfl)(hs:starEach (e::es) X.env=(false,eval e X.env)::starEach es X.env:=by rfl)(j':(backTo cpos (starEach es X.env)).any (·.1)=false:=by rfl):DE K mg X ES (.Call (.Attribute o name apos) (e::es) [] cpos) (l9 j k A).F:=by with_unfolding_all exact de_m hK slot hty hm hd ho ha r_ hfew s_ hs j'
def D8{j:Nat}{name:Str}{id:String}{apos cpos:Pos}{r':V->List V->Hp->VK->Prop}{k:PMm}(hK:X.K=K)(slot:Slot "list" name id)(hty:typeOf (.builtin id)=pure (.type "method_descriptor"))(hm:MtM X id r')(hd:MtD K mg r' k.F)(ho:DE K mg X ES o (av j).F)(r_:attributeBase o name X.env (eval o X.env)=eval o X.env:=by rfl)(s_:(apos.endLine==cpos.line)=true:=by rfl):DE K mg X ES (.Call (.Attribute o name apos) [] [] cpos) (wA j k).F:=by with_unfolding_all exact K9 hK slot hty hm hd ho r_ s_
def uC:DO K mg X ES none oN.F:=EK
def uB(he:DE K mg X ES e p.F):DO K mg X ES (some e) (oS p).F:=by with_unfolding_all exact Dk he
def r9{l u:POp}{lo hi:Option Expr}{p2:Pos}(hK:X.K=K)(he:DE K mg X ES e p.F)(hl:DO K mg X ES lo l.F)(hu:DO K mg X ES hi u.F):DE K mg X ES (.Subscript e (.Slice lo hi none p2) pos) (pSl p l u).F:=by with_unfolding_all exact AR hK he hl hu
def rY:OpD K mg (λx y H Q=>rI0 (λi j=>.int (i+j)) x y H Q\/(o3 x y H Q\/(kS K x y H Q\/lu K x y H Q))) b8.F:=GN
def G9:OpD K mg (rI0 λi j=>.int (i-j)) xi.F:=Gw
def Fb:OpD K mg (rI CMulA λi j=>.int (i*j)) bT.F:=Ge
def G8:OpD K mg (rI CDivB λi j=>.int (i.fdiv j)) i7.F:=HI
def JH:OpD K mg (rI (λ_ j=>j≠0) λi j=>.int (i.fmod j)) da.F:=Ha
def HN:OpD K mg (rI gG λi j=>.int (i^j.toNat)) om.F:=GO
def Im:OpD K mg (rI gG λi j=>.int (i*2^j.toNat)) zV.F:=JG
def CD:OpD K mg (rI0 λi j=>.bl (decide (i<j))) bLt.F:=LW
def Cb:OpD K mg (rI0 λi j=>.bl (decide (j<i))) bGt.F:=LB
def BY:OpD K mg (rI0 λi j=>.bl (decide (j<=i))) bGe.F:=KC
def JM:OpD K mg (λx y H Q=>wR K x y H Q\/wJ K x y H Q) bIx.F:=Gg
def CA:OpD K mg (wU K) bEq.F:=HK
def JS:OpD K mg (xj K) bNe.F:=FR
def LS:OpD K mg (rIn K false) bIn.F:=(zA false)
def Gr:OpD K mg (rIn K true) jB.F:=(zA true)
def Ma:OpD K mg (λx y H Q=>y=.non/\Q (.bl (decide (x=.non))) H) bIs.F:=Dh
def Gh:OpD K mg (λx y H Q=>y=.non/\Q (.bl (!decide (x=.non))) H) A6.F:=A0
def GV:cJ K mg (λxs H Q=>(∃p ys,xs=[.ref p]/\(SqL K H p ys\/SqT K H p ys)/\Q (.int ys.length) H)\/(∃z,xs=[.str z]/\z.length<=sizeLine/\Q (.int z.length) H)) cG.F:=HF
def GY:cJ K mg (λxs H Q=>∃i,xs=[.int i]/\Q (.int (if i<0 then -i else i)) H) nt.F:=II
def ze:cJ K mg (λxs H Q=>∃(a:Addr) (bs:List Bool),xs=[.ref a]/\SqL K H a (bs.map V.bl)/\Q (.bl (bs.all id)) H) qQ.F:=Jh
def kJ:cJ K mg (λxs H Q=>∃(a:Addr) (ns:List Int),xs=[.ref a]/\SqL K H a (ns.map V.int)/\Q (.int ns.sum) H) fU.F:=Ig
def uJ:cJ K mg (λxs H Q=>∃p ys,xs=[.ref p]/\(SqL K H p ys\/SqT K H p ys)/\∀l,H l=none->Q (.ref l) (upd H l (.lst ys))) ke.F:=Dm
def Gu(ok:KitsOk K mg kt):cJ K mg (λxs H Q=>(∃x c t v b,xs=[x,c]/\TyX K H x t/\fP c=some v/\W.kitOne K t v=some b/\Q (.bl b) H)\/
 (∃x tp cs t vs b,xs=[x,.ref tp]/\SqT K H tp cs/\TyX K H x t/\cs.mapM fP=some vs/\W.kitAny K t vs=some b/\Q (.bl b) H)) (cc kt).F:=Fj ok
def o9:MtD K mg ox fE.F:=yI
def wM:MtD K mg md kq.F:=wo
def DZ:ou K mg wW seL.F:=EN
def Hb:IpD K mg (ipI λi j=>i+j) AW.F:=Es
def FA:UnD K mg (rU λi=>.int (-i)) rE.F:=Jj
variable{P:Program}{w:World}{base:Heap}{fx:Str}{n_:Stmt}{k n m:Nat}{ps N:List Str}{ms:List Bool}
def okP(D:Def K mg fx n_)(S:FnScope N ps (bw n_))
 (hb:∀(kV doc pm:Value) (an:Option Addr) (cdv ct:Value) (us:List Value),us.length=ps.length->bindArgs (W.fnOf fx fx (dg n_) (bU n_) (bw n_) .none kV doc pm an cdv ct) ⟨us,[]⟩=pure (ps.zip us))
 (j_:∀(f:Addr) (cdv:Value) (A:Around) (outer:List Env) (s:Shared) (H:Hp) (E:XK),Room k (A.deeper (envOfC fx (bw n_) s.heap.objs.size f cdv))->
  DSs K mg (eJ (CX1 P w) P w K mg base N fx (bw n_) f cdv A outer s H E) (λ_=>E) (bU n_) x.F) (hn:ps.length=n) (hm:N.length=m):Callee P w K mg base fx (k+1) ps (spD K mg n (fnP ms m x).F):=by
 subst hn hm;with_unfolding_all exact D.okD S hb j_
def okX(D:Def K mg fx n_)(S:FnScope N ps (bw n_))
 (hb:∀(kV doc pm:Value) (an:Option Addr) (cdv ct:Value) (us:List Value),us.length=ps.length->bindArgs (W.fnOf fx fx (dg n_) (bU n_) (bw n_) .none kV doc pm an cdv ct) ⟨us,[]⟩=pure (ps.zip us))
 (j_:∀(f:Addr) (cdv:Value) (A:Around) (outer:List Env) (s:Shared) (H:Hp) (E:XK),Room k (A.deeper (envOfC fx (bw n_) s.heap.objs.size f cdv))->
  DSs K mg (eJ (CX1 P w) P w K mg base N fx (bw n_) f cdv A outer s H E) (λ_=>E) (bU n_) x.F) (hn:ps.length=n) (hm:N.length=m):Callee P w K mg base fx (k+1) ps (spD K mg n (PFx.of ms m x).F):=by
 subst hn hm;with_unfolding_all exact D.okD S hb j_
def ok0(D:Def K mg fx n_)(S:FnScope N ps (bw n_))
 (hb:∀(kV doc pm:Value) (an:Option Addr) (cdv ct:Value) (us:List Value),us.length=ps.length->bindArgs (W.fnOf fx fx (dg n_) (bU n_) (bw n_) .none kV doc pm an cdv ct) ⟨us,[]⟩=pure (ps.zip us)) (hn:ps.length=n:=by rfl):Callee P w K mg base fx (k+1) ps (spD K mg n (PFx.none ms).F):=by
 subst hn;exact D.okD (F:=λ_ _=>.stuck) S hb λ_ _ _ _ _ _ _ _=>zc
end
def E8(b:Bool)(ms:List Bool)(v:Val)(vs:List Val):sls (b::ms) (v::vs)=sl1 b v::sls ms vs:=rfl
def CQ:sls [] []=[]:=rfl
def JU(v:Val):sl1 true v=.mu v:=rfl
def Mm(v:Val):sl1 false v=.sh v:=rfl
section
variable(e:E3)
def Eb:okA e [] []=true:=rfl
def Io(i:Nat)(ms:List Bool)(ts:List Tm):okA e (true::ms) (.bor i::ts)=(((e[i]?).bind Sl.mv).isSome && !(iZ i ts)&&okA e ms ts):=rfl
def Jn(i:Nat)(ms:List Bool)(ts:List Tm):okA e (false::ms) (.bor i::ts)=(!(i5 i ms ts)&&okA e ms ts):=rfl
def Fo(v:Val)(ms:List Bool)(ts:List Tm):okA e (false::ms) (.val v::ts)=okA e ms ts:=rfl
def Aq(i:Nat):iZ i []=false:=rfl
def Hg(i:Nat)(v:Val)(ts:List Tm):iZ i (.val v::ts)=iZ i ts:=rfl
def zR(i:Nat):i5 i [] []=false:=rfl
def H9(i:Nat)(t:Tm)(ms:List Bool)(ts:List Tm):i5 i (false::ms) (t::ts)=i5 i ms ts:=by cases t <;> rfl
def zm:bI e [] []=[]:=rfl
theorem Eu(i:Nat)(ms:List Bool)(ts:List Tm):bI e (false::ms) (.bor i::ts)=match e[i]? with
 |some (.sh _)=>bI e ms ts
 |_=>i::bI e ms ts:=rfl
def C5(v:Val)(ms:List Bool)(ts:List Tm):bI e (false::ms) (.val v::ts)=bI e ms ts:=rfl
def GQ(t:Tm)(ms:List Bool)(ts:List Tm):bI e (true::ms) (t::ts)=bI e ms ts:=by cases t <;> rfl
end
def xS:bN [] []=[]:=rfl
def Dr(b:Bool)(t:Tm)(ms:List Bool)(ts:List Tm):bN (b::ms) (t::ts)=n5 b t::bN ms ts:=rfl
def CY(i:Nat):n5 true (.bor i)=some i:=rfl
def Ip(t:Tm):n5 false t=none:=by cases t <;> rfl
def Bn(e:E3):bH [] [] e=e:=rfl
def Ia(o:Option Nat)(sub:Pd)(s:Sl)(i e:E3):bH (o::sub) (s::i) e=bH sub i (gm o s e):=rfl
theorem Di(i:Nat)(v:Val)(e:E3):gm (some i) (.mu v) e=match e[i]? with
 |some t=>e.set i (t.re v)
 |none=>e:=rfl
def FF(s:Sl)(e:E3):gm none s e=e:=rfl
def Bk(vs:List Val):bD [] vs=[]:=rfl
def Ij(ms:List Bool)(v:Val)(vs:List Val):bD (true::ms) (v::vs)=.mu v::bD ms vs:=rfl
def HR(ms:List Bool)(vs:List Val):bD (false::ms) vs=.no::bD ms vs:=by cases vs <;> rfl
def En(e:E3):muV [] e=some []:=by cases e <;> rfl
def Ly(ms:List Bool)(v:Val)(e:E3):muV (true::ms) (.mu v::e)=(muV ms e).map (v :: ·):=rfl
def LH(ms:List Bool)(s:Sl)(e:E3):muV (false::ms) (s::e)=muV ms e:=by cases s <;> rfl
def yX(v:Val):fO (.val v)=flatV v:=rfl
def yG(v:Val):fO (.new v)=cK v:=rfl
def bc(v u:Val):fO (.pr v u)=(flatV v&&cK u):=rfl
def yk(xs:List Val):cK (.lst xs)=flatVs xs:=rfl
def eU:flatVs []=true:=by simp [flatVs]
def eF(v:Val)(vs:List Val):flatVs (v::vs)=(flatV v&&flatVs vs):=by simp [flatVs]
def km(i:Int):flatV (.int i)=true:=by simp [flatV]
def BR(i:Bool):flatV (.bl i)=true:=by simp [flatV]
def ku(i:Str):flatV (.str i)=true:=by simp [flatV]
def xR:flatV .non=true:=by simp [flatV]
def iR(xs:List Val):flatV (.tup xs)=flatVs xs:=by simp [flatV]
def k8(h0:0<=i)(h:l[i.toNat]?=some x):atI l i=some x:=by have hl:=(x_.mp h).1;unfold atI ixN;rw[if_pos h0,if_pos (by omega)];exact h
def Hf(h0:0<=i)(h:i.toNat<n):ixN n i=some i.toNat:=by unfold ixN;rw[if_pos h0,if_pos (by omega)]
section
variable(a b c d:α)(l:List α)
def ati0:atI (a::l) 0=some a:=k8 (by decide) rfl
def ati1:atI (a::b::l) 1=some b:=k8 (by decide) rfl
def ati2:atI (a::b::c::l) 2=some c:=k8 (by decide) rfl
def ati3:atI (a::b::c::d::l) 3=some d:=k8 (by decide) rfl
end
theorem CF(xs:List Val)(k:Int)(v:Val):seL.G (.lst xs) (.int k) v=match ixN xs.length k with
 |some j=>some (.lst (xs.set j v))
 |none=>none:=rfl
mutual
def vq:Val->Val->Bool
 |.non,.non=>true
 |.bl a,.bl b=>a==b
 |.bl a,.int j=>(if a then 1 else 0)==j
 |.int i,.bl b=>i==(if b then 1 else 0)
 |.int i,.int j=>i==j
 |.str x,.str y=>x==y
 |.tup xs,.tup ys=>vqs xs ys
 |.lst xs,.lst ys=>vqs xs ys
 |_,_=>false
def vqs:List Val->List Val->Bool
 | [],[]=>true
 |x::xs,y::ys=>vq x y&&vqs xs ys
 |_,_=>false
end
mutual
def wfV:Nat->Val->Bool
 |_,.non=>true
 |_,.bl _=>true
 |_,.int _=>true
 |_,.str x=>PyData.strOk x
 |k+1,.tup xs=>eP k xs
 |k+1,.lst xs=>eP k xs
 |_,_=>false
def eP:Nat->List Val->Bool
 |_,[]=>true
 |k,x::xs=>wfV k x&&eP k xs
end
mutual
def cQ:Val->PyData
 |.bl b=>.bool b
 |.int i=>.int i
 |.str x=>.str x
 |.tup xs=>.tuple (er xs)
 |.lst xs=>.list (er xs)
 |_=>.none
def er:List Val->List PyData
 | []=>[]
 |x::xs=>cQ x::er xs
end
mutual
theorem ju:∀(k:Nat) (v:Val),wfV k v=true->(∀j,k<j->du j v=some (cQ v))/\(cQ v).canLay0=true/\(cQ v).depth<=k
 |k,.non,_=>⟨λj hj=>by cases j with |zero=>exact absurd hj (NG _) |succ j=>rfl,rfl,MX _⟩
 |k,.bl b,_=>⟨λj hj=>by cases j with |zero=>exact absurd hj (NG _) |succ j=>rfl,rfl,MX _⟩
 |k,.int b,_=>⟨λj hj=>by cases j with |zero=>exact absurd hj (NG _) |succ j=>rfl,rfl,MX _⟩
 |k,.str b,w=>⟨λj hj=>by cases j with |zero=>exact absurd hj (NG _) |succ j=>rfl,by cases k <;> exact w,MX _⟩
 |0,.tup xs,w=>absurd w D_
 |0,.lst xs,w=>absurd w D_
 |
  k+1,.tup xs,w=>by
  obtain⟨h1,h2,h3⟩:=lX k xs w;exact⟨λj hj=>by cases j with |zero=>exact absurd hj (NG _) |succ j=>simp only[du,cQ,h1 j (Nat.lt_of_succ_lt_succ hj),Option.map_some],h2,by simpa [cQ,PyData.depth] using h3⟩
 |
  k+1,.lst xs,w=>by
  obtain⟨h1,h2,h3⟩:=lX k xs w;exact⟨λj hj=>by cases j with |zero=>exact absurd hj (NG _) |succ j=>simp only[du,cQ,h1 j (Nat.lt_of_succ_lt_succ hj),Option.map_some],h2,by simpa [cQ,PyData.depth] using h3⟩
 |k,.ty _,w=>by cases k <;> exact absurd w D_
 |k,.glb _,w=>by cases k <;> exact absurd w D_
 |k,.exc _,w=>by cases k <;> exact absurd w D_
 |k,.kl _,w=>by cases k <;> exact absurd w D_
 |k,.dct _,w=>by cases k <;> exact absurd w D_
 |k,.set _,w=>by cases k <;> exact absurd w D_
theorem lX:∀(k:Nat) (vs:List Val),eP k vs=true->(∀j,k<j->fg j vs=some (er vs))/\PyData.canLayAll0 (er vs)=true/\PyData.depthAll (er vs)<=k
 |k,[],_=>⟨λj hj=>by simp [fg,er],rfl,MX _⟩
 |
  k,v::vs,w=>by
  have w':(wfV k v&&eP k vs)=true:=w;rw[z_] at w';obtain⟨h1,h2,h3⟩:=ju k v w'.1;obtain⟨i1,i2,i3⟩:=lX k vs w'.2;exact⟨λj hj=>by simp [fg,er,h1 j hj,i1 j hj],by simp [er,PyData.canLayAll0,h2,i2],Nat.max_le.mpr ⟨h3,i3⟩⟩
end
mutual
theorem x8:∀(k:Nat) (v u:Val),wfV k v=true->wfV k u=true->PyData.eqv (cQ v) (cQ u)=vq v u
 |
  k,v,u,hv,hu=>by
  cases v <;> first |(cases k <;> exact absurd hv D_) |skip
  all_goals (cases u <;> first |(cases k <;> exact absurd hu D_) |rfl |(cases k with |zero=>exact absurd hv D_ |succ k=>exact uF k _ _ hv hu))
theorem uF:∀(k:Nat) (v u:List Val),eP k v=true->eP k u=true->PyData.eqvAll (er v) (er u)=vqs v u
 |_,[],[],_,_=>rfl
 |_,[],_::_,_,_=>rfl
 |_,_::_,[],_,_=>rfl
 |
  k,x::xs,y::ys,hv,hu=>by
  have h1:(wfV k x&&eP k xs)=true:=hv;have h2:(wfV k y&&eP k ys)=true:=hu;rw[z_] at h1 h2;show (PyData.eqv (cQ x) (cQ y)&&PyData.eqvAll (er xs) (er ys))=(vq x y&&vqs xs ys);rw[x8 k x y h1.1 h2.1,uF k xs ys h1.2 h2.2]
end
def Iu(hk:k<=160)(hx:wfV k x=true)(hy:wfV k y=true):ek x y=some (vq x y):=by obtain⟨h1,h2,h3⟩:=ju k x hx;obtain⟨i1,i2,i3⟩:=ju k y hy;unfold ek;rw[h1 164 (by omega),i1 164 (by omega)];dsimp only;rw[if_pos ⟨iK h2 (by omega),iK i2 (by omega)⟩,x8 k x y hx hy]
def Cf(hx:wfV 60 x=true)(hy:wfV 60 y=true):ek x y=some (vq x y):=Iu (by decide) hx hy
mutual
theorem n9:∀(k:Nat) (v:Val),wfV k v=true->vq v v=true
 |
  k,v,hv=>by
  cases v <;> first |(cases k <;> exact absurd hv D_) |rfl |exact Ou _ |(cases k with |zero=>exact absurd hv D_ |succ k=>exact tD k _ hv)
theorem tD:∀(k:Nat) (v:List Val),eP k v=true->vqs v v=true
 |_,[],_=>rfl
 |
  k,x::xs,hv=>by
  have h1:(wfV k x&&eP k xs)=true:=hv;rw[z_] at h1;show (vq x x&&vqs xs xs)=true;rw[n9 k x h1.1,tD k xs h1.2];rfl
end
noncomputable def fV(q:Rat):Val:=.tup [.int q.num,.int q.den]
structure Bx where
 l:Rat
 t:Rat
 w:Rat
 h:Rat
structure Bx.Ok(b:Bx):Prop where
 w:0<b.w
 h:0<b.h
structure Bx.Sz(n:Nat)(b:Bx):Prop where
 l:L2.Sz n b.l
 t:L2.Sz n b.t
 w:L2.Sz n b.w
 h:L2.Sz n b.h
noncomputable def bV(b:Bx):Val:=.tup [fV b.l,fV b.t,fV b.w,fV b.h]
def mO(q:Rat)(k:Nat):wfV (k+1) (fV q)=true:=by simp [fV,wfV,eP]
noncomputable def knV:Val->Bool
 |.exc _=>false
 |v=>(tyC v).isSome
noncomputable def i8:Nat->Val->Bool
 |k+1,.tup xs=>xs.all (i8 k)
 |_,v=>knV v
noncomputable def jW:Val->Bool
 |.int _=>true
 |_=>false
noncomputable def bO:Val->Bool
 |.tup [.int a,.int b]=>decide (1<=b)&&decide (Int.gcd a b=1)
 |_=>false
noncomputable def jV:Val->Bool
 |.tup (.int a::_)=>decide (0<a)
 |_=>false
noncomputable def gv:Val->Bool
 |.tup [a,b,c,d]=>bO a&&(bO b&&(bO c&&(bO d&&(jV c&&jV d))))
 |_=>false
noncomputable def iI:Val->Bool
 |.int i=>decide (1<=i)
 |_=>false
noncomputable def fR:Val->Bool
 |.tup _=>true
 |_=>false
def J8(h1:1<=b)(h2:Int.gcd a b=1):Val.tup [.int a,.int b]=fV ((a:Rat)/(b:Rat)):=by
 have hb:b≠0:=by omega
 have h:=nM (a:=a) hb;have s:=Fr.self (by omega) h2;unfold fV;rw[<- h.1,<- h.2,s.1,s.2]
def jI(q:Rat):bO (fV q)=true:=by
 show (decide (1<=(q.den:Int))&&decide (Int.gcd q.num q.den=1))=true
 have:=q.den_pos
 rw[L_ (by omega),L_ (uE q)];rfl
def yL(h:bO d=true):∃q,d=fV q:=by
 unfold bO at h;split at h
 .simp only[z_,NW] at h;exact⟨_,J8 h.1 h.2⟩
 .cases h
def vt(q:Rat):jV (fV q)=decide (0<q):=by show decide (0<q.num)=decide (0<q);rw[decide_eq_decide];exact vw
def AG(h:b.Ok):gv (bV b)=true:=by show (bO (fV b.l)&&(bO (fV b.t)&&(bO (fV b.w)&&(bO (fV b.h)&&(jV (fV b.w)&&jV (fV b.h))))))=true;rw[jI,jI,jI,jI,vt,vt,L_ h.w,L_ h.h];rfl
def JL(b:Bx):i8 2 (bV b)=true:=by simp [bV,fV,i8,knV,tyC]
theorem oM(P:E3->Prop):∀(vs acc:List Val) (e:E3),P e->(∀v∈vs,∀e,P e->∃e1 t e2,g v e=some e1/\F e1=.ok t e2/\cN e2 t=some (e2,f v)/\P e2)->acc.length+vs.length<=16777216->∃e',P e'/\lcV g cY F vs acc e=.ok (acc++vs.map f) e'
 | [],acc,e,hp,_,_=>⟨e,hp,by simp [lcV]⟩
 |
  v::vs,acc,e,hp,hf,hl=>by
  obtain⟨e1,t,e2,q1,q2,q3,q4⟩:=hf v (H_ ..) e hp;obtain⟨e',p',q5⟩:=oM P vs (acc++[f v]) e2 q4 (λu hu=>hf u (A_ _ hu)) (by simp at hl ⊢;omega);refine⟨e',p',?_⟩;unfold lcV;rw[if_pos (by simp at hl;omega),q1];simp only[cY,lg,NM,q2,q3,q5];simp
noncomputable def rgV(k:Nat):List Val:=(List.range k).map λj=>Val.int (j:Nat)
def EA(h:k<1000000):ij [.int (k:Nat)]=some (rgV k):=by simp only[ij];rw[if_pos (⟨by omega,by omega⟩:RgB _),Og];unfold oC rgV;simp only[Int.zero_add]
def lz(h0:0<=i)(h:i<1000000):ij [.int i]=some (rgV i.toNat):=by
 have:=EA (k:=i.toNat) (by omega)
 rwa [show ((i.toNat:Nat):Int)=i from by omega] at this
theorem kH(f:α->Val)(st:σ->α->σ)(P:σ->E3->Prop):∀(l:List α) (s:σ) (e:E3),P s e->(∀a∈l,∀s e,P s e->∃e1 e2,g (f a) e=some e1/\(B e1=.nx e2\/B e1=.ct e2)/\P (st s a) e2)->∃e',P (l.foldl st s) e'/\fb g B (l.map f) e=.nx e'
 | [],s,e,hp,_=>⟨e,hp,rfl⟩
 |
  a::l,s,e,hp,hf=>by
  obtain⟨e1,e2,q1,q2,q3⟩:=hf a (H_ ..) s e hp;obtain⟨e',p',q4⟩:=kH f st P l (st s a) e2 q3 λu hu=>hf u (A_ _ hu);refine⟨e',p',?_⟩;rw[B_,bZ,q1];rcases q2 with q2 |q2 <;> simp only[q2,iU,BW,q4]
theorem eu(fv fw:α->Val)(P:E3->Prop):∀(l:List α) (acc:List Val) (e:E3),P e->(∀a∈l,∀e,P e->∃e1 t e2,g (fv a) e=some e1/\F e1=.ok t e2/\cN e2 t=some (e2,fw a)/\P e2)->acc.length+l.length<=16777216->∃e',P e'/\lcV g qY.G F (l.map fv) acc e=.ok (acc++l.map fw) e'
 | [],acc,e,hp,_,_=>⟨e,hp,by simp [lcV]⟩
 |
  v::vs,acc,e,hp,hf,hl=>by
  obtain⟨e1,t,e2,q1,q2,q3,q4⟩:=hf v (H_ ..) e hp;obtain⟨e',p',q5⟩:=eu fv fw P vs (acc++[fw v]) e2 q4 (λu hu=>hf u (A_ _ hu)) (by simp at hl ⊢;omega);refine⟨e',p',?_⟩;rw[B_];unfold lcV;have cy:qY.G=cY:=rfl;rw[cy] at q5 ⊢;rw[if_pos (by simp at hl;omega),q1];simp only[cY,lg,NM,q2,q3,q5];simp
def F7(v:Val):inS (.mu v)=.mu v:=rfl
def IU(v:Val):inS (.sh v)=.sh v:=rfl
theorem mE(k:Nat):∀xs:List Val,eP k xs=xs.all (wfV k)
 | []=>by simp [eP]
 |x::xs=>by simp [eP,mE k xs]
def CW(i:Nat)(v:Val)(e:E3):gm (some i) (.sh v) e=e:=rfl
noncomputable def BK(ms:List Bool)(r:SR3):R3F:=match r with
 |.nx e=>(match muV ms e with |some mv=>.ok (.val .non) mv |none=>.stuck)
 |.rt r e=>(match muV ms e with |some mv=>.ok r mv |none=>.stuck)
 |.exc c e=>(match muV ms e with |some mv=>.exc c mv |none=>.stuck)
 |_=>.stuck
def Lb(h:vs.length=ms.length):(fnP ms N c).G vs=BK ms (c.G (sls ms vs++List.replicate (N-vs.length) .no)):=by rw[bJ,if_pos h];rfl
def LX(ms:List Bool)(r:Rt)(e:E3):BK ms (.rt r e)=match muV ms e with |some mv=>.ok r mv |none=>.stuck:=rfl
def fS{Q:SR3->Prop}(I:E3->Prop){a b:PSt}{e:E3}(h1:∃e1,a.G e=.nx e1/\I e1)(h2:∀e1,I e1->Q (b.G e1)):Q ((bu a b).G e):=by obtain⟨e1,q,i⟩:=h1;rw[B6,q];exact h2 e1 i
def sm8(h:m.natAbs<1099511627776):Sm 8000 m:=I_ (show m.natAbs<2^40 from h) (MZ (by decide) (by decide))
def oK{m:Int}(h:0<m):(0:Rat)<(m:Rat):=Rat.intCast_pos.mpr h
def ma{a b:Int}(h1:0<a)(h2:0<b):(0:Rat)<(a:Rat)/(b:Rat):=by rw[Rat.div_def];exact Rat.mul_pos (oK h1) (Rat.inv_pos.mpr (oK h2))
def JB(xs ys:List Val):b8.G (.lst xs) (.lst ys)=if xs.length+ys.length<=16777216 then .new (.lst (xs++ys)) else .stuck:=rfl
theorem ar1{α:Type}{P:List α->Prop}(h:∀a,P [a]):∀us:List α,us.length=1->P us
 | [a],_=>h a
theorem ar2{α:Type}{P:List α->Prop}(h:∀a b,P [a,b]):∀us:List α,us.length=2->P us
 | [a,b],_=>h a b
theorem ar3{α:Type}{P:List α->Prop}(h:∀a b c,P [a,b,c]):∀us:List α,us.length=3->P us
 | [a,b,c],_=>h a b c
theorem ar4{α:Type}{P:List α->Prop}(h:∀a b c d,P [a,b,c,d]):∀us:List α,us.length=4->P us
 | [a,b,c,d],_=>h a b c d
section
variable{P:Nat->Prop}{h:AH}
def LZ(r:Rk P h ws us):lkD us k=some v->∃d,lkD ws k=some d/\Rd P h d v:=
 r.ind (M:=λws us=>lkD us k=some v->∃d,lkD ws k=some d/\Rd P h d v) (λq=>by cases q) (λ{k2 d v2 ds vs} r _ ih q=>by
  unfold lkD at q ih ⊢;rw[Np] at q ⊢;dsimp only at q ⊢;by_cases hk:k2=k
  .rw[L_ hk] at q ⊢;cases q;exact⟨d,rfl,r⟩
  .rw[K_ hk] at q ⊢;exact ih q)
def Dn(r:Rk P h ws us):us.map (·.1)=ws.map (·.1):=
 r.ind (M:=λws us=>us.map (·.1)=ws.map (·.1)) rfl λ_ _ ih=>by rw[B_,B_,ih]
def FP(r:Rk P h ws us):ws.length=us.length:=
 r.ind (M:=λws us=>ws.length=us.length) rfl λ_ _ ih=>Nd (· + 1) ih
def GL(r:Rk P h ws us)(q:Rk P h ws' us'):Rk P h (ws++ws') (us++us'):=
 r.ind (M:=λws us=>Rk P h (ws++ws') (us++us')) q λr _ ih=>.cons r ih
def FT(rd:Rd P h d v)(r:Rk P h ws us):Rk P h (jO ws k d) (jO us k v):=by
 unfold jO;rw[rn (Dn r)];by_cases hc:(ws.any λkv=>decide (kv.1=k))=true
 .rw[if_pos hc,if_pos hc];exact r.ind (M:=λws us=>Rk P h (ws.map λkv=>if kv.1=k then (kv.1,d) else kv) (us.map λkv=>if kv.1=k then (kv.1,v) else kv)) .nil (λ{k2 d2 v2 ds vs} r _ ih=>by
   rw[B_,B_];dsimp only;by_cases hk:k2=k
   .rw[if_pos hk,if_pos hk];exact .cons rd ih
   .rw[if_neg hk,if_neg hk];exact .cons r ih)
 .rw[if_neg hc,if_neg hc];exact GL r (.cons rd .nil)
def HX:∀{ks:List Key}{ds:List D}{vs:List Val},Rds P h ds vs->Rk P h (ks.zip ds) (ks.zip vs):=by
 intro ks;induction ks with
 |nil=>intro ds vs _;exact .nil
 |
  cons k ks ih=>
  intro ds vs r;cases r with
  |nil=>exact .nil
  |cons r rr=>exact .cons r (ih rr)
end
def Am:Val->Val->Bv:=λx y=>match x with
 |.dct kvs=>(match y with
  |.str k=>(match lkD kvs (.inr k) with
   |some v=>.val v
   |none=>.stuck)
  |_=>.stuck)
 |_=>.stuck
def JI:RO qX Am:=λP h d1 d2 v1 v2 r1 r2=>by
 unfold Am;split
 .rename_i kvs;split
  .rename_i k;split
   .rename_i v q;obtain⟨n,ws,rfl,e,rk⟩:=r1.dct;obtain rfl:=r2.str;obtain⟨d,q1,rd⟩:=LZ rk q;refine⟨d,?_,rd⟩;unfold qX;dsimp only;rw[e];dsimp only;rw[q1]
   .trivial
  .trivial
 .trivial
def gJ:PO2:=⟨qX,Am,JI⟩
def sD:Val->Val->Val->Option Val:=λo i v=>match o with
 |.dct kvs=>(match i with
  |.str k=>if kvs.length<16777216 then some (.dct (jO kvs (.inr k) v)) else none
  |_=>none)
 |_=>none
def Ih:vM wD sD:=λP h n o u di vi d v u' np e hf r ri rd q=>by
 unfold sD at q;split at q
 .rename_i kvs;split at q
  .rename_i k;split at q
   .rename_i hl;cases q;obtain rfl:=ri.str;cases r with
    |dct rk=>rename_i ws;refine⟨.dct (jO ws (.inr k) d),?_,trivial,.dct (FT rd rk)⟩;unfold wD;dsimp only;rw[e];dsimp only;rw[if_pos (by rw[FP rk];exact hl)]
   .cases q
  .cases q
 .cases q
def seD:PSe:=⟨wD,sD,Ih⟩
def wO(ks:List Str)(A:MA3):ME3:=λe=>(A e).bind λts e1=>match dem e1 ts with
 |some (e2,vs)=>if ks.length=vs.length then .ok (.new (.dct ((ks.map Sum.inr).zip vs))) e2 else .stuck
 |none=>.stuck
def DC(ks:List Str)(hA:RA A A3):RE (nG ks A) (wO ks A3):=λX h0 L ns e ae h S hl=>by
 have SG:=S.grow (.dct []);have p:=hA (Xn X h.length) h0 ns e ae (h++[.dct []]) SG;unfold wO nG;cases q:A3 e with
 |stuck=>trivial
 |exc c e'=>rw[q] at p;obtain⟨h',ns',y,a,S'⟩:=p;exact⟨h',ns',by rw[y];rfl,(Stp.grow _).trans S a,S'.weak λn z=>.inl z⟩
 |
  ok ts e1=>
  rw[q] at p;obtain⟨ds,h1,ns1,y,a1,S1,r1⟩:=p;rw[y];show Po X h0 ns e ae h (relE X h0 L ae) _ (match dem e1 ts with
   |some (e2,vs)=>if ks.length=vs.length then .ok (.new (.dct ((ks.map Sum.inr).zip vs))) e2 else .stuck
   |none=>.stuck)
  cases qd:dem e1 ts with
  |none=>trivial
  |
   some w=>
   obtain⟨e2,vs⟩:=w;dsimp only;by_cases d_:ks.length=vs.length
   .rw[if_pos d_];obtain⟨ns2,S2,a2,r2⟩:=ji S1 r1 qd;have hk:h1[h.length]?=some (.dct []):=a1.keep _ _ vx λ⟨i,s,z,_⟩=>SG.nx i _ z (.inr rfl);have A:=((Stp.grow (.dct [])).trans S a1).trans S a2;have hlt:=cZ hk;have mv:Mov (Oc (Xn X h.length) ns2) (Oc (Xn X h.length) ns2) h1 (h1.set h.length (.dct ((ks.map Sum.inr).zip ds))):=λm o p q=>⟨p,by have:m≠h.length:=λz=>p.1 (.inr z);rw[cq this];exact q⟩;have S3:Sat (Xn X h.length) h0 ns2 e2 ae (h1.set h.length (.dct ((ks.map Sum.inr).zip ds))):=⟨S2.l1,S2.l2,by rw[Mz];exact S2.lh,λm z=>by rw[Mz];exact S2.xl m z,S2.inj,S2.nx,λj s qj=>(S2.sl j s qj).mono mv λm o qm qo=>by have:m≠h.length:=λz=>S2.nx j m qm (.inr z);rw[cq this];exact qo⟩;have A3':Stp ns e h ns2 e2 (h1.set h.length (.dct ((ks.map Sum.inr).zip ds))):=⟨by rw[Mz];exact A.len,λm o qm hm=>by have:m≠h.length:=ML (cZ qm);rw[cq this];exact A.keep m o qm hm,A.nw,A.lk,A.lk',A.mu,A.mu'⟩;refine⟨.ref h.length,_,ns2,?_,A3',S3.weak λn z=>.inl z,h.length,_,rfl,hl,λz=>Nc _ (S.xl _ z),cC hlt,trivial,S3,.dct ((HX r2).mono mv)⟩;show (match h1[h.length]? with
     |some (.dct [])=>if ks.length=ds.length then R.ok (D.ref h.length) (h1.set h.length (.dct ((ks.map Sum.inr).zip ds))) else .stuck
     |_=>.stuck)=_
    rw[hk];dsimp only;rw[if_pos (by rw[r2.len];exact d_)]
   .rw[if_neg d_];trivial
def vR(ks:List Str)(a:PAs):PEx:=⟨nG ks a.F,wO ks a.G,DC ks a.ok⟩
theorem yR(e:E3)(ks:List Str)(a:PAs):(vR ks a).G e=(a.G e).bind λts e1=>match dem e1 ts with
 |some (e2,vs)=>if ks.length=vs.length then .ok (.new (.dct ((ks.map Sum.inr).zip vs))) e2 else .stuck
 |none=>.stuck:=rfl
section
variable{K:W.Frag}{mg:Pa}{X:Cx}{ES:L2.St->XK}{a b:Expr}{p q:PEx}{pos:Pos}
def EL(hu:X.A.units+1<cLine)(ha:DE K mg X ES a p.F)(hb:DE K mg X ES b q.F)(hs:xa b):DE K mg X ES (.Subscript a b pos) (pOp gJ p q).F:=by with_unfolding_all exact D1 hu ha hb hs
def lT(hv:DE K mg X ES v F)(hr:PPs X pos ks vs (tps K mg ES prs)):PPs X pos (some (.Constant (.str k) j kp)::ks) (v::vs) (tps K mg ES ((k,F)::prs)):=by with_unfolding_all exact BB hv hr
def DY(hp:PPs X pos keys values (tps K mg ES prs))(h1:ks=prs.map (·.1):=by rfl)(h2:A.F=aL prs:=by rfl)(hn:ks.Nodup:=by decide)(hall:keys.all (·.isSome)=true:=by rfl)(hl:keys.length=values.length:=by rfl)(h0:keys≠[]:=by intro h;cases h)(h15:keys.length<=15:=by decide)(hp15:prs.length<=15:=by decide):DE K mg X ES (.Dict keys values pos) (vR ks A).F:=by subst h1;show DE K mg X ES (.Dict keys values pos) (nG (prs.map (·.1)) A.F);rw[h2];with_unfolding_all exact DM hp hall hl h0 h15 hn hp15
end
def Af:List Val->Bv:=λvs=>match vs with
 | [.lst xs]=>(match gq xs with
  |some bs=>.val (.bl (bs.any id))
  |none=>.stuck)
 |_=>.stuck
def Ji:RFn qZ Af:=λP h ds vs r=>by
 unfold Af;split
 .obtain⟨d,hd,rr1⟩:=gK r;subst hd;clear r;have r:=rr1;obtain⟨n,es,rfl,_,e1,q⟩:=r.lst;split
  .rename_i bs e2;exact⟨_,by unfold qZ;dsimp only;rw[e1];show (match gy es with |some bs=>_ |none=>_)=_;rw[B4 q e2],.bl _⟩
  .trivial
 .trivial
def qR:PBf:=⟨qZ,Af,Ji⟩
theorem Lu(xs:List Val):qR.G [.lst xs]=match gq xs with
 |some bs=>.val (.bl (bs.any id))
 |none=>.stuck:=rfl
def zb{K:W.Frag}{mg:Pa}:cJ K mg (λxs H Q=>∃(a:Addr) (bs:List Bool),xs=[.ref a]/\SqL K H a (bs.map V.bl)/\Q (.bl (bs.any id)) H) qR.F:=Gi
theorem pW(P:Nat->E3->Prop)(m:Nat)(hs:∀i,i<m->∀e,P i e->∃e1 e2,g (.int (i:Nat)) e=some e1/\(B e1=.nx e2\/B e1=.ct e2)/\P (i+1) e2):∀(k i:Nat) (e:E3),i+k=m->P i e->∃e',P m e'/\fb g B ((List.range' i k).map λj=>Val.int (j:Nat)) e=.nx e'
 |
  0,i,e,h,p=>by
  obtain rfl:i=m:=by omega
  exact⟨e,p,rfl⟩
 |
  k+1,i,e,h,p=>by
  obtain⟨e1,e2,q1,q2,q3⟩:=hs i (by omega) e p;obtain⟨e',p',q4⟩:=pW P m hs k (i+1) e2 (by omega) q3;refine⟨e',p',?_⟩;rw[List.range'_succ,B_,bZ,q1];rcases q2 with q2 |q2
  .simp only[q2,iU];exact q4
  .simp only[q2,BW];exact q4
def tU(P:Nat->E3->Prop)(m:Nat)(h0:P 0 e)(hs:∀i,i<m->∀e,P i e->∃e1 e2,g (.int (i:Nat)) e=some e1/\(B e1=.nx e2\/B e1=.ct e2)/\P (i+1) e2):∃e',P m e'/\fb g B (rgV m) e=.nx e':=by
 have:=pW P m hs m 0 e (by omega) h0
 rw[<- List.range_eq_range'] at this;exact this
def tK(xs:List Val)(n:Nat):fK xs none (some (n:Int))=xs.take n:=by
 unfold fK;rw[HT.sIx_none,HT.sIx_nat,List.drop_zero,Nat.sub_zero];by_cases h:n<=xs.length
 .rw[Nat.min_eq_left h]
 .rw[Nat.min_eq_right (by omega),NB (y_ _),NB (by omega)]
def tS(xs:List Val)(n:Nat):fK xs (some (n:Int)) none=xs.drop n:=by
 unfold fK;rw[HT.sIx_none,HT.sIx_nat];by_cases h:n<=xs.length
 .rw[Nat.min_eq_left h,NB (by rw[List.length_drop];exact y_ _)]
 .rw[Nat.min_eq_right (by omega),List.drop_of_length_le (y_ _),List.drop_of_length_le (by omega),NO]
def u7(xs:List Val):fK xs none (some (-1))=xs.dropLast:=by unfold fK;rw[HT.sIx_none,List.drop_zero,Nat.sub_zero,List.dropLast_eq_take];show xs.take (if (-1:Int)<0 then ((-1:Int)+(xs.length:Int)).toNat else min (-1:Int).toNat xs.length)=_;rw[if_pos (by decide)];congr 1;omega
def jx(xs:List Val)(lo hi:Option Int):aSl (.lst xs) lo hi=.new (.lst (fK xs lo hi)):=rfl
def KP(xs:List Val)(lo hi:Option Int):aSl (.kl xs) lo hi=.new (.lst (fK xs lo hi)):=rfl
noncomputable def pU(n:Nat)(u:jT):MG3:=λv e=>match v with
 |.tup vs=>if vs.length=n then u vs e else none
 |.lst vs=>if vs.length=n then u vs e else none
 |_=>none
section
variable{gs:MGs}{gs3:jT}
def rg_u(n:Nat)(hs:RGs gs gs3):RG (gU λds ae h=>if ds.length=n then gs ds ae h else .stuck) (pU n gs3):=λX h0 ns e ae h d v e' S r q=>by
 unfold pU at q;split at q
 .split at q
  .rename_i hn;obtain⟨ds,rfl,r2⟩:=ShR.tup (.inl r);obtain⟨i_,ns1,p1,S1,a1⟩:=hs _ _ _ _ _ _ _ _ _ S r2 q;refine⟨i_,ns1,?_,S1,a1⟩;unfold gU;dsimp only;rw[if_pos (by rw[r2.len];exact hn)];exact p1
  .cases q
 .split at q
  .rename_i hn;obtain⟨m,ds,rfl,_,eq,r2⟩:=ShR.lst (.inl r);obtain⟨i_,ns1,p1,S1,a1⟩:=hs _ _ _ _ _ _ _ _ _ S r2 q;refine⟨i_,ns1,?_,S1,a1⟩;unfold gU;dsimp only;rw[eq];dsimp only;rw[if_pos (by rw[r2.len];exact hn)];exact p1
  .cases q
 .cases q
end
noncomputable def gtU(n:Nat)(a:PGs):PGt:=⟨gU λds ae h=>if ds.length=n then a.F ds ae h else .stuck,pU n a.G,rg_u n a.ok⟩
section
variable{e:E3}
def g_uL(n:Nat)(a:PGs)(vs:List Val):(gtU n a).G (.lst vs) e=if vs.length=n then a.G vs e else none:=rfl
end
section
variable{K:W.Frag}{mg:Pa}{X:Cx}{es:List Expr}{gs:PGs}{pos:Pos}
def Jz{k n:Nat}(hK:X.K=K)(hc:X.calm=true)(h:DGs K mg X (λ_=>E0) es gs.F)(hn:(assignEach es X.env).length=n:=by rfl)(hst:(assignEach es X.env).findIdx? (·.1)=none:=by rfl):DG K mg X (λ_=>E0) (.Tuple es k pos) (gtU n gs).F:=GX hK hc h hn hst
end
def Au:List Val->Bv:=λvs=>match vs with
 | [.int j]=>if -(2^62)<=j/\j<=16777216 then .new (.lst (rgV j.toNat)) else .stuck
 |_=>.stuck
def Hm:RFn oZ Au:=λP h ds vs r=>by
 unfold Au;split
 .obtain⟨d,hd,rr1⟩:=gK r;subst hd;split
  .rename_i j hb;have e:=rr1.int;subst e;refine⟨.lst (AY j),by unfold oZ;dsimp only;rw[if_pos hb],trivial,.lst ?_⟩;unfold AY rgV;generalize List.range j.toNat=l;induction l with
   |nil=>exact .nil
   |cons i l ih=>exact .cons (.int _) ih
  .trivial
 .trivial
noncomputable def jX:PBf:=⟨oZ,Au,Hm⟩
def Cs{j:Int}(h:-(2^62)<=j/\j<=16777216):jX.G [.int j]=.new (.lst (rgV j.toNat)):=if_pos h
section
variable{K:W.Frag}{mg:Pa}{X:Cx}{ES:L2.St->XK}{a:Expr}{A:PAs}{pos q2 p1 p2:Pos}
def IH(hc:X.calm=true)(hl:Gl X "list")(hml:mg "list"=none)(hg:Gl X "range")(hm:mg "range"=none)(ha:DA K mg X ES [a] A.F)(hk:X.mg=mg:=by rfl)(hs:starEach [a] X.env=[(false,eval a X.env)]:=by rfl)
 (hs1:starEach [.Call (.Name "range" p2) [a] [] q2] X.env=[(false,eval (.Call (.Name "range" p2) [a] [] q2) X.env)]:=by rfl):
 DE K mg X ES (.Call (.Name "list" p1) [.Call (.Name "range" p2) [a] [] q2] [] pos) (pFn jX A).F:=by with_unfolding_all exact Gs hc hl hml hg hm ha hk hs hs1
end
def rO(h_:Bool)(n:Str)(kvs:List (Str×Int)):Val->Val->Bv:=λx y=>match x,y with
 |.str k,.glb m=>if m=n then .val (.bl (h_ ^^ (lkS kvs k).isSome)) else .stuck
 |_,_=>.stuck
def nN(n:Str)(kvs:List (Str×Int)):Val->Val->Bv:=λx y=>match x,y with
 |.glb m,.str k=>(match lkS kvs k with
  |some i=>if m=n then .val (.int i) else .stuck
  |none=>.stuck)
 |_,_=>.stuck
def Js(h_:Bool)(n:Str)(kvs:List (Str×Int)):RO (rN h_ n kvs) (rO h_ n kvs):=λP h d1 d2 v1 v2 r1 r2=>by
 unfold rO;split
 .split
  .rename_i hm;obtain rfl:=r1.str;obtain rfl:=r2.glb;exact⟨_,by unfold rN;dsimp only;rw[if_pos hm],.bl _⟩
  .trivial
 .trivial
def CP(n:Str)(kvs:List (Str×Int)):RO (mP n kvs) (nN n kvs):=λP h d1 d2 v1 v2 r1 r2=>by
 unfold nN;split
 .split
  .rename_i i e;split
   .rename_i hm;obtain rfl:=r1.glb;obtain rfl:=r2.str;exact⟨_,by unfold mP;dsimp only;rw[e];dsimp only;rw[if_pos hm],.int _⟩
   .trivial
  .trivial
 .trivial
def wx(n:Str)(kvs:List (Str×Int)):PO2:=⟨rN true n kvs,rO true n kvs,Js true n kvs⟩
def qH(n:Str)(kvs:List (Str×Int)):PO2:=⟨mP n kvs,nN n kvs,CP n kvs⟩
def HW(n:Str)(kvs:List (Str×Int))(k:Str):(wx n kvs).G (.str k) (.glb n)=.val (.bl (!(lkS kvs k).isSome)):=by show rO true n kvs (.str k) (.glb n)=_;unfold rO;dsimp only;rw[if_pos rfl];cases (lkS kvs k).isSome <;> rfl
def JJ{n:Str}{kvs:List (Str×Int)}{k:Str}{i:Int}(h:lkS kvs k=some i):(qH n kvs).G (.glb n) (.str k)=.val (.int i):=by show nN n kvs (.glb n) (.str k)=_;unfold nN;dsimp only;rw[h];dsimp only;rw[if_pos rfl]
section
variable{K:W.Frag}{mg:Pa}{n:Str}{kvs:List (Str×Int)}
def CM:OpD K mg (zN true mg n kvs) (wx n kvs).F:=C1 true
def D5:OpD K mg (wH mg n kvs) (qH n kvs).F:=Ac
end
theorem oF{g:MG3}{c:MT3}{F:ME3}{α:Type}(pz:α->Bool)(fv fw:α->Val)(P:E3->Prop):∀(l:List α) (acc:List Val) (e:E3),P e->(∀a∈l,∀e,P e->∃e1 e2,g (fv a) e=some e1/\c e1=.ok (pz a) e2/\P e2/\(pz a=true->∃t e3,F e2=.ok t e3/\cN e3 t=some (e3,fw a)/\P e3))->acc.length+l.length<=16777216->∃e',P e'/\lcV g c F (l.map fv) acc e=.ok (acc++(l.filter pz).map fw) e'
 | [],acc,e,hp,_,_=>⟨e,hp,by simp [lcV]⟩
 |
  a::l,acc,e,hp,hf,hl=>by
  obtain⟨e1,e2,q1,q2,q3,q4⟩:=hf a (H_ ..) e hp;rw[MK] at hl;cases hz:pz a with
  |false=>obtain⟨e',p',q⟩:=oF pz fv fw P l acc e2 q3 (λu hu=>hf u (A_ _ hu)) (by omega);refine⟨e',p',?_⟩;rw[hz] at q2;rw[B_];unfold lcV;rw[if_pos (by omega),q1];simp only[q2,lg,NQ,Ov,q];rw[List.filter_cons_of_neg (by rw[hz];exact D_)]
  |true=>obtain⟨t,e3,r1,r2,r3⟩:=q4 hz;obtain⟨e',p',q⟩:=oF pz fv fw P l (acc++[fw a]) e3 r3 (λu hu=>hf u (A_ _ hu)) (by simp;omega);refine⟨e',p',?_⟩;rw[hz] at q2;rw[B_];unfold lcV;rw[if_pos (by omega),q1];simp only[q2,lg,NM,r1,r2,q];rw[List.filter_cons_of_pos hz,B_,Ni];rfl
def xh(xs:List Int):(xs.map Val.int).all nF=true:=by rw[List.all_map,MD];intro x _;rfl
def Aa(xs:List Int)(a:Int):((xs.map Val.int).any λd=>eq1 d (.int a))=xs.contains a:=by
 induction xs with
 |nil=>rfl
 |cons x xs ih=>rw[B_,Nh,ih,List.contains_cons];congr 1;show (x==a)=(a==x);rw[Ox,M8,M8];exact⟨Eq.symm,Eq.symm⟩
def zd(xs:List Int)(a:Int):jB.G (.int a) (.lst (xs.map .int))=.val (.bl (!xs.contains a)):=by show aIn true (.int a) (.lst (xs.map .int))=_;unfold aIn;dsimp only [Val.items];rw[if_pos ⟨rfl,xh xs⟩,Aa];rfl
def qw(x y:Val):Option Bool:=match du 64 x,du 64 y with
 |some d,some (.list ds)=>if SeqAt.shaped d=true/\SeqAt.shaped (.list ds)=true/\(ds.all λe=>SeqAt.noMix e d)=true then some (decide (Spec.countIn d ds≠0)) else none
 |_,_=>none
def tR(h_:Bool):Val->Val->Bv:=λx y=>match qw x y with
 |some b=>.val (.bl (h_ ^^ b))
 |none=>.stuck
def GF(h_:Bool):RO (tf h_) (tR h_):=λP h d1 d2 v1 v2 r1 r2=>by
 unfold tR;split
 .rename_i b q;refine⟨_,?_,.bl _⟩;unfold tf;have:qz h d1 d2=some b:=by
   unfold qw at q;split at q
   .rename_i d ds e1 e2;unfold qz;rw[jl 64 _ _ _ r1 e1,jl 64 _ _ _ r2 e2];exact q
   .cases q
  rw[this]
 .trivial
def v9:PO2:=⟨tf true,tR true,GF true⟩
theorem pw{α:Type}(f:α->Val):∀l:List α,er (l.map f)=l.map λa=>cQ (f a)
 | []=>rfl
 |a::l=>by rw[B_,B_,<- pw f l];rfl
def Gp(qs:List Rat)(k:Nat):wfV (k+2) (.lst (qs.map fV))=true:=by show eP (k+1) _=true;rw[mE,MD];intro v hv;obtain⟨q,_,rfl⟩:=M9.mp hv;exact mO q k
theorem sI(q:Rat):∀qs:List Rat,0<=Spec.countIn (cQ (fV q)) (qs.map λp=>cQ (fV p))/\(q∈qs->0<Spec.countIn (cQ (fV q)) (qs.map λp=>cQ (fV p)))
 | []=>⟨Int.le_refl 0,λz=>nomatch z⟩
 |
  p::qs=>by
  obtain⟨h1,h2⟩:=sI q qs;have e:Spec.countIn (cQ (fV q)) ((p::qs).map λp=>cQ (fV p))=(if Spec.same (cQ (fV p)) (cQ (fV q))=true then 1 else 0)+Spec.countIn (cQ (fV q)) (qs.map λp=>cQ (fV p)):=rfl;rw[e];refine⟨by split <;> omega,λz=>?_⟩;rcases MN.mp z with rfl |z
  .have:Spec.same (cQ (fV q)) (cQ (fV q))=true:=by show (q.num==q.num&&((q.den:Int)==(q.den:Int)&&true))=true;rw[Ou,Ou];rfl
   rw[if_pos this];omega
  .have:=h2 z
   split <;> omega
def AI{q:Rat}{qs:List Rat}(h:q∈qs):v9.G (fV q) (.lst (qs.map fV))=.val (.bl false):=by
 show tR true (fV q) (.lst (qs.map fV))=_;obtain⟨h1,h2,h3⟩:=ju 60 (fV q) (mO q 59);obtain⟨i1,i2,i3⟩:=ju 60 (.lst (qs.map fV)) (Gp qs 58);have e:cQ (.lst (qs.map fV))=.list (qs.map λp=>cQ (fV p)):=by show PyData.list (er (qs.map fV))=_;rw[pw]
 have c:=(sI q qs).2 h;have hv:qw (fV q) (.lst (qs.map fV))=some true:=by unfold qw;rw[h1 64 (by omega),i1 64 (by omega)];rw[e] at i2 i3 ⊢;dsimp only;rw[if_pos ⟨lF h2 (by omega),lF i2 (by omega),by rw[List.all_map,MD];intro p _;rfl⟩];congr 1;exact L_ (by omega)
 unfold tR;rw[hv];rfl
section
variable{K:W.Frag}{mg:Pa}
def Eh:OpD K mg (BJ true K) v9.F:=EY true
end
section
variable{K:W.Frag}{mg:Pa}{X:Cx}{ES:L2.St->XK}{e:Expr}{es:List Expr}{p:PEx}{A:PAs}{pos:Pos}
def zcF{f:PFn}{x:Str}{p0:Pos}{k j n:Nat}{ps:List Str}(C:Callee X.prog X.w X.K X.mg X.base x j ps (spD K mg n f.F))(hr:Room k X.A)(ha:DA K mg X ES (e::es) A.F)(hk:j<=k:=by omega)(hg:Gl X x:=by exact rfl)(hx:kT X ES:=by first |exact ua Kl |exact Bh |assumption)(hn:f.ms.length=n:=by rfl)(hdb:(x==("__debug__" : Str))=false:=by decide)(he:starEach (e::es) X.env=(false,eval e X.env)::starEach es X.env:=by rfl)(hpl:(backTo pos (starEach es X.env)).any (·.1)=false:=by rfl):DE K mg X ES (.Call (.Name x p0) (e::es) [] pos) (bt f A).F:=Bd C (hr.mono hk) hg hx ha hn hdb he hpl
def zsS{ow:Bool}(i:Nat){x:Str}{t_:Pos}(hN:X.N.Nodup)(he:DE K mg X ES e p.F)(hi:X.N[i]?=some x:=by exact rfl)(hx:Loc X.env.scope x:=by first |exact Or.inl rfl |exact Or.inr rfl)(hs:swapsWith e (some (.Name x t_)) pos.line X.env=pure false:=by rfl)(hf:X.fn x=true\/X.env.scope.names.lookup x=some .local:=by first |exact .inl rfl |exact .inr rfl |assumption):DS K mg X ES (.Assign [.Name x t_] e pos) (bF ow i p).F:=JE hN hi hx he hs hf
def zgN(i:Nat){x:Str}(hN:X.N.Nodup)(hi:X.N[i]?=some x:=by exact rfl)(hx:Loc X.env.scope x:=by first |exact Or.inl rfl |exact Or.inr rfl)(hf:X.fn x=true\/X.env.scope.names.lookup x=some .local:=by first |exact .inl rfl |exact .inr rfl |assumption):DG K mg X ES (.Name x pos) (gtN i).F:=Ds hN hi hx hf
end
def yN{P:Nat->Prop}{h:AH}:∀{ds:List D}{vs:List Val}{ns:List Int},Rds P h ds vs->gW vs=some ns->mV ds=some ns:=by
 intro ds;induction ds with
 |nil=>intro vs ns r e;cases r;cases e;rfl
 |
  cons d ds ih=>
  intro vs ns r e;cases r with
  |
   cons r rr=>
   rename_i v vs;cases v with
   |int i=>obtain⟨ms,e1,rfl⟩:=MF.mp e;obtain rfl:=ShR.int (.inl r);show (mV ds).map _=_;rw[ih rr e1];rfl
   |_=>cases e
theorem tj{P:Nat->Prop}{h:AH}:∀ns:List Int,Rds P h (ns.map D.int) (ns.map Val.int)
 | []=>.nil
 |i::ns=>.cons (.int i) (tj ns)
def jz:List Val->Bv:=λvs=>match vs with
 | [.lst us]=>match gW us with
  |some ns=>if ns.length<64 then .new (.lst ((srI ns).map .int)) else .stuck
  |none=>.stuck
 |_=>.stuck
def yZ:RFn jd jz:=λP h ds vs r=>by
 unfold jz;split
 .obtain⟨d,hd,r1⟩:=gK r;subst hd;split
  .rename_i ns q;split
   .rename_i hb;obtain⟨n,es,rfl,g1,_,g2⟩:=ShR.lst r1;refine⟨.lst ((srI ns).map D.int),?_,trivial,.lst (tj _)⟩;unfold jd;dsimp only;rw[g1];dsimp only;rw[yN g2 q];dsimp only;rw[if_pos hb]
   .trivial
  .trivial
 .trivial
def jK:PBf:=⟨jd,jz,yZ⟩
def AB(ns:List Int)(h:ns.length<64):jK.G [.lst (ns.map .int)]=.new (.lst ((srI ns).map .int)):=by show jz [.lst (ns.map .int)]=_;unfold jz;dsimp only;rw[kf];dsimp only;rw[if_pos h]
def ya{K:W.Frag}{mg:Pa}:cJ K mg og jK.F:=yY
open PySem PySem.Spec PyProof.Rows L2 PySem.W
noncomputable def adr(K:Frag)(x:Str):Addr:=match nsIn K mainGlobals x with
 |some (some (.ref a))=>a
 |_=>0
noncomputable def kI(K:Frag)(x:Str):Bool:=match nsIn K mainGlobals x with
 |some (some (.ref _))=>true
 |_=>false
noncomputable def vN(K:Frag)(x:Str):Bool:=match nsIn K mainGlobals x with
 |some none=>true
 |_=>false
noncomputable def xcB(K:Frag)(C:Addr):Bool:=(clsIn K C).isSome&&(findIn K (.ref C) "__getattribute__" == some (some (.builtin "BaseException.__getattribute__"))&&(findIn K (.ref C) "__getattr__" == some none&&(findIn K (.ref C) "__class__" == some (some (.builtin "object.__class__"))&&(specialIn K (.builtin "object.__class__") "__get__" == some (some (.builtin "getset_descriptor.__get__"))&&(takesIn K (.builtin "object.__class__")==some true&&(mroIn K C (.type "object")==some true&&mroIn K C (.type "BaseException")==some true))))))
noncomputable def hdB(K:Frag)(C:Addr):Bool:=typeIn K (.ref C)==some (.type "type")&&((clsIn K C).isSome&&mroIn K C (.type "BaseException")==some true)
noncomputable def clA(K:Frag):Cl->Value
 |.b n=>.type n
 |.o x=>.ref (adr K x)
noncomputable def Ad(K:Frag):Cl->Bool
 |.b _=>true
 |.o x=>kI K x
noncomputable def zY(K:Frag)(p:Cl×Cl×Bool):Bool:=kitOne K (clA K p.1) (clA K p.2.1)==some p.2.2&&(Ad K p.1&&Ad K p.2.1)
noncomputable def xkB(K:Frag):Cl->Bool
 |.b _=>true
 |.o x=>xcB K (adr K x)
noncomputable def we:D->Value->Bool
 |.int i,.int j _=>i==j
 |.str x,.str y _=>x==y
 |.non,.none=>true
 |.bl b,.bool c=>b==c
 |_,_=>false
noncomputable def dV:D->V
 |.int i=>.int i
 |.str x=>.str x
 |.bl b=>.bl b
 |_=>.non
noncomputable def qJ:List D->List Value->Bool
 | [],[]=>true
 |d::ds,v::vs=>we d v&&qJ ds vs
 |_,_=>false
noncomputable def gcB(K:Frag)(x:Str):D->Bool
 |.tup ds=>(match nsIn K mainGlobals x with
  |some (some (.ref a))=>(match K.lookup a with
   |some ⟨.type "tuple",_,.seq its _,_⟩=>decide (its.size<=1000)&&qJ ds its.toList
   |_=>false)
  |_=>false)
 |d=>match nsIn K mainGlobals x with
  |some (some v)=>we d v
  |_=>false
noncomputable def bFn:List String:=["abs", "all", "any", "isinstance", "len", "max", "min", "sorted", "sum"]
noncomputable def bTy:List String:=["bool", "dict", "int", "list", "set", "str", "tuple"]
noncomputable def bIt:List String:=["range", "zip", "enumerate"]
def Fl:(bFn.all λn=>bootBuiltins (Str.ofString n)==some (.builtin n))=true:=by decide
def FZ:(bTy.all λn=>bootBuiltins (Str.ofString n)==some (.type n))=true:=by decide
def boF{n:String}(h:bFn.contains n=true):bootBuiltins (Str.ofString n)=some (.builtin n):=M8.mp (MD.mp Fl n (Nf.mp h))
def boT{n:String}(h:bTy.contains n=true):bootBuiltins (Str.ofString n)=some (.type n):=M8.mp (MD.mp FZ n (Nf.mp h))
structure Tb where
 us:List Str
 rs:List Str
 hs:List (Str×List Str)
 kt:jC
 gs:List (Str×D)
noncomputable def Tb.ok(b:Tb)(K:Frag):Bool:=(bFn++(bTy++bIt)).all (λn=>vN K (Str.ofString n))&&(b.us.all (kI K)&&(b.rs.all (λx=>excIn K (adr K x) me "ValueError.__new__" && kI K x)&&(b.hs.all (λp=>hdB K (adr K p.1)&&p.2.all λc=>mroIn K (adr K c) (.ref (adr K p.1))==some true&&kI K c)&&(b.kt.all (λp=>zY K p&&xkB K p.1)&&b.gs.all λp=>gcB K p.1 p.2))))
structure Tx(b:Tb)(K:Frag)(mg:Pa):Prop where
 n:∀{n:String},(bFn++(bTy++bIt)).contains n=true->mg (Str.ofString n)=none
 m:∀{x:Str},b.us.contains x=true->mg x=some (.ref (adr K x))
 x:∀{x:Str},b.rs.contains x=true->excIn K (adr K x) me "ValueError.__new__"=true
 h:∀{x:Str}{l:List Str},(x,l)∈b.hs->XHand K (adr K x)/\∀c∈l,∀Ce,mg c=some (.ref Ce)->mroIn K Ce (.ref (adr K x))=some true
 k:KitsOk K mg b.kt
 g:∀{x:Str}{d:D},b.gs.lookup x=some d->GC K mg x d
section
variable{K:Frag}{h:Heap}{mg:Pa}{x:Str}(X:K.In h)(G:h.Ns mainGlobals mg)
include X G
def qF(e:kI K x=true):mg x=some (.ref (adr K x)):=by
 unfold kI at e;split at e
 .rename_i a q;unfold adr;rw[q];exact mg_of X G q
 .cases e
def Ck(e:vN K x=true):mg x=none:=by
 unfold vN at e;split at e
 .rename_i q;exact mg_none_of X G q
 .cases e
omit X G in
def Ko{C:Addr}(e:xcB K C=true):XCls K C:=by simp only[xcB,z_,M8] at e;obtain⟨e1,e2,e3,e4,e5,e6,e7,e8⟩:=e;exact⟨e1,e2,e3,e4,e5,e6,e7,e8⟩
def Cz{c:Cl}{v:Value}(e:Ad K c=true)(q:ClV mg c v):v=clA K c:=by
 cases c with
 |b n=>exact q
 |o y=>obtain⟨a,rfl,m⟩:=q;rw[qF X G (show kI K y=true from e)] at m;cases m;rfl
omit X G in
def yQ{d:D}{v:Value}(e:we d v=true):RelV (dV d) v/\∀ρ H,RelD K mg ρ H d (dV d):=by
 unfold we at e;split at e
 .cases M8.mp e;exact⟨⟨_,rfl⟩,λ_ _=>.int _⟩
 .cases M8.mp e;exact⟨⟨_,rfl⟩,λ_ _=>.str _⟩
 .exact⟨rfl,λ_ _=>.non⟩
 .cases M8.mp e;exact⟨rfl,λ_ _=>.bl _⟩
 .cases e
omit X G in
theorem uG:∀{ds:List D}{vs:List Value},qJ ds vs=true->Vals (ds.map dV) vs/\∀ρ H,RelDs K mg ρ H ds (ds.map dV)
 | [],[],_=>⟨.nil,λ_ _=>.nil⟩
 |
  d::ds,v::vs,e=>by
  rw[qJ,z_] at e;obtain⟨a1,a2⟩:=yQ (K:=K) (mg:=mg) e.1;obtain⟨b1,b2⟩:=uG e.2;exact⟨.cons a1 b1,λρ H=>.cons (a2 ρ H) (b2 ρ H)⟩
 | [],_::_,e=>nomatch e
 |_::_,[],e=>nomatch e
def Ls{d:D}(e:gcB K x d=true):GC K mg x d:=by
 unfold gcB at e;split at e
 .rename_i ds;split at e
  .rename_i a q;split at e
   .rename_i dd its n sl l;rw[z_] at e;obtain⟨v1,v2⟩:=uG (K:=K) (mg:=mg) e.2;exact JK X G q l (G_ (of_decide_eq_true e.1) (by decide)) v1 v2
   .cases e
  .cases e
 .split at e
  .rename_i v q;obtain⟨v1,v2⟩:=yQ (K:=K) (mg:=mg) e;exact⟨_,_,mg_of X G q,v1,v2⟩
  .cases e
omit X G in
theorem zf{d:D}:∀{l:List (Str×D)},l.lookup x=some d->(x,d)∈l
 | [],h=>nomatch h
 |
  (y,e)::l,h=>by
  rw[Nz] at h;split at h
  .rename_i q;cases h;rw[M8.mp q];exact H_
  .exact A_ _ (zf h)
def JP{b:Tb}(e:b.ok K=true):Tx b K mg:=by
 unfold Tb.ok at e;simp only[z_] at e;obtain⟨e1,e2,e3,e4,e5,e6⟩:=e;simp only[MD,z_] at e1 e2 e3 e4 e5 e6;refine⟨λh=>Ck X G (e1 _ (Nf.mp h)),λh=>qF X G (e2 _ (Nf.mp h)),λh=>(e3 _ (Nf.mp h)).1,λh=>?_,⟨λp hp t v h1 h2=>?_,λp hp x C e' m=>?_⟩,λh=>Ls X G (e6 _ (zf h))⟩
 .obtain⟨a1,a2⟩:=e4 _ h;refine⟨?_,λc hc Ce m=>?_⟩
  .simp only[hdB,z_,M8] at a1;exact⟨a1.1,a1.2.1,a1.2.2⟩
  .obtain⟨b1,b2⟩:=a2 c hc;rw[qF X G b2] at m;cases m;exact M8.mp b1
 .obtain⟨a1,_⟩:=e5 p hp;simp only[zY,z_,M8] at a1;rw[Cz X G a1.2.1 h1,Cz X G a1.2.2 h2];exact a1.1
 .obtain⟨a1,a2⟩:=e5 p hp;simp only[zY,z_,M8] at a1;have a3:=a1.2.1;rw[e'] at a2 a3;rw[qF X G (show kI K x=true from a3)] at m;cases m;exact Ko a2
end
def dNm(s:Stmt):Str:=match s with
 |.FunctionDef n ..=>n
 |_=>""
def AllD(K:Frag)(mg:Pa)(top:Nat->Stmt):List Nat->Prop
 | []=>True
 |i::l=>Def K mg (dNm (top i)) (top i)/\AllD K mg top l
theorem AllD.get{K:Frag}{mg:Pa}{top:Nat->Stmt}:∀{l:List Nat},AllD K mg top l->∀i,l.contains i=true->Def K mg (dNm (top i)) (top i)
 | [],_,i,h=>nomatch h
 |
  j::l,⟨a,b⟩,i,h=>by
  rcases MN.mp (Nf.mp h) with rfl |h
  .exact a
  .exact b.get i (Nf.mpr h)
structure Ty(b:Tb)(top:Nat->Stmt)(ds:List Nat)(K:Frag)(mg:Pa):Prop extends Tx b K mg where
 d:AllD K mg top ds
noncomputable def scB(N P:List Str)(sc:Scope):Bool:=decide (sc.kind=.function)&&(!sc.isCoroutine&&(!sc.isGenerator&&(decide N.Nodup&&(decide (N.take P.length=P)&&(P.all (λx=>decide (sc.names.lookup x=some .local\/sc.names.lookup x=some .cell))&&sc.names.all λy=>decide (y.2 ≠ .free))))))
def bB{N P:List Str}{sc:Scope}(e:scB N P sc=true):FnScope N P sc:=by simp only[scB,z_,NW,MD,Bool.not_eq_true'] at e;obtain⟨e1,e2,e3,e4,e5,e6,e7⟩:=e;exact⟨e1,e2,e3,e4,e5,e6,e7⟩
section
variable{K:W.Frag}{mg:Pa}{X:Cx}{ES:L2.St->XK}{c tg a_ g_:Expr}{p:PEx}{t:PTs}{x:PSt}{g:PGt}{I:PIt}{pos:Pos}
def fA{scope:Scope}(M:List Str)(kn:List (Str×NameKind))(N:List Str)(sub:Pd){hsb:(sub.filterMap id).Nodup}(hi:DI K mg X ES tg a_ I.F)(hg:N.Nodup->∀cl C s₂ H fp,DG K mg (bz X N scope cl C s₂ H fp) (λ_=>E0) tg g.F)(he:N.Nodup->∀cl C s₂ H fp,DE K mg (bz X N scope cl C s₂ H fp) (λ_=>E0) g_ p.F)(hnd:N.Nodup:=by decide)(hc:X.calm=true:=by rfl)(hM:X.N=M:=by rfl)(hkn:X.env.scope.names=kn:=by rfl)(f_:dE M scope.names sub N=true:=by decide)(hk:scope.kind=.function:=by rfl)(o_:∀x∈scope.names,x.2 ≠ .cell:=by decide)(b_:∀x∈scope.names,x.2=.local->scope.names.lookup x.1=some .local:=by decide)(l_:eS kn scope.names=true:=by decide)(p_:sub.length=N.length:=by rfl)(hs:∀x,foldedSetIterable a_ X.env x=pure x:=by intro _;rfl):DE K mg X ES (.ListComp g_ [⟨tg,a_,[],0⟩] scope pos) (pLC I sub hsb g qY p).F:=Lm M kn N sub hc hi (hg hnd) (he hnd) hM hkn f_ hk o_ b_ l_ p_ hs
def Jp{scope:Scope}(M:List Str)(kn:List (Str×NameKind))(N:List Str)(sub:Pd){hsb:(sub.filterMap id).Nodup}(hi:DI K mg X ES tg a_ I.F)(hg:N.Nodup->∀cl C s₂ H fp,DG K mg (bz X N scope cl C s₂ H fp) (λ_=>E0) tg g.F)(ht:N.Nodup->∀cl C s₂ H fp,DT K mg (bz X N scope cl C s₂ H fp) (λ_=>E0) c t.F)(he:N.Nodup->∀cl C s₂ H fp,DE K mg (bz X N scope cl C s₂ H fp) (λ_=>E0) g_ p.F)(hnd:N.Nodup:=by decide)(hc:X.calm=true:=by rfl)(hM:X.N=M:=by rfl)(hkn:X.env.scope.names=kn:=by rfl)(f_:dE M scope.names sub N=true:=by decide)(hk:scope.kind=.function:=by rfl)(o_:∀x∈scope.names,x.2 ≠ .cell:=by decide)(b_:∀x∈scope.names,x.2=.local->scope.names.lookup x.1=some .local:=by decide)(l_:eS kn scope.names=true:=by decide)(p_:sub.length=N.length:=by rfl)(hs:∀x,foldedSetIterable a_ X.env x=pure x:=by intro _;rfl):DE K mg X ES (.ListComp g_ [⟨tg,a_,[c],0⟩] scope pos) (pLC I sub hsb g t p).F:=Ea M kn N sub hc hi (hg hnd) (ht hnd) (he hnd) hM hkn f_ hk o_ b_ l_ p_ hs
def zSlc{ow:Bool}{px spos:Pos}{iT:Nat}{xT:Str}{scope:Scope}(hN:X.N.Nodup)(M:List Str)(kn:List (Str×NameKind))(N:List Str)(sub:Pd){hsb:(sub.filterMap id).Nodup}(hi:DI K mg X ES tg a_ I.F)(hg:N.Nodup->∀cl C s₂ H fp,DG K mg (bz X N scope cl C s₂ H fp) (λ_=>E0) tg g.F)(he:N.Nodup->∀cl C s₂ H fp,DE K mg (bz X N scope cl C s₂ H fp) (λ_=>E0) g_ p.F)(hsw:swapsWith (.ListComp g_ [⟨tg,a_,[],0⟩] scope pos) (some (.Name xT px)) spos.line X.env=pure true:=by rfl)(hnd:N.Nodup:=by decide)(hc:X.calm=true:=by rfl)(hix:X.N[iT]?=some xT:=by rfl)(hxl:Loc X.env.scope xT:=by first |exact Or.inl rfl |exact Or.inr rfl)(hM:X.N=M:=by rfl)(hkn:X.env.scope.names=kn:=by rfl)(f_:dE M scope.names sub N=true:=by decide)(hk:scope.kind=.function:=by rfl)(o_:∀x∈scope.names,x.2 ≠ .cell:=by decide)(b_:∀x∈scope.names,x.2=.local->scope.names.lookup x.1=some .local:=by decide)(l_:eS kn scope.names=true:=by decide)(p_:sub.length=N.length:=by rfl)(hs:∀x,foldedSetIterable a_ X.env x=pure x:=by intro _;rfl)(hf:X.fn xT=true\/X.env.scope.names.lookup xT=some .local:=by first |exact .inl rfl |exact .inr rfl |assumption):DS K mg X ES (.Assign [.Name xT px] (.ListComp g_ [⟨tg,a_,[],0⟩] scope pos) spos) (bF ow iT (pLC I sub hsb g qY p)).F:=K4 M kn N sub hc hN hix hxl hi (hg hnd) (he hnd) hsw hM hkn f_ hk o_ b_ l_ p_ hs hf
def G5{ow:Bool}{px spos:Pos}{iT:Nat}{xT:Str}{scope:Scope}(hN:X.N.Nodup)(M:List Str)(kn:List (Str×NameKind))(N:List Str)(sub:Pd){hsb:(sub.filterMap id).Nodup}(hi:DI K mg X ES tg a_ I.F)(hg:N.Nodup->∀cl C s₂ H fp,DG K mg (bz X N scope cl C s₂ H fp) (λ_=>E0) tg g.F)(ht:N.Nodup->∀cl C s₂ H fp,DT K mg (bz X N scope cl C s₂ H fp) (λ_=>E0) c t.F)(he:N.Nodup->∀cl C s₂ H fp,DE K mg (bz X N scope cl C s₂ H fp) (λ_=>E0) g_ p.F)(hsw:swapsWith (.ListComp g_ [⟨tg,a_,[c],0⟩] scope pos) (some (.Name xT px)) spos.line X.env=pure true:=by rfl)(hnd:N.Nodup:=by decide)(hc:X.calm=true:=by rfl)(hix:X.N[iT]?=some xT:=by rfl)(hxl:Loc X.env.scope xT:=by first |exact Or.inl rfl |exact Or.inr rfl)(hM:X.N=M:=by rfl)(hkn:X.env.scope.names=kn:=by rfl)(f_:dE M scope.names sub N=true:=by decide)(hk:scope.kind=.function:=by rfl)(o_:∀x∈scope.names,x.2 ≠ .cell:=by decide)(b_:∀x∈scope.names,x.2=.local->scope.names.lookup x.1=some .local:=by decide)(l_:eS kn scope.names=true:=by decide)(p_:sub.length=N.length:=by rfl)(hs:∀x,foldedSetIterable a_ X.env x=pure x:=by intro _;rfl)(hf:X.fn xT=true\/X.env.scope.names.lookup xT=some .local:=by first |exact .inl rfl |exact .inr rfl |assumption):DS K mg X ES (.Assign [.Name xT px] (.ListComp g_ [⟨tg,a_,[c],0⟩] scope pos) spos) (bF ow iT (pLC I sub hsb g t p)).F:=Eg M kn N sub hc hN hix hxl hi (hg hnd) (ht hnd) (he hnd) hsw hM hkn f_ hk o_ b_ l_ p_ hs hf
end
section
variable{K:W.Frag}{mg:Pa}{P:Program}{w:World}{base:Heap}{fx:Str}{n_:Stmt}{k n m:Nat}{ps N:List Str}{ms:List Bool}{x:PSt}
def bK(D:Def K mg fx n_)(S:FnScope N ps (bw n_))
 (hb:∀(kV doc pm:Value) (an:Option Addr) (cdv ct:Value) (us:List Value),us.length=ps.length->bindArgs (W.fnOf fx fx (dg n_) (bU n_) (bw n_) .none kV doc pm an cdv ct) ⟨us,[]⟩=pure (ps.zip us))
 (j_:N.Nodup->∀(f:Addr) (cdv:Value) (A:Around) (outer:List Env) (s:Shared) (H:Hp) (E:XK),Room k (A.deeper (envOfC fx (bw n_) s.heap.objs.size f cdv))->
  DSs K mg (eJ (CX1 P w) P w K mg base N fx (bw n_) f cdv A outer s H E) (λ_=>E) (bU n_) x.F) (hn:ps.length=n:=by rfl) (hm:N.length=m:=by rfl):Callee P w K mg base fx (k+1) ps (spD K mg n (fnP ms m x).F):=okP D S hb (j_ S.nd) hn hm
def wK(D:Def K mg fx n_)(S:FnScope N ps (bw n_))
 (hb:∀(kV doc pm:Value) (an:Option Addr) (cdv ct:Value) (us:List Value),us.length=ps.length->bindArgs (W.fnOf fx fx (dg n_) (bU n_) (bw n_) .none kV doc pm an cdv ct) ⟨us,[]⟩=pure (ps.zip us))
 (j_:N.Nodup->∀(f:Addr) (cdv:Value) (A:Around) (outer:List Env) (s:Shared) (H:Hp) (E:XK),Room k (A.deeper (envOfC fx (bw n_) s.heap.objs.size f cdv))->
  DSs K mg (eJ (CX1 P w) P w K mg base N fx (bw n_) f cdv A outer s H E) (λ_=>E) (bU n_) x.F) (hn:ps.length=n:=by rfl) (hm:N.length=m:=by rfl):Callee P w K mg base fx (k+1) ps (spD K mg n (PFx.of ms m x).F):=okX D S hb (j_ S.nd) hn hm
end
section
variable{K:Frag}{h:Heap}{mg:Pa}(X:K.In h)(G:h.Ns mainGlobals mg)
include X G
def Gm(e:A9.all (vN K)=true)(P:Addr)(q:Str):¬ zL K mg P q:=λ⟨x,f,oc,od,fd,sl,c,a1,a2,a3,_⟩=>by
 have:=Ck X G (MD.mp e x a1)
 rw[a3] at this;cases this
end
def zy{K:W.Frag}{mg:Pa}:ou K mg wF seD.F:=ED
section
variable{X:Nat->Prop}{h0:Nat}{ns:Ns}{e:E3}{ae:AE}{h:AH}
def zQ{i:Nat}{v:Val}(S1:Sat X h0 ns e ae h)(q:e[i]?=some (.ow v)):∃n o,ae[i]?=some (some (.ref n))/\h0<=n/\¬ X n/\h[n]?=some o/\cH o/\Sat (Xn X n) h0 (ns.set i none) (e.set i .no) ae h/\Rc (Oc (Xn X n) (ns.set i none)) h o v/\Mov (Oc X ns) (Oc (Xn X n) (ns.set i none)) h h:=by
 obtain⟨n,o,q1,q2,q3,q4,q5,q6⟩:=S1.sl i _ q;have hi:=(x_.mp q).1;have hn:i<ns.length:=by rw[S1.l2];exact hi
 have mv:Mov (Oc X ns) (Oc (Xn X n) (ns.set i none)) h h:=λm o' p q'=>⟨⟨λz=>by
  rcases z with z |rfl
  .exact p.1 z
  .exact p.2 (bR.mpr ⟨i,q1⟩),(eD p).2⟩,q'⟩
 have S2:=S1.putN' hi (s:=.no) rfl;refine⟨n,o,q2,q3,S1.nx i n q1,q4,q5,⟨S2.l1,S2.l2,S2.lh,λm z=>?_,S2.inj,λj m qj z=>?_,λj s qj=>?_⟩,q6.mono mv,mv⟩
 .rcases z with z |rfl
  .exact S2.xl m z
  .exact cZ q4
 .rcases z with z |rfl
  .exact S2.nx j m qj z
  .rcases cm hn qj with ⟨_,y⟩ |⟨y,z⟩
   .cases y
   .exact y (S1.inj j i _ z q1)
 .rcases cm hi qj with ⟨rfl,rfl⟩ |⟨z,qj'⟩
  .rw[cC hn];rfl
  .rw[cq z];exact (S1.sl j s qj').mono mv λ_ _ _ q=>q
end
def CB(F:ME3)(i:Nat):MS3:=λe=>(F e).toS λt e1=>match cN e1 t with
 |some (e2,v)=>match e2[i]? with
  |some (.ow u)=>.rt (.pr v u) (e2.set i .no)
  |_=>.stuck
 |none=>.stuck
def Ef{F:ME}{F3:ME3}(i:Nat)(hF:RE F F3):RS (vO (eFn iM (kN F (kN (cT i) jQ)))) (CB F3 i):=λX h0 ns e ae h S=>by
 have p:=hF X h0 h0 ns e ae h S S.lh;show PoS X h0 ns e h ((((F ae h).bind λx h1=>((cT i ae h1).bind λy h2=>(jQ ae h2).bind λys h3=>R.ok (y::ys) h3).bind λxs h2=>R.ok (x::xs) h2).bind iM).toS ae λd h1=>.rt d h1) ((F3 e).toS _);generalize F3 e=r at *;cases r with
 |stuck=>trivial
 |exc c e'=>obtain⟨h',ns',q,q1,q2⟩:=p;rw[q];exact⟨ae,h',ns',rfl,q1,q2⟩
 |
  ok t e1=>
  obtain⟨d,h1,ns1,q,a1,S1,r1⟩:=p;show PoS X h0 ns e h _ (match cN e1 t with
   |some (e2,v)=>match e2[i]? with
    |some (.ow u)=>.rt (.pr v u) (e2.set i .no)
    |_=>.stuck
   |none=>.stuck)
  cases q2:cN e1 t with
  |none=>trivial
  |
   some ev=>
   obtain⟨e2,v⟩:=ev;obtain⟨ns2,S2,a2,r2⟩:=fB S1 r1 q2;dsimp only;split
   .rename_i u qi;obtain⟨n,o,g1,g2,g3,g4,g5,g6,g7,g8⟩:=zQ S2 qi;have hi:=(x_.mp qi).1;have ev:cT i ae h1=.ok (.ref n) h1:=by unfold cT;rw[g1]
    rw[q];show PoS X h0 ns e h ((((cT i ae h1).bind λy h2=>(jQ ae h2).bind λys h3=>R.ok (y::ys) h3).bind λxs h2=>R.ok (d::xs) h2).bind iM |>.toS ae λd h1=>.rt d h1) _;rw[ev];exact⟨.tup [d,.ref n],ae,h1,ns2.set i none,rfl,(a1.trans S a2).put (x:=none) hi (λ_ z=>by cases z) qi rfl rfl S2.l2,d,n,o,rfl,g2,g3,g4,g5,g6,r2.mono g8,g7⟩
   .trivial
def vQ(p:PEx)(i:Nat):PSt:=⟨(bA (dH (aq p (aq (av i) bj)))).F,CB p.G i,Ef i p.ok⟩
@[simp] theorem bo(p:PEx)(i:Nat)(e:E3):(vQ p i).G e=(p.G e).toS λt e1=>match cN e1 t with
 |some (e2,v)=>match e2[i]? with
  |some (.ow u)=>.rt (.pr v u) (e2.set i .no)
  |_=>.stuck
 |none=>.stuck:=rfl
def wUn2(a b:Nat)(ms:List Bool)(G:Fn3)(A:MA3):MS3:=λe=>(A e).toS λts e1=>match rss e1 ts with
 |none=>.stuck
 |some vs=>if okA e1 ms ts=true then (match G vs with
  |.ok (.pr v u) mv=>if ((bI e1 ms ts).isEmpty || (fO (.pr v u)&&mv.all cK))=true then (match (bH (bN ms ts) (bD ms mv) e1)[a]?,(bH (bN ms ts) (bD ms mv) e1)[b]? with
   |some sa,some sb=>if sa.pl=true/\sb.pl=true then .nx (((bH (bN ms ts) (bD ms mv) e1).set a (.sh v)).set b (.ow u)) else .stuck
   |_,_=>.stuck) else .stuck
  |_=>.stuck) else .stuck
def HB{a b n:Nat}{ms:List Bool}{S2:Fn}{G3:Fn3}{A:MA}{A3:MA3}(hab:a≠b)(hn:n=ms.length)(hG:RF ms S2 G3)(hA:RA A A3):RS (gH (qL n S2 A) (gtX (gtT 2 (bQ (gtN a) (bQ (gtN b) eI)))).F) (wUn2 a b ms G3 A3):=λX h0 ns e ae h S=>by
 have p:=hA X h0 ns e ae h S;show PoS X h0 ns e h ((((A ae h).bind λds h1=>if ds.length=n then S2 ds h1 else .stuck)).toS ae λd h1=>((gtX (gtT 2 (bQ (gtN a) (bQ (gtN b) eI)))).F d ae h1).toS ae λc_ h2=>.nx c_ h2) ((A3 e).toS _);generalize A3 e=r at *;cases r with
 |stuck=>trivial
 |exc c e'=>obtain⟨h',ns',q,q1,q2⟩:=p;rw[q];exact⟨ae,h',ns',rfl,q1,q2⟩
 |
  ok ts e1=>
  obtain⟨ds,h1,ns1,q,a1,S1,r1⟩:=p;show PoS X h0 ns e h _ (match rss e1 ts with
   |none=>.stuck
   |some vs=>if okA e1 ms ts=true then (match G3 vs with
    |.ok (.pr v u) mv=>if ((bI e1 ms ts).isEmpty || (fO (.pr v u)&&mv.all cK))=true then (match (bH (bN ms ts) (bD ms mv) e1)[a]?,(bH (bN ms ts) (bD ms mv) e1)[b]? with
     |some sa,some sb=>if sa.pl=true/\sb.pl=true then .nx (((bH (bN ms ts) (bD ms mv) e1).set a (.sh v)).set b (.ow u)) else .stuck
     |_,_=>.stuck) else .stuck
    |_=>.stuck) else .stuck)
  cases qv:rss e1 ts with
  |none=>trivial
  |
   some vs=>
   dsimp only;by_cases ok:okA e1 ms ts=true
   .rw[if_pos ok];split
    .rename_i v u mv qG;split
     .rename_i hf0;split
      .rename_i sa sb qa qb;split
       .rename_i hp;have hf:bI e1 ms ts=[]\/(fO (.pr v u)=true/\mv.all cK=true):=by
         rw[Bool.or_eq_true,z_] at hf0;rcases hf0 with z |z
         .exact .inl (List.isEmpty_iff.mp z)
         .exact .inr z
        have pp:=hG _ _ ds vs h1 (by rw[jo qv,gi ok]) (lZ S1 r1 qv ok);rw[qG] at pp;obtain⟨d,h',p1,st,d1,m,o,rfl,z2,z3,z4,z5,S3,z6,z7⟩:=pp;obtain⟨S4,a4,r4⟩:=mr S1 ok st hf z2 z4 S3;have d_:ds.length=n:=by rw[hn,gi ok];exact TsR.len r1
        have z6':Rd (Oc (Xn X m) ns1) h' d1 v:=by
         rcases hf with hf |hf
         .exact z6.mono λm o' z y=>⟨r4 hf m z,y⟩
         .exact z6.flat (z_ _ _ ▸ hf.1).1
        have z7':Rc (Oc (Xn X m) ns1) h' o u:=by
         rcases hf with hf |hf
         .exact z7.mono λm o' z y=>⟨r4 hf m z,y⟩
         .exact z7.flat (z_ _ _ ▸ hf.1).2
        have hnx:¬ X m:=λy=>by have:=S1.xl m y;omega
        generalize bH (bN ms ts) (bD ms mv) e1=e2 at *;have ha:=(x_.mp qa).1;have hb:=(x_.mp qb).1;have S5:=S4.putN ha (s:=.sh v) (d:=some d1) ⟨rfl,d1,rfl,z6'.mono λm o p q=>⟨eD p,q⟩⟩;have hb':b<(e2.set a (.sh v)).length:=by rw[Mz];exact hb
        have S6:=Sat.putO S5 hnx hb' (G_ S1.lh z2) z4 z5 (z7'.mono λm o p q=>⟨eD p,q⟩);have st1:=(a1.trans S a4).put (x:=none) (s:=.sh v) ha (λ_ z=>by cases z) qa hp.1 rfl S4.l2;have st2:=st1.put (x:=some m) (s:=.ow u) (s0:=sb) hb' (λk z=>by cases z;exact G_ a1.len z2) (by rw[NZ hab];exact qb) hp.2 rfl S5.l2;rw[q];show PoS X h0 ns e h ((if ds.length=n then S2 ds h1 else .stuck).toS ae _) _;rw[if_pos d_,p1];exact⟨_,_,_,rfl,st2,S6⟩
       .trivial
      .trivial
     .trivial
    .trivial
   .rw[if_neg ok];trivial
def Bu(a b:Nat)(hab:a≠b)(f:PFn)(A:PAs):PSt:=⟨(gx (bt f A) (gtX (gtT 2 (bQ (gtN a) (bQ (gtN b) eI))))).F,wUn2 a b f.ms f.G A.G,HB hab rfl f.ok A.ok⟩
@[simp] theorem bp(a b:Nat)(hab:a≠b)(f:PFn)(A:PAs)(e:E3):(Bu a b hab f A).G e=(A.G e).toS λts e1=>match rss e1 ts with
 |none=>.stuck
 |some vs=>if okA e1 f.ms ts=true then (match f.G vs with
  |.ok (.pr v u) mv=>if ((bI e1 f.ms ts).isEmpty || (fO (.pr v u)&&mv.all cK))=true then (match (bH (bN f.ms ts) (bD f.ms mv) e1)[a]?,(bH (bN f.ms ts) (bD f.ms mv) e1)[b]? with
   |some sa,some sb=>if sa.pl=true/\sb.pl=true then .nx (((bH (bN f.ms ts) (bD f.ms mv) e1).set a (.sh v)).set b (.ow u)) else .stuck
   |_,_=>.stuck) else .stuck
  |_=>.stuck) else .stuck:=rfl
section
variable{K:W.Frag}{mg:Pa}{X:Cx}{ES:L2.St->XK}{e t:Expr}{p:PEx}{f:PFn}{A:PAs}{i j:Nat}{pos:Pos}
def Ew(he:DE K mg X ES e (dH (aq p (aq (av i) bj))).F):DS K mg X ES (.Return (some e) pos) (vQ p i).F:=fM he
def G7{hij:i≠j}(he:DE K mg X ES e (bt f A).F)(hg:DG K mg X ES t (gtX (gtT 2 (bQ (gtN i) (bQ (gtN j) eI)))).F)(hs:swapsWithSole [t] e pos.line X.env=pure false:=by rfl)(hw:swappedStores [t] e X.env=pure none:=by rfl)(h1:(assignEach [t] X.env).map (·.2)=[assign t X.env]:=by rfl):DS K mg X ES (.Assign [t] e pos) (Bu i j hij f A).F:=oA he hg hs hw h1
end
structure TyD(dn:Str)(kvs:List (Str×Int))(w:World)(b:Tb)(top:Nat->Stmt)(ds:List Nat)(K:W.Frag)(mg:Pa):Prop extends Ty b top ds K mg where
 kd:KDict w K mg dn kvs
end L3
namespace Wb
open L2
noncomputable def lc(qs:List Rat)(c:Nat):Nat:=qs.foldl (λc q=>Nat.lcm c q.den) c
noncomputable def gc(ws:List Int)(g:Nat):Nat:=ws.foldl (λg w=>Int.gcd (g:Int) w) g
noncomputable def wh(L:Nat)(qs:List Rat):List Int:=qs.map λq=>q.num*((L/q.den:Nat):Int)
noncomputable def ws(qs:List Rat):List Int:=wh (lc qs 1) qs
def dv(qs:List Rat):Nat:=gc (ws qs) 0
end Wb
namespace L3
open PySem L2
def dm(b:Bx):Rat:=if b.w<b.h then b.h/b.w else b.w/b.h
noncomputable def shL(s l:Rat)(W:Int):Int->List Int->List (Rat×Rat)
 |_,[]=>[]
 |a,w::ws=>(s+l*((a:Rat)/(W:Rat)),l*((w:Rat)/(W:Rat)))::shL s l W (a+w) ws
theorem oo(s l:Rat)(W:Int):∀(ws:List Int) (a:Int),(shL s l W a ws).length=ws.length
 | [],_=>rfl
 |w::ws,a=>by unfold shL;rw[MK,MK,oo s l W ws (a+w)]
noncomputable def fZ(b:Bx)(way:Str)(ws:List Int):List Bx:=if way="across" then (shL b.l b.w ws.sum 0 ws).map λp=>⟨p.1,b.t,p.2,b.h⟩ else (shL b.t b.h ws.sum 0 ws).map λp=>⟨b.l,p.1,b.w,p.2⟩
theorem iF:∀{l:List Int},(∀w∈l,1<=w)->(l.length:Int)<=l.sum
 | [],_=>by simp
 |
  x::l,h=>by
  rw[M3,MK]
  have:=h x (H_ ..)
  have:=iF (l:=l) λw hw=>h w (A_ _ hw)
  omega
theorem va:∀(ws:List Int) (a:Int),0<=a->(∀w∈ws,1<=w)->a+ws.sum<=W->p∈shL s l W a ws->∃a' w:Int,0<=a'/\a'<=W/\1<=w/\w<=W/\p=(s+l*((a':Rat)/(W:Rat)),l*((w:Rat)/(W:Rat)))
 | [],_,_,_,_,h=>nomatch h
 |
  w::ws,a,ha,hw,hs,h=>by
  have h1:=hw w (H_ ..);have h2:=iF (l:=ws) λx hx=>hw x (A_ _ hx);rw[M3] at hs;unfold shL at h;rcases MN.mp h with rfl |h
  .exact⟨a,w,ha,by omega,h1,by omega,rfl⟩
  .exact va ws (a+w) (by omega) (λx hx=>hw x (A_ _ hx)) (by omega) h
def rb(hb:b.Ok)(hs:b.Sz n)(hw:∀w∈ws,1<=w)(mW:Sm m ws.sum)(h:b'∈fZ b way ws):b'.Ok/\b'.Sz (n+(n+m)+1):=by
 have key:∀(s l:Rat),Sz n s->Sz n l->0<l->∀p∈shL s l ws.sum 0 ws,Sz (n+(n+m)+1) p.1/\Sz (n+(n+m)+1) p.2/\0<p.2:=by intro s l hs hl l0 p hp;obtain⟨a',w,h1,h2,h3,h4,rfl⟩:=va ws 0 (by omega) hw (by omega) hp;have z1:Sz m ((a':Rat)/(ws.sum:Rat)):=Sz.div (by omega) (mW.of_le (by omega)) mW m (y_ _) (y_ _);have z2:Sz m ((w:Rat)/(ws.sum:Rat)):=Sz.div (by omega) (mW.of_le (by omega)) mW m (y_ _) (y_ _);exact⟨hs.add (hl.mul z1),(hl.mul z2).mono (by omega),Rat.mul_pos l0 (ma (by omega) (by omega))⟩
 unfold fZ at h;split at h
 .obtain⟨p,hp,rfl⟩:=M9.mp h;obtain⟨k1,k2,k3⟩:=key _ _ hs.l hs.w hb.1 p hp;exact⟨⟨k3,hb.2⟩,⟨k1,hs.t.mono (by omega),k2,hs.h.mono (by omega)⟩⟩
 .obtain⟨p,hp,rfl⟩:=M9.mp h;obtain⟨k1,k2,k3⟩:=key _ _ hs.t hs.h hb.2 p hp;exact⟨⟨hb.1,k3⟩,⟨hs.l.mono (by omega),k1,hs.w.mono (by omega),k2⟩⟩
noncomputable def eK(b:Bx)(way:Str)(u v:Int):Bx:=(fZ b way [u,v]).headD b
noncomputable def eT(b:Bx)(way:Str)(u v:Int):Bx:=((fZ b way [u,v]).drop 1).headD b
def nL(b:Bx)(way:Str)(u v:Int):fZ b way [u,v]=[eK b way u v,eT b way u v]:=by unfold eK eT fZ;split <;> rfl
def uR(hb:b.Ok)(hs:b.Sz n)(hu:1<=u)(hv:1<=v)(mW:Sm m (u+v)):(eK b way u v).Ok/\(eK b way u v).Sz (n+(n+m)+1):=by refine rb (way:=way) (ws:=[u,v]) hb hs ?_ (by simpa using mW) (by rw[nL];exact H_ ..);intro w hw;simp at hw;omega
def uv(hb:b.Ok)(hs:b.Sz n)(hu:1<=u)(hv:1<=v)(mW:Sm m (u+v)):(eT b way u v).Ok/\(eT b way u v).Sz (n+(n+m)+1):=by refine rb (way:=way) (ws:=[u,v]) hb hs ?_ (by simpa using mW) (by rw[nL];simp);intro w hw;simp at hw;omega
noncomputable def liV(l:List Int):Val:=.lst (l.map .int)
noncomputable def d7(ws:List Int)(i:Int):Int:=ws.getD i.toNat 0
def Inr(ws nums:List Int):Prop:=∀i∈nums,0<=i/\i<(ws.length:Nat)
def wt(ws l:List Int):Int:=(l.map (d7 ws)).sum
def Kr{ws:List Int}{i:Int}(h0:0<=i)(h1:i<(ws.length:Nat)):atI (ws.map Val.int) i=some (.int (d7 ws i)):=by
 have hi:i.toNat<ws.length:=by omega
 refine k8 h0 ?_;rw[MP,MJ hi];unfold d7;rw[MV,MJ hi];rfl
def Br{ws:List Int}{i:Int}(h0:0<=i)(h1:i<(ws.length:Nat)):d7 ws i∈ws:=by
 have hi:i.toNat<ws.length:=by omega
 unfold d7;rw[MV,MJ hi];exact List.getElem_mem hi
def qS(hw:∀w∈ws,1<=w)(hr:Inr ws l):(l.length:Int)<=wt ws l:=by
 have:=iF (l:=l.map (d7 ws)) λw h=>by obtain⟨i,hi,rfl⟩:=M9.mp h;exact hw _ (Br (hr i hi).1 (hr i hi).2)
 rw[v_] at this;exact this
def yd(ws l r:List Int):wt ws (l++r)=wt ws l+wt ws r:=by unfold wt;rw[MY,List.sum_append]
def BO{l r:List Int}(h:l.Perm r):l.sum=r.sum:=by
 induction h with
 |nil=>rfl
 |cons x _ ih=>rw[M3,M3,ih]
 |swap x y l=>rw[M3,M3,M3,M3];omega
 |trans _ _ h1 h2=>rw[h1,h2]
def ia(h:l.Perm r):wt ws l=wt ws r:=BO (h.map _)
def rst(nums l:List Int):List Int:=nums.filter λx=>!l.contains x
structure Lot(nums l:List Int):Prop where
 sub:l.Sublist nums
 ne:l≠[]
 lt:l.length<nums.length
def Lot.mono(h:Lot p l)(s:p.Sublist q):Lot q l:=⟨h.sub.trans s,h.ne,I_ h.lt s.length_le⟩
def Lot.more(h:Lot p l)(x:Int):Lot (p++[x]) (l++[x]):=⟨h.sub.append (List.Sublist.refl _),by simp,by have:=h.lt;simp;omega⟩
def Lot.self(h:p≠[])(x:Int):Lot (p++[x]) p:=⟨List.sublist_append_left ..,h,by simp⟩
def mB(h:l.Sublist nums):nums.Nodup->(l++rst nums l).Perm nums:=by
 induction h with
 |slnil=>intro _;exact .nil
 |
  cons a s ih=>
  intro nd;rw[Nq] at nd;rename_i l nums;have ha:¬ a∈l:=λz=>nd.1 (s.subset z);have e:rst (a::nums) l=a::rst nums l:=by unfold rst;rw[List.filter_cons_of_pos];simp [ha]
  rw[e];exact List.perm_middle.trans ((ih nd.2).cons a)
 |
  cons_cons a s ih=>
  intro nd;rw[Nq] at nd;rename_i l nums;have e:rst (a::nums) (a::l)=rst nums l:=by unfold rst;rw[List.filter_cons_of_neg (by simp)];refine List.filter_congr λx hx=>?_;have:x≠a:=λz=>nd.1 (z ▸ hx);simp [this]
  rw[e];exact (ih nd.2).cons a
def lp(h:Lot nums l)(nd:nums.Nodup):Lot nums (rst nums l):=by have p:=(mB h.sub nd).length_eq;rw[E_] at p;have h1:=h.lt;have h2:=MU.mpr h.ne;refine⟨List.filter_sublist,λz=>?_,by omega⟩;rw[z,M1] at p;omega
def A4(nd:nums.Nodup)(k:Nat):rst nums (nums.take k)=nums.drop k:=by
 have e:rst nums (nums.take k)=(nums.take k++nums.drop k).filter λx=>!(nums.take k).contains x:=by rw[Ow];rfl
 rw[e,List.filter_append];have nd':(nums.take k++nums.drop k).Nodup:=by rw[Ow];exact nd
 rw[List.nodup_append] at nd';have h1:(nums.take k).filter (λx=>!(nums.take k).contains x)=[]:=by rw[List.filter_eq_nil_iff];intro x hx;simp [hx]
 have h2:(nums.drop k).filter (λx=>!(nums.take k).contains x)=nums.drop k:=by rw[List.filter_eq_self];intro x hx;have:¬ x∈nums.take k:=λz=>nd'.2.2 x z x hx rfl;simp [this]
 rw[h1,h2];rfl
def fQ:List (List Int)->List Int->List (List Int)
 |L,[]=>L
 |L,x::rest=>fQ (L++L.map λl=>l++[x]) rest
def cI(kind:Str)(nums:List Int):List (List Int):=if kind="order" then (List.range' 1 (nums.length-1)).map λi=>nums.take i else match nums with
 | []=>[]
 |x::rest=>(fQ [[x]] rest).dropLast
theorem jE:∀(rest p:List Int) (M:List (List Int)),p≠[]->(∀l∈M,Lot p l)->∃M',fQ (M++[p]) rest=M'++[p++rest]/\(∀l∈M',Lot (p++rest) l)/\(rest≠[]->M'≠[])/\(M≠[]->M'≠[])
 | [],p,M,hp,hM=>⟨M,by unfold fQ;rw[Nn],by simpa using hM,λz=>absurd rfl z,λz=>z⟩
 |
  x::rest,p,M,hp,hM=>by
  obtain⟨M',q1,q2,q3,q4⟩:=jE rest (p++[x]) (M++[p]++M.map λl=>l++[x]) (by simp) (λl hl=>by
   rcases M7.mp hl with hl |hl
   .rcases M7.mp hl with hl |hl
    .exact (hM l hl).mono (List.sublist_append_left ..)
    .rw[M0] at hl;subst hl;exact .self hp x
   .obtain⟨l',h',rfl⟩:=M9.mp hl;exact (hM l' h').more x)
  refine⟨M',?_,by rw[Ni] at q2;exact q2,λ_=>q4 (by simp),λ_=>q4 (by simp)⟩;unfold fQ;rw[<- show (M++[p]++(M.map λl=>l++[x]))++[p++[x]]=M++[p]++(M++[p]).map (λl=>l++[x]) by simp,q1];simp
def tI(h:l∈cI kind nums):Lot nums l:=by
 unfold cI at h;split at h
 .obtain⟨i,hi,rfl⟩:=M9.mp h;rw[List.mem_range'_1] at hi;refine⟨List.take_sublist ..,λz=>?_,by rw[N0];omega⟩
  have:=Nd List.length z
  rw[N0,M1] at this;omega
 .split at h
  .exact nomatch h
  .rename_i x rest;obtain⟨M',q1,q2,_,_⟩:=jE rest [x] [] (by simp) (λ_ z=>nomatch z);rw[MQ] at q1;rw[q1,List.dropLast_concat] at h;exact q2 l h
def DQ(h:2<=nums.length):cI kind nums≠[]:=by
 unfold cI;split
 .intro z
  have:=Nd List.length z
  rw[v_,List.length_range',M1] at this;omega
 .split
  .simp at h
  .rename_i x rest;obtain⟨M',q1,_,q3,_⟩:=jE rest [x] [] (by simp) (λ_ z=>nomatch z);rw[MQ] at q1;rw[q1,List.dropLast_concat];exact q3 (by rintro rfl;simp at h)
theorem pB:∀(rest:List Int) (L:List (List Int)),(fQ L rest).length=L.length*2^rest.length
 | [],L=>by simp [fQ]
 |
  x::rest,L=>by
  unfold fQ;rw[pB rest,E_,v_,MK,OD,<- Nat.two_mul,N9 2,OL,N9 2]
def mM(h:nums.length<=10):(cI kind nums).length<=1000:=by
 unfold cI;split
 .rw[v_,List.length_range'];omega
 .split
  .simp
  .rename_i x rest;rw[MK] at h;rw[List.length_dropLast,pB];have:2^rest.length<=2^9:=MZ (by decide) (by omega);simp;omega
def cuV(c:Str×List Int×List Int):Val:=.tup [.str c.1,liV c.2.1,liV c.2.2]
def f9(nums l:List Int):List (Str×List Int×List Int):=[("across",l,rst nums l),("down",l,rst nums l)]
def gP(kind:Str)(nums:List Int):List (Str×List Int×List Int):=(cI kind nums).flatMap (f9 nums)
def mx(x y:Rat):Rat:=if x<y then y else x
def eO(f:Bx->List Int->Rat)(ws:List Int)(b:Bx)(c:Str×List Int×List Int):Rat:=mx (f (eK b c.1 (wt ws c.2.1) (wt ws c.2.2)) c.2.1) (f (eT b c.1 (wt ws c.2.1) (wt ws c.2.2)) c.2.2)
def cF(o:Option Rat)(q:Rat):Option Rat:=match o with
 |none=>some q
 |some p=>if q<p then some q else some p
def bst(kind:Str)(ws:List Int):Nat->Bx->List Int->Rat
 |0,b,_=>dm b
 |k+1,b,nums=>if nums.length=1 then dm b else ((gP kind nums).foldl (λo c=>cF o (eO (bst kind ws k) ws b c)) none).getD 0
def vJ(o:Option Rat)(q:Rat):∃p,cF o q=some p:=by
 unfold cF;split
 .exact⟨_,rfl⟩
 .split <;> exact⟨_,rfl⟩
theorem pH(f:α->Rat):∀(l:List α) (p:Rat),∃q,l.foldl (λo c=>cF o (f c)) (some p)=some q
 | [],p=>⟨p,rfl⟩
 |
  c::l,p=>by
  obtain⟨q,e⟩:=vJ (some p) (f c);rw[List.foldl_cons,e];exact pH f l q
def uw(f:α->Rat)(h:l≠[]):∃q,l.foldl (λo c=>cF o (f c)) none=some q:=by
 cases l with
 |nil=>exact absurd rfl h
 |cons c l=>rw[List.foldl_cons];exact pH f l _
structure CutOk(nums:List Int)(c:Str×List Int×List Int):Prop where
 way:c.1="across" \/ c.1="down"
 one:Lot nums c.2.1
 two:Lot nums c.2.2
 rest:c.2.2=rst nums c.2.1
def uP(nd:nums.Nodup)(h:c∈gP kind nums):CutOk nums c:=by
 obtain⟨l,hl,hc⟩:=List.mem_flatMap.mp h;have lo:=tI hl;unfold f9 at hc;rcases MN.mp hc with rfl |hc
 .exact⟨.inl rfl,lo,lp lo nd,rfl⟩
 .rw[M0] at hc;subst hc;exact⟨.inr rfl,lo,lp lo nd,rfl⟩
def vb(h:2<=nums.length):gP kind nums≠[]:=by
 have:=DQ (kind:=kind) h
 unfold gP;cases e:cI kind nums with
 |nil=>exact absurd e this
 |cons l ls=>rw[List.flatMap_cons];unfold f9;simp
inductive Tr(ws:List Int):Bx->List Int->Val->Rat->Prop
 |leaf (b:Bx) (i:Int):Tr ws b [i] (.int i) (dm b)
 |node {b:Bx}{way:Str}{l r:List Int}{t1 t2:Val}{q1 q2:Rat} (hw:way="across" \/ way="down") (h1:Tr ws (eK b way (wt ws l) (wt ws r)) l t1 q1) (h2:Tr ws (eT b way (wt ws l) (wt ws r)) r t2 q2):Tr ws b (l++r) (.tup [.str way,.tup [t1,t2]]) (mx q1 q2)
def Tr.ne(h:Tr ws b l t q):l≠[]:=by
 induction h with
 |leaf=>simp
 |node _ _ _ ih _=>intro z;exact ih (List.append_eq_nil_iff.mp z).1
def Tr.flat(h:Tr ws b l t q):flatV t=true:=by
 induction h with
 |leaf=>exact km _
 |node _ _ _ ih1 ih2=>simp [iR,eF,eU,ku,ih1,ih2]
end L3
namespace KK
open PySem PySem.Spec PyProof.Rows L2 L3
def top(i:Nat):Stmt:=PySem.Challenge.pw_weightrooms_k52_least_worst_at_all.main.body.getD i (.Pass ⟨0,0,0,0⟩)
noncomputable def cV:jC:=[((.b "NoneType"),(.b "bool"),false),((.b "bool"),(.b "bool"),true),((.b "int"),(.b "bool"),false),((.b "str"),(.b "bool"),false),((.b "tuple"),(.b "bool"),false),((.b "list"),(.b "bool"),false),((.b "dict"),(.b "bool"),false),((.b "NoneType"),(.b "int"),false),((.b "bool"),(.b "int"),true),((.b "int"),(.b "int"),true),((.b "str"),(.b "int"),false),((.b "tuple"),(.b "int"),false),((.b "list"),(.b "int"),false),((.b "dict"),(.b "int"),false),((.b "NoneType"),(.b "list"),false),((.b "bool"),(.b "list"),false),((.b "int"),(.b "list"),false),((.b "str"),(.b "list"),false),((.b "tuple"),(.b "list"),false),((.b "list"),(.b "list"),true),((.b "dict"),(.b "list"),false),((.b "NoneType"),(.b "str"),false),((.b "bool"),(.b "str"),false),((.b "int"),(.b "str"),false),((.b "str"),(.b "str"),true),((.b "tuple"),(.b "str"),false),((.b "list"),(.b "str"),false),((.b "dict"),(.b "str"),false),((.b "NoneType"),(.b "tuple"),false),((.b "bool"),(.b "tuple"),false),((.b "int"),(.b "tuple"),false),((.b "str"),(.b "tuple"),false),((.b "tuple"),(.b "tuple"),true),((.b "list"),(.b "tuple"),false),((.b "dict"),(.b "tuple"),false)]
def cL:List (Str×Int):=[("order",6),("any",5)]
noncomputable def jf:D:=(.int 40)
noncomputable def zo:D:=(.tup [(.str "across"),(.str "down")])
abbrev tb:Tb:=⟨["NoFraction", "NoBox", "NoWay", "NoWeights", "TooMany", "NoKind"],["NoFraction", "NoBox", "NoWay", "NoWeights", "TooMany", "NoKind"],[],cV,[("MOST_WEIGHTS",jf),("WAYS",zo)]⟩
abbrev TT(w:World)(K:W.Frag)(mg:Pa):Prop:=TyD "MOST_THINGS" cL w tb top [9,10,11,12,13,14,15,16,17,21,22,23,24,25,26,27,28,29,30,33,34,35,36,37,38,39,40,42,43,44,45,46,47,48,49,50,51,52,53,54,55,56,57,58,59,60] K mg
section
variable{P:Program}{w:World}{K:W.Frag}{mg:Pa}{base:Heap}
noncomputable def iO:PEx:=rC jf (.int 40) (λ_ _=>.int _)
def ag(e:E3):iO.G e=.ok (.val (.int 40)) e:=rfl
noncomputable def oY:PEx:=rC zo (.tup [(.str "across"),(.str "down")]) (λ_ _=>.tup (.cons (.str _) (.cons (.str _) .nil)))
def bg(e:E3):oY.G e=.ok (.val (.tup [(.str "across"),(.str "down")])) e:=rfl
def dI(s:String):Lean.TSyntax `term:=⟨Lean.mkIdent (s.replace "%" "").toName⟩
def dA(f:String)(a:Lean.TSyntax `term):Lean.TSyntax `term:=Lean.Syntax.mkApp (dI f) #[a]
def dF:List (Lean.TSyntax `tactic)->Lean.MacroM (Lean.TSyntax `tactic)
 | []=>`(tactic|fail)
 |a::l=>do `(tactic|first | $a:tactic | $(<- dF l):tactic)
def dL(f:String->Lean.MacroM (Lean.TSyntax `tactic)):List String->Lean.MacroM (List (Lean.TSyntax `tactic))
 | []=>pure []
 |s::l=>do return (<- f s)::(<- dL f l)
set_option hygiene false in
def dQ(ap:String->Lean.TSyntax `term)(s:String):Lean.MacroM (Lean.TSyntax `tactic):=match (s.splitOn ";").map ap with
 | [d,c,a,b]=>`(tactic|((case d=>with_reducible exact $d);(case c=>exact $c);(case a=>exact $a);(case b=>exact $b)))
 |d::c::_=>`(tactic|((case d=>with_reducible exact $d);(case c=>exact $c)))
 |_=>`(tactic|fail)
set_option hygiene false in
def dR(ap:String->Lean.TSyntax `term)(g:String):Lean.MacroM (Lean.TSyntax `tactic):=match g.splitOn ":" with
 | [r]=>`(tactic|refine $(ap r))
 |r::l=>do `(tactic|(refine' $(ap r);$(<- dF (<- dL (dQ ap) l)):tactic))
 | []=>`(tactic|fail)
set_option hygiene false in
local macro_rules | `('d')=>do
 let h <- `(?_)
 let u <- `(_)
 let R:=dI "rfl"
 let qA <- `(?a)
 let qB <- `(?b)
 let qC <- `(?c)
 let qD <- `(?d)
 let qp <- `((λ_ _=>rfl))
 let ap:=λ(s:String)=>let w:=s.splitOn " ";Lean.Syntax.mkApp (dI (w.getD 0 "")) (((w.getD 1 "").toList.map λc=>([('1',dI "hr.u100"),('8',dI "hr.u180"),('A',qA),('B',qB),('C',qC),('D',qD),('G',dI "T.kd"),('K',dI "T.k"),('_',u),('b',dA "%boT" R),('f',dA "%boF" R),('g',dA "T.g" R),('k',dA "T.n" R),('m',dA "T.m" R),('n',dI "nd"),('o',dI "%n8"),('p',qp),('r',R),('t',dI "T"),('u',dA "%KN" (dI "hr")),('v',dA "%tN" u),('x',dA "T.x" R),('z',dI "%rz1")].lookup c).getD h).toArray)
 let rd:=λ(s:String)=>dL (dR ap) (s.splitOn "|")
 let e0 <- `(tactic|refine zcF (by $(<- dF (<- rd "%ih|sx t|rP t|uh t|p8 t|sj t|rq t|tW t|kh t|nu t|vW t|qr t|qc t|lC t|oW t|nq t|ui t|sW t|rQ t|BU t|yV t|tX t|ue t|wu t|p9 t|yA t|yP t|vA t|vD t|qh t|sg t|nQ t|jn t_|mU t|mh t|iY t_|uk t|qg t|uf t|j8 t_|rM t|sU t|qu t|oX t|jv t_|qW t")):tactic) hr ?_)
 let e3 <- `(tactic|exact FL rfl (by first |exact T.e rfl |exact T.kd.ex))
 `(by repeat' $(<- dF ((<- rd "%tN _|ng|yj|cB ??|bx ??|dC ?|zsS _n?|jH ???|fM ?|xW ?|nS ?|He|Mr|DD|zt ?")++[e0,e3]++(<- rd "%KY CD??:JM;ixK r:D5;EE rrrG|FU CD??:Cb;Ci:BY;Cy:CD;Cc:CA;eqDK r8:JS;neDK r8:CM;EW rrrG:Gr;Iw r:Gh;Dw:Ma;HH:Eh;L6 r1|eg CDrkf?:GV;LY r:GY;Ae:kJ;gA rr:ya;sv:Gu K;K0 r|vG CD??:JH;C0:G8;A5:rY;qV r:HN;Hr:Fb;Hv:G9;F2:Im;G1|pX CDrkb?:uJ;yi r|IP CD??:BY;Cy:CA;eqDK r8:Cb;Ci:CD;Cc:LS;inK r|xt rABCDv?:o9;o8;PySem.F.slot_list_append;PySem.F.type_list_append|D8 rABCDv:wM;wX;PySem.F.slot_list_reverse;PySem.F.type_list_reverse|Kw CD?:FA;GS|Fy n?CD:Hb;Ik|EJ ?v?CD:zy;BG u:DZ;Aw|ZG.weak ?|zt_w ?|F4 ??|EL u??p|J4 rg|IH rrkrk?|Hj|zw ?|E9 ?|KI ??|r9 r???|KQ rkb|zgN _n|Hu rr?|Jz rr?|zC ??|DU|zk rk?|yp rk?|HZ r?|FQ rrk?|uC|uB ?|oA ??|tZ|ur ?|jj or???|IA n?|AU rzrmx?|Ew ?|G7 ??|Bc o??|tP ?|Hk ??|D4 ?|B5 ??|zr ?"))):tactic)
def nj:PSt:=
 (bA (vR ["cells", "at", "left"] (aq (pFn ke (aq (pSl (av 0) oN (oS (br 63))) bj)) (aq (br 0) (aq (br 0) bj)))))
def fT:PFn:=fnP [false] 1 nj
def aO:fT.ms=[false]:=rfl
def sx(T:TT w K mg):Callee P w K mg base "_law_feed" 1 ["_law_script"] (spD K mg 1 fT.F):=bK (T.d.get 42 rfl) (bB (N:=["_law_script"]) (by decide)) (λ_ _ _ _ _ _=>ar1 λ_=>rfl) λnd _ _ _ _ _ _ _ hr=>(dC (fM (DY (lT (pX (yi (K:=K) rfl) uJ rfl (T.n rfl) (by first |exact boF rfl |exact boT rfl) (cB (r9 rfl (tN 0) uC (uB ng)) yj)) (lT ng (lT ng D6))))))
def nE:PSt:=
 (bu (xIf (qOf (pOp bGt (pOp gJ (av 0) (bX "left")) (br 0))) (bu (bF false 2 (pOp da (pOp gJ (av 0) (bX "left")) (av 1)))
  (bu (n6 0 seD (bX "left") (pOp i7 (pOp gJ (av 0) (bX "left")) (av 1)))
  (bA (av 2)))) xNx)
  (bu (bF false 3 (pOp gJ (av 0) (bX "at")))
  (bu (n6 0 seD (bX "at") (pOp b8 (av 3) (br 1)))
  (bu (bF false 4 (av 3))
  (bu (xIf (qOf (pOp bGt (pFn cG (aq (pOp gJ (av 0) (bX "cells")) bj)) (br 0))) (bF false 4 (pOp bIx (pOp gJ (av 0) (bX "cells")) (pOp da (av 3) (pFn cG (aq (pOp gJ (av 0) (bX "cells")) bj))))) xNx)
  (bu (xIf (qAn (qOf (pOp bGe (av 4) (pOp om (br 10) (br 18)))) (qOf (pOp bLt (av 3) (pFn cG (aq (pOp gJ (av 0) (bX "cells")) bj))))) (bu (n6 0 seD (bX "left") (pOp i7 (av 4) (av 1)))
  (bA (pOp da (av 4) (av 1)))) xNx)
  (bu (bF false 5 (pOp da (pOp bT (pOp b8 (pOp b8 (pOp b8 (pOp da (av 4) (br 1000003)) (pOp bT (pOp bT (br 61) (av 3)) (av 3))) (pOp bT (br 7) (av 3))) (br 1)) (br 48271)) (br 999983)))
  (bA (pOp da (pOp i7 (pOp da (pOp bT (pOp da (pOp b8 (pOp bT (av 5) (br 69623)) (pOp bT (br 7919) (av 3))) (br 1999993)) (br 16811)) (br 524287)) (br 5)) (av 1))))))))))
def bG:PFn:=fnP [true,false] 6 nE
def aG:bG.ms=[true,false]:=rfl
def rP(T:TT w K mg):Callee P w K mg base "_law_draw" 1 ["_law_feed_here", "_law_many"] (spD K mg 2 bG.F):=bK (T.d.get 43 rfl) (bB (N:=["_law_feed_here", "_law_many", "_law_found", "_law_at", "_law_cell", "_law_number"]) (by decide)) (λ_ _ _ _ _ _=>ar2 λ_ _=>rfl) λnd _ _ _ _ _ _ _ hr=>'d'
def gL:PSt:=
 (iG 2 3 (aq (av 3) (aq (pOp da (av 2) (av 3)) bj)))
def pE:PSt:=
 (bu (iG 2 3 (aq (pFn nt (aq (av 0) bj)) (aq (av 1) bj)))
  (bu (xWh (qOf (pOp bGt (av 3) (br 0))) (gL))
  (bA (dH (aq (pOp i7 (av 0) (av 2)) (aq (pOp i7 (av 1) (av 2)) bj))))))
def cD:PFn:=fnP [false,false] 4 pE
def aR:cD.ms=[false,false]:=rfl
def uh(T:TT w K mg):Callee P w K mg base "_law_low" 1 ["_law_top", "_law_bottom"] (spD K mg 2 cD.F):=bK (T.d.get 45 rfl) (bB (N:=["_law_top", "_law_bottom", "_law_one", "_law_other"]) (by decide)) (λ_ _ _ _ _ _=>ar2 λ_ _=>rfl) λnd _ _ _ _ _ _ _ hr=>'d'
def ky:PSt:=
 (bF false 2 (pOp b8 (pOp bT (av 2) (br 100000)) (bt bG (aq (av 0) (aq (br 100000) bj)))))
def lL:PSt:=
 (bu (bF false 2 (br 0))
  (bu (ff (kM (aq (av 1) bj)) (gtN 3) (ky))
  (bA (av 2))))
def dG:PFn:=fnP [true,false] 4 lL
def ax:dG.ms=[true,false]:=rfl
def p8(T:TT w K mg):Callee P w K mg base "_law_great" 2 ["_law_feed_here", "_law_pieces"] (spD K mg 2 dG.F):=bK (T.d.get 44 rfl) (bB (N:=["_law_feed_here", "_law_pieces", "_law_number", "_law_k"]) (by decide)) (λ_ _ _ _ _ _=>ar2 λ_ _=>rfl) λnd _ _ _ _ _ _ _ hr=>'d'
def nD:PSt:=
 (bu (bF false 2 (bt bG (aq (av 0) (aq (br 5) bj))))
  (bu (xIf (qOf (pOp bLt (av 2) (br 2))) (bA (dH (aq (pOp b8 (br 1) (bt bG (aq (av 0) (aq (br 12) bj)))) (aq (br 1) bj)))) xNx)
  (bu (xIf (qOf (pOp bEq (av 2) (br 2))) (bA (dH (aq (br 1) (aq (br 1) bj)))) xNx)
  (bu (xIf (qOf (pOp bEq (av 2) (br 3))) (bA (bt cD (aq (pOp b8 (br 1) (bt bG (aq (av 0) (aq (br 60) bj)))) (aq (pOp b8 (br 1) (bt bG (aq (av 0) (aq (br 12) bj)))) bj)))) xNx)
  (bA (bt cD (aq (pOp b8 (br 1) (pOp da (bt dG (aq (av 0) (aq (br 6) bj))) (av 1))) (aq (pOp b8 (br 1) (pOp da (bt dG (aq (av 0) (aq (br 6) bj))) (av 1))) bj))))))))
def eW:PFn:=fnP [true,false] 3 nD
def aK:eW.ms=[true,false]:=rfl
def sj(T:TT w K mg):Callee P w K mg base "_law_side" 3 ["_law_feed_here", "_law_far"] (spD K mg 2 eW.F):=bK (T.d.get 50 rfl) (bB (N:=["_law_feed_here", "_law_far", "_law_way"]) (by decide)) (λ_ _ _ _ _ _=>ar2 λ_ _=>rfl) λnd _ _ _ _ _ _ _ hr=>'d'
def cx:PSt:=
 (dS (l9 10 fE (aq (pOp bIx (dk (aq (av 9) (aq (pOp b8 (br 1) (bt bG (aq (av 0) (aq (br 3) bj)))) (aq (pOp zV (br 1) (av 11)) (aq (pOp b8 (br 1) (pOp da (bt dG (aq (av 0) (aq (br 6) bj))) (av 2))) bj))))) (av 8)) bj)))
def gX:PSt:=
 (bu (iG 2 3 (aq (br 60) (aq (pOp b8 (br 1) (bt bG (aq (av 0) (aq (av 1) bj)))) bj)))
  (bu (xIf (qOf (pOp bEq (bt bG (aq (av 0) (aq (br 5) bj))) (br 0))) (iG 2 3 (aq (pOp xi (pOp om (br 10) (br 30)) (br 1)) (aq (pOp b8 (br 1) (bt bG (aq (av 0) (aq (br 3) bj)))) bj))) xNx)
  (bu (iG 4 5 (aq (bt eW (aq (av 0) (aq (av 2) bj))) (aq (bt eW (aq (av 0) (aq (av 2) bj))) bj)))
  (bu (xIf (qOf (pOp bEq (bt bG (aq (av 0) (aq (br 5) bj))) (br 0))) (bF false 5 (av 4)) xNx)
  (bu (gx (pLC (kM (aq (br 2) bj)) [none,some 0] (by decide) (gtN 0) qY (bt cD (aq (pOp xi (bt bG (aq (av 1) (aq (br 41) bj))) (br 20)) (aq (pOp b8 (br 1) (bt bG (aq (av 1) (aq (br 9) bj)))) bj)))) (gtX (gtU 2 (bQ (gtN 6) (bQ (gtN 7) eI)))))
  (bu (bF false 8 (bt bG (aq (av 0) (aq (br 4) bj))))
  (bu (bF false 9 (pOp b8 (br 1) (bt bG (aq (av 0) (aq (br 60) bj)))))
  (bu (bF true 10 (dk bj))
  (bu (ff (kM (aq (av 3) bj)) (gtN 11) (cx))
  (vQ (dH (aq (av 6) (aq (av 7) (aq (av 4) (aq (av 5) bj))))) 10))))))))))
def gO:PFn:=fnP [true,false] 12 gX
def aJ:gO.ms=[true,false]:=rfl
def rq(T:TT w K mg):Callee P w K mg base "_law_case" 4 ["_law_feed_here", "_law_most"] (spD K mg 2 gO.F):=bK (T.d.get 51 rfl) (bB (N:=["_law_feed_here", "_law_most", "_law_far", "_law_many", "_law_wide", "_law_high", "_law_left", "_law_top", "_law_way", "_law_same", "_law_weights", "_law_k"]) (by decide)) (λ_ _ _ _ _ _=>ar2 λ_ _=>rfl) λnd _ _ _ _ _ _ _ hr=>(bx 'd' (bx 'd' (bx 'd' (bx 'd' (bx (oA (fA ["_law_feed_here", "_law_most", "_law_far", "_law_many", "_law_wide", "_law_high", "_law_left", "_law_top", "_law_way", "_law_same", "_law_weights", "_law_k"] (bw (top 51)).names ["_law_k", "_law_feed_here"] [none,some 0] 'd' (λnd _ _ _ _ _=>'d') (λnd _ _ _ _ _=>'d')) 'd') 'd')))))
noncomputable def mT:PSt:=
 (bA (mD (pFn (cc cV) (aq (av 0) (aq (pTy "int") bj))) (sf (pFn (cc cV) (aq (av 0) (aq (pTy "bool") bj))))))
noncomputable def d8:PFn:=fnP [false] 1 mT
def aE:d8.ms=[false]:=rfl
def tW(T:TT w K mg):Callee P w K mg base "is_whole" 1 ["thing"] (spD K mg 1 d8.F):=bK (T.d.get 9 rfl) (bB (N:=["thing"]) (by decide)) (λ_ _ _ _ _ _=>ar1 λ_=>rfl) λnd _ _ _ _ _ _ _ hr=>'d'
def dP:PSt:=
 (iG 0 1 (aq (av 1) (aq (pOp da (av 0) (av 1)) bj)))
def ie:PSt:=
 (bu (iG 0 1 (aq (pFn nt (aq (av 0) bj)) (aq (pFn nt (aq (av 1) bj)) bj)))
  (bu (xWh (qOf (pOp bNe (av 1) (br 0))) (dP))
  (bA (av 0))))
def cM:PFn:=fnP [false,false] 2 ie
def aa:cM.ms=[false,false]:=rfl
def kh(T:TT w K mg):Callee P w K mg base "common_divisor" 1 ["one", "other"] (spD K mg 2 cM.F):=bK (T.d.get 10 rfl) (bB (N:=["one", "other"]) (by decide)) (λ_ _ _ _ _ _=>ar2 λ_ _=>rfl) λnd _ _ _ _ _ _ _ hr=>'d'
def j9:PSt:=
 (bu (xIf (qO (qNo (qOf (pFn (cc cV) (aq (av 0) (aq (pTy "tuple") bj))))) (qOf (pOp bNe (pFn cG (aq (av 0) bj)) (br 2)))) (bA (pBl false)) xNx)
  (bu (gx (av 0) (gtX (gtT 2 (bQ (gtN 1) (bQ (gtN 2) eI)))))
  (bu (xIf (qO (qNo (qOf (bt d8 (aq (av 1) bj)))) (qNo (qOf (bt d8 (aq (av 2) bj))))) (bA (pBl false)) xNx)
  (bA (mD (pOp bGe (av 2) (br 1)) (pOp bEq (bt cM (aq (av 1) (aq (av 2) bj))) (br 1)))))))
def dD:PFn:=fnP [false] 3 j9
def ao:dD.ms=[false]:=rfl
def nu(T:TT w K mg):Callee P w K mg base "is_fraction" 2 ["thing"] (spD K mg 1 dD.F):=bK (T.d.get 11 rfl) (bB (N:=["thing", "top", "bottom"]) (by decide)) (λ_ _ _ _ _ _=>ar1 λ_=>rfl) λnd _ _ _ _ _ _ _ hr=>'d'
def sG:PSt:=
 (bu (xIf (qO (qNo (qOf (pFn (cc cV) (aq (av 0) (aq (pTy "tuple") bj))))) (qOf (pOp bNe (pFn cG (aq (av 0) bj)) (br 4)))) (bA (pBl false)) xNx)
  (bu (xIf (qNo (qOf (pFn qQ (aq (pLC (bP (av 0)) [none] (by decide) (gtN 0) qY (bt dD (aq (av 0) bj))) bj)))) (bA (pBl false)) xNx)
  (bA (mD (pOp bGt (pOp bIx (pOp bIx (av 0) (br 2)) (br 0)) (br 0)) (pOp bGt (pOp bIx (pOp bIx (av 0) (br 3)) (br 0)) (br 0))))))
def iA:PFn:=fnP [false] 1 sG
def aW:iA.ms=[false]:=rfl
def vW(T:TT w K mg):Callee P w K mg base "is_box" 3 ["thing"] (spD K mg 1 iA.F):=bK (T.d.get 21 rfl) (bB (N:=["thing"]) (by decide)) (λ_ _ _ _ _ _=>ar1 λ_=>rfl) λnd _ _ _ _ _ _ _ hr=>(bx 'd' (bx (jH (tP (nS (eg (allK (K:=K) rfl rfl) ze rfl (T.n rfl) (by first |exact boF rfl |exact boT rfl) (cB (fA ["thing"] (bw (top 21)).names ["part"] [none] 'd' (λnd _ _ _ _ _=>'d') (λnd _ _ _ _ _=>'d')) 'd')))) 'd' 'd') 'd'))
def lI:PSt:=
 (xIf (qNo (qOf (bt iA (aq (av 0) bj)))) (fm "NoBox" (aq (bX "this is no box") bj)) xNx)
def cR:PFn:=fnP [false] 1 lI
def aC:cR.ms=[false]:=rfl
def qr(T:TT w K mg):Callee P w K mg base "check_box" 4 ["thing"] (spD K mg 1 cR.F):=bK (T.d.get 22 rfl) (bB (N:=["thing"]) (by decide)) (λ_ _ _ _ _ _=>ar1 λ_=>rfl) λnd _ _ _ _ _ _ _ hr=>'d'
noncomputable def lJ:PSt:=
 (bA (mD (bt d8 (aq (av 0) bj)) (pOp bGe (av 0) (br 1))))
noncomputable def eE:PFn:=fnP [false] 1 lJ
def ay:eE.ms=[false]:=rfl
def qc(T:TT w K mg):Callee P w K mg base "is_weight" 2 ["thing"] (spD K mg 1 eE.F):=bK (T.d.get 25 rfl) (bB (N:=["thing"]) (by decide)) (λ_ _ _ _ _ _=>ar1 λ_=>rfl) λnd _ _ _ _ _ _ _ hr=>'d'
def iN:PSt:=
 (bu (xIf (qO (qNo (qOf (pFn (cc cV) (aq (av 0) (aq (pTy "list") bj))))) (qOf (pOp bEq (pFn cG (aq (av 0) bj)) (br 0)))) (fm "NoWeights" (aq (bX "this is no list of weights") bj)) xNx)
  (bu (xIf (qNo (qOf (pFn qQ (aq (pLC (bP (av 0)) [none] (by decide) (gtN 0) qY (bt eE (aq (av 0) bj))) bj)))) (fm "NoWeights" (aq (bX "a weight is a whole number from 1 on") bj)) xNx)
  (xIf (qOf (pOp bGt (pFn cG (aq (av 0) bj)) iO)) (fm "TooMany" (aq (bX "these are more weights than forty") bj)) xNx)))
def cA:PFn:=fnP [false] 1 iN
def af:cA.ms=[false]:=rfl
def lC(T:TT w K mg):Callee P w K mg base "check_weights" 3 ["thing"] (spD K mg 1 cA.F):=bK (T.d.get 26 rfl) (bB (N:=["thing"]) (by decide)) (λ_ _ _ _ _ _=>ar1 λ_=>rfl) λnd _ _ _ _ _ _ _ hr=>(bx 'd' (bx (jH (tP (nS (eg (allK (K:=K) rfl rfl) ze rfl (T.n rfl) (by first |exact boF rfl |exact boT rfl) (cB (fA ["thing"] (bw (top 26)).names ["weight"] [none] 'd' (λnd _ _ _ _ _=>'d') (λnd _ _ _ _ _=>'d')) 'd')))) 'd' 'd') 'd'))
def kB:PSt:=
 (xIf (qO (qNo (qOf (pFn (cc cV) (aq (av 0) (aq (pTy "str") bj))))) (qOf (pOp (wx "MOST_THINGS" cL) (av 0) (vK "MOST_THINGS")))) (fm "NoKind" (aq (bX "this is no kind of trees") bj)) xNx)
noncomputable def eQ:PFn:=fnP [false] 1 kB
def ar:eQ.ms=[false]:=rfl
def oW(T:TT w K mg):Callee P w K mg base "check_kind" 1 ["kind"] (spD K mg 1 eQ.F):=bK (T.d.get 33 rfl) (bB (N:=["kind"]) (by decide)) (λ_ _ _ _ _ _=>ar1 λ_=>rfl) λnd _ _ _ _ _ _ _ hr=>'d'
def j7:PSt:=
 (bu (dS (bt cR (aq (av 0) bj)))
  (bu (dS (bt cA (aq (av 1) bj)))
  (bu (dS (bt eQ (aq (av 2) bj)))
  (xIf (qOf (pOp bGt (pFn cG (aq (av 1) bj)) (pOp (qH "MOST_THINGS" cL) (vK "MOST_THINGS") (av 2)))) (fm "TooMany" (aq (bX "these are more things than the kind is asked of") bj)) xNx))))
def eA:PFn:=fnP [false,false,false] 3 j7
def aj:eA.ms=[false,false,false]:=rfl
def nq(T:TT w K mg):Callee P w K mg base "check_asked" 5 ["room", "weights", "kind"] (spD K mg 3 eA.F):=bK (T.d.get 34 rfl) (bB (N:=["room", "weights", "kind"]) (by decide)) (λ_ _ _ _ _ _=>ar3 λ_ _ _=>rfl) λnd _ _ _ _ _ _ _ hr=>'d'
def pv:PSt:=
 (bA (pOp bLt (pOp bT (pOp bIx (av 0) (br 0)) (pOp bIx (av 1) (br 1))) (pOp bT (pOp bIx (av 1) (br 0)) (pOp bIx (av 0) (br 1)))))
def dZ:PFn:=fnP [false,false] 2 pv
def aS:dZ.ms=[false,false]:=rfl
def ui(T:TT w K mg):Callee P w K mg base "is_less" 1 ["one", "other"] (spD K mg 2 dZ.F):=bK (T.d.get 16 rfl) (bB (N:=["one", "other"]) (by decide)) (λ_ _ _ _ _ _=>ar2 λ_ _=>rfl) λnd _ _ _ _ _ _ _ hr=>'d'
def ny:PSt:=
 (bu (dS (bt cR (aq (av 0) bj)))
  (bu (xIf (qOf (bt dZ (aq (pOp bIx (av 0) (br 2)) (aq (pOp bIx (av 0) (br 3)) bj)))) (bA (bX "down")) xNx)
  (bA (bX "across"))))
def fX:PFn:=fnP [false] 1 ny
def aH:fX.ms=[false]:=rfl
def sW(T:TT w K mg):Callee P w K mg base "long_way" 5 ["box"] (spD K mg 1 fX.F):=bK (T.d.get 27 rfl) (bB (N:=["box"]) (by decide)) (λ_ _ _ _ _ _=>ar1 λ_=>rfl) λnd _ _ _ _ _ _ _ hr=>'d'
def nI:PSt:=
 (bu (xIf (qOf (pOp bEq (av 1) (br 0))) (fm "NoFraction" (aq (bX "a fraction has no bottom of 0") bj)) xNx)
  (bu (bF false 2 (bt cM (aq (av 0) (aq (av 1) bj))))
  (bu (xIf (qOf (pOp bLt (av 1) (br 0))) (bF false 2 (pUn rE (av 2))) xNx)
  (bA (dH (aq (pOp i7 (av 0) (av 2)) (aq (pOp i7 (av 1) (av 2)) bj)))))))
def c8:PFn:=fnP [false,false] 3 nI
def aD:c8.ms=[false,false]:=rfl
def rQ(T:TT w K mg):Callee P w K mg base "fraction" 2 ["top", "bottom"] (spD K mg 2 c8.F):=bK (T.d.get 12 rfl) (bB (N:=["top", "bottom", "divisor"]) (by decide)) (λ_ _ _ _ _ _=>ar2 λ_ _=>rfl) λnd _ _ _ _ _ _ _ hr=>'d'
def xy:PSt:=
 (bA (bt c8 (aq (pOp bT (pOp bIx (av 0) (br 0)) (pOp bIx (av 1) (br 1))) (aq (pOp bT (pOp bIx (av 0) (br 1)) (pOp bIx (av 1) (br 0))) bj))))
def jt:PFn:=fnP [false,false] 2 xy
def bh:jt.ms=[false,false]:=rfl
def BU(T:TT w K mg):Callee P w K mg base "over" 3 ["one", "other"] (spD K mg 2 jt.F):=bK (T.d.get 15 rfl) (bB (N:=["one", "other"]) (by decide)) (λ_ _ _ _ _ _=>ar2 λ_ _=>rfl) λnd _ _ _ _ _ _ _ hr=>'d'
def uq:PSt:=
 (bu (xIf (qOf (pOp bEq (bt fX (aq (av 0) bj)) (bX "across"))) (bA (bt jt (aq (pOp bIx (av 0) (br 2)) (aq (pOp bIx (av 0) (br 3)) bj)))) xNx)
  (bA (bt jt (aq (pOp bIx (av 0) (br 3)) (aq (pOp bIx (av 0) (br 2)) bj)))))
def js:PFn:=fnP [false] 1 uq
def a8:js.ms=[false]:=rfl
def yV(T:TT w K mg):Callee P w K mg base "shape" 6 ["box"] (spD K mg 1 js.F):=bK (T.d.get 28 rfl) (bB (N:=["box"]) (by decide)) (λ_ _ _ _ _ _=>ar1 λ_=>rfl) λnd _ _ _ _ _ _ _ hr=>'d'
def nC:PSt:=
 (bF false 2 (pOp b8 (av 2) (pLC (bP (av 2)) [none,some 3] (by decide) (gtN 0) qY (pOp b8 (av 0) (dk (aq (av 1) bj))))))
def kD:PSt:=
 (bu (xIf (qOf (pOp bEq (av 1) (bX "order"))) (bA (pLC (qM (aq (br 1) (aq (pFn cG (aq (av 0) bj)) bj))) [none,some 0] (by decide) (gtN 0) qY (pSl (av 1) oN (oS (av 0))))) xNx)
  (bu (bF false 2 (dk (aq (pSl (av 0) oN (oS (br 1))) bj)))
  (bu (ff (bP (pSl (av 0) (oS (br 1)) oN)) (gtN 3) (nC))
  (bA (pSl (av 2) oN (oS (pUn rE (br 1))))))))
def d6:PFn:=fnP [false,false] 4 kD
def aV:d6.ms=[false,false]:=rfl
def tX(T:TT w K mg):Callee P w K mg base "lots_of" 1 ["numbers", "kind"] (spD K mg 2 d6.F):=bK (T.d.get 37 rfl) (bB (N:=["numbers", "kind", "lots", "number"]) (by decide)) (λ_ _ _ _ _ _=>ar2 λ_ _=>rfl) λnd _ _ _ _ _ _ _ hr=>(bx (jH 'd' (dC (fM (fA ["numbers", "kind", "lots", "number"] (bw (top 37)).names ["many", "numbers"] [none,some 0] 'd' (λnd _ _ _ _ _=>'d') (λnd _ _ _ _ _=>'d')))) 'd') (bx 'd' (bx (jj n8 rfl 'd' 'd' (dC (zsS 2 nd (vG (qV (K:=K) rfl) rY 'd' (fA ["numbers", "kind", "lots", "number"] (bw (top 37)).names ["lot", "number"] [none,some 3] 'd' (λnd _ _ _ _ _=>'d') (λnd _ _ _ _ _=>'d')))))) 'd')))
def jJ:PSt:=
 (dS (l9 2 fE (aq (dH (aq (av 4) (aq (pFn ke (aq (av 3) bj)) (aq (pLC (bP (av 0)) [none,some 3] (by decide) (gtN 0) (qOf (pOp jB (av 0) (av 1))) (av 0)) bj)))) bj)))
def gQ:PSt:=
 (ff (bP oY) (gtN 4) (jJ))
def pC:PSt:=
 (bu (bF true 2 (dk bj))
  (bu (ff (bP (bt d6 (aq (av 0) (aq (av 1) bj)))) (gtN 3) (gQ))
  (bA (av 2))))
def gE:PFn:=fnP [false,false] 5 pC
def aT:gE.ms=[false,false]:=rfl
def ue(T:TT w K mg):Callee P w K mg base "cuts_of" 2 ["numbers", "kind"] (spD K mg 2 gE.F):=bK (T.d.get 38 rfl) (bB (N:=["numbers", "kind", "cuts", "lot", "way"]) (by decide)) (λ_ _ _ _ _ _=>ar2 λ_ _=>rfl) λnd _ _ _ _ _ _ _ hr=>(bx 'd' (bx (jj n8 rfl 'd' 'd' (dC (jj n8 rfl 'd' 'd' (dC (ur (xt rfl PySem.F.slot_list_append PySem.F.type_list_append o8 o9 'd' (cB (xW (cB 'd' (cB 'd' (cB (Jp ["numbers", "kind", "cuts", "lot", "way"] (bw (top 38)).names ["number", "lot"] [none,some 3] 'd' (λnd _ _ _ _ _=>'d') (λnd _ _ _ _ _=>'d') (λnd _ _ _ _ _=>'d')) 'd')))) 'd'))))))) 'd'))
noncomputable def tH:PSt:=
 (bA (mD (pFn (cc cV) (aq (av 0) (aq (pTy "str") bj))) (pOp bIn (av 0) oY)))
noncomputable def iC:PFn:=fnP [false] 1 tH
def aZ:iC.ms=[false]:=rfl
def wu(T:TT w K mg):Callee P w K mg base "is_way" 1 ["thing"] (spD K mg 1 iC.F):=bK (T.d.get 23 rfl) (bB (N:=["thing"]) (by decide)) (λ_ _ _ _ _ _=>ar1 λ_=>rfl) λnd _ _ _ _ _ _ _ hr=>'d'
noncomputable def lN:PSt:=
 (xIf (qNo (qOf (bt iC (aq (av 0) bj)))) (fm "NoWay" (aq (bX "this is no way") bj)) xNx)
noncomputable def fk:PFn:=fnP [false] 1 lN
def az:fk.ms=[false]:=rfl
def p9(T:TT w K mg):Callee P w K mg base "check_way" 2 ["way"] (spD K mg 1 fk.F):=bK (T.d.get 24 rfl) (bB (N:=["way"]) (by decide)) (λ_ _ _ _ _ _=>ar1 λ_=>rfl) λnd _ _ _ _ _ _ _ hr=>'d'
def vv:PSt:=
 (bA (bt c8 (aq (pOp b8 (pOp bT (pOp bIx (av 0) (br 0)) (pOp bIx (av 1) (br 1))) (pOp bT (pOp bIx (av 1) (br 0)) (pOp bIx (av 0) (br 1)))) (aq (pOp bT (pOp bIx (av 0) (br 1)) (pOp bIx (av 1) (br 1))) bj))))
def jg:PFn:=fnP [false,false] 2 vv
def ba:jg.ms=[false,false]:=rfl
def yA(T:TT w K mg):Callee P w K mg base "added" 3 ["one", "other"] (spD K mg 2 jg.F):=bK (T.d.get 13 rfl) (bB (N:=["one", "other"]) (by decide)) (λ_ _ _ _ _ _=>ar2 λ_ _=>rfl) λnd _ _ _ _ _ _ _ hr=>'d'
def uQ:PSt:=
 (bA (bt c8 (aq (pOp bT (pOp bIx (av 0) (br 0)) (pOp bIx (av 1) (br 0))) (aq (pOp bT (pOp bIx (av 0) (br 1)) (pOp bIx (av 1) (br 1))) bj))))
def gZ:PFn:=fnP [false,false] 2 uQ
def bf:gZ.ms=[false,false]:=rfl
def yP(T:TT w K mg):Callee P w K mg base "times" 3 ["one", "other"] (spD K mg 2 gZ.F):=bK (T.d.get 14 rfl) (bB (N:=["one", "other"]) (by decide)) (λ_ _ _ _ _ _=>ar2 λ_ _=>rfl) λnd _ _ _ _ _ _ _ hr=>'d'
def iJ:PSt:=
 (bu (bF false 7 (bt jg (aq (av 0) (aq (bt gZ (aq (av 1) (aq (bt c8 (aq (av 4) (aq (av 3) bj))) bj))) bj))))
  (bu (dS (l9 5 fE (aq (dH (aq (av 7) (aq (bt gZ (aq (av 1) (aq (bt c8 (aq (av 6) (aq (av 3) bj))) bj))) bj))) bj)))
  (Bm 4 AW (av 6))))
def sC:PSt:=
 (bu (bF false 3 (pFn fU (aq (av 2) bj)))
  (bu (bF false 4 (br 0))
  (bu (bF true 5 (dk bj))
  (bu (ff (bP (av 2)) (gtN 6) (iJ))
  (bA (av 5))))))
def gp:PFn:=fnP [false,false,false] 8 sC
def aY:gp.ms=[false,false,false]:=rfl
def vA(T:TT w K mg):Callee P w K mg base "shares" 4 ["start", "length", "weights"] (spD K mg 3 gp.F):=bK (T.d.get 29 rfl) (bB (N:=["start", "length", "weights", "whole", "ahead", "found", "weight", "begin"]) (by decide)) (λ_ _ _ _ _ _=>ar3 λ_ _ _=>rfl) λnd _ _ _ _ _ _ _ hr=>'d'
def sV:PSt:=
 (bu (dS (bt cR (aq (av 0) bj)))
  (bu (dS (bt fk (aq (av 1) bj)))
  (bu (dS (bt cA (aq (av 2) bj)))
  (bu (gx (av 0) (gtX (gtT 4 (bQ (gtN 3) (bQ (gtN 4) (bQ (gtN 5) (bQ (gtN 6) eI)))))))
  (bu (xIf (qOf (pOp bEq (av 1) (bX "across"))) (bA (pLC (bP (bt gp (aq (av 3) (aq (av 5) (aq (av 2) bj))))) [none,none,some 4,some 6] (by decide) (gtT 2 (bQ (gtN 0) (bQ (gtN 1) eI))) qY (dH (aq (av 0) (aq (av 2) (aq (av 1) (aq (av 3) bj))))))) xNx)
  (bA (pLC (bP (bt gp (aq (av 4) (aq (av 6) (aq (av 2) bj))))) [none,none,some 3,some 5] (by decide) (gtT 2 (bQ (gtN 0) (bQ (gtN 1) eI))) qY (dH (aq (av 2) (aq (av 0) (aq (av 3) (aq (av 1) bj))))))))))))
def gh:PFn:=fnP [false,false,false] 7 sV
def aX:gh.ms=[false,false,false]:=rfl
def vD(T:TT w K mg):Callee P w K mg base "parted" 5 ["box", "way", "weights"] (spD K mg 3 gh.F):=bK (T.d.get 30 rfl) (bB (N:=["box", "way", "weights", "left", "top", "wide", "high"]) (by decide)) (λ_ _ _ _ _ _=>ar3 λ_ _ _=>rfl) λnd _ _ _ _ _ _ _ hr=>(bx 'd' (bx 'd' (bx 'd' (bx 'd' (bx (jH 'd' (dC (fM (fA ["box", "way", "weights", "left", "top", "wide", "high"] (bw (top 30)).names ["begin", "length", "top", "high"] [none,none,some 4,some 6] 'd' (λnd _ _ _ _ _=>'d') (λnd _ _ _ _ _=>'d')))) 'd') (dC (fM (fA ["box", "way", "weights", "left", "top", "wide", "high"] (bw (top 30)).names ["begin", "length", "left", "wide"] [none,none,some 3,some 5] 'd' (λnd _ _ _ _ _=>'d') (λnd _ _ _ _ _=>'d')))))))))
def lH:PSt:=
 (bA (pFn fU (aq (pLC (bP (av 0)) [none,some 1] (by decide) (gtN 0) qY (pOp bIx (av 1) (av 0))) bj)))
def dM:PFn:=fnP [false,false] 2 lH
def aw:dM.ms=[false,false]:=rfl
def qh(T:TT w K mg):Callee P w K mg base "weight_of" 1 ["numbers", "weights"] (spD K mg 2 dM.F):=bK (T.d.get 40 rfl) (bB (N:=["numbers", "weights"]) (by decide)) (λ_ _ _ _ _ _=>ar2 λ_ _=>rfl) λnd _ _ _ _ _ _ _ hr=>(dC (fM (eg (gA (K:=K) rfl rfl) kJ rfl (T.n rfl) (by first |exact boF rfl |exact boT rfl) (cB (fA ["numbers", "weights"] (bw (top 40)).names ["number", "weights"] [none,some 1] 'd' (λnd _ _ _ _ _=>'d') (λnd _ _ _ _ _=>'d')) 'd'))))
def nJ:PSt:=
 (bu (gx (av 0) (gtX (gtT 3 (bQ (gtN 3) (bQ (gtN 4) (bQ (gtN 5) eI))))))
  (bA (bt gh (aq (av 1) (aq (av 3) (aq (dk (aq (bt dM (aq (av 4) (aq (av 2) bj))) (aq (bt dM (aq (av 5) (aq (av 2) bj))) bj))) bj))))))
def eY:PFn:=fnP [false,false,false] 6 nJ
def aF:eY.ms=[false,false,false]:=rfl
def sg(T:TT w K mg):Callee P w K mg base "parts_by" 6 ["cut", "room", "weights"] (spD K mg 3 eY.F):=bK (T.d.get 39 rfl) (bB (N:=["cut", "room", "weights", "way", "first", "second"]) (by decide)) (λ_ _ _ _ _ _=>ar3 λ_ _ _=>rfl) λnd _ _ _ _ _ _ _ hr=>'d'
def jr:PSt:=
 (xIf (qOf (bt dZ (aq (av 1) (aq (av 2) bj)))) (bF false 1 (av 2)) xNx)
def j5:PSt:=
 (bu (bF false 1 (pOp bIx (av 0) (br 0)))
  (bu (ff (bP (av 0)) (gtN 2) (jr))
  (bA (av 1))))
def eB:PFn:=fnP [false] 3 j5
def ai:eB.ms=[false]:=rfl
def nQ(T:TT w K mg):Callee P w K mg base "greatest_of" 2 ["fractions"] (spD K mg 1 eB.F):=bK (T.d.get 17 rfl) (bB (N:=["fractions", "found", "one"]) (by decide)) (λ_ _ _ _ _ _=>ar1 λ_=>rfl) λnd _ _ _ _ _ _ _ hr=>'d'
def dU(s:PFx [false,false,false,false]):PSt:=
 (bu (gx (bt eY (aq (av 5) (aq (av 0) (aq (av 1) bj)))) (gtX (gtU 2 (bQ (gtN 6) (bQ (gtN 7) eI)))))
  (bu (bF false 8 (bt s.fn (aq (av 6) (aq (av 1) (aq (av 2) (aq (pOp bIx (av 5) (br 1)) bj))))))
  (bu (xIf (qAn (qOf (pOp A6 (av 4) gj)) (qNo (qOf (bt dZ (aq (pOp bIx (av 8) (br 0)) (aq (pOp bIx (av 4) (br 0)) bj)))))) xCt xNx)
  (bu (bF false 9 (bt s.fn (aq (av 7) (aq (av 1) (aq (av 2) (aq (pOp bIx (av 5) (br 2)) bj))))))
  (bu (bF false 10 (bt eB (aq (dk (aq (pOp bIx (av 8) (br 0)) (aq (pOp bIx (av 9) (br 0)) bj))) bj)))
  (xIf (qO (qOf (pOp bIs (av 4) gj)) (qOf (bt dZ (aq (av 10) (aq (pOp bIx (av 4) (br 0)) bj))))) (bF false 4 (dH (aq (av 10) (aq (dH (aq (pOp bIx (av 5) (br 0)) (aq (dH (aq (pOp bIx (av 8) (br 1)) (aq (pOp bIx (av 9) (br 1)) bj))) bj))) bj)))) xNx))))))
def fh(s:PFx [false,false,false,false]):PSt:=
 (bu (xIf (qOf (pOp bEq (pFn cG (aq (av 3) bj)) (br 1))) (bA (dH (aq (bt js (aq (av 0) bj)) (aq (pOp bIx (av 3) (br 0)) bj)))) xNx)
  (bu (bF false 4 gj)
  (bu (ff (bP (bt gE (aq (av 3) (aq (av 2) bj)))) (gtN 5) (dU s))
  (bA (av 4)))))
def dJ:Nat->PFx [false,false,false,false]
 |0=>PFx.none [false,false,false,false]
 |n+1=>PFx.of [false,false,false,false] 11 (fh (dJ n))
theorem jn(T:TT w K mg):∀n,Callee P w K mg base "best_tree" (8+n) ["room", "weights", "kind", "numbers"] (spD K mg 4 (dJ n).F)
 |0=>ok0 (T.d.get 36 rfl) (bB (N:=["room", "weights", "kind", "numbers", "best", "cut", "first", "second", "one", "other", "greatest"]) (by decide)) (λ_ _ _ _ _ _=>ar4 λ_ _ _ _=>rfl)
 |
  n+1=>by
  have ih:=jn T n;show Callee _ _ _ _ _ _ _ _ (spD _ _ _ (PFx.of [false,false,false,false] 11 (fh (dJ n))).F);exact wK (k:=8+n) (T.d.get 36 rfl) (bB (N:=["room", "weights", "kind", "numbers", "best", "cut", "first", "second", "one", "other", "greatest"]) (by decide)) (λ_ _ _ _ _ _=>ar4 λ_ _ _ _=>rfl) λnd _ _ _ _ _ _ _ hr=>'d'
def j0:PSt:=
 (bu (dS (bt eA (aq (av 0) (aq (av 1) (aq (av 2) bj)))))
  (bA (bt (dJ 7).fn (aq (av 0) (aq (av 1) (aq (av 2) (aq (pFn jX (aq (pFn cG (aq (av 1) bj)) bj)) bj)))))))
def dB:PFn:=fnP [false,false,false] 3 j0
def ak:dB.ms=[false,false,false]:=rfl
def mU(T:TT w K mg):Callee P w K mg base "least_worst" 16 ["room", "weights", "kind"] (spD K mg 3 dB.F):=bK (T.d.get 35 rfl) (bB (N:=["room", "weights", "kind"]) (by decide)) (λ_ _ _ _ _ _=>ar3 λ_ _ _=>rfl) λnd _ _ _ _ _ _ _ hr=>'d'
def jm:PSt:=
 (bu (xIf (qO (qNo (qOf (pFn (cc cV) (aq (av 0) (aq (pTy "tuple") bj))))) (qOf (pOp bNe (pFn cG (aq (av 0) bj)) (br 2)))) (bA (pBl false)) xNx)
  (bA (sf (pFn qR (aq (pLC (bP (av 0)) [none] (by decide) (gtN 0) qY (pOr (pFn (cc cV) (aq (av 0) (aq (pTy "bool") bj))) (sf (pFn (cc cV) (aq (av 0) (aq (pTy "int") bj)))))) bj)))))
def dX:PFn:=fnP [false] 1 jm
def ah:dX.ms=[false]:=rfl
def mh(T:TT w K mg):Callee P w K mg base "_law_fraction" 1 ["_law_found"] (spD K mg 1 dX.F):=bK (T.d.get 58 rfl) (bB (N:=["_law_found"]) (by decide)) (λ_ _ _ _ _ _=>ar1 λ_=>rfl) λnd _ _ _ _ _ _ _ hr=>(bx 'd' (dC (fM (zw (eg (anyK (K:=K) rfl rfl) zb rfl (T.n rfl) (by first |exact boF rfl |exact boT rfl) (cB (fA ["_law_found"] (bw (top 58)).names ["_law_one"] [none] 'd' (λnd _ _ _ _ _=>'d') (λnd _ _ _ _ _=>'d')) 'd'))))))
def dY(s:PFx [false]):PSt:=
 (bu (xIf (qAn (qOf (pFn (cc cV) (aq (av 0) (aq (pTy "int") bj)))) (qNo (qOf (pFn (cc cV) (aq (av 0) (aq (pTy "bool") bj)))))) (bA (dk (aq (av 0) bj))) xNx)
  (bu (xIf (qO (qNo (qOf (pFn (cc cV) (aq (av 0) (aq (pTy "tuple") bj))))) (qO (qOf (pOp bNe (pFn cG (aq (av 0) bj)) (br 2))) (qOf (pOp jB (pOp bIx (av 0) (br 0)) (dk (aq (bX "across") (aq (bX "down") bj))))))) (bA gj) xNx)
  (bu (xIf (qO (qNo (qOf (pFn (cc cV) (aq (pOp bIx (av 0) (br 1)) (aq (pTy "tuple") bj))))) (qOf (pOp bNe (pFn cG (aq (pOp bIx (av 0) (br 1)) bj)) (br 2)))) (bA gj) xNx)
  (bu (iG 1 2 (aq (bt s.fn (aq (pOp bIx (pOp bIx (av 0) (br 1)) (br 0)) bj)) (aq (bt s.fn (aq (pOp bIx (pOp bIx (av 0) (br 1)) (br 1)) bj)) bj)))
  (bu (xIf (qO (qOf (pOp bIs (av 1) gj)) (qOf (pOp bIs (av 2) gj))) (bA gj) xNx)
  (bA (pOp b8 (av 1) (av 2))))))))
def bY:Nat->PFx [false]
 |0=>PFx.none [false]
 |n+1=>PFx.of [false] 3 (dY (bY n))
theorem iY(T:TT w K mg):∀n,Callee P w K mg base "_law_things" (2+n) ["_law_tree"] (spD K mg 1 (bY n).F)
 |0=>ok0 (T.d.get 56 rfl) (bB (N:=["_law_tree", "_law_one", "_law_other"]) (by decide)) (λ_ _ _ _ _ _=>ar1 λ_=>rfl)
 |
  n+1=>by
  have ih:=iY T n;show Callee _ _ _ _ _ _ _ _ (spD _ _ _ (PFx.of [false] 3 (dY (bY n))).F);exact wK (k:=2+n) (T.d.get 56 rfl) (bB (N:=["_law_tree", "_law_one", "_law_other"]) (by decide)) (λ_ _ _ _ _ _=>ar1 λ_=>rfl) λnd _ _ _ _ _ _ _ hr=>'d'
def pQ:PSt:=
 (bA (bt cD (aq (pOp b8 (pOp bT (pOp bIx (av 0) (br 0)) (pOp bIx (av 1) (br 1))) (pOp bT (pOp bIx (av 1) (br 0)) (pOp bIx (av 0) (br 1)))) (aq (pOp bT (pOp bIx (av 0) (br 1)) (pOp bIx (av 1) (br 1))) bj))))
def fJ:PFn:=fnP [false,false] 2 pQ
def aU:fJ.ms=[false,false]:=rfl
def uk(T:TT w K mg):Callee P w K mg base "_law_add" 2 ["_law_one", "_law_other"] (spD K mg 2 fJ.F):=bK (T.d.get 46 rfl) (bB (N:=["_law_one", "_law_other"]) (by decide)) (λ_ _ _ _ _ _=>ar2 λ_ _=>rfl) λnd _ _ _ _ _ _ _ hr=>'d'
def lK:PSt:=
 (bA (bt cD (aq (pOp bT (pOp bIx (av 0) (br 0)) (pOp bIx (av 1) (br 0))) (aq (pOp bT (pOp bIx (av 0) (br 1)) (pOp bIx (av 1) (br 1))) bj))))
def df:PFn:=fnP [false,false] 2 lK
def aA:df.ms=[false,false]:=rfl
def qg(T:TT w K mg):Callee P w K mg base "_law_times" 2 ["_law_one", "_law_other"] (spD K mg 2 df.F):=bK (T.d.get 47 rfl) (bB (N:=["_law_one", "_law_other"]) (by decide)) (λ_ _ _ _ _ _=>ar2 λ_ _=>rfl) λnd _ _ _ _ _ _ _ hr=>'d'
def eX:PSt:=
 (bu (iG 10 11 (aq (bt cD (aq (av 8) (aq (pFn fU (aq (av 2) bj)) bj))) (aq (bt cD (aq (av 9) (aq (pFn fU (aq (av 2) bj)) bj))) bj)))
  (bu (xIf (qOf (pOp bEq (av 1) (bX "across"))) (dS (l9 7 fE (aq (dH (aq (bt fJ (aq (av 3) (aq (bt df (aq (av 5) (aq (av 10) bj))) bj))) (aq (av 4) (aq (bt df (aq (av 5) (aq (av 11) bj))) (aq (av 6) bj))))) bj))) (dS (l9 7 fE (aq (dH (aq (av 3) (aq (bt fJ (aq (av 4) (aq (bt df (aq (av 6) (aq (av 10) bj))) bj))) (aq (av 5) (aq (bt df (aq (av 6) (aq (av 11) bj))) bj))))) bj))))
  (bF false 8 (pOp b8 (av 8) (av 9)))))
def pS:PSt:=
 (bu (gx (av 0) (gtX (gtT 4 (bQ (gtN 3) (bQ (gtN 4) (bQ (gtN 5) (bQ (gtN 6) eI)))))))
  (bu (bF true 7 (dk bj))
  (bu (bF false 8 (br 0))
  (bu (ff (bP (av 2)) (gtN 9) (eX))
  (bA (av 7))))))
def fG:PFn:=fnP [false,false,false] 12 pS
def aQ:fG.ms=[false,false,false]:=rfl
def uf(T:TT w K mg):Callee P w K mg base "_law_cut" 3 ["_law_box", "_law_way", "_law_weights"] (spD K mg 3 fG.F):=bK (T.d.get 52 rfl) (bB (N:=["_law_box", "_law_way", "_law_weights", "_law_left", "_law_top", "_law_wide", "_law_high", "_law_boxes", "_law_done", "_law_weight", "_law_far", "_law_part"]) (by decide)) (λ_ _ _ _ _ _=>ar3 λ_ _ _=>rfl) λnd _ _ _ _ _ _ _ hr=>'d'
def lO(s:PFx [false,false,false]):PSt:=
 (bF false 3 (pOp b8 (av 3) (bt s.fn (aq (av 6) (aq (av 5) (aq (av 2) bj))))))
def eV(s:PFx [false,false,false]):PSt:=
 (bu (xIf (qNo (qOf (pFn (cc cV) (aq (av 1) (aq (pTy "tuple") bj))))) (bA (dk (aq (av 0) bj))) xNx)
  (bu (bF false 3 (dk bj))
  (bu (bF false 4 (pLC (bP (pOp bIx (av 1) (br 1))) [none,some 2] (by decide) (gtN 0) qY (pFn fU (aq (pLC (bP (bt (bY 7).fn (aq (av 0) bj))) [none,some 1] (by decide) (gtN 0) qY (pOp bIx (av 1) (av 0))) bj))))
  (bu (ff (vS (aq (pOp bIx (av 1) (br 1)) (aq (bt fG (aq (av 0) (aq (pOp bIx (av 1) (br 0)) (aq (av 4) bj)))) bj))) (gtX (gtT 2 (bQ (gtN 5) (bQ (gtN 6) eI)))) (lO s))
  (bA (av 3))))))
def eh:Nat->PFx [false,false,false]
 |0=>PFx.none [false,false,false]
 |n+1=>PFx.of [false,false,false] 7 (eV (eh n))
theorem j8(T:TT w K mg):∀n,Callee P w K mg base "_law_laid" (11+n) ["_law_box", "_law_tree", "_law_weights"] (spD K mg 3 (eh n).F)
 |0=>ok0 (T.d.get 57 rfl) (bB (N:=["_law_box", "_law_tree", "_law_weights", "_law_boxes", "_law_sums", "_law_one", "_law_part"]) (by decide)) (λ_ _ _ _ _ _=>ar3 λ_ _ _=>rfl)
 |
  n+1=>by
  have ih:=j8 T n;show Callee _ _ _ _ _ _ _ _ (spD _ _ _ (PFx.of [false,false,false] 7 (eV (eh n))).F);exact wK (k:=11+n) (T.d.get 57 rfl) (bB (N:=["_law_box", "_law_tree", "_law_weights", "_law_boxes", "_law_sums", "_law_one", "_law_part"]) (by decide)) (λ_ _ _ _ _ _=>ar3 λ_ _ _=>rfl) λnd _ _ _ _ _ _ _ hr=>(bx 'd' (bx 'd' (bx (zSlc nd ["_law_box", "_law_tree", "_law_weights", "_law_boxes", "_law_sums", "_law_one", "_law_part"] (bw (top 57)).names ["_law_one", "_law_weights"] [none,some 2] 'd' (λnd _ _ _ _ _=>'d') (λnd _ _ _ _ _=>(eg (gA (K:=K) rfl rfl) kJ rfl (T.n rfl) (by first |exact boF rfl |exact boT rfl) (cB (fA ["_law_one", "_law_weights"] [(PySem.Str.ofString ".0",PySem.NameKind.local),(PySem.Str.ofString "_law_one",PySem.NameKind.local),(PySem.Str.ofString "sum",PySem.NameKind.globalImplicit),(PySem.Str.ofString "_law_things",PySem.NameKind.globalImplicit),(PySem.Str.ofString "_law_weights",PySem.NameKind.cell)] ["_law_k", "_law_weights"] [none,some 1] 'd' (λnd _ _ _ _ _=>'d') (λnd _ _ _ _ _=>'d')) 'd')))) 'd')))
def nc:PSt:=
 (bA (pOp bLt (pOp bT (pOp bIx (av 0) (br 0)) (pOp bIx (av 1) (br 1))) (pOp bT (pOp bIx (av 1) (br 0)) (pOp bIx (av 0) (br 1)))))
def c7:PFn:=fnP [false,false] 2 nc
def aM:c7.ms=[false,false]:=rfl
def rM(T:TT w K mg):Callee P w K mg base "_law_less" 1 ["_law_one", "_law_other"] (spD K mg 2 c7.F):=bK (T.d.get 49 rfl) (bB (N:=["_law_one", "_law_other"]) (by decide)) (λ_ _ _ _ _ _=>ar2 λ_ _=>rfl) λnd _ _ _ _ _ _ _ hr=>'d'
def nh:PSt:=
 (bA (bt cD (aq (pOp bT (pOp bIx (av 0) (br 0)) (pOp bIx (av 1) (br 1))) (aq (pOp bT (pOp bIx (av 0) (br 1)) (pOp bIx (av 1) (br 0))) bj))))
def eZ:PFn:=fnP [false,false] 2 nh
def aN:eZ.ms=[false,false]:=rfl
def sU(T:TT w K mg):Callee P w K mg base "_law_over" 2 ["_law_one", "_law_other"] (spD K mg 2 eZ.F):=bK (T.d.get 48 rfl) (bB (N:=["_law_one", "_law_other"]) (by decide)) (λ_ _ _ _ _ _=>ar2 λ_ _=>rfl) λnd _ _ _ _ _ _ _ hr=>'d'
def lM:PSt:=
 (bu (xIf (qOf (bt c7 (aq (pOp bIx (av 0) (br 2)) (aq (pOp bIx (av 0) (br 3)) bj)))) (bA (bt eZ (aq (pOp bIx (av 0) (br 3)) (aq (pOp bIx (av 0) (br 2)) bj)))) xNx)
  (bA (bt eZ (aq (pOp bIx (av 0) (br 2)) (aq (pOp bIx (av 0) (br 3)) bj)))))
def dN:PFn:=fnP [false] 1 lM
def aB:dN.ms=[false]:=rfl
def qu(T:TT w K mg):Callee P w K mg base "_law_shape" 3 ["_law_box"] (spD K mg 1 dN.F):=bK (T.d.get 53 rfl) (bB (N:=["_law_box"]) (by decide)) (λ_ _ _ _ _ _=>ar1 λ_=>rfl) λnd _ _ _ _ _ _ _ hr=>'d'
def jZ:PSt:=
 (bF false 2 (pOp b8 (av 2) (pLC (bP (av 2)) [none,some 3] (by decide) (gtN 0) qY (pOp b8 (av 0) (dk (aq (av 1) bj))))))
def ir:PSt:=
 (bu (xIf (qOf (pOp bEq (av 1) (bX "order"))) (bA (pLC (qM (aq (br 1) (aq (pFn cG (aq (av 0) bj)) bj))) [none,some 0] (by decide) (gtN 0) qY (pSl (av 1) oN (oS (av 0))))) xNx)
  (bu (bF false 2 (dk (aq (dk (aq (pOp bIx (av 0) (br 0)) bj)) bj)))
  (bu (ff (bP (pSl (av 0) (oS (br 1)) oN)) (gtN 3) (jZ))
  (bA (pSl (av 2) oN (oS (pUn rE (br 1))))))))
def cU:PFn:=fnP [false,false] 4 ir
def au:cU.ms=[false,false]:=rfl
def oX(T:TT w K mg):Callee P w K mg base "_law_firsts" 1 ["_law_numbers", "_law_kind"] (spD K mg 2 cU.F):=bK (T.d.get 54 rfl) (bB (N:=["_law_numbers", "_law_kind", "_law_lots", "_law_number"]) (by decide)) (λ_ _ _ _ _ _=>ar2 λ_ _=>rfl) λnd _ _ _ _ _ _ _ hr=>(bx (jH 'd' (dC (fM (fA ["_law_numbers", "_law_kind", "_law_lots", "_law_number"] (bw (top 54)).names ["_law_k", "_law_numbers"] [none,some 0] 'd' (λnd _ _ _ _ _=>'d') (λnd _ _ _ _ _=>'d')))) 'd') (bx 'd' (bx (jj n8 rfl 'd' 'd' (dC (zsS 2 nd (vG (qV (K:=K) rfl) rY 'd' (fA ["_law_numbers", "_law_kind", "_law_lots", "_law_number"] (bw (top 54)).names ["_law_lot", "_law_number"] [none,some 3] 'd' (λnd _ _ _ _ _=>'d') (λnd _ _ _ _ _=>'d')))))) 'd')))
def fY(s:PFx [false,false,false,false]):PSt:=
 (bu (gx (bt fG (aq (av 0) (aq (av 8) (aq (av 7) bj)))) (gtX (gtU 2 (bQ (gtN 9) (bQ (gtN 10) eI)))))
  (bu (bF true 11 (dk (aq (bt s.fn (aq (av 9) (aq (av 5) (aq (av 2) (aq (av 3) bj))))) (aq (bt s.fn (aq (av 10) (aq (av 6) (aq (av 2) (aq (av 3) bj))))) bj))))
  (bu (xIf (qOf (bt c7 (aq (pOp bIx (av 11) (br 0)) (aq (pOp bIx (av 11) (br 1)) bj)))) (dS (wA 11 kq)) xNx)
  (xIf (qO (qOf (pOp bIs (av 4) gj)) (qOf (bt c7 (aq (pOp bIx (av 11) (br 0)) (aq (av 4) bj))))) (bF false 4 (pOp bIx (av 11) (br 0))) xNx))))
def iu(s:PFx [false,false,false,false]):PSt:=
 (bu (bF false 6 (pLC (bP (av 1)) [none,some 5] (by decide) (gtN 0) (qOf (pOp jB (av 0) (av 1))) (av 0)))
  (bu (bF false 7 (dk (aq (pFn fU (aq (pLC (bP (av 5)) [none,some 2] (by decide) (gtN 0) qY (pOp bIx (av 1) (av 0))) bj)) (aq (pFn fU (aq (pLC (bP (av 6)) [none,some 2] (by decide) (gtN 0) qY (pOp bIx (av 1) (av 0))) bj)) bj))))
  (ff (bP (dk (aq (bX "across") (aq (bX "down") bj)))) (gtN 8) (fY s))))
def fi(s:PFx [false,false,false,false]):PSt:=
 (bu (xIf (qOf (pOp bEq (pFn cG (aq (av 1) bj)) (br 1))) (bA (bt dN (aq (av 0) bj))) xNx)
  (bu (bF false 4 gj)
  (bu (ff (bP (bt cU (aq (av 1) (aq (av 3) bj)))) (gtN 5) (iu s))
  (bA (av 4)))))
def de:Nat->PFx [false,false,false,false]
 |0=>PFx.none [false,false,false,false]
 |n+1=>PFx.of [false,false,false,false] 12 (fi (de n))
theorem jv(T:TT w K mg):∀n,Callee P w K mg base "_law_least" (5+n) ["_law_box", "_law_numbers", "_law_weights", "_law_kind"] (spD K mg 4 (de n).F)
 |0=>ok0 (T.d.get 55 rfl) (bB (N:=["_law_box", "_law_numbers", "_law_weights", "_law_kind", "_law_best", "_law_first", "_law_second", "_law_sums", "_law_way", "_law_one", "_law_other", "_law_shapes"]) (by decide)) (λ_ _ _ _ _ _=>ar4 λ_ _ _ _=>rfl)
 |
  n+1=>by
  have ih:=jv T n;show Callee _ _ _ _ _ _ _ _ (spD _ _ _ (PFx.of [false,false,false,false] 12 (fi (de n))).F);exact wK (k:=5+n) (T.d.get 55 rfl) (bB (N:=["_law_box", "_law_numbers", "_law_weights", "_law_kind", "_law_best", "_law_first", "_law_second", "_law_sums", "_law_way", "_law_one", "_law_other", "_law_shapes"]) (by decide)) (λ_ _ _ _ _ _=>ar4 λ_ _ _ _=>rfl) λnd _ _ _ _ _ _ _ hr=>(bx 'd' (bx 'd' (bx (jj n8 rfl 'd' 'd' (bx (G5 nd ["_law_box", "_law_numbers", "_law_weights", "_law_kind", "_law_best", "_law_first", "_law_second", "_law_sums", "_law_way", "_law_one", "_law_other", "_law_shapes"] (bw (top 55)).names ["_law_number", "_law_first"] [none,some 5] 'd' (λnd _ _ _ _ _=>'d') (λnd _ _ _ _ _=>'d') (λnd _ _ _ _ _=>'d')) (bx (zsS 7 nd (zt (cB (eg (gA (K:=K) rfl rfl) kJ rfl (T.n rfl) (by first |exact boF rfl |exact boT rfl) (cB (fA ["_law_box", "_law_numbers", "_law_weights", "_law_kind", "_law_best", "_law_first", "_law_second", "_law_sums", "_law_way", "_law_one", "_law_other", "_law_shapes"] (bw (top 55)).names ["_law_k", "_law_weights"] [none,some 2] 'd' (λnd _ _ _ _ _=>'d') (λnd _ _ _ _ _=>'d')) 'd')) (cB (eg (gA (K:=K) rfl rfl) kJ rfl (T.n rfl) (by first |exact boF rfl |exact boT rfl) (cB (fA ["_law_box", "_law_numbers", "_law_weights", "_law_kind", "_law_best", "_law_first", "_law_second", "_law_sums", "_law_way", "_law_one", "_law_other", "_law_shapes"] (bw (top 55)).names ["_law_k", "_law_weights"] [none,some 2] 'd' (λnd _ _ _ _ _=>'d') (λnd _ _ _ _ _=>'d')) 'd')) 'd')))) 'd'))) 'd')))
def mZ:PSt:=
 (bu (xIf (qO (qNo (qOf (pFn (cc cV) (aq (av 2) (aq (pTy "tuple") bj))))) (qO (qOf (pOp bNe (pFn cG (aq (av 2) bj)) (br 2))) (qNo (qOf (bt dX (aq (pOp bIx (av 2) (br 0)) bj)))))) (bA (pBl false)) xNx)
  (bu (bF false 3 (bt (bY 7).fn (aq (pOp bIx (av 2) (br 1)) bj)))
  (bu (xIf (qO (qOf (pOp bIs (av 3) gj)) (qOf (pOp bNe (pFn jK (aq (av 3) bj)) (pFn jX (aq (pFn cG (aq (av 1) bj)) bj))))) (bA (pBl false)) xNx)
  (bu (bF false 4 (pLC (bP (bt (eh 7).fn (aq (av 0) (aq (pOp bIx (av 2) (br 1)) (aq (av 1) bj))))) [none] (by decide) (gtN 0) qY (bt dN (aq (av 0) bj))))
  (bu (xIf (qO (qOf (pOp v9 (pOp bIx (av 2) (br 0)) (av 4))) (qOf (pFn qR (aq (pLC (bP (av 4)) [none,some 2] (by decide) (gtN 0) qY (bt c7 (aq (pOp bIx (av 1) (br 0)) (aq (av 0) bj)))) bj)))) (bA (pBl false)) xNx)
  (bA (pOp bEq (pOp bIx (av 2) (br 0)) (bt (de 7).fn (aq (av 0) (aq (pFn jX (aq (pFn cG (aq (av 1) bj)) bj)) (aq (av 1) (aq (bX "any") bj))))))))))))
def fW:PFn:=fnP [false,false,false] 5 mZ
def aP:fW.ms=[false,false,false]:=rfl
def qW(T:TT w K mg):Callee P w K mg base "_law_good" 19 ["_law_room", "_law_weights", "_law_found"] (spD K mg 3 fW.F):=bK (T.d.get 59 rfl) (bB (N:=["_law_room", "_law_weights", "_law_found", "_law_things_here", "_law_shapes"]) (by decide)) (λ_ _ _ _ _ _=>ar3 λ_ _ _=>rfl) λnd _ _ _ _ _ _ _ hr=>(bx 'd' (bx 'd' (bx 'd' (bx (zSlc nd ["_law_room", "_law_weights", "_law_found", "_law_things_here", "_law_shapes"] (bw (top 59)).names ["_law_box"] [none] 'd' (λnd _ _ _ _ _=>'d') (λnd _ _ _ _ _=>'d')) (bx (jH (ZW.dt (B5 'd' (zr (nS (eg (anyK (K:=K) rfl rfl) zb rfl (T.n rfl) (by first |exact boF rfl |exact boT rfl) (cB (fA ["_law_room", "_law_weights", "_law_found", "_law_things_here", "_law_shapes"] (bw (top 59)).names ["_law_one", "_law_found"] [none,some 2] 'd' (λnd _ _ _ _ _=>'d') (λnd _ _ _ _ _=>'d')) 'd')))))) 'd' 'd') 'd')))))
def mS:PSt:=
 (bu (bF false 5 (pFn ke (aq (av 3) bj)))
  (bu (bF false 6 (bt dB (aq (av 2) (aq (av 3) (aq (bX "any") bj)))))
  (bu (xIf (qO (qOf (pOp bNe (av 3) (av 5))) (qNo (qOf (bt fW (aq (av 2) (aq (av 5) (aq (av 6) bj))))))) (bA (pBl false)) xNx)
  (bu (xIf (qOf (pOp bNe (pOp bIx (bt dB (aq (av 2) (aq (av 5) (aq (bX "any") bj)))) (br 0)) (pOp bIx (av 6) (br 0)))) (bA (pBl false)) xNx)
  (n6 3 seL (bt bG (aq (av 1) (aq (pFn cG (aq (av 3) bj)) bj))) (pOp b8 (br 1) (bt bG (aq (av 1) (aq (br 60) bj)))))))))
def BX:PSt:=
 (bu (bF true 1 (bt fT (aq (av 0) bj)))
  (bu (Bu 2 3 (by decide) gO (aq (av 1) (aq (br 5) bj)))
  (bu (ff (kM (aq (br 2) bj)) (gtN 4) (mS))
  (bA (pBl true)))))
def qK:PFn:=fnP [false] 7 BX
def D2(T:TT w K mg):Callee P w K mg base "law" 20 ["_law_script"] (spD K mg 1 qK.F):=bK (T.d.get 60 rfl) (bB (N:=["_law_script", "_law_feed_here", "_law_room", "_law_weights", "_law_turn", "_law_kept", "_law_found"]) (by decide)) (λ_ _ _ _ _ _=>ar1 λ_=>rfl) λnd _ _ _ _ _ _ _ hr=>'d'
end
def fdD(cs:List Int)(a l:Int):Val:=.dct [(.inr "cells",.lst (cs.map .int)),(.inr "at",.int a),(.inr "left",.int l)]
def Fd(n:Nat)(v:Val):Prop:=∃cs a l,v=fdD cs a l/\0<=a/\a<=n
def Fd.mono{n m:Nat}{v:Val}(h:Fd n v)(q:n<=m):Fd m v:=by obtain⟨cs,a,l,e,h0,h1⟩:=h;exact⟨cs,a,l,e,h0,by omega⟩
def ik(cs:List Int)(a l:Int):gJ.G (fdD cs a l) (.str "cells")=.val (.lst (cs.map .int)):=rfl
def nH(cs:List Int)(a l:Int):gJ.G (fdD cs a l) (.str "at")=.val (.int a):=rfl
def jk(cs:List Int)(a l:Int):gJ.G (fdD cs a l) (.str "left")=.val (.int l):=rfl
def jh(cs:List Int)(a l x:Int):seD.G (fdD cs a l) (.str "at") (.int x)=some (fdD cs x l):=rfl
def iz(cs:List Int)(a l x:Int):seD.G (fdD cs a l) (.str "left") (.int x)=some (fdD cs a x):=rfl
def qP:om.G (.int 10) (.int 18)=.val (.int (10^18)):=B0 ⟨by decide,by decide,by decide⟩
def fF{a m:Int}(h:0<m):0<=a.fmod m/\a.fmod m<m:=⟨Int.fmod_nonneg_of_pos a h,Int.fmod_lt_of_pos a h⟩
set_option hygiene false in
local macro_rules | `(tactic|simp![$args,*])=>do
 let l <- ("% lg JX Ms K3 Mp Fg iU L8 AO wc Ga GP E5 G6 F6 Gd Hn IC Dx Al F1 IK yC El FO LK My v_bl KD KO v_ty Ml v_un v_op KH Fw v_fn Ka K6 KL y_or Kd c_of c_an c_o c_no c_y x_nx x_ct L4 CT Ep EH GB B6 x_if Mv LV K5 Ec BA Bt g_n g_sn g_sc g_t g_x HC LU LA Mc DP KA LD Ky JZ Mx FG JF JY Jb BC LN Kp Iz GJ Fe GR Mf Kh Ld jy v_lc Gq G0 Ie o_n o_s v_sl Kq fx_G J7 K8 k_lt k_gt k_ge LC K1 k_ix Jk xB k_eq k_ne Mg k_is Kc Mh Me Kv Mi HS A2 kf sy List.getElem?_cons_zero List.getElem?_cons_succ List.set_cons_zero List.set_cons_succ List.length_cons List.length_nil Option.bind_some Option.map_some Option.isSome_some if_true if_false Bool.not_true Bool.not_false Bool.and_true Bool.true_and Bool.false_and Bool.or_true Bool.true_or Bool.or_false Nat.reduceLeDiff Nat.reduceLT Nat.reduceAdd Nat.reduceSub Nat.zero_add Nat.add_zero Nat.sub_self List.cons_append List.nil_append List.append_nil List.replicate reduceCtorEq decide_false Bool.false_eq_true List.all_cons List.all_nil List.isEmpty_nil List.isEmpty_cons List.map_cons List.map_nil Int.reduceBEq Int.reduceLT Int.reduceAdd Int.reduceSub Int.reduceMul Int.cast_ofNat_Int E8 CQ Io Fo Jn Eb Aq Hg zR H9 zm Eu C5 GQ Dr xS CY Ip Bn Ia Di FF Bk Ij HR En Ly LH JU Mm yX yG yk eU eF km BR ku xR iR ati0 ati1 ati2 ati3 CF cn F7 IU Int.reduceNeg CW JB g_uL yR Lu".splitOn " ").tail.mapM λs=>`(Lean.Parser.Tactic.simpLemma| $(Lean.mkIdent s.toName):term)
 `(tactic|simp only[$(l.toArray),*,$args,*])
def Ek{ns:List Int}(hl:ns.length<=63):∃v,fT.G [.kl (ns.map .int)]=.ok (.new v) []/\Fd 0 v:=by
 refine⟨fdD ns 0 0,?_,ns,0,0,rfl,by omega,by omega⟩;unfold fT;rw[bJ];unfold nj;have e:aSl (.kl (ns.map Val.int)) none (some 63)=.new (.lst (ns.map Val.int)):=by
  have:=KP (ns.map Val.int) none (some ((63:Nat):Int))
  rw[tK,NB (by rw[v_];exact hl)] at this;exact this
 have c:Val.items (.lst (ns.map Val.int))=some (ns.map Val.int):=rfl;simp![bo,bp,bq,bc,aO,aG,aR,ax,aK,aJ,aE,aa,ao,aW,aC,ay,af,ar,aj,aS,aH,aD,bh,a8,aV,aT,aZ,az,ba,bf,aY,aX,aw,aF,ai,ak,ah,aU,aA,aQ,aM,aN,aB,au,aP,ag,bg,yR,e,c];rfl
def bM{n:Nat}{v:Val}{m:Int}(f:Fd n v)(hn:n<=1000000000)(h0:0<m)(hm:Sm 8000 m):∃r v',bG.G [v,.int m]=.ok (.val (.int r)) [v']/\Fd (n+1) v'/\0<=r/\r<m:=by
 obtain⟨cs,a,l,rfl,a0,a1⟩:=f;have m0:m≠0:=by omega
 have d1:=λi=>gu (i:=i) m0;have d2:=λi=>kK (i:=i) (CDivB.of m0 hm);unfold bG;rw[bJ];unfold nE;have x1:bT.G (.int 61) (.int a)=.val (.int (61*a)):=ck (CMulA.left (by decide) (by decide));have x2:bT.G (.int (61*a)) (.int a)=.val (.int (61*a*a)):=ck (CMulA.right (by omega) (by omega));have x3:bT.G (.int 7) (.int a)=.val (.int (7*a)):=ck (CMulA.left (by decide) (by decide));have x4:∀x:Int,bT.G (.int x) (.int 48271)=.val (.int (x*48271)):=λx=>ck (CMulA.right (by decide) (by decide));have x5:∀x:Int,bT.G (.int x) (.int 69623)=.val (.int (x*69623)):=λx=>ck (CMulA.right (by decide) (by decide));have x6:bT.G (.int 7919) (.int a)=.val (.int (7919*a)):=ck (CMulA.left (by decide) (by decide));have x7:∀x:Int,bT.G (.int x) (.int 16811)=.val (.int (x*16811)):=λx=>ck (CMulA.right (by decide) (by decide));have y1:∀x:Int,da.G (.int x) (.int 1000003)=.val (.int (x.fmod 1000003)):=λx=>gu (by decide);have y2:∀x:Int,da.G (.int x) (.int 999983)=.val (.int (x.fmod 999983)):=λx=>gu (by decide);have y3:∀x:Int,da.G (.int x) (.int 1999993)=.val (.int (x.fmod 1999993)):=λx=>gu (by decide);have y4:∀x:Int,da.G (.int x) (.int 524287)=.val (.int (x.fmod 524287)):=λx=>gu (by decide);have y5:∀x:Int,i7.G (.int x) (.int 5)=.val (.int (x.fdiv 5)):=λx=>kK (CDivB.of (by decide) (sm8 (by decide)));by_cases hc:0<l
 .have hc':decide (0<l)=true:=L_ hc;refine⟨l.fmod m,fdD cs a (l.fdiv m),?_,⟨cs,a,_,rfl,a0,by omega⟩,fF h0⟩;simp![bo,bp,bq,bc,aO,aG,aR,ax,aK,aJ,aE,aa,ao,aW,aC,ay,af,ar,aj,aS,aH,aD,bh,a8,aV,aT,aZ,az,ba,bf,aY,aX,aw,aF,ai,ak,ah,aU,aA,aQ,aM,aN,aB,au,aP,ag,bg,hc',d1,d2,ik,nH,jk,jh,iz]
 .have hc':decide (0<l)=false:=K_ hc;have k_:∀x:Int,∃r v',(R3F.ok (Rt.val (.int (x.fmod m))) [fdD cs (a+1) l]:R3F)=.ok (.val (.int r)) [v']/\Fd (n+1) v'/\0<=r/\r<m:=λx=>⟨_,_,rfl,⟨cs,_,_,rfl,by omega,by omega⟩,fF h0⟩;have z18:((10:Int)^18)=1000000000000000000:=by decide
  by_cases hl:0<cs.length
  .have r:=fF (a:=a) (m:=(cs.length:Nat)) (by omega);have hi:(a.fmod (cs.length:Nat)).toNat<cs.length:=by omega
   have at1:atI (cs.map Val.int) (a.fmod (cs.length:Nat))=some (.int cs[(a.fmod (cs.length:Nat)).toNat]):=k8 r.1 (by rw[MP,MJ hi];rfl);have l1:decide ((0:Int)<((cs.length:Nat):Int))=true:=L_ (by omega);have e1:da.G (.int a) (.int (cs.length:Nat))=.val (.int (a.fmod (cs.length:Nat))):=gu (by omega);by_cases hb:(10^18:Int)<=cs[(a.fmod (cs.length:Nat)).toNat]
   .have hb':=L_ hb;by_cases ha:a<(cs.length:Nat)
    .have ha':=L_ ha;refine⟨(cs[(a.fmod (cs.length:Nat)).toNat]).fmod m,fdD cs (a+1) ((cs[(a.fmod (cs.length:Nat)).toNat]).fdiv m),?_,⟨cs,_,_,rfl,by omega,by omega⟩,fF h0⟩;simp![bo,bp,bq,bc,aO,aG,aR,ax,aK,aJ,aE,aa,ao,aW,aC,ay,af,ar,aj,aS,aH,aD,bh,a8,aV,aT,aZ,az,ba,bf,aY,aX,aw,aF,ai,ak,ah,aU,aA,aQ,aM,aN,aB,au,aP,ag,bg,hc',d1,d2,ik,nH,jk,jh,iz,v_,l1,e1,at1,qP,hb',ha']
    .have ha':=K_ ha;simp![bo,bp,bq,bc,aO,aG,aR,ax,aK,aJ,aE,aa,ao,aW,aC,ay,af,ar,aj,aS,aH,aD,bh,a8,aV,aT,aZ,az,ba,bf,aY,aX,aw,aF,ai,ak,ah,aU,aA,aQ,aM,aN,aB,au,aP,ag,bg,hc',d1,d2,ik,nH,jk,jh,iz,v_,l1,e1,at1,qP,hb',ha',x1,x2,x3,x4,x5,x6,x7,y1,y2,y3,y4,y5];exact k_ _
   .have hb':=K_ hb;simp![bo,bp,bq,bc,aO,aG,aR,ax,aK,aJ,aE,aa,ao,aW,aC,ay,af,ar,aj,aS,aH,aD,bh,a8,aV,aT,aZ,az,ba,bf,aY,aX,aw,aF,ai,ak,ah,aU,aA,aQ,aM,aN,aB,au,aP,ag,bg,hc',d1,d2,ik,nH,jk,jh,iz,v_,l1,e1,at1,qP,hb',x1,x2,x3,x4,x5,x6,x7,y1,y2,y3,y4,y5];exact k_ _
  .have l1:decide ((0:Int)<((cs.length:Nat):Int))=false:=K_ (by omega);have hb':decide ((10^18:Int)<=a)=false:=K_ (by rw[z18];omega);simp![bo,bp,bq,bc,aO,aG,aR,ax,aK,aJ,aE,aa,ao,aW,aC,ay,af,ar,aj,aS,aH,aD,bh,a8,aV,aT,aZ,az,ba,bf,aY,aX,aw,aF,ai,ak,ah,aU,aA,aQ,aM,aN,aB,au,aP,ag,bg,hc',d1,d2,ik,nH,jk,jh,iz,v_,l1,qP,hb',x1,x2,x3,x4,x5,x6,x7,y1,y2,y3,y4,y5];exact k_ _
def Lh:ij [.int 6]=some [.int 0,.int 1,.int 2,.int 3,.int 4,.int 5]:=lz (i:=6) (by decide) (by decide)
def rp{n:Nat}{v:Val}(f:Fd n v)(hn:n<=900000000):∃r v',dG.G [v,.int 6]=.ok (.val (.int r)) [v']/\Fd (n+6) v'/\0<=r:=by have s:Sm 8000 100000:=sm8 (by decide);obtain⟨r1,v1,e1,f1,a1,_⟩:=bM (m:=100000) f (by omega) (by decide) s;obtain⟨r2,v2,e2,f2,a2,_⟩:=bM (m:=100000) f1 (by omega) (by decide) s;obtain⟨r3,v3,e3,f3,a3,_⟩:=bM (m:=100000) f2 (by omega) (by decide) s;obtain⟨r4,v4,e4,f4,a4,_⟩:=bM (m:=100000) f3 (by omega) (by decide) s;obtain⟨r5,v5,e5,f5,a5,_⟩:=bM (m:=100000) f4 (by omega) (by decide) s;obtain⟨r6,v6,e6,f6,a6,_⟩:=bM (m:=100000) f5 (by omega) (by decide) s;have c6:∀x:Int,bT.G (.int x) (.int 100000)=.val (.int (x*100000)):=λx=>ck (CMulA.right (by decide) (by decide));refine⟨((((((0*100000+r1)*100000+r2)*100000+r3)*100000+r4)*100000+r5)*100000+r6),v6,?_,f6.mono (by omega),by omega⟩;unfold dG;rw[bJ];unfold lL ky;simp![bo,bp,bq,bc,aO,aG,aR,ax,aK,aJ,aE,aa,ao,aW,aC,ay,af,ar,aj,aS,aH,aD,bh,a8,aV,aT,aZ,az,ba,bf,aY,aX,aw,aF,ai,ak,ah,aU,aA,aQ,aM,aN,aB,au,aP,ag,bg,Lh,bZ,c6,e1,e2,e3,e4,e5,e6]
def vc(a:Int):(if a<0 then -a else a)=((a.natAbs:Nat):Int):=by split <;> omega
theorem rf:∀(n one e_:Nat),e_<=n->(xWh (qOf (pOp bNe (av 1) (br 0))) dP).G [.sh (.int (one:Nat)),.sh (.int (e_:Nat))]=.nx [.sh (.int (Nat.gcd one e_:Nat)),.sh (.int 0)]
 |
  n,one,0,_=>by
  rw[xb];simp![bo,bp,bq,bc,aO,aG,aR,ax,aK,aJ,aE,aa,ao,aW,aC,ay,af,ar,aj,aS,aH,aD,bh,a8,aV,aT,aZ,az,ba,bf,aY,aX,aw,aF,ai,ak,ah,aU,aA,aQ,aM,aN,aB,au,aP,ag,bg];rw[Nat.gcd_zero_right];try rfl
 |0,one,e_+1,hl=>absurd hl (by omega)
 |
  n+1,one,e_+1,hl=>by
  rw[xb];have e:((((e_+1:Nat):Int)==0))=false:=by rw[MM];omega
  have e1:da.G (.int (one:Nat)) (.int ((e_+1:Nat):Int))=.val (.int (((one:Nat):Int).fmod ((e_+1:Nat):Int))):=gu (by omega);have e2:((one:Nat):Int).fmod ((e_+1:Nat):Int)=((one % (e_+1):Nat):Int):=by rw[Int.fmod_eq_emod_of_nonneg _ (by omega)];rfl
  have ih:=rf n (e_+1) (one % (e_+1)) (by have:=Nat.mod_lt one (show e_+1>0 by omega);omega);rw[Fr.euc] at ih;rw[e2] at e1;have bb:dP.G [.sh (.int (one:Nat)),.sh (.int ((e_+1:Nat):Int))]=.nx [.sh (.int ((e_+1:Nat):Int)),.sh (.int ((one % (e_+1):Nat):Int))]:=by unfold dP;simp![bo,bp,bq,bc,aO,aG,aR,ax,aK,aJ,aE,aa,ao,aW,aC,ay,af,ar,aj,aS,aH,aD,bh,a8,aV,aT,aZ,az,ba,bf,aY,aX,aw,aF,ai,ak,ah,aU,aA,aQ,aM,aN,aB,au,aP,ag,bg,e1]
  simp![bo,bp,bq,bc,aO,aG,aR,ax,aK,aJ,aE,aa,ao,aW,aC,ay,af,ar,aj,aS,aH,aD,bh,a8,aV,aT,aZ,az,ba,bf,aY,aX,aw,aF,ai,ak,ah,aU,aA,aQ,aM,aN,aB,au,aP,ag,bg,e,bb,ih]
def dO(a b:Int):cM.G [.int a,.int b]=.ok (.val (.int (Int.gcd a b:Nat))) []:=by
 unfold cM;rw[bJ];unfold ie
 have:=rf b.natAbs a.natAbs b.natAbs (y_ _)
 simp![bo,bp,bq,bc,aO,aG,aR,ax,aK,aJ,aE,aa,ao,aW,aC,ay,af,ar,aj,aS,aH,aD,bh,a8,aV,aT,aZ,az,ba,bf,aY,aX,aw,aF,ai,ak,ah,aU,aA,aQ,aM,aN,aB,au,aP,ag,bg,vc,this];rfl
def fj{a b:Int}(hb:b≠0)(hs:Sm 8000 b):c8.G [.int a,.int b]=.ok (.val (fV ((a:Rat)/(b:Rat)))) []:=by
 unfold c8;rw[bJ];unfold nI;have e:(b==0)=false:=by rw[MM];exact hb
 have c:∀x,CDivB x (Fr.dv a b):=λx=>CDivB.of (Fr.dv_ne hb) (hs.of_le (by rw[Fr.dv_abs];exact Nat.le_of_dvd (by omega) (Nat.gcd_dvd_right a.natAbs b.natAbs)));have k1:=kK (c a);have k2:=kK (c b);have hh:=nM (a:=a) hb;have k_:Val.tup [.int (a.fdiv (Fr.dv a b)),.int (b.fdiv (Fr.dv a b))]=fV ((a:Rat)/(b:Rat)):=by unfold fV;rw[<- hh.1,<- hh.2];rfl
 by_cases hn:b<0
 .have hd:Fr.dv a b=-((Int.gcd a b:Nat):Int):=by unfold Fr.dv;rw[if_pos hn]
  rw[hd] at k1 k2 k_;simp![bo,bp,bq,bc,aO,aG,aR,ax,aK,aJ,aE,aa,ao,aW,aC,ay,af,ar,aj,aS,aH,aD,bh,a8,aV,aT,aZ,az,ba,bf,aY,aX,aw,aF,ai,ak,ah,aU,aA,aQ,aM,aN,aB,au,aP,ag,bg,e,dO,L_ hn,k1,k2,k_]
 .have hd:Fr.dv a b=((Int.gcd a b:Nat):Int):=by unfold Fr.dv;rw[if_neg hn]
  rw[hd] at k1 k2 k_;simp![bo,bp,bq,bc,aO,aG,aR,ax,aK,aJ,aE,aa,ao,aW,aC,ay,af,ar,aj,aS,aH,aD,bh,a8,aV,aT,aZ,az,ba,bf,aY,aX,aw,aF,ai,ak,ah,aU,aA,aQ,aM,aN,aB,au,aP,ag,bg,e,dO,K_ hn,k1,k2,k_]
def Av{p q:Rat}{n m:Nat}(hp:Sz n p)(hq:Sz m q)(h:n+m<=8000):jg.G [fV p,fV q]=.ok (.val (fV (p+q))) []:=by have c1:=ck (CMulA.of hp.top hq.bot (by omega) (by omega));have c2:=ck (CMulA.of hq.top hp.bot (by omega) (by omega));have c3:=ck (CMulA.of hp.bot hq.bot (by omega) (by omega));have fe:=fj (a:=p.num*q.den+q.num*p.den) (b:=p.den*q.den) (ND (c5 p) (c5 q)) ((hp.bot.mul hq.bot).mono h);rw[<- oE] at fe;unfold jg;rw[bJ];unfold vv;rw[show fV p=.tup [.int p.num,.int p.den] from rfl,show fV q=.tup [.int q.num,.int q.den] from rfl];simp![bo,bp,bq,bc,aO,aG,aR,ax,aK,aJ,aE,aa,ao,aW,aC,ay,af,ar,aj,aS,aH,aD,bh,a8,aV,aT,aZ,az,ba,bf,aY,aX,aw,aF,ai,ak,ah,aU,aA,aQ,aM,aN,aB,au,aP,ag,bg,c1,c2,c3,fe]
def tw{p q:Rat}{n m:Nat}(hp:Sz n p)(hq:Sz m q)(h:n+m<=8000):gZ.G [fV p,fV q]=.ok (.val (fV (p*q))) []:=by have c1:=ck (CMulA.of hp.top hq.top (by omega) (by omega));have c2:=ck (CMulA.of hp.bot hq.bot (by omega) (by omega));have fe:=fj (a:=p.num*q.num) (b:=p.den*q.den) (ND (c5 p) (c5 q)) ((hp.bot.mul hq.bot).mono h);rw[<- oD] at fe;unfold gZ;rw[bJ];unfold uQ;rw[show fV p=.tup [.int p.num,.int p.den] from rfl,show fV q=.tup [.int q.num,.int q.den] from rfl];simp![bo,bp,bq,bc,aO,aG,aR,ax,aK,aJ,aE,aa,ao,aW,aC,ay,af,ar,aj,aS,aH,aD,bh,a8,aV,aT,aZ,az,ba,bf,aY,aX,aw,aF,ai,ak,ah,aU,aA,aQ,aM,aN,aB,au,aP,ag,bg,c1,c2,fe]
def fL{p q:Rat}{n m:Nat}(hp:Sz n p)(hq:Sz m q)(h1:n<=100000)(h2:m<=100000):dZ.G [fV p,fV q]=.ok (.val (.bl (decide (p<q)))) []:=by have c1:=ck (CMulA.of hp.top hq.bot h1 h2);have c2:=ck (CMulA.of hq.top hp.bot h2 h1);unfold dZ;rw[bJ];unfold pv;rw[show fV p=.tup [.int p.num,.int p.den] from rfl,show fV q=.tup [.int q.num,.int q.den] from rfl];simp![bo,bp,bq,bc,aO,aG,aR,ax,aK,aJ,aE,aa,ao,aW,aC,ay,af,ar,aj,aS,aH,aD,bh,a8,aV,aT,aZ,az,ba,bf,aY,aX,aw,aF,ai,ak,ah,aU,aA,aQ,aM,aN,aB,au,aP,ag,bg,c1,c2];rw[show decide (p.num*(q.den:Int)<q.num*(p.den:Int))=decide (p<q) from decide_eq_decide.mpr (xv p q).symm]
def kU{v:Val}(hk:knV v=true):(cc cV).G [v,.ty "tuple"]=.val (.bl (fR v)):=by cases v <;> first |rfl |cases hk
def i4{v:Val}(hk:knV v=true):d8.G [v]=.ok (.val (.bl (jW v))) []:=by unfold d8;rw[bJ];unfold mT;cases v <;> first |rfl |cases hk
def rh(v:Val):fR v=false\/∃xs,v=.tup xs:=by cases v <;> first |exact .inr ⟨_,rfl⟩ |exact .inl rfl
def mC(v:Val):jW v=false\/∃i,v=.int i:=by cases v <;> first |exact .inr ⟨_,rfl⟩ |exact .inl rfl
def Ln{v:Val}(h:fR v=false):bO v=false:=by cases v <;> first |rfl |cases h
def Lp{v:Val}(h:fR v=false):gv v=false:=by cases v <;> first |rfl |cases h
def Jo{a b:Val}(h:jW a=false):bO (.tup [a,b])=false:=by cases a <;> first |rfl |cases h
def H0{i:Int}{b:Val}(h:jW b=false):bO (.tup [.int i,b])=false:=by cases b <;> first |rfl |cases h
def Ki{xs:List Val}(hl:xs.length≠2):bO (.tup xs)=false:=by
 unfold bO;split
 .rename_i e;injection e with e;subst e;exact absurd rfl hl
 .rfl
def Lk{xs:List Val}(hl:xs.length≠4):gv (.tup xs)=false:=by
 unfold gv;split
 .rename_i e;injection e with e;subst e;exact absurd rfl hl
 .rfl
def Cr{k:Nat}{v:Val}(ha:i8 k v=true)(h:fR v=false):knV v=true:=by
 cases v with
 |tup xs=>cases h
 |_=>cases k <;> exact ha
def oO{v:Val}(ha:i8 1 v=true):dD.G [v]=.ok (.val (.bl (bO v))) []:=by
 unfold dD;rw[bJ];unfold j9;rcases rh v with ht |⟨xs,rfl⟩
 .have it:=kU (Cr ha ht);rw[ht] at it;simp![bo,bp,bq,bc,aO,aG,aR,ax,aK,aJ,aE,aa,ao,aW,aC,ay,af,ar,aj,aS,aH,aD,bh,a8,aV,aT,aZ,az,ba,bf,aY,aX,aw,aF,ai,ak,ah,aU,aA,aQ,aM,aN,aB,au,aP,ag,bg,it,Ln ht]
 have it:=kU (v:=.tup xs) rfl;by_cases hl:xs.length=2
 .match xs,hl,ha with
  |
   [a,b],_,ha=>
   have ha':(knV a&&(knV b&&true))=true:=by simpa [i8] using ha
   simp only[z_] at ha';have w1:=i4 ha'.1;have w2:=i4 ha'.2.1;rcases mC a with h1 |⟨i,rfl⟩
   .rw[h1] at w1;simp![bo,bp,bq,bc,aO,aG,aR,ax,aK,aJ,aE,aa,ao,aW,aC,ay,af,ar,aj,aS,aH,aD,bh,a8,aV,aT,aZ,az,ba,bf,aY,aX,aw,aF,ai,ak,ah,aU,aA,aQ,aM,aN,aB,au,aP,ag,bg,it,fR,w1,Jo h1]
   rcases mC b with h2 |⟨j,rfl⟩
   .rw[h2] at w2;simp![bo,bp,bq,bc,aO,aG,aR,ax,aK,aJ,aE,aa,ao,aW,aC,ay,af,ar,aj,aS,aH,aD,bh,a8,aV,aT,aZ,az,ba,bf,aY,aX,aw,aF,ai,ak,ah,aU,aA,aQ,aM,aN,aB,au,aP,ag,bg,it,fR,w1,jW,w2,H0 h2]
   have f:bO (.tup [.int i,.int j])=(decide (1<=j)&&decide (Int.gcd i j=1)):=rfl;have g:((((Int.gcd i j:Nat):Int)==1):Bool)=decide (Int.gcd i j=1):=by rw[Ox,M8,NW];omega
   by_cases hj:1<=j
   .simp![bo,bp,bq,bc,aO,aG,aR,ax,aK,aJ,aE,aa,ao,aW,aC,ay,af,ar,aj,aS,aH,aD,bh,a8,aV,aT,aZ,az,ba,bf,aY,aX,aw,aF,ai,ak,ah,aU,aA,aQ,aM,aN,aB,au,aP,ag,bg,it,fR,w1,w2,jW,dO,L_ hj,f,g]
   .simp![bo,bp,bq,bc,aO,aG,aR,ax,aK,aJ,aE,aa,ao,aW,aC,ay,af,ar,aj,aS,aH,aD,bh,a8,aV,aT,aZ,az,ba,bf,aY,aX,aw,aF,ai,ak,ah,aU,aA,aQ,aM,aN,aB,au,aP,ag,bg,it,fR,w1,w2,jW,dO,K_ hj,f,g]
 .have e:(((xs.length:Nat):Int)==2)=false:=by rw[MM];omega
  simp![bo,bp,bq,bc,aO,aG,aR,ax,aK,aJ,aE,aa,ao,aW,aC,ay,af,ar,aj,aS,aH,aD,bh,a8,aV,aT,aZ,az,ba,bf,aY,aX,aw,aF,ai,ak,ah,aU,aA,aQ,aM,aN,aB,au,aP,ag,bg,it,fR,e,Ki hl]
def o7{v:Val}(ha:i8 2 v=true):iA.G [v]=.ok (.val (.bl (gv v))) []:=by
 unfold iA;rw[bJ];unfold sG;rcases rh v with ht |⟨xs,rfl⟩
 .have it:=kU (Cr ha ht);rw[ht] at it;simp![bo,bp,bq,bc,aO,aG,aR,ax,aK,aJ,aE,aa,ao,aW,aC,ay,af,ar,aj,aS,aH,aD,bh,a8,aV,aT,aZ,az,ba,bf,aY,aX,aw,aF,ai,ak,ah,aU,aA,aQ,aM,aN,aB,au,aP,ag,bg,it,Lp ht]
 have it:=kU (v:=.tup xs) rfl;by_cases hl:xs.length=4
 .match
   xs,hl,ha with
  |
   [a,b,c,d],_,ha=>
   have e1:gv (.tup [a,b,c,d])=(bO a&&(bO b&&(bO c&&(bO d&&(jV c&&jV d))))):=rfl;have bl4:∀x y z w:Bool,gq [.bl x,.bl y,.bl z,.bl w]=some [x,y,z,w]:=λ_ _ _ _=>rfl;obtain⟨e',⟨s',rfl,_⟩,lc⟩:=oM (g:=(gtN 0).G) (F:=(bt dD (aq (av 0) bj)).G) (f:=λv=>.bl (bO v)) (λe=>∃s,e=[s]/\s.pl=true) [a,b,c,d] [] [.no] ⟨.no,rfl,rfl⟩ (by
    rintro v hv e ⟨s,rfl,hs⟩;have hv':i8 1 v=true:=MD.mp (by simpa [i8] using ha) v hv;refine⟨[.sh v],.val (.bl (bO v)),[.sh v],?_,?_,rfl,⟨_,rfl,rfl⟩⟩
    .simp![bo,bp,bq,bc,aO,aG,aR,ax,aK,aJ,aE,aa,ao,aW,aC,ay,af,ar,aj,aS,aH,aD,bh,a8,aV,aT,aZ,az,ba,bf,aY,aX,aw,aF,ai,ak,ah,aU,aA,aQ,aM,aN,aB,au,aP,ag,bg,hs]
    .simp![bo,bp,bq,bc,aO,aG,aR,ax,aK,aJ,aE,aa,ao,aW,aC,ay,af,ar,aj,aS,aH,aD,bh,a8,aV,aT,aZ,az,ba,bf,aY,aX,aw,aF,ai,ak,ah,aU,aA,aQ,aM,aN,aB,au,aP,ag,bg,oO hv']) (by simp)
   have cy:cY=qY.G:=rfl;rw[cy,MQ] at lc;simp only[B_,M5] at lc;cases hA:(bO a&&(bO b&&(bO c&&bO d))) with
   |
    true=>
    simp only[z_] at hA;obtain⟨p,rfl⟩:=yL hA.2.2.1;obtain⟨q,rfl⟩:=yL hA.2.2.2;rw[hA.1,hA.2.1,hA.2.2.1,hA.2.2.2] at e1 lc;have e2:gv (.tup [a,b,fV p,fV q])=(decide (0<p.num)&&decide (0<q.num)):=by rw[e1];rfl
    rw[e2];have i1:(fV p).items=some [.int p.num,.int p.den]:=rfl;have i2:(fV q).items=some [.int q.num,.int q.den]:=rfl;by_cases hp:0<p.num
    .simp![bo,bp,bq,bc,aO,aG,aR,ax,aK,aJ,aE,aa,ao,aW,aC,ay,af,ar,aj,aS,aH,aD,bh,a8,aV,aT,aZ,az,ba,bf,aY,aX,aw,aF,ai,ak,ah,aU,aA,aQ,aM,aN,aB,au,aP,ag,bg,it,fR,lc,cn,bl4,id,i1,i2,L_ hp]
    .simp![bo,bp,bq,bc,aO,aG,aR,ax,aK,aJ,aE,aa,ao,aW,aC,ay,af,ar,aj,aS,aH,aD,bh,a8,aV,aT,aZ,az,ba,bf,aY,aX,aw,aF,ai,ak,ah,aU,aA,aQ,aM,aN,aB,au,aP,ag,bg,it,fR,lc,cn,bl4,id,i1,K_ hp]
   |
    false=>
    have e2:gv (.tup [a,b,c,d])=false:=by rw[e1];revert hA;generalize bO a=a',bO b=b',bO c=c',bO d=d',(jV c&&jV d)=z;revert a' b' c' d' z;decide
    rw[e2];simp![bo,bp,bq,bc,aO,aG,aR,ax,aK,aJ,aE,aa,ao,aW,aC,ay,af,ar,aj,aS,aH,aD,bh,a8,aV,aT,aZ,az,ba,bf,aY,aX,aw,aF,ai,ak,ah,aU,aA,aQ,aM,aN,aB,au,aP,ag,bg,it,fR,lc,cn,bl4,id,hA]
 .have e:(((xs.length:Nat):Int)==4)=false:=by rw[MM];omega
  simp![bo,bp,bq,bc,aO,aG,aR,ax,aK,aJ,aE,aa,ao,aW,aC,ay,af,ar,aj,aS,aH,aD,bh,a8,aV,aT,aZ,az,ba,bf,aY,aX,aw,aF,ai,ak,ah,aU,aA,aQ,aM,aN,aB,au,aP,ag,bg,it,fR,e,Lk hl]
def tV{v:Val}(ha:i8 2 v=true):cR.G [v]=if gv v=true then .ok (.val .non) [] else .exc "NoBox" []:=by
 unfold cR;rw[bJ];unfold lI;cases h:gv v with
 |true=>simp![bo,bp,bq,bc,aO,aG,aR,ax,aK,aJ,aE,aa,ao,aW,aC,ay,af,ar,aj,aS,aH,aD,bh,a8,aV,aT,aZ,az,ba,bf,aY,aX,aw,aF,ai,ak,ah,aU,aA,aQ,aM,aN,aB,au,aP,ag,bg,o7 ha,h]
 |false=>simp![bo,bp,bq,bc,aO,aG,aR,ax,aK,aJ,aE,aa,ao,aW,aC,ay,af,ar,aj,aS,aH,aD,bh,a8,aV,aT,aZ,az,ba,bf,aY,aX,aw,aF,ai,ak,ah,aU,aA,aQ,aM,aN,aB,au,aP,ag,bg,o7 ha,h]
def iq{b:Bx}(hb:b.Ok):cR.G [bV b]=.ok (.val .non) []:=by rw[tV (JL b),AG hb];rfl
def LQ{v:Val}(h:jW v=false):iI v=false:=by cases v <;> first |rfl |cases h
def z9(v:Val):kr v=false\/∃xs,v=.lst xs:=by cases v <;> first |exact .inr ⟨_,rfl⟩ |exact .inl rfl
def sM{v:Val}(hk:knV v=true):eE.G [v]=.ok (.val (.bl (iI v))) []:=by
 have w:=i4 hk;unfold eE;rw[bJ];unfold lJ;rcases mC v with h |⟨i,rfl⟩
 .rw[h] at w;simp![bo,bp,bq,bc,aO,aG,aR,ax,aK,aJ,aE,aa,ao,aW,aC,ay,af,ar,aj,aS,aH,aD,bh,a8,aV,aT,aZ,az,ba,bf,aY,aX,aw,aF,ai,ak,ah,aU,aA,aQ,aM,aN,aB,au,aP,ag,bg,w,LQ h]
 .simp![bo,bp,bq,bc,aO,aG,aR,ax,aK,aJ,aE,aa,ao,aW,aC,ay,af,ar,aj,aS,aH,aD,bh,a8,aV,aT,aZ,az,ba,bf,aY,aX,aw,aF,ai,ak,ah,aU,aA,aQ,aM,aN,aB,au,aP,ag,bg,w,jW];rfl
def vd{v:Val}(hk:knV v=true):(cc cV).G [v,.ty "list"]=.val (.bl (kr v)):=by cases v <;> first |rfl |cases hk
noncomputable def xk(v:Val):R3F:=match v with
 |.lst xs=>if xs=[] then .exc "NoWeights" [] else if xs.all iI=true then (if xs.length<=40 then .ok (.val .non) [] else .exc "TooMany" []) else .exc "NoWeights" []
 |_=>.exc "NoWeights" []
def Jl{v:Val}(h:kr v=false):xk v=.exc "NoWeights" []:=by cases v <;> first |rfl |cases h
noncomputable def sO:Val->Bool
 |.lst xs=>decide (xs.length<=1000)&&xs.all knV
 |v=>knV v
def Dp{v:Val}(h:sO v=true)(hl:kr v=false):knV v=true:=by cases v <;> first |(cases hl;done) |exact h
theorem jG(f:Val->Bool):∀xs:List Val,gq (xs.map λv=>.bl (f v))=some (xs.map f)
 | []=>rfl
 |x::xs=>by show (gq (xs.map λv=>.bl (f v))).map (f x :: ·)=_;rw[jG f xs];rfl
def jF(f:Val->Bool)(xs:List Val):(xs.map f).all id=xs.all f:=by rw[List.all_map];rfl
def mG{v:Val}(ha:sO v=true):cA.G [v]=xk v:=by
 unfold cA;rw[bJ];unfold iN;rcases z9 v with hv |⟨xs,rfl⟩
 .have il:=vd (Dp ha hv);rw[hv] at il;rw[Jl hv];simp![bo,bp,bq,bc,aO,aG,aR,ax,aK,aJ,aE,aa,ao,aW,aC,ay,af,ar,aj,aS,aH,aD,bh,a8,aV,aT,aZ,az,ba,bf,aY,aX,aw,aF,ai,ak,ah,aU,aA,aQ,aM,aN,aB,au,aP,ag,bg,il]
 .have ha':xs.length<=1000/\xs.all knV=true:=by simpa [sO] using ha
  have il:=vd (v:=.lst xs) rfl;unfold xk;dsimp only;by_cases h0:xs=[]
  .subst h0;simp![bo,bp,bq,bc,aO,aG,aR,ax,aK,aJ,aE,aa,ao,aW,aC,ay,af,ar,aj,aS,aH,aD,bh,a8,aV,aT,aZ,az,ba,bf,aY,aX,aw,aF,ai,ak,ah,aU,aA,aQ,aM,aN,aB,au,aP,ag,bg,il]
  .have e0:(((xs.length:Nat):Int)==0)=false:=by rw[MM];intro z;exact h0 (List.length_eq_zero_iff.mp (by omega))
   rw[if_neg h0];obtain⟨e',p',lc⟩:=oM (g:=(gtN 0).G) (F:=(bt eE (aq (av 0) bj)).G) (f:=λv=>.bl (iI v)) (λe=>∃s,e=[s]/\s.pl=true) xs [] [.no] ⟨.no,rfl,rfl⟩ (by
    rintro v hv e ⟨s,rfl,hs⟩;refine⟨[.sh v],.val (.bl (iI v)),[.sh v],?_,?_,rfl,⟨_,rfl,rfl⟩⟩
    .simp![bo,bp,bq,bc,aO,aG,aR,ax,aK,aJ,aE,aa,ao,aW,aC,ay,af,ar,aj,aS,aH,aD,bh,a8,aV,aT,aZ,az,ba,bf,aY,aX,aw,aF,ai,ak,ah,aU,aA,aQ,aM,aN,aB,au,aP,ag,bg,hs]
    .simp![bo,bp,bq,bc,aO,aG,aR,ax,aK,aJ,aE,aa,ao,aW,aC,ay,af,ar,aj,aS,aH,aD,bh,a8,aV,aT,aZ,az,ba,bf,aY,aX,aw,aF,ai,ak,ah,aU,aA,aQ,aM,aN,aB,au,aP,ag,bg,sM (MD.mp ha'.2 v hv)]) (by simp;omega)
   obtain⟨s',rfl,_⟩:=p';have cy:cY=qY.G:=rfl;rw[cy,MQ] at lc;have d_:(xs.map λv=>Val.bl (iI v)).length<=16777216:=by rw[v_];omega
   by_cases hw:xs.all iI=true
   .rw[if_pos hw];by_cases h40:xs.length<=40
    .have hd:decide ((40:Int)<((xs.length:Nat):Int))=false:=K_ (by omega);rw[if_pos h40];simp![bo,bp,bq,bc,aO,aG,aR,ax,aK,aJ,aE,aa,ao,aW,aC,ay,af,ar,aj,aS,aH,aD,bh,a8,aV,aT,aZ,az,ba,bf,aY,aX,aw,aF,ai,ak,ah,aU,aA,aQ,aM,aN,aB,au,aP,ag,bg,il,e0,cn,lc,d_,jG,jF,hw,hd]
    .have hd:decide ((40:Int)<((xs.length:Nat):Int))=true:=L_ (by omega);rw[if_neg h40];simp![bo,bp,bq,bc,aO,aG,aR,ax,aK,aJ,aE,aa,ao,aW,aC,ay,af,ar,aj,aS,aH,aD,bh,a8,aV,aT,aZ,az,ba,bf,aY,aX,aw,aF,ai,ak,ah,aU,aA,aQ,aM,aN,aB,au,aP,ag,bg,il,e0,cn,lc,d_,jG,jF,hw,hd]
   .have hw':xs.all iI=false:=Bool.eq_false_iff.mpr hw;rw[if_neg hw];simp![bo,bp,bq,bc,aO,aG,aR,ax,aK,aJ,aE,aa,ao,aW,aC,ay,af,ar,aj,aS,aH,aD,bh,a8,aV,aT,aZ,az,ba,bf,aY,aX,aw,aF,ai,ak,ah,aU,aA,aQ,aM,aN,aB,au,aP,ag,bg,il,e0,cn,lc,d_,jG,jF,hw']
def yb{ws:List Int}(h0:ws≠[])(h1:∀w∈ws,1<=w)(h2:ws.length<=40):cA.G [.lst (ws.map .int)]=.ok (.val .non) []:=by
 have ha:sO (.lst (ws.map .int))=true:=by simp only[sO,z_,NW,v_];exact⟨by omega,by rw[MD];intro v hv;obtain⟨w,_,rfl⟩:=M9.mp hv;rfl⟩
 rw[mG ha];unfold xk;dsimp only;rw[if_neg (by intro z;exact h0 (List.map_eq_nil_iff.mp z)),if_pos (by rw[MD];intro v hv;obtain⟨w,hw,rfl⟩:=M9.mp hv;exact L_ (h1 w hw)),if_pos (by rw[v_];exact h2)]
def mi{p q:Rat}(hq:q≠0):p/q=((p.num*q.den:Int):Rat)/((p.den*q.num:Int):Rat):=by
 have h1:=iw (c5 p);have h2:=iw (c5 q);have h3:q.num≠0:=λz=>hq (OG.mp z);have h4:=iw h3
 conv=>lhs;rw[hZ p,hZ q]
 rw[OF,OF];simp only[Rat.div_def,Rat.inv_mul_rev,Rat.inv_inv];rw[Rat.mul_assoc,Rat.mul_assoc,Rat.mul_comm (((p.den:Int):Rat))⁻¹,Rat.mul_assoc]
def vg{p q:Rat}{n m:Nat}(hp:Sz n p)(hq:Sz m q)(h0:0<q)(h:n+m<=8000):jt.G [fV p,fV q]=.ok (.val (fV (p/q))) []:=by
 have c1:=ck (CMulA.of hp.top hq.bot (by omega) (by omega));have c2:=ck (CMulA.of hp.bot hq.top (by omega) (by omega));have hq0:q≠0:=λz=>by rw[z] at h0;exact absurd h0 (by decide)
 have hn:q.num≠0:=λz=>hq0 (OG.mp z);have fe:=fj (a:=p.num*q.den) (b:=p.den*q.num) (ND (c5 p) hn) ((hp.bot.mul hq.top).mono h);rw[<- mi hq0] at fe;unfold jt;rw[bJ];unfold xy;rw[show fV p=.tup [.int p.num,.int p.den] from rfl,show fV q=.tup [.int q.num,.int q.den] from rfl];simp![bo,bp,bq,bc,aO,aG,aR,ax,aK,aJ,aE,aa,ao,aW,aC,ay,af,ar,aj,aS,aH,aD,bh,a8,aV,aT,aZ,az,ba,bf,aY,aX,aw,aF,ai,ak,ah,aU,aA,aQ,aM,aN,aB,au,aP,ag,bg,c1,c2,fe]
def AK(b:Bx):Str:=if b.w<b.h then "down" else "across"
def ug{b:Bx}{n:Nat}(hb:b.Ok)(hs:b.Sz n)(h:n<=8000):fX.G [bV b]=.ok (.val (.str (AK b))) []:=by
 have cb:=iq hb;have il:=fL hs.w hs.h (by omega) (by omega);have ib:(bV b).items=some [fV b.l,fV b.t,fV b.w,fV b.h]:=rfl;unfold fX AK;rw[bJ];unfold ny;by_cases hl:b.w<b.h
 .rw[if_pos hl];rw[L_ hl] at il;simp![bo,bp,bq,bc,aO,aG,aR,ax,aK,aJ,aE,aa,ao,aW,aC,ay,af,ar,aj,aS,aH,aD,bh,a8,aV,aT,aZ,az,ba,bf,aY,aX,aw,aF,ai,ak,ah,aU,aA,aQ,aM,aN,aB,au,aP,ag,bg,cb,ib,il]
 .rw[if_neg hl];rw[K_ hl] at il;simp![bo,bp,bq,bc,aO,aG,aR,ax,aK,aJ,aE,aa,ao,aW,aC,ay,af,ar,aj,aS,aH,aD,bh,a8,aV,aT,aZ,az,ba,bf,aY,aX,aw,aF,ai,ak,ah,aU,aA,aQ,aM,aN,aB,au,aP,ag,bg,cb,ib,il]
def rV:ek (.str "down") (.str "across")=some false:=by rw[L3.eq_str (by decide) (by decide)];exact Nd some (by decide)
def tF:ek (.str "across") (.str "across")=some true:=by rw[L3.eq_str (by decide) (by decide)];exact Nd some (by decide)
def Ar{b:Bx}{n:Nat}(hb:b.Ok)(hs:b.Sz n)(h:n+n<=8000):js.G [bV b]=.ok (.val (fV (dm b))) []:=by
 have lw:=ug hb hs (by omega);have ib:(bV b).items=some [fV b.l,fV b.t,fV b.w,fV b.h]:=rfl;have o1:=vg hs.w hs.h hb.2 h;have o2:=vg hs.h hs.w hb.1 h;unfold js dm;rw[bJ];unfold uq;unfold AK at lw;by_cases hl:b.w<b.h
 .rw[if_pos hl] at lw ⊢;simp![bo,bp,bq,bc,aO,aG,aR,ax,aK,aJ,aE,aa,ao,aW,aC,ay,af,ar,aj,aS,aH,aD,bh,a8,aV,aT,aZ,az,ba,bf,aY,aX,aw,aF,ai,ak,ah,aU,aA,aQ,aM,aN,aB,au,aP,ag,bg,lw,ib,o1,o2,rV]
 .rw[if_neg hl] at lw ⊢;simp![bo,bp,bq,bc,aO,aG,aR,ax,aK,aJ,aE,aa,ao,aW,aC,ay,af,ar,aj,aS,aH,aD,bh,a8,aV,aT,aZ,az,ba,bf,aY,aX,aw,aF,ai,ak,ah,aU,aA,aQ,aM,aN,aB,au,aP,ag,bg,lw,ib,o1,o2,tF]
def Sz.over{p q:Rat}{n m:Nat}(hp:Sz n p)(hq:Sz m q)(h0:0<q):Sz (n+m) (p/q):=by
 have hq0:q≠0:=λz=>by rw[z] at h0;exact absurd h0 (by decide)
 have hn:q.num≠0:=λz=>hq0 (OG.mp z);rw[mi hq0];exact Sz.div (ND (c5 p) hn) (hp.top.mul hq.bot) (hp.bot.mul hq.top) (n+m) (y_ _) (y_ _)
def sd{b:Bx}{n:Nat}(hb:b.Ok)(hs:b.Sz n):Sz (n+n) (dm b):=by
 unfold dm;split
 .exact Sz.over hs.h hs.w hb.1
 .exact Sz.over hs.w hs.h hb.2
def rF{p q:Rat}{n m:Nat}(hp:Sz n p)(hq:Sz m q)(h1:n<=100000)(h2:m<=100000):eB.G [.lst [fV p,fV q]]=.ok (.val (fV (if p<q then q else p))) []:=by
 have l1:=fL hp hp h1 h1;have l2:=fL hp hq h1 h2;rw[K_ (Rat.lt_irrefl:¬ p<p)] at l1;unfold eB;rw[bJ];unfold j5 jr;by_cases hl:p<q
 .rw[L_ hl] at l2;rw[if_pos hl];simp![bo,bp,bq,bc,aO,aG,aR,ax,aK,aJ,aE,aa,ao,aW,aC,ay,af,ar,aj,aS,aH,aD,bh,a8,aV,aT,aZ,az,ba,bf,aY,aX,aw,aF,ai,ak,ah,aU,aA,aQ,aM,aN,aB,au,aP,ag,bg,bZ,l1,l2]
 .rw[K_ hl] at l2;rw[if_neg hl];simp![bo,bp,bq,bc,aO,aG,aR,ax,aK,aJ,aE,aa,ao,aW,aC,ay,af,ar,aj,aS,aH,aD,bh,a8,aV,aT,aZ,az,ba,bf,aY,aX,aw,aF,ai,ak,ah,aU,aA,aQ,aM,aN,aB,au,aP,ag,bg,bZ,l1,l2]
noncomputable def prV(p:Rat×Rat):Val:=.tup [fV p.1,fV p.2]
theorem uY{s l:Rat}{n m:Nat}{W:Int}{wv:Val}(hs:Sz n s)(hl:Sz n l)(hW:0<W)(mW:Sm m W)(h:n+n+m<=8000):∀(ws:List Int) (a:Int) (acc:List (Rat×Rat)) (s6 s7:Sl),s6.pl=true->s7.pl=true->0<=a->(∀w∈ws,0<=w)->a+ws.sum<=W->acc.length+ws.length<=16777216->∃s6' s7',fb (gtN 6).G iJ.G (ws.map .int) [.sh (fV s),.sh (fV l),.sh wv,.sh (.int W),.sh (.int a),.ow (.lst (acc.map prV)),s6,s7]=.nx [.sh (fV s),.sh (fV l),.sh wv,.sh (.int W),.sh (.int (a+ws.sum)),.ow (.lst ((acc++shL s l W a ws).map prV)),s6',s7']
 | [],a,acc,s6,s7,h6,h7,ha,hw,hsum,d_=>⟨s6,s7,by rw[M5,jy,List.sum_nil,Int.add_zero];unfold shL;rw[Nn]⟩
 |
  w::ws,a,acc,s6,s7,h6,h7,ha,hw,hsum,d_=>by
  have hw0:=hw w (H_ ..);have hws:0<=ws.sum:=by
   have:∀l:List Int,(∀w∈l,0<=w)->0<=l.sum:=by
    intro l;induction l with
    |nil=>intro _;simp
    |cons x l ih=>intro hx;rw[M3];have:=hx x (H_ ..);have:=ih λw hw=>hx w (A_ _ hw);omega
   exact this ws λx hx=>hw x (A_ _ hx)
  rw[M3] at hsum;rw[MK] at d_;have sa:Sm m a:=mW.of_le (by omega);have sw:Sm m w:=mW.of_le (by omega);have f1:=fj (a:=a) (b:=W) (by omega) (mW.mono (by omega));have f2:=fj (a:=w) (b:=W) (by omega) (mW.mono (by omega));have z1:Sz m ((a:Rat)/(W:Rat)):=Sz.div (by omega) sa mW m (y_ _) (y_ _);have z2:Sz m ((w:Rat)/(W:Rat)):=Sz.div (by omega) sw mW m (y_ _) (y_ _);have t1:=tw hl z1 (by omega);have t2:=tw hl z2 (by omega);have ad:=Av hs (hl.mul z1) (by omega);have ll:(acc.map prV).length<16777216:=by rw[v_];omega
  obtain⟨t6,t7,ih⟩:=uY (wv:=wv) hs hl hW mW h ws (a+w) (acc++[(s+l*((a:Rat)/(W:Rat)),l*((w:Rat)/(W:Rat)))]) (.sh (.int w)) (.sh (fV (s+l*((a:Rat)/(W:Rat))))) rfl rfl (by omega) (λx hx=>hw x (A_ _ hx)) (by omega) (by simp;omega);refine⟨t6,t7,?_⟩;have g1:(gtN 6).G (.int w) [.sh (fV s),.sh (fV l),.sh wv,.sh (.int W),.sh (.int a),.ow (.lst (acc.map prV)),s6,s7]=some [.sh (fV s),.sh (fV l),.sh wv,.sh (.int W),.sh (.int a),.ow (.lst (acc.map prV)),.sh (.int w),s7]:=by simp![bo,bp,bq,bc,aO,aG,aR,ax,aK,aJ,aE,aa,ao,aW,aC,ay,af,ar,aj,aS,aH,aD,bh,a8,aV,aT,aZ,az,ba,bf,aY,aX,aw,aF,ai,ak,ah,aU,aA,aQ,aM,aN,aB,au,aP,ag,bg,h6]
  have b1:iJ.G [.sh (fV s),.sh (fV l),.sh wv,.sh (.int W),.sh (.int a),.ow (.lst (acc.map prV)),.sh (.int w),s7]=.nx [.sh (fV s),.sh (fV l),.sh wv,.sh (.int W),.sh (.int (a+w)),.ow (.lst ((acc++[(s+l*((a:Rat)/(W:Rat)),l*((w:Rat)/(W:Rat)))]).map prV)),.sh (.int w),.sh (fV (s+l*((a:Rat)/(W:Rat))))]:=by unfold iJ;rw[MY];simp![bo,bp,bq,bc,aO,aG,aR,ax,aK,aJ,aE,aa,ao,aW,aC,ay,af,ar,aj,aS,aH,aD,bh,a8,aV,aT,aZ,az,ba,bf,aY,aX,aw,aF,ai,ak,ah,aU,aA,aQ,aM,aN,aB,au,aP,ag,bg,h7,f1,f2,t1,t2,ad,ll,prV]
  rw[B_,bZ,g1];simp only[b1,iU];rw[ih,M3];rw[show shL s l W a (w::ws)=(s+l*((a:Rat)/(W:Rat)),l*((w:Rat)/(W:Rat)))::shL s l W (a+w) ws from rfl,Ni,show a+w+ws.sum=a+(w+ws.sum) by omega];rfl
def o6{s l:Rat}{n m:Nat}{ws:List Int}(hs:Sz n s)(hl:Sz n l)(hw:∀w∈ws,0<=w)(h0:0<ws.sum)(mW:Sm m ws.sum)(h:n+n+m<=8000)(d_:ws.length<=1000):gp.G [fV s,fV l,.lst (ws.map .int)]=.ok (.new (.lst ((shL s l ws.sum 0 ws).map prV))) []:=by obtain⟨s6,s7,lo⟩:=uY (wv:=.lst (ws.map .int)) hs hl h0 mW h ws 0 [] .no .no rfl rfl (by omega) hw (by omega) (by simp;omega);rw[MQ,M5] at lo;unfold gp;rw[bJ];unfold sC;simp![bo,bp,bq,bc,aO,aG,aR,ax,aK,aJ,aE,aa,ao,aW,aC,ay,af,ar,aj,aS,aH,aD,bh,a8,aV,aT,aZ,az,ba,bf,aY,aX,aw,aF,ai,ak,ah,aU,aA,aQ,aM,aN,aB,au,aP,ag,bg,lo]
def FC{way:Str}(hw:way="across" \/ way="down"):fk.G [.str way]=.ok (.val .non) []:=by
 have i1:∀x:Str,(cc cV).G [.str x,.ty "str"]=.val (.bl true):=λ_=>rfl;have i2:bIn.G (.str way) (.tup [.str "across",.str "down"])=.val (.bl true):=by rcases hw with rfl |rfl <;> rfl
 have e1:iC.G [.str way]=.ok (.val (.bl true)) []:=by unfold iC;rw[bJ];unfold tH;simp![bo,bp,bq,bc,aO,aG,aR,ax,aK,aJ,aE,aa,ao,aW,aC,ay,af,ar,aj,aS,aH,aD,bh,a8,aV,aT,aZ,az,ba,bf,aY,aX,aw,aF,ai,ak,ah,aU,aA,aQ,aM,aN,aB,au,aP,ag,bg,i1,i2]
 unfold fk;rw[bJ];unfold lN;simp![bo,bp,bq,bc,aO,aG,aR,ax,aK,aJ,aE,aa,ao,aW,aC,ay,af,ar,aj,aS,aH,aD,bh,a8,aV,aT,aZ,az,ba,bf,aY,aX,aw,aF,ai,ak,ah,aU,aA,aQ,aM,aN,aB,au,aP,ag,bg,e1]
def xC{b:Bx}{n m:Nat}{way:Str}{ws:List Int}(hb:b.Ok)(hs:b.Sz n)(hway:way="across" \/ way="down")(h0:ws≠[])(hw:∀w∈ws,1<=w)(mW:Sm m ws.sum)(h:n+n+m<=8000)(d_:ws.length<=40):gh.G [bV b,.str way,.lst (ws.map .int)]=.ok (.new (.lst ((fZ b way ws).map bV))) []:=by
 have cw:=yb h0 hw d_;have cy:=FC hway;have sp:0<ws.sum:=by
  cases ws with
  |nil=>exact absurd rfl h0
  |
   cons x l=>
   rw[M3]
   have:=hw x (H_ ..)
   have:∀l:List Int,(∀w∈l,1<=w)->0<=l.sum:=by
    intro l;induction l with
    |nil=>intro _;simp
    |cons x l ih=>intro hx;rw[M3];have:=hx x (H_ ..);have:=ih λw hw=>hx w (A_ _ hw);omega
   have:=this l λx hx=>hw x (A_ _ hx)
   omega
 have cb:cR.G [.tup [fV b.l,fV b.t,fV b.w,fV b.h]]=.ok (.val .non) []:=iq hb;have sh1:=o6 hs.l hs.w (λw z=>by have:=hw w z;omega) sp mW h (by omega);have sh2:=o6 hs.t hs.h (λw z=>by have:=hw w z;omega) sp mW h (by omega);show gh.G [.tup [fV b.l,fV b.t,fV b.w,fV b.h],.str way,.lst (ws.map .int)]=_;unfold gh fZ;rw[bJ];unfold sV;rcases hway with rfl |rfl
 .rw[if_pos (rfl:("across" : Str)="across")];have ln:=oo b.l b.w ws.sum ws 0;obtain⟨e',⟨s,t,rfl,_,_⟩,lc⟩:=eu (g:=(gtT 2 (bQ (gtN 0) (bQ (gtN 1) eI))).G) (F:=(dH (aq (av 0) (aq (av 2) (aq (av 1) (aq (av 3) bj))))).G) prV (λp=>bV ⟨p.1,b.t,p.2,b.h⟩) (λe=>∃s t,e=[s,t,.sh (fV b.t),.sh (fV b.h)]/\s.pl=true/\t.pl=true) (shL b.l b.w ws.sum 0 ws) [] [.no,.no,.sh (fV b.t),.sh (fV b.h)] ⟨.no,.no,rfl,rfl,rfl⟩ (by
   rintro p hp e ⟨s,t,rfl,hs,ht⟩;refine⟨[.sh (fV p.1),.sh (fV p.2),.sh (fV b.t),.sh (fV b.h)],.val (bV ⟨p.1,b.t,p.2,b.h⟩),[.sh (fV p.1),.sh (fV p.2),.sh (fV b.t),.sh (fV b.h)],?_,?_,rfl,⟨_,_,rfl,rfl,rfl⟩⟩
   .simp![bo,bp,bq,bc,aO,aG,aR,ax,aK,aJ,aE,aa,ao,aW,aC,ay,af,ar,aj,aS,aH,aD,bh,a8,aV,aT,aZ,az,ba,bf,aY,aX,aw,aF,ai,ak,ah,aU,aA,aQ,aM,aN,aB,au,aP,ag,bg,prV,hs,ht]
   .simp![bo,bp,bq,bc,aO,aG,aR,ax,aK,aJ,aE,aa,ao,aW,aC,ay,af,ar,aj,aS,aH,aD,bh,a8,aV,aT,aZ,az,ba,bf,aY,aX,aw,aF,ai,ak,ah,aU,aA,aQ,aM,aN,aB,au,aP,ag,bg,bV]) (by rw[ln,M1];omega)
  rw[MQ] at lc;have ll:((shL b.l b.w ws.sum 0 ws).map λp=>bV ⟨p.1,b.t,p.2,b.h⟩).length<=16777216:=by rw[v_,ln];omega
  rw[Nl,show (bV ∘ λp:Rat×Rat=>(⟨p.1,b.t,p.2,b.h⟩:Bx))=λp=>bV ⟨p.1,b.t,p.2,b.h⟩ from rfl];simp![bo,bp,bq,bc,aO,aG,aR,ax,aK,aJ,aE,aa,ao,aW,aC,ay,af,ar,aj,aS,aH,aD,bh,a8,aV,aT,aZ,az,ba,bf,aY,aX,aw,aF,ai,ak,ah,aU,aA,aQ,aM,aN,aB,au,aP,ag,bg,cb,cy,cw,tF,sh1,lc,ll]
 .have hne:¬ (("down" : Str)="across"):=by decide
  rw[if_neg hne];have ln:=oo b.t b.h ws.sum ws 0;obtain⟨e',⟨s,t,rfl,_,_⟩,lc⟩:=eu (g:=(gtT 2 (bQ (gtN 0) (bQ (gtN 1) eI))).G) (F:=(dH (aq (av 2) (aq (av 0) (aq (av 3) (aq (av 1) bj))))).G) prV (λp=>bV ⟨b.l,p.1,b.w,p.2⟩) (λe=>∃s t,e=[s,t,.sh (fV b.l),.sh (fV b.w)]/\s.pl=true/\t.pl=true) (shL b.t b.h ws.sum 0 ws) [] [.no,.no,.sh (fV b.l),.sh (fV b.w)] ⟨.no,.no,rfl,rfl,rfl⟩ (by
   rintro p hp e ⟨s,t,rfl,hs,ht⟩;refine⟨[.sh (fV p.1),.sh (fV p.2),.sh (fV b.l),.sh (fV b.w)],.val (bV ⟨b.l,p.1,b.w,p.2⟩),[.sh (fV p.1),.sh (fV p.2),.sh (fV b.l),.sh (fV b.w)],?_,?_,rfl,⟨_,_,rfl,rfl,rfl⟩⟩
   .simp![bo,bp,bq,bc,aO,aG,aR,ax,aK,aJ,aE,aa,ao,aW,aC,ay,af,ar,aj,aS,aH,aD,bh,a8,aV,aT,aZ,az,ba,bf,aY,aX,aw,aF,ai,ak,ah,aU,aA,aQ,aM,aN,aB,au,aP,ag,bg,prV,hs,ht]
   .simp![bo,bp,bq,bc,aO,aG,aR,ax,aK,aJ,aE,aa,ao,aW,aC,ay,af,ar,aj,aS,aH,aD,bh,a8,aV,aT,aZ,az,ba,bf,aY,aX,aw,aF,ai,ak,ah,aU,aA,aQ,aM,aN,aB,au,aP,ag,bg,bV]) (by rw[ln,M1];omega)
  rw[MQ] at lc;have ll:((shL b.t b.h ws.sum 0 ws).map λp=>bV ⟨b.l,p.1,b.w,p.2⟩).length<=16777216:=by rw[v_,ln];omega
  rw[Nl,show (bV ∘ λp:Rat×Rat=>(⟨b.l,p.1,b.w,p.2⟩:Bx))=λp=>bV ⟨b.l,p.1,b.w,p.2⟩ from rfl];simp![bo,bp,bq,bc,aO,aG,aR,ax,aK,aJ,aE,aa,ao,aW,aC,ay,af,ar,aj,aS,aH,aD,bh,a8,aV,aT,aZ,az,ba,bf,aY,aX,aw,aF,ai,ak,ah,aU,aA,aQ,aM,aN,aB,au,aP,ag,bg,cb,cy,cw,rV,sh2,lc,ll]
def nR{ws nums:List Int}(hr:Inr ws nums)(hl:nums.length<=1000):∃s,lcV (gtN 0).G qY.G (pOp bIx (av 1) (av 0)).G (nums.map .int) [] [.no,.sh (.lst (ws.map .int))]=.ok ((nums.map (d7 ws)).map Val.int) [s,.sh (.lst (ws.map .int))]:=by
 obtain⟨e',⟨s,rfl,_⟩,lc⟩:=eu (g:=(gtN 0).G) (F:=(pOp bIx (av 1) (av 0)).G) Val.int (λi=>.int (d7 ws i)) (λe=>∃s,e=[s,.sh (.lst (ws.map .int))]/\s.pl=true) nums [] [.no,.sh (.lst (ws.map .int))] ⟨.no,rfl,rfl⟩ (by
  rintro i hi e ⟨s,rfl,hs⟩;have a1:=Kr (hr i hi).1 (hr i hi).2;refine⟨[.sh (.int i),.sh (.lst (ws.map .int))],.val (.int (d7 ws i)),[.sh (.int i),.sh (.lst (ws.map .int))],?_,?_,rfl,⟨_,rfl,rfl⟩⟩
  .simp![bo,bp,bq,bc,aO,aG,aR,ax,aK,aJ,aE,aa,ao,aW,aC,ay,af,ar,aj,aS,aH,aD,bh,a8,aV,aT,aZ,az,ba,bf,aY,aX,aw,aF,ai,ak,ah,aU,aA,aQ,aM,aN,aB,au,aP,ag,bg,hs]
  .simp![bo,bp,bq,bc,aO,aG,aR,ax,aK,aJ,aE,aa,ao,aW,aC,ay,af,ar,aj,aS,aH,aD,bh,a8,aV,aT,aZ,az,ba,bf,aY,aX,aw,aF,ai,ak,ah,aU,aA,aQ,aM,aN,aB,au,aP,ag,bg,a1]) (by simp;omega)
 rw[MQ,show nums.map (λi=>Val.int (d7 ws i))=(nums.map (d7 ws)).map Val.int by rw[Nl];rfl] at lc;exact⟨s,lc⟩
def ki{ws nums:List Int}(hr:Inr ws nums)(hl:nums.length<=1000):dM.G [liV nums,liV ws]=.ok (.val (.int (wt ws nums))) []:=by
 obtain⟨s,lc⟩:=nR hr hl;have ll:((nums.map (d7 ws)).map Val.int).length<=16777216:=by rw[v_,v_];omega
 show dM.G [.lst (nums.map .int),.lst (ws.map .int)]=_;unfold dM wt;rw[bJ];unfold lH;simp![bo,bp,bq,bc,aO,aG,aR,ax,aK,aJ,aE,aa,ao,aW,aC,ay,af,ar,aj,aS,aH,aD,bh,a8,aV,aT,aZ,az,ba,bf,aY,aX,aw,aF,ai,ak,ah,aU,aA,aQ,aM,aN,aB,au,aP,ag,bg,cn,lc,ll]
theorem kA{B:PSt}(hB:B=(bF false 2 (pOp b8 (av 2) (pLC (bP (av 2)) [none,some 3] (by decide) (gtN 0) qY (pOp b8 (av 0) (dk (aq (av 1) bj))))))){nv kv:Val}:∀(rest:List Int) (L:List (List Int)) (s3:Sl),s3.pl=true->L.length*2^rest.length<=1000000->(∀l∈L,l.length+rest.length<=1000)->∃s3',fb (gtN 3).G B.G (rest.map .int) [.sh nv,.sh kv,.sh (.lst (L.map liV)),s3]=.nx [.sh nv,.sh kv,.sh (.lst ((fQ L rest).map liV)),s3']
 | [],L,s3,h3,hb,hl=>⟨s3,by rw[M5,jy];rfl⟩
 |
  x::rest,L,s3,h3,hb,hl=>by
  rw[MK,OD] at hb;have hpow:1<=2^rest.length:=Nat.one_le_two_pow;have hb1:L.length<=1000000:=G_ (Nat.le_mul_of_pos_right _ (Nat.mul_pos hpow (by decide))) hb;have hll:(L++L.map λl=>l++[x]).length=L.length+L.length:=by rw[E_,v_]
  obtain⟨s',ih⟩:=kA hB (nv:=nv) (kv:=kv) rest (L++L.map λl=>l++[x]) (.sh (.int x)) rfl (by
   rw[hll,<- Nat.two_mul,N9 2,OL,N9 2];exact hb) (λl h=>by
   rcases M7.mp h with h |h
   .have:=hl l h
    rw[MK] at this;omega
   .obtain⟨l',h',rfl⟩:=M9.mp h
    have:=hl l' h'
    rw[MK] at this;rw[E_];show l'.length+1+_<=_;omega)
  refine⟨s',?_⟩;have g1:(gtN 3).G (.int x) [.sh nv,.sh kv,.sh (.lst (L.map liV)),s3]=some [.sh nv,.sh kv,.sh (.lst (L.map liV)),.sh (.int x)]:=by simp![bo,bp,bq,bc,aO,aG,aR,ax,aK,aJ,aE,aa,ao,aW,aC,ay,af,ar,aj,aS,aH,aD,bh,a8,aV,aT,aZ,az,ba,bf,aY,aX,aw,aF,ai,ak,ah,aU,aA,aQ,aM,aN,aB,au,aP,ag,bg,h3]
  obtain⟨e',⟨s,rfl,_⟩,lc⟩:=eu (g:=(gtN 0).G) (F:=(pOp b8 (av 0) (dk (aq (av 1) bj))).G) liV (λl=>liV (l++[x])) (λe=>∃s,e=[s,.sh (.int x)]/\s.pl=true) L [] [.no,.sh (.int x)] ⟨.no,rfl,rfl⟩ (by
   rintro l h e ⟨s,rfl,hs⟩;have ll:=hl l h;have cl:(l.map Val.int).length+1<=16777216:=by rw[v_];omega
   have e2:liV (l++[x])=.lst (l.map .int++[.int x]):=by unfold liV;rw[MY];rfl
   refine⟨[.sh (liV l),.sh (.int x)],.new (liV (l++[x])),[.sh (liV l),.sh (.int x)],?_,?_,rfl,⟨_,rfl,rfl⟩⟩
   .simp![bo,bp,bq,bc,aO,aG,aR,ax,aK,aJ,aE,aa,ao,aW,aC,ay,af,ar,aj,aS,aH,aD,bh,a8,aV,aT,aZ,az,ba,bf,aY,aX,aw,aF,ai,ak,ah,aU,aA,aQ,aM,aN,aB,au,aP,ag,bg,hs]
   .rw[e2];simp![bo,bp,bq,bc,aO,aG,aR,ax,aK,aJ,aE,aa,ao,aW,aC,ay,af,ar,aj,aS,aH,aD,bh,a8,aV,aT,aZ,az,ba,bf,aY,aX,aw,aF,ai,ak,ah,aU,aA,aQ,aM,aN,aB,au,aP,ag,bg,liV,cl]) (by rw[M1];omega)
  rw[MQ] at lc;have c1:(L.map λl=>liV (l++[x])).length<=16777216:=by rw[v_];omega
  have c2:(L.map liV).length+(L.map λl=>liV (l++[x])).length<=16777216:=by rw[v_,v_];omega
  have hcat:L.map liV++(L.map λl=>liV (l++[x]))=(L++L.map λl=>l++[x]).map liV:=by simp
  have b1:B.G [.sh nv,.sh kv,.sh (.lst (L.map liV)),.sh (.int x)]=.nx [.sh nv,.sh kv,.sh (.lst (L.map liV++(L.map λl=>liV (l++[x])))),.sh (.int x)]:=by rw[hB];simp![bo,bp,bq,bc,aO,aG,aR,ax,aK,aJ,aE,aa,ao,aW,aC,ay,af,ar,aj,aS,aH,aD,bh,a8,aV,aT,aZ,az,ba,bf,aY,aX,aw,aF,ai,ak,ah,aU,aA,aQ,aM,aN,aB,au,aP,ag,bg,cn,lc,c1,c2]
  rw[hcat] at b1;rw[B_,bZ,g1];simp only[b1,iU];exact ih
def xx:ek (.str "order") (.str "order")=some true:=by rw[L3.eq_str (by decide) (by decide)];exact Nd some (by decide)
def xI:ek (.str "any") (.str "order")=some false:=by rw[L3.eq_str (by decide) (by decide)];exact Nd some (by decide)
def uK{n:Nat}(h:n<=1000):oy [.int 1,.int (n:Nat)]=some ((List.range' 1 (n-1)).map λi=>Val.int (i:Nat)):=by unfold oy;dsimp only;rw[if_pos ⟨⟨by decide,by decide⟩,⟨by omega,by omega⟩⟩];unfold oC;rw[List.range'_eq_map_range,Nl,show (((n:Nat):Int)-1).toNat=n-1 by omega];congr 1
def vn{nums:List Int}(hl:nums.length<=1000):∃s,lcV (gtN 0).G qY.G (pSl (av 1) oN (oS (av 0))).G ((List.range' 1 (nums.length-1)).map λi=>Val.int (i:Nat)) [] [.no,.sh (.lst (nums.map .int))]=.ok ((cI "order" nums).map liV) [s,.sh (.lst (nums.map .int))]:=by
 obtain⟨e',⟨s,rfl,_⟩,lc⟩:=eu (g:=(gtN 0).G) (F:=(pSl (av 1) oN (oS (av 0))).G) (λi:Nat=>Val.int (i:Nat)) (λi=>liV (nums.take i)) (λe=>∃s,e=[s,.sh (.lst (nums.map .int))]/\s.pl=true) (List.range' 1 (nums.length-1)) [] [.no,.sh (.lst (nums.map .int))] ⟨.no,rfl,rfl⟩ (by
  rintro i hi e ⟨s,rfl,hs⟩;have sl:aSl (.lst (nums.map Val.int)) none (some ((i:Nat):Int))=.new (.lst ((nums.take i).map .int)):=by rw[jx,tK,List.map_take]
  refine⟨[.sh (.int (i:Nat)),.sh (.lst (nums.map .int))],.new (liV (nums.take i)),[.sh (.int (i:Nat)),.sh (.lst (nums.map .int))],?_,?_,rfl,⟨_,rfl,rfl⟩⟩
  .simp![bo,bp,bq,bc,aO,aG,aR,ax,aK,aJ,aE,aa,ao,aW,aC,ay,af,ar,aj,aS,aH,aD,bh,a8,aV,aT,aZ,az,ba,bf,aY,aX,aw,aF,ai,ak,ah,aU,aA,aQ,aM,aN,aB,au,aP,ag,bg,hs]
  .simp![bo,bp,bq,bc,aO,aG,aR,ax,aK,aJ,aE,aa,ao,aW,aC,ay,af,ar,aj,aS,aH,aD,bh,a8,aV,aT,aZ,az,ba,bf,aY,aX,aw,aF,ai,ak,ah,aU,aA,aQ,aM,aN,aB,au,aP,ag,bg,liV,sl]) (by simp;omega)
 rw[MQ] at lc;refine⟨s,?_⟩;rw[lc];unfold cI;rw[if_pos rfl,Nl];rfl
def vL{nums:List Int}{kind:Str}(hk:kind="order" \/ kind="any")(h2:nums≠[])(hl:nums.length<=10):d6.G [liV nums,.str kind]=.ok (.new (.lst ((cI kind nums).map liV))) []:=by
 have d_:=mM (kind:=kind) hl;rcases hk with rfl |rfl
 .obtain⟨s,lc⟩:=vn (nums:=nums) (by omega);have rg:=uK (n:=nums.length) (by omega);have ll:((cI "order" nums).map liV).length<=16777216:=by rw[v_];omega
  have lm:((nums.map Val.int).length:Nat)=nums.length:=v_ ..;show d6.G [.lst (nums.map .int),.str "order"]=_;unfold d6;rw[bJ];unfold kD;simp![bo,bp,bq,bc,aO,aG,aR,ax,aK,aJ,aE,aa,ao,aW,aC,ay,af,ar,aj,aS,aH,aD,bh,a8,aV,aT,aZ,az,ba,bf,aY,aX,aw,aF,ai,ak,ah,aU,aA,aQ,aM,aN,aB,au,aP,ag,bg,xx,lm,rg,cn,lc,ll]
 .match nums,h2 with
  |
   x::rest,h2=>
   rw[MK] at hl;obtain⟨s',q4⟩:=kA (B:=nC) rfl (nv:=.lst ((x::rest).map .int)) (kv:=.str "any") rest [[x]] .no rfl (by have:2^rest.length<=2^9:=MZ (by decide) (by omega);simp;omega) (by intro l hl';rw[M0] at hl';subst hl';simp;omega);have s1:aSl (.lst (Val.int x::rest.map .int)) none (some 1)=.new (liV [x]):=by rw[jx,show (some 1:Option Int)=some ((1:Nat):Int) from rfl,tK];rfl
   have s2:aSl (.lst (Val.int x::rest.map .int)) (some 1) none=.new (.lst (rest.map .int)):=by rw[jx,show (some 1:Option Int)=some ((1:Nat):Int) from rfl,tS];rfl
   have s3:aSl (.lst ((fQ [[x]] rest).map liV)) none (some (-1))=.new (.lst ((cI "any" (x::rest)).map liV)):=by rw[jx,u7];unfold cI;rw[if_neg (by decide),List.map_dropLast]
   show d6.G [.lst ((x::rest).map .int),.str "any"]=_;unfold d6;rw[bJ];unfold kD;rw[show [[x]].map liV=[liV [x]] from rfl,show (x::rest).map Val.int=Val.int x::rest.map Val.int from rfl] at q4;simp![bo,bp,bq,bc,aO,aG,aR,ax,aK,aJ,aE,aa,ao,aW,aC,ay,af,ar,aj,aS,aH,aD,bh,a8,aV,aT,aZ,az,ba,bf,aY,aX,aw,aF,ai,ak,ah,aU,aA,aQ,aM,aN,aB,au,aP,ag,bg,xI,s1,s2,q4,s3]
def yt(nums l:List Int)(hl:nums.length<=1000):∃s,lcV (gtN 0).G (qOf (pOp jB (av 0) (av 1))).G (av 0).G (nums.map .int) [] [.no,.sh (liV l)]=.ok ((rst nums l).map .int) [s,.sh (liV l)]:=by
 obtain⟨e',⟨s,rfl,_⟩,lc⟩:=oF (g:=(gtN 0).G) (c:=(qOf (pOp jB (av 0) (av 1))).G) (F:=(av 0).G) (λx=>!l.contains x) Val.int Val.int (λe=>∃s,e=[s,.sh (liV l)]/\s.pl=true) nums [] [.no,.sh (liV l)] ⟨.no,rfl,rfl⟩ (by
  rintro x hx e ⟨s,rfl,hs⟩;have k1:jB.G (.int x) (liV l)=.val (.bl (!l.contains x)):=zd l x;refine⟨[.sh (.int x),.sh (liV l)],[.sh (.int x),.sh (liV l)],?_,?_,⟨_,rfl,rfl⟩,λ_=>⟨.val (.int x),[.sh (.int x),.sh (liV l)],?_,rfl,⟨_,rfl,rfl⟩⟩⟩
  .simp![bo,bp,bq,bc,aO,aG,aR,ax,aK,aJ,aE,aa,ao,aW,aC,ay,af,ar,aj,aS,aH,aD,bh,a8,aV,aT,aZ,az,ba,bf,aY,aX,aw,aF,ai,ak,ah,aU,aA,aQ,aM,aN,aB,au,aP,ag,bg,hs]
  .simp![bo,bp,bq,bc,aO,aG,aR,ax,aK,aJ,aE,aa,ao,aW,aC,ay,af,ar,aj,aS,aH,aD,bh,a8,aV,aT,aZ,az,ba,bf,aY,aX,aw,aF,ai,ak,ah,aU,aA,aQ,aM,aN,aB,au,aP,ag,bg,k1]
  .simp![bo,bp,bq,bc,aO,aG,aR,ax,aK,aJ,aE,aa,ao,aW,aC,ay,af,ar,aj,aS,aH,aD,bh,a8,aV,aT,aZ,az,ba,bf,aY,aX,aw,aF,ai,ak,ah,aU,aA,aQ,aM,aN,aB,au,aP,ag,bg]) (by rw[M1];omega)
 rw[MQ] at lc;exact⟨s,lc⟩
def IZ{nums l:List Int}{kv:Val}{acc:List (Str×List Int×List Int)}{s4:Sl}(h4:s4.pl=true)(hl:nums.length<=1000)(ha:acc.length<=1000000):gQ.G [.sh (liV nums),.sh kv,.ow (.lst (acc.map cuV)),.sh (liV l),s4]=.nx [.sh (liV nums),.sh kv,.ow (.lst ((acc++f9 nums l).map cuV)),.sh (liV l),.sh (.str "down")]:=by
 obtain⟨s,lc⟩:=yt nums l hl;have lr:((rst nums l).map Val.int).length<=16777216:=by
  rw[v_]
  have:=List.length_filter_le (λx=>!l.contains x) nums
  show (nums.filter _).length<=_;omega
 have it:(liV l).items=some (l.map .int):=rfl;have sq:fC (.val (.lst (nums.map .int)))=fC (.val (liV nums)):=rfl;have b1:∀(acc:List (Str×List Int×List Int)) (way:Str),acc.length<=1000001->jJ.G [.sh (liV nums),.sh kv,.ow (.lst (acc.map cuV)),.sh (liV l),.sh (.str way)]=.nx [.sh (liV nums),.sh kv,.ow (.lst ((acc++[(way,l,rst nums l)]).map cuV)),.sh (liV l),.sh (.str way)]:=by
  intro acc way ha;have la:(acc.map cuV).length<16777216:=by rw[v_];omega
  have e2:(acc++[(way,l,rst nums l)]).map cuV=acc.map cuV++[.tup [.str way,.lst (l.map .int),.lst ((rst nums l).map .int)]]:=by rw[MY];rfl
  rw[e2];unfold jJ;unfold liV at lc ⊢;simp![bo,bp,bq,bc,aO,aG,aR,ax,aK,aJ,aE,aa,ao,aW,aC,ay,af,ar,aj,aS,aH,aD,bh,a8,aV,aT,aZ,az,ba,bf,aY,aX,aw,aF,ai,ak,ah,aU,aA,aQ,aM,aN,aB,au,aP,ag,bg,xB,cn,lc,lr,la]
 unfold gQ;have e3:acc++f9 nums l=(acc++[(("across" : Str),l,rst nums l)])++[(("down" : Str),l,rst nums l)]:=by unfold f9;simp
 rw[e3];have c1:=b1 acc "across" (by omega);have c2:=b1 (acc++[(("across" : Str),l,rst nums l)]) "down" (by rw[E_];show acc.length+1<=_;omega);simp![bo,bp,bq,bc,aO,aG,aR,ax,aK,aJ,aE,aa,ao,aW,aC,ay,af,ar,aj,aS,aH,aD,bh,a8,aV,aT,aZ,az,ba,bf,aY,aX,aw,aF,ai,ak,ah,aU,aA,aQ,aM,aN,aB,au,aP,ag,bg,bZ,h4,c1,c2]
def vV{nums:List Int}{kind:Str}(hk:kind="order" \/ kind="any")(h2:nums≠[])(hl:nums.length<=10):gE.G [liV nums,.str kind]=.ok (.new (.lst ((gP kind nums).map cuV))) []:=by
 have lo:=vL hk h2 hl;have ln:=mM (kind:=kind) hl;have fold:∀(ls:List (List Int)) (acc:List (Str×List Int×List Int)) (s3 s4:Sl),s3.pl=true->s4.pl=true->acc.length+2*ls.length<=1000000->∃s3' s4',fb (gtN 3).G gQ.G (ls.map liV) [.sh (liV nums),.sh (.str kind),.ow (.lst (acc.map cuV)),s3,s4]=.nx [.sh (liV nums),.sh (.str kind),.ow (.lst ((acc++ls.flatMap (f9 nums)).map cuV)),s3',s4']:=by
  intro ls;induction ls with
  |nil=>intro acc s3 s4 _ _ _;exact⟨s3,s4,by rw[M5,jy,List.flatMap_nil,Nn]⟩
  |
   cons l ls ih=>
   intro acc s3 s4 h3 h4 hb;rw[MK] at hb;have g1:(gtN 3).G (liV l) [.sh (liV nums),.sh (.str kind),.ow (.lst (acc.map cuV)),s3,s4]=some [.sh (liV nums),.sh (.str kind),.ow (.lst (acc.map cuV)),.sh (liV l),s4]:=by simp![bo,bp,bq,bc,aO,aG,aR,ax,aK,aJ,aE,aa,ao,aW,aC,ay,af,ar,aj,aS,aH,aD,bh,a8,aV,aT,aZ,az,ba,bf,aY,aX,aw,aF,ai,ak,ah,aU,aA,aQ,aM,aN,aB,au,aP,ag,bg,h3]
   have b2:=IZ (kv:=.str kind) (nums:=nums) (l:=l) (acc:=acc) h4 (by omega) (by omega);obtain⟨t3,t4,q⟩:=ih (acc++f9 nums l) (.sh (liV l)) (.sh (.str "down")) rfl rfl (by rw[E_];show acc.length+2+_<=_;omega);refine⟨t3,t4,?_⟩;rw[B_,bZ,g1];simp only[b2,iU];rw[q,List.flatMap_cons,Ni]
 obtain⟨s3,s4,fr⟩:=fold (cI kind nums) [] .no .no rfl rfl (by rw[M1];omega);rw[MQ,M5] at fr;unfold gE gP;rw[bJ];unfold pC;simp![bo,bp,bq,bc,aO,aG,aR,ax,aK,aJ,aE,aa,ao,aW,aC,ay,af,ar,aj,aS,aH,aD,bh,a8,aV,aT,aZ,az,ba,bf,aY,aX,aw,aF,ai,ak,ah,aU,aA,aQ,aM,aN,aB,au,aP,ag,bg,lo,fr]
def ub{c:Str×List Int×List Int}{b:Bx}{ws:List Int}{n m:Nat}(hb:b.Ok)(hs:b.Sz n)(hway:c.1="across" \/ c.1="down")(r1:Inr ws c.2.1)(r2:Inr ws c.2.2)(l1:c.2.1.length<=1000)(l2:c.2.2.length<=1000)(h1:1<=wt ws c.2.1)(h2:1<=wt ws c.2.2)(mW:Sm m (wt ws c.2.1+wt ws c.2.2))(h:n+n+m<=8000):eY.G [cuV c,bV b,liV ws]=.ok (.new (.lst [bV (eK b c.1 (wt ws c.2.1) (wt ws c.2.2)),bV (eT b c.1 (wt ws c.2.1) (wt ws c.2.2))])) []:=by have w1:=ki r1 l1;have w2:=ki r2 l2;have pe:=xC (ws:=[wt ws c.2.1,wt ws c.2.2]) hb hs hway (by simp) (by intro w hw;simp at hw;omega) (m:=m) (by simpa using mW) h (by simp);rw[nL,B_,B_,M5,B_,B_,M5] at pe;show eY.G [.tup [.str c.1,liV c.2.1,liV c.2.2],bV b,liV ws]=_;unfold eY;rw[bJ];unfold nJ;simp![bo,bp,bq,bc,aO,aG,aR,ax,aK,aJ,aE,aa,ao,aW,aC,ay,af,ar,aj,aS,aH,aD,bh,a8,aV,aT,aZ,az,ba,bf,aY,aX,aw,aF,ai,ak,ah,aU,aA,aQ,aM,aN,aB,au,aP,ag,bg,w1,w2,pe]
theorem qU(x y:Val):∀(n one e_:Nat),e_<=n->(xWh (qOf (pOp bGt (av 3) (br 0))) gL).G [.sh x,.sh y,.sh (.int (one:Nat)),.sh (.int (e_:Nat))]=.nx [.sh x,.sh y,.sh (.int (Nat.gcd one e_:Nat)),.sh (.int 0)]
 |
  n,one,0,_=>by
  rw[xb];simp![bo,bp,bq,bc,aO,aG,aR,ax,aK,aJ,aE,aa,ao,aW,aC,ay,af,ar,aj,aS,aH,aD,bh,a8,aV,aT,aZ,az,ba,bf,aY,aX,aw,aF,ai,ak,ah,aU,aA,aQ,aM,aN,aB,au,aP,ag,bg,Nat.gcd_zero_right,Int.natCast_zero,Int.lt_irrefl]
 |0,one,e_+1,hl=>absurd hl (by omega)
 |
  n+1,one,e_+1,hl=>by
  rw[xb];have e:decide ((0:Int)<((e_+1:Nat):Int))=true:=L_ (by omega);have e1:da.G (.int (one:Nat)) (.int ((e_+1:Nat):Int))=.val (.int (((one:Nat):Int).fmod ((e_+1:Nat):Int))):=gu (by omega);have e2:((one:Nat):Int).fmod ((e_+1:Nat):Int)=((one % (e_+1):Nat):Int):=by rw[Int.fmod_eq_emod_of_nonneg _ (by omega)];rfl
  have ih:=qU x y n (e_+1) (one % (e_+1)) (by have:=Nat.mod_lt one (show e_+1>0 by omega);omega);rw[Fr.euc] at ih;rw[e2] at e1;have bb:gL.G [.sh x,.sh y,.sh (.int (one:Nat)),.sh (.int ((e_+1:Nat):Int))]=.nx [.sh x,.sh y,.sh (.int ((e_+1:Nat):Int)),.sh (.int ((one % (e_+1):Nat):Int))]:=by unfold gL;simp![bo,bp,bq,bc,aO,aG,aR,ax,aK,aJ,aE,aa,ao,aW,aC,ay,af,ar,aj,aS,aH,aD,bh,a8,aV,aT,aZ,az,ba,bf,aY,aX,aw,aF,ai,ak,ah,aU,aA,aQ,aM,aN,aB,au,aP,ag,bg,e1]
  simp![bo,bp,bq,bc,aO,aG,aR,ax,aK,aJ,aE,aa,ao,aW,aC,ay,af,ar,aj,aS,aH,aD,bh,a8,aV,aT,aZ,az,ba,bf,aY,aX,aw,aF,ai,ak,ah,aU,aA,aQ,aM,aN,aB,au,aP,ag,bg,e,bb,ih]
def fN{a b:Int}(hb:0<b)(hs:Sm 8000 b):cD.G [.int a,.int b]=.ok (.val (fV ((a:Rat)/(b:Rat)))) []:=by
 unfold cD;rw[bJ];unfold pE;have hb0:b≠0:=by omega
 have lo:=qU (.int a) (.int b) b.natAbs a.natAbs b.natAbs (y_ _);rw[show Nat.gcd a.natAbs b.natAbs=Int.gcd a b from rfl,show ((b.natAbs:Nat):Int)=b by omega] at lo;have c:∀x,CDivB x (Fr.dv a b):=λx=>CDivB.of (Fr.dv_ne hb0) (hs.of_le (by rw[Fr.dv_abs];exact Nat.le_of_dvd (by omega) (Nat.gcd_dvd_right a.natAbs b.natAbs)));have k1:=kK (c a);have k2:=kK (c b);have hh:=nM (a:=a) hb0;have k_:Val.tup [.int (a.fdiv (Fr.dv a b)),.int (b.fdiv (Fr.dv a b))]=fV ((a:Rat)/(b:Rat)):=by unfold fV;rw[<- hh.1,<- hh.2];rfl
 have hd:Fr.dv a b=((Int.gcd a b:Nat):Int):=by unfold Fr.dv;rw[if_neg (by omega)]
 rw[hd] at k1 k2 k_;simp![bo,bp,bq,bc,aO,aG,aR,ax,aK,aJ,aE,aa,ao,aW,aC,ay,af,ar,aj,aS,aH,aD,bh,a8,aV,aT,aZ,az,ba,bf,aY,aX,aw,aF,ai,ak,ah,aU,aA,aQ,aM,aN,aB,au,aP,ag,bg,vc,lo,k1,k2,k_]
def gf{p q:Rat}{n m:Nat}(hp:Sz n p)(hq:Sz m q)(h:n+m<=8000):df.G [fV p,fV q]=.ok (.val (fV (p*q))) []:=by have c1:=ck (CMulA.of hp.top hq.top (by omega) (by omega));have c2:=ck (CMulA.of hp.bot hq.bot (by omega) (by omega));have dp:=p.den_pos;have dq:=q.den_pos;have lo:=fN (a:=p.num*q.num) (b:=p.den*q.den) (Int.mul_pos (by omega) (by omega)) ((hp.bot.mul hq.bot).mono h);rw[<- oD] at lo;unfold df;rw[bJ];unfold lK;rw[show fV p=.tup [.int p.num,.int p.den] from rfl,show fV q=.tup [.int q.num,.int q.den] from rfl];simp![bo,bp,bq,bc,aO,aG,aR,ax,aK,aJ,aE,aa,ao,aW,aC,ay,af,ar,aj,aS,aH,aD,bh,a8,aV,aT,aZ,az,ba,bf,aY,aX,aw,aF,ai,ak,ah,aU,aA,aQ,aM,aN,aB,au,aP,ag,bg,c1,c2,lo]
def nr{p q:Rat}{n m:Nat}(hp:Sz n p)(hq:Sz m q)(h:n+m<=8000):fJ.G [fV p,fV q]=.ok (.val (fV (p+q))) []:=by have c1:=ck (CMulA.of hp.top hq.bot (by omega) (by omega));have c2:=ck (CMulA.of hq.top hp.bot (by omega) (by omega));have c3:=ck (CMulA.of hp.bot hq.bot (by omega) (by omega));have dp:=p.den_pos;have dq:=q.den_pos;have lo:=fN (a:=p.num*q.den+q.num*p.den) (b:=p.den*q.den) (Int.mul_pos (by omega) (by omega)) ((hp.bot.mul hq.bot).mono h);rw[<- oE] at lo;unfold fJ;rw[bJ];unfold pQ;rw[show fV p=.tup [.int p.num,.int p.den] from rfl,show fV q=.tup [.int q.num,.int q.den] from rfl];simp![bo,bp,bq,bc,aO,aG,aR,ax,aK,aJ,aE,aa,ao,aW,aC,ay,af,ar,aj,aS,aH,aD,bh,a8,aV,aT,aZ,az,ba,bf,aY,aX,aw,aF,ai,ak,ah,aU,aA,aQ,aM,aN,aB,au,aP,ag,bg,c1,c2,c3,lo]
def lQ{p q:Rat}{n m:Nat}(hp:Sz n p)(hq:Sz m q)(h0:0<q)(h:n+m<=8000):eZ.G [fV p,fV q]=.ok (.val (fV (p/q))) []:=by
 have c1:=ck (CMulA.of hp.top hq.bot (by omega) (by omega));have c2:=ck (CMulA.of hp.bot hq.top (by omega) (by omega));have hq0:q≠0:=λz=>by rw[z] at h0;exact absurd h0 (by decide)
 have hn:0<q.num:=vw.mpr h0;have dp:=p.den_pos;have lo:=fN (a:=p.num*q.den) (b:=p.den*q.num) (Int.mul_pos (by omega) hn) ((hp.bot.mul hq.top).mono h);rw[<- mi hq0] at lo;unfold eZ;rw[bJ];unfold nh;rw[show fV p=.tup [.int p.num,.int p.den] from rfl,show fV q=.tup [.int q.num,.int q.den] from rfl];simp![bo,bp,bq,bc,aO,aG,aR,ax,aK,aJ,aE,aa,ao,aW,aC,ay,af,ar,aj,aS,aH,aD,bh,a8,aV,aT,aZ,az,ba,bf,aY,aX,aw,aF,ai,ak,ah,aU,aA,aQ,aM,aN,aB,au,aP,ag,bg,c1,c2,lo]
def fo{p q:Rat}{n m:Nat}(hp:Sz n p)(hq:Sz m q)(h1:n<=100000)(h2:m<=100000):c7.G [fV p,fV q]=.ok (.val (.bl (decide (p<q)))) []:=by have c1:=ck (CMulA.of hp.top hq.bot h1 h2);have c2:=ck (CMulA.of hq.top hp.bot h2 h1);unfold c7;rw[bJ];unfold nc;rw[show fV p=.tup [.int p.num,.int p.den] from rfl,show fV q=.tup [.int q.num,.int q.den] from rfl];simp![bo,bp,bq,bc,aO,aG,aR,ax,aK,aJ,aE,aa,ao,aW,aC,ay,af,ar,aj,aS,aH,aD,bh,a8,aV,aT,aZ,az,ba,bf,aY,aX,aw,aF,ai,ak,ah,aU,aA,aQ,aM,aN,aB,au,aP,ag,bg,c1,c2];rw[show decide (p.num*(q.den:Int)<q.num*(p.den:Int))=decide (p<q) from decide_eq_decide.mpr (xv p q).symm]
def kF{b:Bx}{n:Nat}(hb:b.Ok)(hs:b.Sz n)(h:n+n<=8000):dN.G [bV b]=.ok (.val (fV (dm b))) []:=by
 have il:=fo hs.w hs.h (by omega) (by omega);have ib:(bV b).items=some [fV b.l,fV b.t,fV b.w,fV b.h]:=rfl;have o1:=lQ hs.w hs.h hb.2 h;have o2:=lQ hs.h hs.w hb.1 h;unfold dN dm;rw[bJ];unfold lM;by_cases hl:b.w<b.h
 .rw[if_pos hl];rw[L_ hl] at il;simp![bo,bp,bq,bc,aO,aG,aR,ax,aK,aJ,aE,aa,ao,aW,aC,ay,af,ar,aj,aS,aH,aD,bh,a8,aV,aT,aZ,az,ba,bf,aY,aX,aw,aF,ai,ak,ah,aU,aA,aQ,aM,aN,aB,au,aP,ag,bg,il,ib,o1,o2]
 .rw[if_neg hl];rw[K_ hl] at il;simp![bo,bp,bq,bc,aO,aG,aR,ax,aK,aJ,aE,aa,ao,aW,aC,ay,af,ar,aj,aS,aH,aD,bh,a8,aV,aT,aZ,az,ba,bf,aY,aX,aw,aF,ai,ak,ah,aU,aA,aQ,aM,aN,aB,au,aP,ag,bg,il,ib,o1,o2]
def qf{nums:List Int}{kind:Str}(hk:kind="order" \/ kind="any")(h2:nums≠[])(hl:nums.length<=10):cU.G [liV nums,.str kind]=.ok (.new (.lst ((cI kind nums).map liV))) []:=by
 have d_:=mM (kind:=kind) hl;rcases hk with rfl |rfl
 .obtain⟨s,lc⟩:=vn (nums:=nums) (by omega);have rg:=uK (n:=nums.length) (by omega);have ll:((cI "order" nums).map liV).length<=16777216:=by rw[v_];omega
  have lm:((nums.map Val.int).length:Nat)=nums.length:=v_ ..;show cU.G [.lst (nums.map .int),.str "order"]=_;unfold cU;rw[bJ];unfold ir;simp![bo,bp,bq,bc,aO,aG,aR,ax,aK,aJ,aE,aa,ao,aW,aC,ay,af,ar,aj,aS,aH,aD,bh,a8,aV,aT,aZ,az,ba,bf,aY,aX,aw,aF,ai,ak,ah,aU,aA,aQ,aM,aN,aB,au,aP,ag,bg,xx,lm,rg,cn,lc,ll]
 .match nums,h2 with
  |
   x::rest,h2=>
   rw[MK] at hl;obtain⟨s',q4⟩:=kA (B:=jZ) rfl (nv:=.lst ((x::rest).map .int)) (kv:=.str "any") rest [[x]] .no rfl (by have:2^rest.length<=2^9:=MZ (by decide) (by omega);simp;omega) (by intro l hl';rw[M0] at hl';subst hl';simp;omega);have s2:aSl (.lst (Val.int x::rest.map .int)) (some 1) none=.new (.lst (rest.map .int)):=by rw[jx,show (some 1:Option Int)=some ((1:Nat):Int) from rfl,tS];rfl
   have s3:aSl (.lst ((fQ [[x]] rest).map liV)) none (some (-1))=.new (.lst ((cI "any" (x::rest)).map liV)):=by rw[jx,u7];unfold cI;rw[if_neg (by decide),List.map_dropLast]
   show cU.G [.lst ((x::rest).map .int),.str "any"]=_;unfold cU;rw[bJ];unfold ir;rw[show [[x]].map liV=[.lst [.int x]] from rfl,show (x::rest).map Val.int=Val.int x::rest.map Val.int from rfl] at q4;simp![bo,bp,bq,bc,aO,aG,aR,ax,aK,aJ,aE,aa,ao,aW,aC,ay,af,ar,aj,aS,aH,aD,bh,a8,aV,aT,aZ,az,ba,bf,aY,aX,aw,aF,ai,ak,ah,aU,aA,aQ,aM,aN,aB,au,aP,ag,bg,xI,s2,q4,s3]
noncomputable def prt(b:Bx)(way:Str)(W a:Int)(ws:List Int):List Bx:=if way="across" then (shL b.l b.w W a ws).map λp=>⟨p.1,b.t,p.2,b.h⟩ else (shL b.t b.h W a ws).map λp=>⟨b.l,p.1,b.w,p.2⟩
def Md(b:Bx)(W a w:Int)(ws:List Int):prt b "across" W a (w::ws)=(⟨b.l+b.w*((a:Rat)/(W:Rat)),b.t,b.w*((w:Rat)/(W:Rat)),b.h⟩:Bx)::prt b "across" W (a+w) ws:=by unfold prt;rw[if_pos rfl,if_pos rfl];rfl
def J2(b:Bx)(W a w:Int)(ws:List Int):prt b "down" W a (w::ws)=(⟨b.l,b.t+b.h*((a:Rat)/(W:Rat)),b.w,b.h*((w:Rat)/(W:Rat))⟩:Bx)::prt b "down" W (a+w) ws:=by
 have hne:¬ (("down" : Str)="across"):=by decide
 unfold prt;rw[if_neg hne,if_neg hne];rfl
def Ex(b:Bx)(way:Str)(W a:Int):prt b way W a []=[]:=by unfold prt;split <;> rfl
theorem mj{b:Bx}{n m:Nat}{W:Int}{wl:List Int}(hb:b.Ok)(hs:b.Sz n)(hW:0<W)(mW:Sm m W)(h:n+n+m<=8000)(hsum:wl.sum=W){way:Str}(hway:way="across" \/ way="down"):∀(ws:List Int) (a:Int) (acc:List Bx) (s9 s10 s11:Sl),s9.pl=true->s10.pl=true->s11.pl=true->0<=a->(∀w∈ws,1<=w)->a+ws.sum<=W->acc.length+ws.length<=1000->∃s8' s9' s10' s11',fb (gtN 9).G eX.G (ws.map .int) [.sh (bV b),.sh (.str way),.sh (.lst (wl.map .int)),.sh (fV b.l),.sh (fV b.t),.sh (fV b.w),.sh (fV b.h),.ow (.lst (acc.map bV)),.sh (.int a),s9,s10,s11]=.nx [.sh (bV b),.sh (.str way),.sh (.lst (wl.map .int)),.sh (fV b.l),.sh (fV b.t),.sh (fV b.w),.sh (fV b.h),.ow (.lst ((acc++prt b way W a ws).map bV)),s8',s9',s10',s11']
 | [],a,acc,s9,s10,s11,h9,h10,h11,ha,hw,hs',d_=>⟨.sh (.int a),s9,s10,s11,by rw[M5,jy,Ex,Nn]⟩
 |
  w::ws,a,acc,s9,s10,s11,h9,h10,h11,ha,hw,hs',d_=>by
  have hw0:=hw w (H_ ..);have hws:=iF (l:=ws) λx hx=>hw x (A_ _ hx);rw[M3] at hs';rw[MK] at d_;have sa:Sm m a:=mW.of_le (by omega);have sw:Sm m w:=mW.of_le (by omega);have f1:=fN (a:=a) (b:=W) hW (mW.mono (by omega));have f2:=fN (a:=w) (b:=W) hW (mW.mono (by omega));have z1:Sz m ((a:Rat)/(W:Rat)):=Sz.div (by omega) sa mW m (y_ _) (y_ _);have z2:Sz m ((w:Rat)/(W:Rat)):=Sz.div (by omega) sw mW m (y_ _) (y_ _);have ll:(acc.map bV).length<16777216:=by rw[v_];omega
  have g1:(gtN 9).G (.int w) [.sh (bV b),.sh (.str way),.sh (.lst (wl.map .int)),.sh (fV b.l),.sh (fV b.t),.sh (fV b.w),.sh (fV b.h),.ow (.lst (acc.map bV)),.sh (.int a),s9,s10,s11]=some [.sh (bV b),.sh (.str way),.sh (.lst (wl.map .int)),.sh (fV b.l),.sh (fV b.t),.sh (fV b.w),.sh (fV b.h),.ow (.lst (acc.map bV)),.sh (.int a),.sh (.int w),s10,s11]:=by simp![bo,bp,bq,bc,aO,aG,aR,ax,aK,aJ,aE,aa,ao,aW,aC,ay,af,ar,aj,aS,aH,aD,bh,a8,aV,aT,aZ,az,ba,bf,aY,aX,aw,aF,ai,ak,ah,aU,aA,aQ,aM,aN,aB,au,aP,ag,bg,h9]
  rcases hway with rfl |rfl
  .have t1:=gf hs.w z1 (by omega);have t2:=gf hs.w z2 (by omega);have ad:=nr hs.l (hs.w.mul z1) (by omega);obtain⟨t8,t9,t10,t11,ih⟩:=mj hb hs hW mW h hsum (.inl rfl) ws (a+w) (acc++[(⟨b.l+b.w*((a:Rat)/(W:Rat)),b.t,b.w*((w:Rat)/(W:Rat)),b.h⟩:Bx)]) (.sh (.int w)) (.sh (fV ((a:Rat)/(W:Rat)))) (.sh (fV ((w:Rat)/(W:Rat)))) rfl rfl rfl (by omega) (λx hx=>hw x (A_ _ hx)) (by omega) (by rw[E_];show acc.length+1+_<=_;omega);refine⟨t8,t9,t10,t11,?_⟩;have b1:eX.G [.sh (bV b),.sh (.str "across"),.sh (.lst (wl.map .int)),.sh (fV b.l),.sh (fV b.t),.sh (fV b.w),.sh (fV b.h),.ow (.lst (acc.map bV)),.sh (.int a),.sh (.int w),s10,s11]=.nx [.sh (bV b),.sh (.str "across"),.sh (.lst (wl.map .int)),.sh (fV b.l),.sh (fV b.t),.sh (fV b.w),.sh (fV b.h),.ow (.lst ((acc++[(⟨b.l+b.w*((a:Rat)/(W:Rat)),b.t,b.w*((w:Rat)/(W:Rat)),b.h⟩:Bx)]).map bV)),.sh (.int (a+w)),.sh (.int w),.sh (fV ((a:Rat)/(W:Rat))),.sh (fV ((w:Rat)/(W:Rat)))]:=by unfold eX;rw[MY,show [(⟨b.l+b.w*((a:Rat)/(W:Rat)),b.t,b.w*((w:Rat)/(W:Rat)),b.h⟩:Bx)].map bV=[.tup [fV (b.l+b.w*((a:Rat)/(W:Rat))),fV b.t,fV (b.w*((w:Rat)/(W:Rat))),fV b.h]] from rfl];simp![bo,bp,bq,bc,aO,aG,aR,ax,aK,aJ,aE,aa,ao,aW,aC,ay,af,ar,aj,aS,aH,aD,bh,a8,aV,aT,aZ,az,ba,bf,aY,aX,aw,aF,ai,ak,ah,aU,aA,aQ,aM,aN,aB,au,aP,ag,bg,h10,h11,hsum,f1,f2,t1,t2,ad,ll,tF]
   rw[B_,bZ,g1];simp only[b1,iU];rw[ih,Md,Ni];rfl
  .have t1:=gf hs.h z1 (by omega);have t2:=gf hs.h z2 (by omega);have ad:=nr hs.t (hs.h.mul z1) (by omega);obtain⟨t8,t9,t10,t11,ih⟩:=mj hb hs hW mW h hsum (.inr rfl) ws (a+w) (acc++[(⟨b.l,b.t+b.h*((a:Rat)/(W:Rat)),b.w,b.h*((w:Rat)/(W:Rat))⟩:Bx)]) (.sh (.int w)) (.sh (fV ((a:Rat)/(W:Rat)))) (.sh (fV ((w:Rat)/(W:Rat)))) rfl rfl rfl (by omega) (λx hx=>hw x (A_ _ hx)) (by omega) (by rw[E_];show acc.length+1+_<=_;omega);refine⟨t8,t9,t10,t11,?_⟩;have b1:eX.G [.sh (bV b),.sh (.str "down"),.sh (.lst (wl.map .int)),.sh (fV b.l),.sh (fV b.t),.sh (fV b.w),.sh (fV b.h),.ow (.lst (acc.map bV)),.sh (.int a),.sh (.int w),s10,s11]=.nx [.sh (bV b),.sh (.str "down"),.sh (.lst (wl.map .int)),.sh (fV b.l),.sh (fV b.t),.sh (fV b.w),.sh (fV b.h),.ow (.lst ((acc++[(⟨b.l,b.t+b.h*((a:Rat)/(W:Rat)),b.w,b.h*((w:Rat)/(W:Rat))⟩:Bx)]).map bV)),.sh (.int (a+w)),.sh (.int w),.sh (fV ((a:Rat)/(W:Rat))),.sh (fV ((w:Rat)/(W:Rat)))]:=by unfold eX;rw[MY,show [(⟨b.l,b.t+b.h*((a:Rat)/(W:Rat)),b.w,b.h*((w:Rat)/(W:Rat))⟩:Bx)].map bV=[.tup [fV b.l,fV (b.t+b.h*((a:Rat)/(W:Rat))),fV b.w,fV (b.h*((w:Rat)/(W:Rat)))]] from rfl];simp![bo,bp,bq,bc,aO,aG,aR,ax,aK,aJ,aE,aa,ao,aW,aC,ay,af,ar,aj,aS,aH,aD,bh,a8,aV,aT,aZ,az,ba,bf,aY,aX,aw,aF,ai,ak,ah,aU,aA,aQ,aM,aN,aB,au,aP,ag,bg,h10,h11,hsum,f1,f2,t1,t2,ad,ll,rV]
   rw[B_,bZ,g1];simp only[b1,iU];rw[ih,J2,Ni];rfl
def mY{b:Bx}{n m:Nat}{way:Str}{u v:Int}(hb:b.Ok)(hs:b.Sz n)(hway:way="across" \/ way="down")(hu:1<=u)(hv:1<=v)(mW:Sm m (u+v))(h:n+n+m<=8000):fG.G [bV b,.str way,.lst [.int u,.int v]]=.ok (.new (.lst [bV (eK b way u v),bV (eT b way u v)])) []:=by
 have es:[u,v].sum=u+v:=by simp
 obtain⟨s8,s9,s10,s11,lo⟩:=mj (wl:=[u,v]) hb hs (by omega:0<u+v) mW h es hway [u,v] 0 [] .no .no .no rfl rfl rfl (by omega) (by intro w hw;simp at hw;omega) (by rw[es];omega) (by simp);have pe:prt b way (u+v) 0 [u,v]=[eK b way u v,eT b way u v]:=by rw[<- nL];unfold fZ prt;rw[es]
 rw[MQ,pe,M5,B_,B_,M5,B_,B_,M5] at lo;have e0:bV b=.tup [fV b.l,fV b.t,fV b.w,fV b.h]:=rfl;rw[e0] at lo ⊢;unfold fG;rw[bJ];unfold pS;simp![bo,bp,bq,bc,aO,aG,aR,ax,aK,aJ,aE,aa,ao,aW,aC,ay,af,ar,aj,aS,aH,aD,bh,a8,aV,aT,aZ,az,ba,bf,aY,aX,aw,aF,ai,ak,ah,aU,aA,aQ,aM,aN,aB,au,aP,ag,bg,lo]
structure Ok51(ws nums:List Int)(b:Bx)(n m:Nat):Prop where
 ne:nums≠[]
 nd:nums.Nodup
 inr:Inr ws nums
 len:nums.length<=10
 mw:Sm m (wt ws nums)
 ok:b.Ok
 sz:b.Sz n
 bd:(n+m+1)*2^nums.length<=4000
def Ok51.nm{ws nums:List Int}{b:Bx}{n m:Nat}(h:Ok51 ws nums b n m):n+m+1<=2000:=by have h1:=MU.mpr h.ne;have h2:2^1<=2^nums.length:=MZ (by decide) h1;have h3:=h.bd;have:(n+m+1)*2^1<=4000:=G_ (Ny _ h2) h3;omega
structure Sub51(ws nums:List Int)(b:Bx)(n m:Nat)(c:Str×List Int×List Int):Prop where
 w1:1<=wt ws c.2.1
 w2:1<=wt ws c.2.2
 sm:Sm m (wt ws c.2.1+wt ws c.2.2)
 o1:Ok51 ws c.2.1 (eK b c.1 (wt ws c.2.1) (wt ws c.2.2)) (n+(n+m)+1) m
 o2:Ok51 ws c.2.2 (eT b c.1 (wt ws c.2.1) (wt ws c.2.2)) (n+(n+m)+1) m
def Ok51.cut{ws nums:List Int}{b:Bx}{n m:Nat}(h:Ok51 ws nums b n m)(hw:∀w∈ws,1<=w){c:Str×List Int×List Int}(hc:CutOk nums c):Sub51 ws nums b n m c:=by
 have r1:Inr ws c.2.1:=λi hi=>h.inr i (hc.one.sub.subset hi);have r2:Inr ws c.2.2:=λi hi=>h.inr i (hc.two.sub.subset hi);have l1:=MU.mpr hc.one.ne;have l2:=MU.mpr hc.two.ne;have g1:=qS hw r1;have g2:=qS hw r2;have es:wt ws c.2.1+wt ws c.2.2=wt ws nums:=by rw[<- yd];have p:=mB hc.one.sub h.nd;rw[<- hc.rest] at p;exact ia p
 have sm:Sm m (wt ws c.2.1+wt ws c.2.2):=by rw[es];exact h.mw
 have k1:=uR (way:=c.1) h.ok h.sz (by omega:1<=wt ws c.2.1) (by omega:1<=wt ws c.2.2) sm;have k2:=uv (way:=c.1) h.ok h.sz (by omega:1<=wt ws c.2.1) (by omega:1<=wt ws c.2.2) sm;have bd:∀l:List Int,Lot nums l->(n+(n+m)+1+m+1)*2^l.length<=4000:=by intro l hl;have h1:=hl.lt;have h2:2^(l.length+1)<=2^nums.length:=MZ (by decide) h1;have h3:=h.bd;have h4:(n+m+1)*2^(l.length+1)<=4000:=G_ (Ny _ h2) h3;rw[OD,N9 (2^l.length),<- OL] at h4;rw[show n+(n+m)+1+m+1=(n+m+1)*2 by omega];exact h4
 have hl:=h.len;have q1:=hc.one.lt;have q2:=hc.two.lt;exact⟨by omega,by omega,sm,⟨hc.one.ne,h.nd.sublist hc.one.sub,r1,by omega,sm.of_le (by omega),k1.1,k1.2,bd _ hc.one⟩,⟨hc.two.ne,h.nd.sublist hc.two.sub,r2,by omega,sm.of_le (by omega),k2.1,k2.2,bd _ hc.two⟩⟩
def yS{nums:List Int}(nd:nums.Nodup){c:Str×List Int×List Int}(h:c∈gP "order" nums):c.2.1++c.2.2=nums:=by
 have hc:=uP nd h;obtain⟨l,hl,hc'⟩:=List.mem_flatMap.mp h;unfold cI at hl;rw[if_pos rfl] at hl;obtain⟨i,_,rfl⟩:=M9.mp hl;have e:c.2.1=nums.take i:=by
  unfold f9 at hc';rcases MN.mp hc' with rfl |hc'
  .rfl
  .rw[M0] at hc';subst hc';rfl
 rw[hc.rest,e,A4 nd,Ow]
def Hx(kind:Str)(ws nums:List Int)(b:Bx)(o:Option Rat)(bv:Val):Prop:=match o with
 |none=>bv=.non
 |some q=>∃t ls,bv=.tup [fV q,t]/\Sz 4000 q/\ls.Perm nums/\(kind="order"->ls=nums)/\Tr ws b ls t q
def w9(q:Rat):L3.flatV (fV q)=true:=by unfold fV;simp [iR,eF,eU,km]
def Cq{x y:Rat}{n:Nat}(hx:Sz n x)(hy:Sz n y):Sz n (mx x y):=by
 unfold mx;split
 .exact hy
 .exact hx
def Kz{x y:Rat}:¬ mx x y<x:=by
 unfold mx;split
 .rename_i h;exact NR.mpr (Rat.le_of_lt h)
 .exact Rat.lt_irrefl
theorem oq{kind:Str}{ws:List Int}{m:Nat}(hk:kind="order" \/ kind="any")(hw:∀w∈ws,1<=w):∀(k:Nat) (nums:List Int) (b:Bx) (n:Nat),Ok51 ws nums b n m->nums.length<=k->∃t ls,(dJ k).G [bV b,liV ws,.str kind,liV nums]=.ok (.val (.tup [fV (bst kind ws k b nums),t])) []/\Sz 4000 (bst kind ws k b nums)/\ls.Perm nums/\(kind="order"->ls=nums)/\Tr ws b ls t (bst kind ws k b nums)
 |0,nums,b,n,H,hl=>absurd (MU.mpr H.ne) (by omega)
 |
  k+1,nums,b,n,H,hl=>by
  have nm:=H.nm;show ∃t ls,(PFx.of [false,false,false,false] 11 (fh (dJ k))).G [bV b,liV ws,.str kind,liV nums]=_/\_;by_cases h1:nums.length=1
  .have eb:bst kind ws (k+1) b nums=dm b:=by unfold bst;rw[if_pos h1]
   rw[eb]
   match nums,h1 with
   |[i],_=>have sh:=Ar H.ok H.sz (by omega);refine⟨.int i,[i],?_,(sd H.ok H.sz).mono (by omega),List.Perm.refl _,λ_=>rfl,.leaf b i⟩;rw[iX];unfold fh;show (if _ then _ else _)=_;have it:(liV [i])=.lst [.int i]:=rfl;rw[it];simp![bo,bp,bq,bc,aO,aG,aR,ax,aK,aJ,aE,aa,ao,aW,aC,ay,af,ar,aj,aS,aH,aD,bh,a8,aV,aT,aZ,az,ba,bf,aY,aX,aw,aF,ai,ak,ah,aU,aA,aQ,aM,aN,aB,au,aP,ag,bg,sh]
  .have hl2:2<=nums.length:=by have:=MU.mpr H.ne;omega
   have hne:((((nums.map Val.int).length:Nat):Int)==1)=false:=by rw[MM,v_];omega
   have ce:=vV hk H.ne H.len;obtain⟨q,eq⟩:=uw (λc=>eO (bst kind ws k) ws b c) (vb (kind:=kind) hl2);have eb:bst kind ws (k+1) b nums=q:=by unfold bst;rw[if_neg h1,eq];rfl
   obtain⟨e',⟨bv,s5,s6,s7,s8,s9,s10,rfl,_,hbv⟩,fr⟩:=kH (g:=(gtN 5).G) (B:=(dU (dJ k)).G) cuV (λo c=>cF o (eO (bst kind ws k) ws b c)) (λo e=>∃bv s5 s6 s7 s8 s9 s10,e=[.sh (bV b),.sh (liV ws),.sh (.str kind),.sh (liV nums),.sh bv,s5,s6,s7,s8,s9,s10]/\(s5.pl=true/\s6.pl=true/\s7.pl=true/\s8.pl=true/\s9.pl=true/\s10.pl=true)/\Hx kind ws nums b o bv) (gP kind nums) none [.sh (bV b),.sh (liV ws),.sh (.str kind),.sh (liV nums),.sh .non,.no,.no,.no,.no,.no,.no] ⟨_,_,_,_,_,_,_,rfl,⟨rfl,rfl,rfl,rfl,rfl,rfl⟩,rfl⟩ (by
    rintro c hc o e ⟨bv,s5,s6,s7,s8,s9,s10,rfl,⟨g5,g6,g7,g8,g9,g10⟩,hbv⟩;have co:=uP H.nd hc;have su:=H.cut hw co;have d_:=H.len;have q1:=co.one.lt;have q2:=co.two.lt;have pb:=ub (c:=c) H.ok H.sz co.way su.o1.inr su.o2.inr (by omega) (by omega) su.w1 su.w2 su.sm (by omega);obtain⟨t1,l1,e1,z1,p1,c1,r1⟩:=oq hk hw k c.2.1 _ _ su.o1 (by omega);obtain⟨t2,l2,e2,z2,p2,c2,r2⟩:=oq hk hw k c.2.2 _ _ su.o2 (by omega);have ic:(cuV c).items=some [.str c.1,liV c.2.1,liV c.2.2]:=rfl;have fl1:L3.flatVs [fV (bst kind ws k (eK b c.1 (wt ws c.2.1) (wt ws c.2.2)) c.2.1),t1]=true:=by simp [eF,eU,w9,r1.flat]
    have fl2:L3.flatVs [fV (bst kind ws k (eT b c.1 (wt ws c.2.1) (wt ws c.2.2)) c.2.2),t2]=true:=by simp [eF,eU,w9,r2.flat]
    have tr:Tr ws b (l1++l2) (.tup [.str c.1,.tup [t1,t2]]) (eO (bst kind ws k) ws b c):=by
     refine Tr.node co.way ?_ ?_
     .rw[ia p1,ia p2];exact r1
     .rw[ia p1,ia p2];exact r2
    have pm:(l1++l2).Perm nums:=by have p:=mB co.one.sub H.nd;rw[<- co.rest] at p;exact (p1.append p2).trans p
    have oc:kind="order"->l1++l2=nums:=λz=>by rw[c1 z,c2 z];subst z;exact yS H.nd hc
    have zz:Sz 4000 (eO (bst kind ws k) ws b c):=Cq z1 z2;have gr:=rF z1 z2 (by omega) (by omega);rw[show (if bst kind ws k (eK b c.1 (wt ws c.2.1) (wt ws c.2.2)) c.2.1<bst kind ws k (eT b c.1 (wt ws c.2.1) (wt ws c.2.2)) c.2.2 then bst kind ws k (eT b c.1 (wt ws c.2.1) (wt ws c.2.2)) c.2.2 else bst kind ws k (eK b c.1 (wt ws c.2.1) (wt ws c.2.2)) c.2.1)=eO (bst kind ws k) ws b c from rfl] at gr;have hge:¬ eO (bst kind ws k) ws b c<bst kind ws k (eK b c.1 (wt ws c.2.1) (wt ws c.2.2)) c.2.1:=Kz;generalize hb1:eK b c.1 (wt ws c.2.1) (wt ws c.2.2)=b1 at *;generalize hb2:eT b c.1 (wt ws c.2.1) (wt ws c.2.2)=b2 at *;generalize hx1:bst kind ws k b1 c.2.1=x1 at *;generalize hx2:bst kind ws k b2 c.2.2=x2 at *;generalize hcd:eO (bst kind ws k) ws b c=cd at *;refine⟨[.sh (bV b),.sh (liV ws),.sh (.str kind),.sh (liV nums),.sh bv,.sh (cuV c),s6,s7,s8,s9,s10],?_⟩;have gg:(gtN 5).G (cuV c) [.sh (bV b),.sh (liV ws),.sh (.str kind),.sh (liV nums),.sh bv,s5,s6,s7,s8,s9,s10]=some [.sh (bV b),.sh (liV ws),.sh (.str kind),.sh (liV nums),.sh bv,.sh (cuV c),s6,s7,s8,s9,s10]:=by simp![bo,bp,bq,bc,aO,aG,aR,ax,aK,aJ,aE,aa,ao,aW,aC,ay,af,ar,aj,aS,aH,aD,bh,a8,aV,aT,aZ,az,ba,bf,aY,aX,aw,aF,ai,ak,ah,aU,aA,aQ,aM,aN,aB,au,aP,ag,bg,g5]
    cases o with
    |none=>have hbv':bv=.non:=hbv;subst hbv';refine⟨[.sh (bV b),.sh (liV ws),.sh (.str kind),.sh (liV nums),.sh (.tup [fV cd,.tup [.str c.1,.tup [t1,t2]]]),.sh (cuV c),.sh (bV b1),.sh (bV b2),.sh (.tup [fV x1,t1]),.sh (.tup [fV x2,t2]),.sh (fV cd)],gg,.inl ?_,_,_,_,_,_,_,_,rfl,⟨rfl,rfl,rfl,rfl,rfl,rfl⟩,_,_,rfl,zz,pm,oc,tr⟩;unfold dU;simp![bo,bp,bq,bc,aO,aG,aR,ax,aK,aJ,aE,aa,ao,aW,aC,ay,af,ar,aj,aS,aH,aD,bh,a8,aV,aT,aZ,az,ba,bf,aY,aX,aw,aF,ai,ak,ah,aU,aA,aQ,aM,aN,aB,au,aP,ag,bg,pb,e1,e2,gr,ic,fl1,fl2,g6,g7,g8,g9,g10]
    |
     some p=>
     obtain⟨t0,l0,rfl,z0,p0,c0,r0⟩:=hbv;have il:=fL z1 z0 (by omega) (by omega);by_cases hx:x1<p
     .rw[L_ hx] at il;have ig:=fL zz z0 (by omega) (by omega);by_cases hy:cd<p
      .rw[L_ hy] at ig;have ms:cF (some p) cd=some cd:=if_pos hy;rw[ms];refine⟨[.sh (bV b),.sh (liV ws),.sh (.str kind),.sh (liV nums),.sh (.tup [fV cd,.tup [.str c.1,.tup [t1,t2]]]),.sh (cuV c),.sh (bV b1),.sh (bV b2),.sh (.tup [fV x1,t1]),.sh (.tup [fV x2,t2]),.sh (fV cd)],gg,.inl ?_,_,_,_,_,_,_,_,rfl,⟨rfl,rfl,rfl,rfl,rfl,rfl⟩,_,_,rfl,zz,pm,oc,tr⟩;unfold dU;simp![bo,bp,bq,bc,aO,aG,aR,ax,aK,aJ,aE,aa,ao,aW,aC,ay,af,ar,aj,aS,aH,aD,bh,a8,aV,aT,aZ,az,ba,bf,aY,aX,aw,aF,ai,ak,ah,aU,aA,aQ,aM,aN,aB,au,aP,ag,bg,pb,e1,e2,gr,ic,fl1,fl2,il,ig,g6,g7,g8,g9,g10]
      .rw[K_ hy] at ig;have ms:cF (some p) cd=some p:=if_neg hy;rw[ms];refine⟨[.sh (bV b),.sh (liV ws),.sh (.str kind),.sh (liV nums),.sh (.tup [fV p,t0]),.sh (cuV c),.sh (bV b1),.sh (bV b2),.sh (.tup [fV x1,t1]),.sh (.tup [fV x2,t2]),.sh (fV cd)],gg,.inl ?_,_,_,_,_,_,_,_,rfl,⟨rfl,rfl,rfl,rfl,rfl,rfl⟩,_,_,rfl,z0,p0,c0,r0⟩;unfold dU;simp![bo,bp,bq,bc,aO,aG,aR,ax,aK,aJ,aE,aa,ao,aW,aC,ay,af,ar,aj,aS,aH,aD,bh,a8,aV,aT,aZ,az,ba,bf,aY,aX,aw,aF,ai,ak,ah,aU,aA,aQ,aM,aN,aB,au,aP,ag,bg,pb,e1,e2,gr,ic,fl1,fl2,il,ig,g6,g7,g8,g9,g10]
     .rw[K_ hx] at il;have hy:¬ cd<p:=NR.mpr (Rat.le_trans (NR.mp hx) (NR.mp hge));have ms:cF (some p) cd=some p:=if_neg hy;rw[ms];refine⟨[.sh (bV b),.sh (liV ws),.sh (.str kind),.sh (liV nums),.sh (.tup [fV p,t0]),.sh (cuV c),.sh (bV b1),.sh (bV b2),.sh (.tup [fV x1,t1]),s9,s10],gg,.inr ?_,_,_,_,_,_,_,_,rfl,⟨rfl,rfl,rfl,rfl,g9,g10⟩,_,_,rfl,z0,p0,c0,r0⟩;unfold dU;simp![bo,bp,bq,bc,aO,aG,aR,ax,aK,aJ,aE,aa,ao,aW,aC,ay,af,ar,aj,aS,aH,aD,bh,a8,aV,aT,aZ,az,ba,bf,aY,aX,aw,aF,ai,ak,ah,aU,aA,aQ,aM,aN,aB,au,aP,ag,bg,pb,e1,ic,fl1,il,g6,g7,g8])
   rw[eq] at hbv;obtain⟨t,ls,rfl,z,pm,oc,tr⟩:=hbv;rw[eb];refine⟨t,ls,?_,z,pm,oc,tr⟩;rw[iX];unfold fh;have it:(liV nums)=.lst (nums.map .int):=rfl;rw[it] at fr ce ⊢;simp![bo,bp,bq,bc,aO,aG,aR,ax,aK,aJ,aE,aa,ao,aW,aC,ay,af,ar,aj,aS,aH,aD,bh,a8,aV,aT,aZ,az,ba,bf,aY,aX,aw,aF,ai,ak,ah,aU,aA,aQ,aM,aN,aB,au,aP,ag,bg,hne,ce,fr]
def oV(o:Option Rat):Val:=match o with
 |none=>.non
 |some q=>fV q
def rL(x y:Val):kq.G (.lst [x,y]) []=some (.lst [y,x],.non):=rfl
theorem mm{kind:Str}{ws:List Int}{m:Nat}(hk:kind="order" \/ kind="any")(hw:∀w∈ws,1<=w):∀(k:Nat) (nums:List Int) (b:Bx) (n:Nat),Ok51 ws nums b n m->nums.length<=k->(de k).G [bV b,liV nums,liV ws,.str kind]=.ok (.val (fV (bst kind ws k b nums))) []/\Sz 4000 (bst kind ws k b nums)
 |0,nums,b,n,H,hl=>absurd (MU.mpr H.ne) (by omega)
 |
  k+1,nums,b,n,H,hl=>by
  have nm:=H.nm;show (PFx.of [false,false,false,false] 12 (fi (de k))).G [bV b,liV nums,liV ws,.str kind]=_/\_;by_cases h1:nums.length=1
  .have eb:bst kind ws (k+1) b nums=dm b:=by unfold bst;rw[if_pos h1]
   rw[eb]
   match nums,h1 with
   |[i],_=>have sh:=kF H.ok H.sz (by omega);refine⟨?_,(sd H.ok H.sz).mono (by omega)⟩;rw[iX];unfold fi;have it:(liV [i])=.lst [.int i]:=rfl;rw[it];simp![bo,bp,bq,bc,aO,aG,aR,ax,aK,aJ,aE,aa,ao,aW,aC,ay,af,ar,aj,aS,aH,aD,bh,a8,aV,aT,aZ,az,ba,bf,aY,aX,aw,aF,ai,ak,ah,aU,aA,aQ,aM,aN,aB,au,aP,ag,bg,sh]
  .have hl2:2<=nums.length:=by have:=MU.mpr H.ne;omega
   have hne:((((nums.map Val.int).length:Nat):Int)==1)=false:=by rw[MM,v_];omega
   have fe:=qf hk H.ne H.len;obtain⟨q,eq⟩:=uw (λc=>eO (bst kind ws k) ws b c) (vb (kind:=kind) hl2);have eb:bst kind ws (k+1) b nums=q:=by unfold bst;rw[if_neg h1,eq];rfl
   have d_:=H.len;have turn:∀(way:Str) (l:List Int) (o:Option Rat) (s9 s10 s11:Sl),(way="across" \/ way="down")->Lot nums l->(∀q,o=some q->Sz 4000 q)->s9.pl=true->s10.pl=true->s11.pl=true->∃t9 t10 t11,t9.pl=true/\t10.pl=true/\t11.pl=true/\(∀q,cF o (eO (bst kind ws k) ws b (way,l,rst nums l))=some q->Sz 4000 q)/\(fY (de k)).G [.sh (bV b),.sh (liV nums),.sh (liV ws),.sh (.str kind),.sh (oV o),.sh (liV l),.sh (liV (rst nums l)),.sh (.lst [.int (wt ws l),.int (wt ws (rst nums l))]),.sh (.str way),s9,s10,s11]=.nx [.sh (bV b),.sh (liV nums),.sh (liV ws),.sh (.str kind),.sh (oV (cF o (eO (bst kind ws k) ws b (way,l,rst nums l)))),.sh (liV l),.sh (liV (rst nums l)),.sh (.lst [.int (wt ws l),.int (wt ws (rst nums l))]),.sh (.str way),t9,t10,t11]:=by
    intro way l o s9 s10 s11 hway hlot ho g9 g10 g11;have co:CutOk nums (way,l,rst nums l):=⟨hway,hlot,lp hlot H.nd,rfl⟩;have su:=H.cut hw co;have q1:=co.one.lt;have q2:=co.two.lt;have cu:=mY H.ok H.sz hway su.w1 su.w2 su.sm (by omega);obtain⟨e1,z1⟩:=mm hk hw k l _ _ su.o1 (by have:l.length<nums.length:=q1;omega);obtain⟨e2,z2⟩:=mm hk hw k (rst nums l) _ _ su.o2 (by have:(rst nums l).length<nums.length:=q2;omega);have zz:Sz 4000 (eO (bst kind ws k) ws b (way,l,rst nums l)):=Cq z1 z2;have l1:=fo z1 z2 (by omega) (by omega);dsimp only at cu e1 e2 z1 z2 l1;have hcd:eO (bst kind ws k) ws b (way,l,rst nums l)=mx (bst kind ws k (eK b way (wt ws l) (wt ws (rst nums l))) l) (bst kind ws k (eT b way (wt ws l) (wt ws (rst nums l))) (rst nums l)):=rfl;rw[hcd] at zz ⊢;generalize eK b way (wt ws l) (wt ws (rst nums l))=b1 at *;generalize eT b way (wt ws l) (wt ws (rst nums l))=b2 at *;generalize bst kind ws k b1 l=x1 at *;generalize bst kind ws k b2 (rst nums l)=x2 at *;have hms:∀q,cF o (mx x1 x2)=some q->Sz 4000 q:=by
     intro q e;cases o with
     |none=>cases e;exact zz
     |
      some p=>
      have e':(if mx x1 x2<p then some (mx x1 x2) else some p)=some q:=e;split at e'
      .cases e';exact zz
      .cases e';exact ho _ rfl
    by_cases hx:x1<x2
    .have em:mx x1 x2=x2:=if_pos hx;rw[em] at zz hms ⊢;rw[L_ hx] at l1;refine⟨.sh (bV b1),.sh (bV b2),.ow (.lst [fV x2,fV x1]),rfl,rfl,rfl,hms,?_⟩;unfold fY;cases o with
     |none=>simp![bo,bp,bq,bc,aO,aG,aR,ax,aK,aJ,aE,aa,ao,aW,aC,ay,af,ar,aj,aS,aH,aD,bh,a8,aV,aT,aZ,az,ba,bf,aY,aX,aw,aF,ai,ak,ah,aU,aA,aQ,aM,aN,aB,au,aP,ag,bg,cu,e1,e2,l1,rL,oV,cF,g9,g10,g11]
     |
      some p=>
      have l2:=fo z2 (ho p rfl) (by omega) (by omega);have ep:fV p=.tup [.int p.num,.int (p.den:Nat)]:=rfl;rw[ep] at l2;by_cases hy:x2<p
      .have ms:cF (some p) x2=some x2:=if_pos hy;rw[L_ hy] at l2;rw[ms];simp![bo,bp,bq,bc,aO,aG,aR,ax,aK,aJ,aE,aa,ao,aW,aC,ay,af,ar,aj,aS,aH,aD,bh,a8,aV,aT,aZ,az,ba,bf,aY,aX,aw,aF,ai,ak,ah,aU,aA,aQ,aM,aN,aB,au,aP,ag,bg,cu,e1,e2,l1,l2,rL,oV,ep,g9,g10,g11]
      .have ms:cF (some p) x2=some p:=if_neg hy;rw[K_ hy] at l2;rw[ms];simp![bo,bp,bq,bc,aO,aG,aR,ax,aK,aJ,aE,aa,ao,aW,aC,ay,af,ar,aj,aS,aH,aD,bh,a8,aV,aT,aZ,az,ba,bf,aY,aX,aw,aF,ai,ak,ah,aU,aA,aQ,aM,aN,aB,au,aP,ag,bg,cu,e1,e2,l1,l2,rL,oV,ep,g9,g10,g11]
    .have em:mx x1 x2=x1:=if_neg hx;rw[em] at zz hms ⊢;rw[K_ hx] at l1;refine⟨.sh (bV b1),.sh (bV b2),.ow (.lst [fV x1,fV x2]),rfl,rfl,rfl,hms,?_⟩;unfold fY;cases o with
     |none=>simp![bo,bp,bq,bc,aO,aG,aR,ax,aK,aJ,aE,aa,ao,aW,aC,ay,af,ar,aj,aS,aH,aD,bh,a8,aV,aT,aZ,az,ba,bf,aY,aX,aw,aF,ai,ak,ah,aU,aA,aQ,aM,aN,aB,au,aP,ag,bg,cu,e1,e2,l1,oV,cF,g9,g10,g11]
     |
      some p=>
      have l2:=fo z1 (ho p rfl) (by omega) (by omega);have ep:fV p=.tup [.int p.num,.int (p.den:Nat)]:=rfl;rw[ep] at l2;by_cases hy:x1<p
      .have ms:cF (some p) x1=some x1:=if_pos hy;rw[L_ hy] at l2;rw[ms];simp![bo,bp,bq,bc,aO,aG,aR,ax,aK,aJ,aE,aa,ao,aW,aC,ay,af,ar,aj,aS,aH,aD,bh,a8,aV,aT,aZ,az,ba,bf,aY,aX,aw,aF,ai,ak,ah,aU,aA,aQ,aM,aN,aB,au,aP,ag,bg,cu,e1,e2,l1,l2,oV,ep,g9,g10,g11]
      .have ms:cF (some p) x1=some p:=if_neg hy;rw[K_ hy] at l2;rw[ms];simp![bo,bp,bq,bc,aO,aG,aR,ax,aK,aJ,aE,aa,ao,aW,aC,ay,af,ar,aj,aS,aH,aD,bh,a8,aV,aT,aZ,az,ba,bf,aY,aX,aw,aF,ai,ak,ah,aU,aA,aQ,aM,aN,aB,au,aP,ag,bg,cu,e1,e2,l1,l2,oV,ep,g9,g10,g11]
   obtain⟨e',⟨s5,s6,s7,s8,s9,s10,s11,rfl,_,hso⟩,fr⟩:=kH (g:=(gtN 5).G) (B:=(iu (de k)).G) liV (λo l=>(f9 nums l).foldl (λo c=>cF o (eO (bst kind ws k) ws b c)) o) (λo e=>∃s5 s6 s7 s8 s9 s10 s11,e=[.sh (bV b),.sh (liV nums),.sh (liV ws),.sh (.str kind),.sh (oV o),s5,s6,s7,s8,s9,s10,s11]/\(s5.pl=true/\s6.pl=true/\s7.pl=true/\s8.pl=true/\s9.pl=true/\s10.pl=true/\s11.pl=true)/\∀q,o=some q->Sz 4000 q) (cI kind nums) none [.sh (bV b),.sh (liV nums),.sh (liV ws),.sh (.str kind),.sh .non,.no,.no,.no,.no,.no,.no,.no] ⟨_,_,_,_,_,_,_,rfl,⟨rfl,rfl,rfl,rfl,rfl,rfl,rfl⟩,λq z=>nomatch z⟩ (by
    rintro l hl' o e ⟨s5,s6,s7,s8,s9,s10,s11,rfl,⟨g5,g6,g7,g8,g9,g10,g11⟩,hso⟩;have lo:=tI hl';have r2:=lp lo H.nd;have r1':Inr ws l:=λi hi=>H.inr i (lo.sub.subset hi);have r2':Inr ws (rst nums l):=λi hi=>H.inr i (r2.sub.subset hi);have q1:=lo.lt;have q2:=r2.lt;obtain⟨sa,la⟩:=yt nums l (by omega);obtain⟨sb,lb⟩:=nR r1' (by omega);obtain⟨sc,lc⟩:=nR r2' (by omega);obtain⟨t9,t10,t11,k9,k10,k11,hs1,b1⟩:=turn "across" l o s9 s10 s11 (.inl rfl) lo hso g9 g10 g11;obtain⟨u9,u10,u11,m9,m10,m11,hs2,b2⟩:=turn "down" l _ t9 t10 t11 (.inr rfl) lo hs1 k9 k10 k11;have c0:((rst nums l).map Val.int).length<=16777216:=by rw[v_];omega
    have c1:((l.map (d7 ws)).map Val.int).length<=16777216:=by rw[v_,v_];omega
    have c2:(((rst nums l).map (d7 ws)).map Val.int).length<=16777216:=by rw[v_,v_];omega
    refine⟨[.sh (bV b),.sh (liV nums),.sh (liV ws),.sh (.str kind),.sh (oV o),.sh (liV l),s6,s7,s8,s9,s10,s11],[.sh (bV b),.sh (liV nums),.sh (liV ws),.sh (.str kind),.sh (oV (cF (cF o (eO (bst kind ws k) ws b ("across",l,rst nums l))) (eO (bst kind ws k) ws b ("down",l,rst nums l)))),.sh (liV l),.sh (liV (rst nums l)),.sh (.lst [.int (wt ws l),.int (wt ws (rst nums l))]),.sh (.str "down"),u9,u10,u11],?_,.inl ?_,_,_,_,_,_,_,_,rfl,⟨rfl,rfl,rfl,rfl,m9,m10,m11⟩,hs2⟩
    .simp![bo,bp,bq,bc,aO,aG,aR,ax,aK,aJ,aE,aa,ao,aW,aC,ay,af,ar,aj,aS,aH,aD,bh,a8,aV,aT,aZ,az,ba,bf,aY,aX,aw,aF,ai,ak,ah,aU,aA,aQ,aM,aN,aB,au,aP,ag,bg,g5]
    .unfold iu;generalize hnv:oV o=ov at *;generalize hmv:oV (cF o (eO (bst kind ws k) ws b ("across",l,rst nums l)))=mv at *;unfold wt at b1 b2 ⊢;unfold liV at la b1 b2 ⊢;simp![bo,bp,bq,bc,aO,aG,aR,ax,aK,aJ,aE,aa,ao,aW,aC,ay,af,ar,aj,aS,aH,aD,bh,a8,aV,aT,aZ,az,ba,bf,aY,aX,aw,aF,ai,ak,ah,aU,aA,aQ,aM,aN,aB,au,aP,ag,bg,bZ,g6,g7,g8,cn,la,lb,lc,c0,c1,c2,b1,b2])
   rw[<- List.foldl_flatMap,show (cI kind nums).flatMap (f9 nums)=gP kind nums from rfl,eq] at hso fr;rw[eb];refine⟨?_,hso q rfl⟩;rw[iX];unfold fi;have it:(liV nums)=.lst (nums.map .int):=rfl;rw[it] at fr fe ⊢;simp![bo,bp,bq,bc,aO,aG,aR,ax,aK,aJ,aE,aa,ao,aW,aC,ay,af,ar,aj,aS,aH,aD,bh,a8,aV,aT,aZ,az,ba,bf,aY,aX,aw,aF,ai,ak,ah,aU,aA,aQ,aM,aN,aB,au,aP,ag,bg,hne,fe,fr,oV]
def HL(xs:List Val):(cc cV).G [.tup xs,.ty "int"]=.val (.bl false):=rfl
def gD(xs:List Val):(cc cV).G [.tup xs,.ty "tuple"]=.val (.bl true):=rfl
def yf(i:Int):(cc cV).G [.int i,.ty "int"]=.val (.bl true):=rfl
def xH(i:Int):(cc cV).G [.int i,.ty "bool"]=.val (.bl false):=rfl
def Jy(i:Int):(cc cV).G [.int i,.ty "tuple"]=.val (.bl false):=rfl
def kC{ws:List Int}{b:Bx}{ls:List Int}{t:Val}{q:Rat}(h:Tr ws b ls t q):∀k,ls.length<=k->ls.length<=1000->(bY k).G [t]=.ok (.new (liV ls)) []:=by
 induction h with
 |
  leaf b i=>
  intro k hk _;cases k with
  |zero=>simp at hk
  |succ k=>show (PFx.of [false] 3 (dY (bY k))).G [.int i]=.ok (.new (.lst [.int i])) [];rw[iX];unfold dY;simp![bo,bp,bq,bc,aO,aG,aR,ax,aK,aJ,aE,aa,ao,aW,aC,ay,af,ar,aj,aS,aH,aD,bh,a8,aV,aT,aZ,az,ba,bf,aY,aX,aw,aF,ai,ak,ah,aU,aA,aQ,aM,aN,aB,au,aP,ag,bg,yf,xH]
 |
  node hw h1 h2 ih1 ih2=>
  rename_i b way l r t1 t2 q1 q2;intro k hk hl;cases k with
  |
   zero=>
   have:=MU.mpr h1.ne
   rw[E_] at hk;omega
  |
   succ k=>
   have n1:=MU.mpr h1.ne;have n2:=MU.mpr h2.ne;rw[E_] at hk hl;have e1:=ih1 k (by omega) (by omega);have e2:=ih2 k (by omega) (by omega);have i2:jB.G (.str way) (.lst [.str "across",.str "down"])=.val (.bl false):=by rcases hw with rfl |rfl <;> rfl
   have c1:(l.map Val.int).length+(r.map Val.int).length<=16777216:=by rw[v_,v_];omega
   show (PFx.of [false] 3 (dY (bY k))).G [.tup [.str way,.tup [t1,t2]]]=_;rw[iX];unfold dY liV;unfold liV at e1 e2;rw[MY];simp![bo,bp,bq,bc,aO,aG,aR,ax,aK,aJ,aE,aa,ao,aW,aC,ay,af,ar,aj,aS,aH,aD,bh,a8,aV,aT,aZ,az,ba,bf,aY,aX,aw,aF,ai,ak,ah,aU,aA,aQ,aM,aN,aB,au,aP,ag,bg,HL,gD,i2,e1,e2,c1]
def C3{ws:List Int}{m:Nat}(hw:∀w∈ws,1<=w){b:Bx}{ls:List Int}{t:Val}{q:Rat}(h:Tr ws b ls t q):∀(k n:Nat),ls.length<=k->ls.length<=7->Inr ws ls->b.Ok->b.Sz n->Sm m (wt ws ls)->(n+m+1)*2^ls.length<=4000->∃(bs:List Bx) (rt:Rt),(rt=.val (.lst (bs.map bV))\/rt=.new (.lst (bs.map bV)))/\(eh k).G [bV b,t,liV ws]=.ok rt []/\bs.length=ls.length/\(∀x∈bs,x.Ok/\x.Sz 2000)/\q∈bs.map dm/\∀x∈bs,¬ q<dm x:=by
 induction h with
 |
  leaf b i=>
  intro k n hk h7 hr hb hs hm hd;cases k with
  |zero=>simp at hk
  |
   succ k=>
   have hn:n<=2000:=by have:(n+m+1)*2<=4000:=hd;omega
   refine⟨[b],_,.inr rfl,?_,rfl,?_,M9.mpr ⟨b,M0.mpr rfl,rfl⟩,?_⟩
   .show (PFx.of [false,false,false] 7 (eV (eh k))).G [bV b,.int i,liV ws]=.ok (.new (.lst [bV b])) [];rw[iX];unfold eV;simp![bo,bp,bq,bc,aO,aG,aR,ax,aK,aJ,aE,aa,ao,aW,aC,ay,af,ar,aj,aS,aH,aD,bh,a8,aV,aT,aZ,az,ba,bf,aY,aX,aw,aF,ai,ak,ah,aU,aA,aQ,aM,aN,aB,au,aP,ag,bg,Jy]
   .intro x hx;rw[M0] at hx;subst hx;exact⟨hb,⟨hs.l.mono hn,hs.t.mono hn,hs.w.mono hn,hs.h.mono hn⟩⟩
   .intro x hx;rw[M0] at hx;subst hx;exact Rat.lt_irrefl
 |
  node hway h1 h2 ih1 ih2=>
  rename_i b way l r t1 t2 q1 q2;intro k n hk h7 hr hb hs hm hd;have n1:=MU.mpr h1.ne;have n2:=MU.mpr h2.ne;cases k with
  |zero=>rw[E_] at hk;omega
  |
   succ k=>
   rw[E_] at hk h7 hd;have r1:Inr ws l:=λi hi=>hr i (M7.mpr (.inl hi));have r2:Inr ws r:=λi hi=>hr i (M7.mpr (.inr hi));have g1:=qS hw r1;have g2:=qS hw r2;rw[yd] at hm;have hnm:n+m+1<=2000:=by have h2:2^1<=2^(l.length+r.length):=MZ (by decide) (by omega);have:(n+m+1)*2^1<=4000:=G_ (Ny _ h2) hd;omega
   have bd:∀a:Nat,a<l.length+r.length->(n+(n+m)+1+m+1)*2^a<=4000:=by intro a ha;have h2:2^(a+1)<=2^(l.length+r.length):=MZ (by decide) ha;have h4:(n+m+1)*2^(a+1)<=4000:=G_ (Ny _ h2) hd;rw[OD,N9 (2^a),<- OL] at h4;rw[show n+(n+m)+1+m+1=(n+m+1)*2 by omega];exact h4
   have k1:=uR (way:=way) hb hs (by omega:1<=wt ws l) (by omega:1<=wt ws r) hm;have k2:=uv (way:=way) hb hs (by omega:1<=wt ws l) (by omega:1<=wt ws r) hm;obtain⟨bs1,rt1,hr1,e1,ln1,o1,m1,x1⟩:=ih1 k _ (by omega) (by omega) r1 k1.1 k1.2 (hm.of_le (by omega)) (bd _ (by omega));obtain⟨bs2,rt2,hr2,e2,ln2,o2,m2,x2⟩:=ih2 k _ (by omega) (by omega) r2 k2.1 k2.2 (hm.of_le (by omega)) (bd _ (by omega));have cu:=mY hb hs hway (by omega:1<=wt ws l) (by omega:1<=wt ws r) hm (by omega);have th1:=kC h1 7 (by omega) (by omega);have th2:=kC h2 7 (by omega) (by omega);obtain⟨sa,la⟩:=nR r1 (by omega);obtain⟨sb,lb⟩:=nR r2 (by omega);have ca:((l.map (d7 ws)).map Val.int).length<=16777216:=by rw[v_,v_];omega
   have cb:((r.map (d7 ws)).map Val.int).length<=16777216:=by rw[v_,v_];omega
   generalize eK b way (wt ws l) (wt ws r)=b1 at *;generalize eT b way (wt ws l) (wt ws r)=b2 at *;have fe:∀(u:Val) (x:List Int) (s:Sl) (s':Sl),s.pl=true->(bY 7).G [u]=.ok (.new (liV x)) []->lcV (gtN 0).G qY.G (pOp bIx (av 1) (av 0)).G (x.map .int) [] [.no,.sh (.lst (ws.map .int))]=.ok ((x.map (d7 ws)).map Val.int) [s',.sh (.lst (ws.map .int))]->((x.map (d7 ws)).map Val.int).length<=16777216->(pFn fU (aq (pLC (bP (bt (bY 7).fn (aq (av 0) bj))) [none,some 1] (by decide) (gtN 0) qY (pOp bIx (av 1) (av 0))) bj)).G [.sh u,.sh (.lst (ws.map .int))]=.ok (.val (.int (wt ws x))) [.sh u,.sh (.lst (ws.map .int))]:=by intro u x s s' hs' th lc cl;unfold liV at th;unfold wt;simp![bo,bp,bq,bc,aO,aG,aR,ax,aK,aJ,aE,aa,ao,aW,aC,ay,af,ar,aj,aS,aH,aD,bh,a8,aV,aT,aZ,az,ba,bf,aY,aX,aw,aF,ai,ak,ah,aU,aA,aQ,aM,aN,aB,au,aP,ag,bg,th,cn,lc,cl]
   obtain⟨e',⟨s,rfl,_⟩,lo⟩:=eu (g:=(gtN 0).G) (F:=(pFn fU (aq (pLC (bP (bt (bY 7).fn (aq (av 0) bj))) [none,some 1] (by decide) (gtN 0) qY (pOp bIx (av 1) (av 0))) bj)).G) (λp:List Int×Val=>p.2) (λp=>.int (wt ws p.1)) (λe=>∃s,e=[s,.sh (.lst (ws.map .int))]/\s.pl=true) [(l,t1),(r,t2)] [] [.no,.sh (.lst (ws.map .int))] ⟨.no,rfl,rfl⟩ (by
    rintro p hp e ⟨s,rfl,hs'⟩;refine⟨[.sh p.2,.sh (.lst (ws.map .int))],.val (.int (wt ws p.1)),[.sh p.2,.sh (.lst (ws.map .int))],?_,?_,rfl,⟨_,rfl,rfl⟩⟩
    .simp![bo,bp,bq,bc,aO,aG,aR,ax,aK,aJ,aE,aa,ao,aW,aC,ay,af,ar,aj,aS,aH,aD,bh,a8,aV,aT,aZ,az,ba,bf,aY,aX,aw,aF,ai,ak,ah,aU,aA,aQ,aM,aN,aB,au,aP,ag,bg,hs']
    .rcases MN.mp hp with rfl |hp
     .exact fe t1 l s sa hs' th1 la ca
     .rw[M0] at hp;subst hp;exact fe t2 r s sb hs' th2 lb cb) (by simp)
   rw[MQ,B_,B_,M5,B_,B_,M5] at lo;dsimp only at lo;have c3:(bs1.map bV).length+(bs2.map bV).length<=16777216:=by rw[v_,v_];omega
   have c4:(bs1.map bV).length<=16777216:=by rw[v_];omega
   refine⟨bs1++bs2,_,.inl rfl,?_,by rw[E_,E_,ln1,ln2],?_,?_,?_⟩
   .show (PFx.of [false,false,false] 7 (eV (eh k))).G [bV b,.tup [.str way,.tup [t1,t2]],liV ws]=_;rw[iX,MY];unfold eV lO;unfold liV at e1 e2 ⊢;rcases hr1 with rfl |rfl <;> rcases hr2 with rfl |rfl
    .simp![bo,bp,bq,bc,aO,aG,aR,ax,aK,aJ,aE,aa,ao,aW,aC,ay,af,ar,aj,aS,aH,aD,bh,a8,aV,aT,aZ,az,ba,bf,aY,aX,aw,aF,ai,ak,ah,aU,aA,aQ,aM,aN,aB,au,aP,ag,bg,gD,cn,lo,cu,bZ,NT,NU,e1,e2,c3,c4]
    .simp![bo,bp,bq,bc,aO,aG,aR,ax,aK,aJ,aE,aa,ao,aW,aC,ay,af,ar,aj,aS,aH,aD,bh,a8,aV,aT,aZ,az,ba,bf,aY,aX,aw,aF,ai,ak,ah,aU,aA,aQ,aM,aN,aB,au,aP,ag,bg,gD,cn,lo,cu,bZ,NT,NU,e1,e2,c3,c4]
    .simp![bo,bp,bq,bc,aO,aG,aR,ax,aK,aJ,aE,aa,ao,aW,aC,ay,af,ar,aj,aS,aH,aD,bh,a8,aV,aT,aZ,az,ba,bf,aY,aX,aw,aF,ai,ak,ah,aU,aA,aQ,aM,aN,aB,au,aP,ag,bg,gD,cn,lo,cu,bZ,NT,NU,e1,e2,c3,c4]
    .simp![bo,bp,bq,bc,aO,aG,aR,ax,aK,aJ,aE,aa,ao,aW,aC,ay,af,ar,aj,aS,aH,aD,bh,a8,aV,aT,aZ,az,ba,bf,aY,aX,aw,aF,ai,ak,ah,aU,aA,aQ,aM,aN,aB,au,aP,ag,bg,gD,cn,lo,cu,bZ,NT,NU,e1,e2,c3,c4]
   .intro x hx;rcases M7.mp hx with hx |hx
    .exact o1 x hx
    .exact o2 x hx
   .rw[MY,M7];unfold mx;split
    .exact .inr m2
    .exact .inl m1
   .intro x hx z;unfold mx at z;rcases M7.mp hx with hx |hx
    .split at z
     .rename_i hlt;exact absurd z (NR.mpr (Rat.le_trans (NR.mp (x1 x hx)) (Rat.le_of_lt hlt)))
     .exact x1 x hx z
    .split at z
     .exact x2 x hx z
     .rename_i hlt;exact absurd z (NR.mpr (Rat.le_trans (NR.mp (x2 x hx)) (NR.mp hlt)))
def nB(q:Rat):dX.G [fV q]=.ok (.val (.bl true)) []:=by rw[show fV q=.tup [.int q.num,.int q.den] from rfl];unfold dX;rw[bJ];unfold jm;simp![bo,bp,bq,bc,aO,aG,aR,ax,aK,aJ,aE,aa,ao,aW,aC,ay,af,ar,aj,aS,aH,aD,bh,a8,aV,aT,aZ,az,ba,bf,aY,aX,aw,aF,ai,ak,ah,aU,aA,aQ,aM,aN,aB,au,aP,ag,bg,gD,xH,yf,cn,lcV,gq,Nh,List.any_nil,id_eq]
def uI(is:List Int):ek (.lst (is.map .int)) (.lst (is.map .int))=some true:=by
 have w:wfV 60 (.lst (is.map .int))=true:=by show eP 59 _=true;rw[mE,MD];intro v hv;obtain⟨b,_,rfl⟩:=M9.mp hv;rfl
 rw[Cf w w,n9 60 _ w]
def wm(q:Rat):ek (fV q) (fV q)=some true:=by rw[Cf (mO q 59) (mO q 59),n9 60 _ (mO q 59)]
def bL(n:Nat):List Int:=(List.range n).map λi=>((i:Nat):Int)
def uL(n:Nat):rgV n=(bL n).map Val.int:=by unfold bL rgV;rw[Nl];rfl
def CH(n:Nat):(bL n).Pairwise (·<=·):=by unfold bL;rw[List.pairwise_map];exact List.pairwise_lt_range.imp λh=>by omega
def J5{ws:List Int}{b:Bx}{l:List Int}{t:Val}{q:Rat}(h:Tr ws b l t q):L3.flatV t=true:=by
 induction h with
 |leaf=>rfl
 |node _ _ _ i1 i2=>simp only[iR,eF,eU,ku,i1,i2,Bool.and_self,Bool.and_true]
def EC{ws:List Int}{m n:Nat}(hw:∀w∈ws,1<=w){b:Bx}{t:Val}{q:Rat}(h0:ws≠[])(hl:ws.length<=6)(H:Ok51 ws (bL ws.length) b n m){ls:List Int}(hp:ls.Perm (bL ws.length))(h:Tr ws b ls t q)(hq:q=bst "any" ws 7 b (bL ws.length))(zq:Sz 4000 q):fW.G [bV b,liV ws,.tup [fV q,t]]=.ok (.val (.bl true)) []:=by
 have nl:(bL ws.length).length=ws.length:=by unfold bL;rw[v_,Oi]
 have nl2:ls.length=ws.length:=hp.length_eq.trans nl;have th:=kC h 7 (by omega) (by omega);have so:jK.G [.lst (ls.map .int)]=.new (.lst ((bL ws.length).map .int)):=by rw[AB ls (by omega),<- yO hp.symm (CH _)]
 obtain⟨bs,rt,hrt,el,ln,ob,mq,xq⟩:=C3 hw h 7 n (by omega) (by omega) (λi hi=>H.inr i (hp.mem_iff.mp hi)) H.ok H.sz (by rw[ia hp];exact H.mw) (by rw[nl2,<- nl];exact H.bd);obtain⟨ee,_⟩:=mm (.inr rfl) hw 7 (bL ws.length) b n H (by omega);rw[<- hq] at ee;have lf:=nB q;have lr:jX.G [.int (ws.length:Nat)]=.new (.lst ((bL ws.length).map Val.int)):=by rw[Cs ⟨by omega,by omega⟩,<- uL];rfl
 have lw:((ws.map Val.int).length:Nat)=ws.length:=v_ ..;have ei:=uI (bL ws.length);obtain⟨e',⟨s,rfl,_⟩,lc⟩:=eu (g:=(gtN 0).G) (F:=(bt dN (aq (av 0) bj)).G) bV (λx=>fV (dm x)) (λe=>∃s,e=[s]/\s.pl=true) bs [] [.no] ⟨.no,rfl,rfl⟩ (by
  rintro x hx e ⟨s,rfl,hs⟩;have sh:=kF (ob x hx).1 (ob x hx).2 (by omega);refine⟨[.sh (bV x)],.val (fV (dm x)),[.sh (bV x)],?_,?_,rfl,⟨_,rfl,rfl⟩⟩
  .simp![bo,bp,bq,bc,aO,aG,aR,ax,aK,aJ,aE,aa,ao,aW,aC,ay,af,ar,aj,aS,aH,aD,bh,a8,aV,aT,aZ,az,ba,bf,aY,aX,aw,aF,ai,ak,ah,aU,aA,aQ,aM,aN,aB,au,aP,ag,bg,hs]
  .simp![bo,bp,bq,bc,aO,aG,aR,ax,aK,aJ,aE,aa,ao,aW,aC,ay,af,ar,aj,aS,aH,aD,bh,a8,aV,aT,aZ,az,ba,bf,aY,aX,aw,aF,ai,ak,ah,aU,aA,aQ,aM,aN,aB,au,aP,ag,bg,sh]) (by rw[M1];omega)
 rw[MQ,show bs.map (λx=>fV (dm x))=(bs.map dm).map fV by rw[Nl];rfl] at lc;have c1:((bs.map dm).map fV).length<=16777216:=by rw[v_,v_];omega
 have ni:=AI mq;obtain⟨e2,⟨s2,rfl,_⟩,lc2⟩:=eu (g:=(gtN 0).G) (F:=(bt c7 (aq (pOp bIx (av 1) (br 0)) (aq (av 0) bj))).G) (λx:Bx=>fV (dm x)) (λ_=>.bl false) (λe=>∃s,e=[s,.sh (.tup [fV q,t])]/\s.pl=true) bs [] [.no,.sh (.tup [fV q,t])] ⟨.no,rfl,rfl⟩ (by
  rintro x hx e ⟨s,rfl,hs⟩;have ls:=fo zq ((sd (ob x hx).1 (ob x hx).2).mono (by omega:_<=4000)) (by omega) (by omega);rw[K_ (xq x hx)] at ls;refine⟨[.sh (fV (dm x)),.sh (.tup [fV q,t])],.val (.bl false),[.sh (fV (dm x)),.sh (.tup [fV q,t])],?_,?_,rfl,⟨_,rfl,rfl⟩⟩
  .simp![bo,bp,bq,bc,aO,aG,aR,ax,aK,aJ,aE,aa,ao,aW,aC,ay,af,ar,aj,aS,aH,aD,bh,a8,aV,aT,aZ,az,ba,bf,aY,aX,aw,aF,ai,ak,ah,aU,aA,aQ,aM,aN,aB,au,aP,ag,bg,hs]
  .simp![bo,bp,bq,bc,aO,aG,aR,ax,aK,aJ,aE,aa,ao,aW,aC,ay,af,ar,aj,aS,aH,aD,bh,a8,aV,aT,aZ,az,ba,bf,aY,aX,aw,aF,ai,ak,ah,aU,aA,aQ,aM,aN,aB,au,aP,ag,bg,ls]) (by rw[M1];omega)
 rw[MQ,show bs.map (λx=>fV (dm x))=(bs.map dm).map fV by rw[Nl];rfl,show bs.map (λ_=>Val.bl false)=(bs.map λ_=>false).map Val.bl by rw[Nl];rfl] at lc2;have anb:(bs.map λ_=>false).any id=false:=by rw[List.any_map,List.any_eq_false];intro x _;exact D_
 have c2:((bs.map λ_=>false).map Val.bl).length<=16777216:=by rw[v_,v_];omega
 unfold fW;rw[bJ];unfold mZ;unfold liV at th el ee ⊢;rcases hrt with rfl |rfl
 .simp![bo,bp,bq,bc,aO,aG,aR,ax,aK,aJ,aE,aa,ao,aW,aC,ay,af,ar,aj,aS,aH,aD,bh,a8,aV,aT,aZ,az,ba,bf,aY,aX,aw,aF,ai,ak,ah,aU,aA,aQ,aM,aN,aB,au,aP,ag,bg,gD,lf,th,so,lw,lr,ei,cn,el,lc,c1,ni,lc2,c2,anb,ee,wm]
 .simp![bo,bp,bq,bc,aO,aG,aR,ax,aK,aJ,aE,aa,ao,aW,aC,ay,af,ar,aj,aS,aH,aD,bh,a8,aV,aT,aZ,az,ba,bf,aY,aX,aw,aF,ai,ak,ah,aU,aA,aQ,aM,aN,aB,au,aP,ag,bg,gD,lf,th,so,lw,lr,ei,cn,el,lc,c1,ni,lc2,c2,anb,ee,wm]
def DJ:eQ.G [.str "any"]=.ok (.val .non) []:=by
 have i1:(cc cV).G [.str "any",.ty "str"]=.val (.bl true):=rfl;have i2:lkS cL "any"=some 5:=by decide
 unfold eQ;rw[bJ];unfold kB;simp![bo,bp,bq,bc,aO,aG,aR,ax,aK,aJ,aE,aa,ao,aW,aC,ay,af,ar,aj,aS,aH,aD,bh,a8,aV,aT,aZ,az,ba,bf,aY,aX,aw,aF,ai,ak,ah,aU,aA,aQ,aM,aN,aB,au,aP,ag,bg,i1,HW,i2]
def oJ{ws:List Int}{m n:Nat}(hw:∀w∈ws,1<=w){b:Bx}(h0:ws≠[])(hl:ws.length<=5)(H:Ok51 ws (bL ws.length) b n m):∃t ls,dB.G [bV b,liV ws,.str "any"]=.ok (.val (.tup [fV (bst "any" ws 7 b (bL ws.length)),t])) []/\Sz 4000 (bst "any" ws 7 b (bL ws.length))/\ls.Perm (bL ws.length)/\Tr ws b ls t (bst "any" ws 7 b (bL ws.length)):=by
 have nl:(bL ws.length).length=ws.length:=by unfold bL;rw[v_,Oi]
 obtain⟨t,ls,e,z,hp,_,tr⟩:=oq (.inr rfl) hw 7 (bL ws.length) b n H (by omega);refine⟨t,ls,?_,z,hp,tr⟩;have cb:=iq H.ok;have cw:=yb h0 hw (by omega);have i2:lkS cL "any"=some 5:=by decide
 have kg:(qH "MOST_THINGS" cL).G (.glb "MOST_THINGS") (.str "any")=.val (.int 5):=JJ i2;have lw:((ws.map Val.int).length:Nat)=ws.length:=v_ ..;have hd:decide ((5:Int)<((ws.length:Nat):Int))=false:=K_ (by omega);have ca:eA.G [bV b,.lst (ws.map .int),.str "any"]=.ok (.val .non) []:=by unfold eA;rw[bJ];unfold j7;simp![bo,bp,bq,bc,aO,aG,aR,ax,aK,aJ,aE,aa,ao,aW,aC,ay,af,ar,aj,aS,aH,aD,bh,a8,aV,aT,aZ,az,ba,bf,aY,aX,aw,aF,ai,ak,ah,aU,aA,aQ,aM,aN,aB,au,aP,ag,bg,cb,cw,DJ,kg,lw,hd]
 have lr:jX.G [.int (ws.length:Nat)]=.new (.lst ((bL ws.length).map Val.int)):=by rw[Cs ⟨by omega,by omega⟩,<- uL];rfl
 unfold dB;rw[bJ];unfold j0;unfold liV at e ⊢;simp![bo,bp,bq,bc,aO,aG,aR,ax,aK,aJ,aE,aa,ao,aW,aC,ay,af,ar,aj,aS,aH,aD,bh,a8,aV,aT,aZ,az,ba,bf,aY,aX,aw,aF,ai,ak,ah,aU,aA,aQ,aM,aN,aB,au,aP,ag,bg,ca,lw,lr,e]
def p30:om.G (.int 10) (.int 30)=.val (.int 1000000000000000000000000000000):=B0 ⟨by decide,by decide,by decide⟩
def iQ{β:Nat}{a b:Int}(h0:0<=a)(h:a<=b)(hb:Sm β b):Sm β a:=hb.of_le (by omega)
def vf{n β:Nat}{v:Val}{far:Int}(f:Fd n v)(hn:n<=800000000)(h1:1<=far)(hf:Sm β far)(h60:Sm β 60)(hβ:β<=8000):∃q v',eW.G [v,.int far]=.ok (.val (fV q)) [v']/\Fd (n+13) v'/\0<q/\Sz β q:=by
 obtain⟨w,v1,e1,f1,w0,w5⟩:=bM (m:=5) f (by omega) (by decide) (sm8 (by decide));unfold eW;rw[bJ];unfold nD;by_cases h2:w<2
 .obtain⟨a,v2,e2,f2,a0,a1⟩:=bM (m:=12) f1 (by omega) (by decide) (sm8 (by decide));refine⟨((1+a:Int):Rat),v2,?_,f2.mono (by omega),oK (by omega),iQ (by show (0:Int)<=1+a;omega) (by show 1+a<=60;omega) h60,iQ (a:=1) (by decide) (by decide) h60⟩;have i1:fV ((1+a:Int):Rat)=.tup [.int (1+a),.int 1]:=rfl;rw[i1];simp![bo,bp,bq,bc,aO,aG,aR,ax,aK,aJ,aE,aa,ao,aW,aC,ay,af,ar,aj,aS,aH,aD,bh,a8,aV,aT,aZ,az,ba,bf,aY,aX,aw,aF,ai,ak,ah,aU,aA,aQ,aM,aN,aB,au,aP,ag,bg,e1,e2,L_ h2]
 .have d2:=K_ h2;by_cases h3:w=2
  .subst h3;refine⟨1,v1,?_,f1.mono (by omega),by decide,iQ (a:=1) (by decide) (by decide) h60,iQ (a:=1) (by decide) (by decide) h60⟩;have i1:fV 1=.tup [.int 1,.int 1]:=rfl;rw[i1];simp![bo,bp,bq,bc,aO,aG,aR,ax,aK,aJ,aE,aa,ao,aW,aC,ay,af,ar,aj,aS,aH,aD,bh,a8,aV,aT,aZ,az,ba,bf,aY,aX,aw,aF,ai,ak,ah,aU,aA,aQ,aM,aN,aB,au,aP,ag,bg,e1,d2]
  .have d3:(w==2)=false:=by rw[MM];exact h3
   by_cases h4:w=3
   .subst h4;obtain⟨a,v2,e2,f2,a0,a1⟩:=bM (m:=60) f1 (by omega) (by decide) (sm8 (by decide));obtain⟨b,v3,e3,f3,b0,b1⟩:=bM (m:=12) f2 (by omega) (by decide) (sm8 (by decide));have sb:Sm β (1+b):=iQ (by omega) (by omega) h60;have lo:=fN (a:=1+a) (b:=1+b) (by omega) (sb.mono hβ);refine⟨((1+a:Int):Rat)/((1+b:Int):Rat),v3,?_,f3.mono (by omega),ma (by omega) (by omega),Sz.div (by omega) (iQ (by omega) (by omega) h60) sb β (y_ _) (y_ _)⟩;simp![bo,bp,bq,bc,aO,aG,aR,ax,aK,aJ,aE,aa,ao,aW,aC,ay,af,ar,aj,aS,aH,aD,bh,a8,aV,aT,aZ,az,ba,bf,aY,aX,aw,aF,ai,ak,ah,aU,aA,aQ,aM,aN,aB,au,aP,ag,bg,e1,e2,e3,d2,lo]
   .have d4:(w==3)=false:=by rw[MM];exact h4
    obtain⟨a,v2,e2,f2,a0⟩:=rp f1 (by omega);obtain⟨b,v3,e3,f3,b0⟩:=rp f2 (by omega);have m1:∀x:Int,da.G (.int x) (.int far)=.val (.int (x.fmod far)):=λx=>gu (by omega);have r1:=fF (a:=a) (m:=far) (by omega);have r2:=fF (a:=b) (m:=far) (by omega);have sb:Sm β (1+b.fmod far):=iQ (by omega) (by omega) hf;have lo:=fN (a:=1+a.fmod far) (b:=1+b.fmod far) (by omega) (sb.mono hβ);refine⟨((1+a.fmod far:Int):Rat)/((1+b.fmod far:Int):Rat),v3,?_,f3.mono (by omega),ma (by omega) (by omega),Sz.div (by omega) (iQ (by omega) (by omega) hf) sb β (y_ _) (y_ _)⟩;simp![bo,bp,bq,bc,aO,aG,aR,ax,aK,aJ,aE,aa,ao,aW,aC,ay,af,ar,aj,aS,aH,aD,bh,a8,aV,aT,aZ,az,ba,bf,aY,aX,aw,aF,ai,ak,ah,aU,aA,aQ,aM,aN,aB,au,aP,ag,bg,e1,e2,e3,d2,d3,d4,m1,lo]
def Ks:ij [.int 2]=some [.int 0,.int 1]:=lz (i:=2) (by decide) (by decide)
structure Ca(b:Bx)(ws:List Int)(far:Int)(β μ mn:Nat):Prop where
 len:ws.length=mn
 m1:1<=mn
 m5:mn<=5
 le:∀w∈ws,1<=w/\w<=far
 h60:60<=far
 ok:b.Ok
 sz:b.Sz β
 mu:((mn:Int)*far).natAbs<2^μ
 bd:(β+μ+1)*2^mn<=4000
def caQ(n:Nat)(r:SR3):Prop:=∃b ws far β μ mn v',Ca b ws far β μ mn/\Fd (n+200) v'/\BK [true,false] r=.ok (.pr (bV b) (liV ws)) [v']
theorem yD{far:Int}:∀{ws:List Int},(∀w∈ws,1<=w/\w<=far)->ws.sum<=(ws.length:Int)*far
 | [],_=>by simp
 |
  x::l,h=>by
  rw[M3,MK];have h1:=h x (H_ ..);have h2:=yD (ws:=l) λw hw=>h w (A_ _ hw);rw[Int.natCast_add,Int.add_mul];show x+l.sum<=(l.length:Int)*far+1*far;omega
def pw5{i:Nat}(h:i<6):1<=(1:Int)*2^i/\(1:Int)*2^i<=32:=by
 match i,h with
 |0,_=>decide
 |1,_=>decide
 |2,_=>decide
 |3,_=>decide
 |4,_=>decide
 |5,_=>decide
def Bw{N mn:Nat}{far way same:Int}{sl st sp sq:Sl}(hN:N<=100000)(hmn:mn<=6)(h60:60<=far)(w0:0<=way)(w4:way<4)(s1:1<=same)(s2:same<=60){v:Val}(f:Fd N v):∃e',(∃(v:Val) (ws:List Int) (s11:Sl),Fd (N+8*mn) v/\ws.length=mn/\(∀w∈ws,1<=w/\w<=far)/\s11.pl=true/\e'=[.mu v,.sh (.int 5),.sh (.int far),.sh (.int (mn:Nat)),sp,sq,sl,st,.sh (.int way),.sh (.int same),.ow (.lst (ws.map .int)),s11])/\fb (gtN 11).G cx.G (rgV mn) [.mu v,.sh (.int 5),.sh (.int far),.sh (.int (mn:Nat)),sp,sq,sl,st,.sh (.int way),.sh (.int same),.ow (.lst []),.no]=.nx e':=by
 refine tU (g:=(gtN 11).G) (B:=cx.G) (λi e=>∃(v:Val) (ws:List Int) (s11:Sl),Fd (N+8*i) v/\ws.length=i/\(∀w∈ws,1<=w/\w<=far)/\s11.pl=true/\e=[.mu v,.sh (.int 5),.sh (.int far),.sh (.int (mn:Nat)),sp,sq,sl,st,.sh (.int way),.sh (.int same),.ow (.lst (ws.map .int)),s11]) mn ⟨v,[],.no,f,rfl,(λ_ h=>nomatch h),rfl,rfl⟩ ?_;rintro i hi e ⟨v,ws,s11,f,hl,hw,h11,rfl⟩;obtain⟨a,v1,e1,f1,a0,a1⟩:=bM (m:=3) f (by omega) (by decide) (sm8 (by decide));obtain⟨g,v2,e2,f2,g0⟩:=rp f1 (by omega);have sh:=Km (i:=1) (j:=(i:Nat)) ⟨by omega,by omega,by decide⟩;rw[show ((i:Nat):Int).toNat=i from rfl] at sh;have m1:da.G (.int g) (.int far)=.val (.int (g.fmod far)):=gu (by omega);have r1:=fF (a:=g) (m:=far) (by omega);have p5:=pw5 (i:=i) (by omega);have ll:(ws.map Val.int).length<16777216:=by rw[v_];omega
 have key:∀w:Int,(1<=w/\w<=far)->cx.G [.mu v,.sh (.int 5),.sh (.int far),.sh (.int (mn:Nat)),sp,sq,sl,st,.sh (.int way),.sh (.int same),.ow (.lst (ws.map .int)),.sh (.int (i:Nat))]=.nx [.mu v2,.sh (.int 5),.sh (.int far),.sh (.int (mn:Nat)),sp,sq,sl,st,.sh (.int way),.sh (.int same),.ow (.lst (ws.map .int++[.int w])),.sh (.int (i:Nat))]->∃e1 e2,(gtN 11).G (.int (i:Nat)) [.mu v,.sh (.int 5),.sh (.int far),.sh (.int (mn:Nat)),sp,sq,sl,st,.sh (.int way),.sh (.int same),.ow (.lst (ws.map .int)),s11]=some e1/\(cx.G e1=.nx e2\/cx.G e1=.ct e2)/\∃(v:Val) (ws:List Int) (s11:Sl),Fd (N+8*(i+1)) v/\ws.length=i+1/\(∀w∈ws,1<=w/\w<=far)/\s11.pl=true/\e2=[.mu v,.sh (.int 5),.sh (.int far),.sh (.int (mn:Nat)),sp,sq,sl,st,.sh (.int way),.sh (.int same),.ow (.lst (ws.map .int)),s11]:=by
  intro w hw1 hB;refine⟨_,_,?_,.inl hB,v2,ws++[w],.sh (.int (i:Nat)),f2.mono (by omega),by rw[E_,hl];rfl,?_,rfl,by rw[MY];rfl⟩
  .simp![bo,bp,bq,bc,aO,aG,aR,ax,aK,aJ,aE,aa,ao,aW,aC,ay,af,ar,aj,aS,aH,aD,bh,a8,aV,aT,aZ,az,ba,bf,aY,aX,aw,aF,ai,ak,ah,aU,aA,aQ,aM,aN,aB,au,aP,ag,bg,h11]
  .intro x hx;rcases M7.mp hx with hx |hx
   .exact hw x hx
   .rw[M0] at hx;subst hx;exact hw1
 obtain rfl |rfl |rfl |rfl:way=0\/way=1\/way=2\/way=3:=by omega
 .refine key same (by omega) ?_;unfold cx;simp![bo,bp,bq,bc,aO,aG,aR,ax,aK,aJ,aE,aa,ao,aW,aC,ay,af,ar,aj,aS,aH,aD,bh,a8,aV,aT,aZ,az,ba,bf,aY,aX,aw,aF,ai,ak,ah,aU,aA,aQ,aM,aN,aB,au,aP,ag,bg,e1,e2,sh,m1,ll]
 .refine key (1+a) (by omega) ?_;unfold cx;simp![bo,bp,bq,bc,aO,aG,aR,ax,aK,aJ,aE,aa,ao,aW,aC,ay,af,ar,aj,aS,aH,aD,bh,a8,aV,aT,aZ,az,ba,bf,aY,aX,aw,aF,ai,ak,ah,aU,aA,aQ,aM,aN,aB,au,aP,ag,bg,e1,e2,sh,m1,ll]
 .refine key (1*2^i) (by omega) ?_;unfold cx;simp![bo,bp,bq,bc,aO,aG,aR,ax,aK,aJ,aE,aa,ao,aW,aC,ay,af,ar,aj,aS,aH,aD,bh,a8,aV,aT,aZ,az,ba,bf,aY,aX,aw,aF,ai,ak,ah,aU,aA,aQ,aM,aN,aB,au,aP,ag,bg,e1,e2,sh,m1,ll]
 .refine key (1+g.fmod far) (by omega) ?_;unfold cx;simp![bo,bp,bq,bc,aO,aG,aR,ax,aK,aJ,aE,aa,ao,aW,aC,ay,af,ar,aj,aS,aH,aD,bh,a8,aV,aT,aZ,az,ba,bf,aY,aX,aw,aF,ai,ak,ah,aU,aA,aQ,aM,aN,aB,au,aP,ag,bg,e1,e2,sh,m1,ll]
def CS{n:Nat}{v:Val}(f:Fd n v)(hn:n<=1000):∃b ws far β μ mn v',Ca b ws far β μ mn/\Fd (n+200) v'/\gO.G [v,.int 5]=.ok (.pr (bV b) (liV ws)) [v']:=by
 show ∃b ws far β μ mn v',Ca b ws far β μ mn/\Fd (n+200) v'/\(fnP [true,false] 12 gX).G [v,.int 5]=_;rw[Lb rfl];show caQ n (gX.G _);unfold gX;rw[show sls [true,false] [v,.int 5]++List.replicate (12-[v,.int 5].length) .no=[.mu v,.sh (.int 5),.no,.no,.no,.no,.no,.no,.no,.no,.no,.no] from rfl];obtain⟨a,v1,e1,f1,a0,a1⟩:=bM (m:=5) f (by omega) (by decide) (sm8 (by decide));refine fS (λe=>e=[.mu v1,.sh (.int 5),.sh (.int 60),.sh (.int (1+a)),.no,.no,.no,.no,.no,.no,.no,.no]) ⟨_,by simp![bo,bp,bq,bc,aO,aG,aR,ax,aK,aJ,aE,aa,ao,aW,aC,ay,af,ar,aj,aS,aH,aD,bh,a8,aV,aT,aZ,az,ba,bf,aY,aX,aw,aF,ai,ak,ah,aU,aA,aQ,aM,aN,aB,au,aP,ag,bg,e1],rfl⟩ ?_;rintro _ rfl;obtain⟨d,v2,e2,f2,d0,d1⟩:=bM (m:=5) f1 (by omega) (by decide) (sm8 (by decide));refine fS (λe=>∃(v:Val) (far:Int) (mn β μ:Nat),Fd (n+3) v/\60<=far/\Sm β far/\Sm β 60/\β<=100/\1<=mn/\mn<=5/\((mn:Int)*far).natAbs<2^μ/\(β+μ+1)*2^mn<=4000/\e=[.mu v,.sh (.int 5),.sh (.int far),.sh (.int (mn:Nat)),.no,.no,.no,.no,.no,.no,.no,.no]) ?_ ?_
 .by_cases hd:d=0
  .subst hd;obtain⟨k,v3,e3,f3,k0,k1⟩:=bM (m:=3) f2 (by omega) (by decide) (sm8 (by decide));obtain⟨k',rfl⟩:=Oe k0;refine⟨_,by simp![bo,bp,bq,bc,aO,aG,aR,ax,aK,aJ,aE,aa,ao,aW,aC,ay,af,ar,aj,aS,aH,aD,bh,a8,aV,aT,aZ,az,ba,bf,aY,aX,aw,aF,ai,ak,ah,aU,aA,aQ,aM,aN,aB,au,aP,ag,bg,e2,e3,p30];rfl,v3,999999999999999999999999999999,1+k',100,102,f3,by decide,by unfold Sm;decide,by unfold Sm;decide,by omega,by omega,by omega,?_,?_,by rw[Int.natCast_add];rfl⟩
   .have:((1+k':Nat):Int)<=3:=by omega
    have h2:((1+k':Nat):Int)*999999999999999999999999999999<=3*999999999999999999999999999999:=Int.mul_le_mul_of_nonneg_right this (by decide);have h3:(2:Nat)^102=5070602400912917605986812821504:=by decide
    rw[h3];omega
   .have:2^(1+k')<=2^3:=MZ (by decide) (by omega);omega
  .have hd':(d==0)=false:=by rw[MM];exact hd
   obtain⟨k',rfl⟩:=Oe a0;refine⟨[.mu v2,.sh (.int 5),.sh (.int 60),.sh (.int (1+(k':Nat))),.no,.no,.no,.no,.no,.no,.no,.no],by simp![bo,bp,bq,bc,aO,aG,aR,ax,aK,aJ,aE,aa,ao,aW,aC,ay,af,ar,aj,aS,aH,aD,bh,a8,aV,aT,aZ,az,ba,bf,aY,aX,aw,aF,ai,ak,ah,aU,aA,aQ,aM,aN,aB,au,aP,ag,bg,e2,hd'],v2,60,1+k',6,9,f2.mono (by omega),by decide,by unfold Sm;decide,by unfold Sm;decide,by omega,by omega,by omega,?_,?_,by rw[Int.natCast_add];rfl⟩
   .have h3:(2:Nat)^9=512:=by decide
    rw[h3];omega
   .have:2^(1+k')<=2^6:=MZ (by decide) (by omega);omega
 rintro _ ⟨v,far,mn,β,μ,f,h60,hf,hs60,hβ,m1,m6,hμ,hbd,rfl⟩;obtain⟨p,v3,e3,f3,p0,ps⟩:=vf f (by omega) (by omega) hf hs60 (by omega);obtain⟨q,v4,e4,f4,q0,qs⟩:=vf f3 (by omega) (by omega) hf hs60 (by omega);refine fS (λe=>e=[.mu v4,.sh (.int 5),.sh (.int far),.sh (.int (mn:Nat)),.sh (fV p),.sh (fV q),.no,.no,.no,.no,.no,.no]) ⟨_,by simp![bo,bp,bq,bc,aO,aG,aR,ax,aK,aJ,aE,aa,ao,aW,aC,ay,af,ar,aj,aS,aH,aD,bh,a8,aV,aT,aZ,az,ba,bf,aY,aX,aw,aF,ai,ak,ah,aU,aA,aQ,aM,aN,aB,au,aP,ag,bg,e3,e4],rfl⟩ ?_;rintro _ rfl;obtain⟨d2,v5,e5,f5,d20,d21⟩:=bM (m:=5) f4 (by omega) (by decide) (sm8 (by decide));refine fS (λe=>∃q:Rat,0<q/\Sz β q/\e=[.mu v5,.sh (.int 5),.sh (.int far),.sh (.int (mn:Nat)),.sh (fV p),.sh (fV q),.no,.no,.no,.no,.no,.no]) ?_ ?_
 .by_cases hd:d2=0
  .subst hd;exact⟨_,by simp![bo,bp,bq,bc,aO,aG,aR,ax,aK,aJ,aE,aa,ao,aW,aC,ay,af,ar,aj,aS,aH,aD,bh,a8,aV,aT,aZ,az,ba,bf,aY,aX,aw,aF,ai,ak,ah,aU,aA,aQ,aM,aN,aB,au,aP,ag,bg,e5],p,p0,ps,rfl⟩
  .have hd':(d2==0)=false:=by rw[MM];exact hd
   exact⟨_,by simp![bo,bp,bq,bc,aO,aG,aR,ax,aK,aJ,aE,aa,ao,aW,aC,ay,af,ar,aj,aS,aH,aD,bh,a8,aV,aT,aZ,az,ba,bf,aY,aX,aw,aF,ai,ak,ah,aU,aA,aQ,aM,aN,aB,au,aP,ag,bg,e5,hd'],q,q0,qs,rfl⟩
 rintro _ ⟨q,q0,qs,rfl⟩;obtain⟨b1,u1,g1,j1,b10,b11⟩:=bM (m:=41) f5 (by omega) (by decide) (sm8 (by decide));obtain⟨b2,u2,g2,j2,b20,b21⟩:=bM (m:=9) j1 (by omega) (by decide) (sm8 (by decide));obtain⟨b3,u3,g3,j3,b30,b31⟩:=bM (m:=41) j2 (by omega) (by decide) (sm8 (by decide));obtain⟨b4,u4,g4,j4,b40,b41⟩:=bM (m:=9) j3 (by omega) (by decide) (sm8 (by decide));have l1:=fN (a:=b1-20) (b:=1+b2) (by omega) (sm8 (by omega));have l2:=fN (a:=b3-20) (b:=1+b4) (by omega) (sm8 (by omega));have sl:∀a b:Int,0<=a->a<41->0<=b->b<9->Sz β (((a-20:Int):Rat)/((1+b:Int):Rat)):=λa b u1 u2 u3 u4=>Sz.div (by omega) (hs60.of_le (by omega)) (hs60.of_le (by omega)) β (y_ _) (y_ _);have sl1:=sl b1 b2 b10 b11 b20 b21;have sl2:=sl b3 b4 b30 b31 b40 b41;generalize ((b1-20:Int):Rat)/((1+b2:Int):Rat)=lf at *;generalize ((b3-20:Int):Rat)/((1+b4:Int):Rat)=tp at *;refine fS (λe=>e=[.mu u4,.sh (.int 5),.sh (.int far),.sh (.int (mn:Nat)),.sh (fV p),.sh (fV q),.sh (fV lf),.sh (fV tp),.no,.no,.no,.no]) ⟨_,by simp![bo,bp,bq,bc,aO,aG,aR,ax,aK,aJ,aE,aa,ao,aW,aC,ay,af,ar,aj,aS,aH,aD,bh,a8,aV,aT,aZ,az,ba,bf,aY,aX,aw,aF,ai,ak,ah,aU,aA,aQ,aM,aN,aB,au,aP,ag,bg,Ks,cn,lcV,g1,g2,g3,g4,l1,l2],rfl⟩ ?_;rintro _ rfl;obtain⟨w,v6,e6,f6,w0,w1⟩:=bM (m:=4) j4 (by omega) (by decide) (sm8 (by decide));refine fS (λe=>e=[.mu v6,.sh (.int 5),.sh (.int far),.sh (.int (mn:Nat)),.sh (fV p),.sh (fV q),.sh (fV lf),.sh (fV tp),.sh (.int w),.no,.no,.no]) ⟨_,by simp![bo,bp,bq,bc,aO,aG,aR,ax,aK,aJ,aE,aa,ao,aW,aC,ay,af,ar,aj,aS,aH,aD,bh,a8,aV,aT,aZ,az,ba,bf,aY,aX,aw,aF,ai,ak,ah,aU,aA,aQ,aM,aN,aB,au,aP,ag,bg,e6],rfl⟩ ?_;rintro _ rfl;obtain⟨sm,v7,e7,f7,sm0,sm1⟩:=bM (m:=60) f6 (by omega) (by decide) (sm8 (by decide));refine fS (λe=>e=[.mu v7,.sh (.int 5),.sh (.int far),.sh (.int (mn:Nat)),.sh (fV p),.sh (fV q),.sh (fV lf),.sh (fV tp),.sh (.int w),.sh (.int (1+sm)),.no,.no]) ⟨_,by simp![bo,bp,bq,bc,aO,aG,aR,ax,aK,aJ,aE,aa,ao,aW,aC,ay,af,ar,aj,aS,aH,aD,bh,a8,aV,aT,aZ,az,ba,bf,aY,aX,aw,aF,ai,ak,ah,aU,aA,aQ,aM,aN,aB,au,aP,ag,bg,e7],rfl⟩ ?_;rintro _ rfl;refine fS (λe=>e=[.mu v7,.sh (.int 5),.sh (.int far),.sh (.int (mn:Nat)),.sh (fV p),.sh (fV q),.sh (fV lf),.sh (fV tp),.sh (.int w),.sh (.int (1+sm)),.ow (.lst []),.no]) ⟨_,by simp![bo,bp,bq,bc,aO,aG,aR,ax,aK,aJ,aE,aa,ao,aW,aC,ay,af,ar,aj,aS,aH,aD,bh,a8,aV,aT,aZ,az,ba,bf,aY,aX,aw,aF,ai,ak,ah,aU,aA,aQ,aM,aN,aB,au,aP,ag,bg],rfl⟩ ?_;rintro _ rfl;obtain⟨e',he',fr⟩:=Bw (sp:=.sh (fV p)) (sq:=.sh (fV q)) (sl:=.sh (fV lf)) (st:=.sh (fV tp)) (far:=far) (way:=w) (same:=1+sm) (by omega) (Nat.le_succ_of_le m6) h60 w0 w1 (by omega) (by omega) f7;have rg:ij [.int (mn:Nat)]=some (rgV mn):=lz (i:=(mn:Nat)) (by omega) (by omega);refine fS (λe=>∃(v:Val) (ws:List Int) (s11:Sl),(Fd (n+200) v/\ws.length=mn/\∀w∈ws,1<=w/\w<=far)/\e=[.mu v,.sh (.int 5),.sh (.int far),.sh (.int (mn:Nat)),.sh (fV p),.sh (fV q),.sh (fV lf),.sh (fV tp),.sh (.int w),.sh (.int (1+sm)),.ow (.lst (ws.map .int)),s11]) ?_ ?_
 .obtain⟨v,ws,s11,fv,hl,hw,_,rfl⟩:=he';exact⟨_,by simp![bo,bp,bq,bc,aO,aG,aR,ax,aK,aJ,aE,aa,ao,aW,aC,ay,af,ar,aj,aS,aH,aD,bh,a8,aV,aT,aZ,az,ba,bf,aY,aX,aw,aF,ai,ak,ah,aU,aA,aQ,aM,aN,aB,au,aP,ag,bg,rg,fr],v,ws,s11,⟨fv.mono (by omega),hl,hw⟩,rfl⟩
 rintro _ ⟨v,ws,s11,⟨fv,hl,hw⟩,rfl⟩;refine⟨⟨lf,tp,p,q⟩,ws,far,β,μ,mn,v,⟨hl,m1,m6,hw,h60,⟨p0,q0⟩,⟨sl1,sl2,ps,qs⟩,hμ,hbd⟩,fv,?_⟩;have eb:bV (⟨lf,tp,p,q⟩:Bx)=.tup [fV lf,fV tp,fV p,fV q]:=rfl;rw[eb];unfold liV;simp![bo,bp,bq,bc,aO,aG,aR,ax,aK,aJ,aE,aa,ao,aW,aC,ay,af,ar,aj,aS,aH,aD,bh,a8,aV,aT,aZ,az,ba,bf,aY,aX,aw,aF,ai,ak,ah,aU,aA,aQ,aM,aN,aB,au,aP,ag,bg,LX]
def HM(ws:List Int):wt ws (bL ws.length)=ws.sum:=by unfold wt;congr 1;refine List.ext_getElem (by simp [bL]) λi h1 h2=>?_;simp [bL,d7,MV,h2]
def DK(n:Nat):(bL n).Nodup:=by unfold bL;rw[List.nodup_iff_pairwise_ne,List.pairwise_map];exact List.nodup_range.imp λh z=>h (Int.ofNat.inj z)
def Ca.h51{b:Bx}{ws:List Int}{far:Int}{β μ mn:Nat}(C:Ca b ws far β μ mn):Ok51 ws (bL ws.length) b β μ:=by
 have nl:(bL ws.length).length=ws.length:=by unfold bL;rw[v_,Oi]
 have h1:=C.len;have h2:=C.m1;have h3:=C.m5;have hsum:=yD C.le;have hnn:=iF (l:=ws) λw h=>(C.le w h).1;have hm:=C.mu;rw[h1] at hsum;refine⟨λz=>?_,DK _,λi hi=>?_,by omega,?_,C.ok,C.sz,by rw[nl,h1];exact C.bd⟩
 .rw[z,M1] at nl;omega
 .obtain⟨j,hj,rfl⟩:=M9.mp hi;rw[NY] at hj;omega
 .rw[HM];show ws.sum.natAbs<2^μ;omega
def Ca.set{b:Bx}{ws:List Int}{far:Int}{β μ mn:Nat}(C:Ca b ws far β μ mn){i:Nat}{x:Int}(h1:1<=x)(h2:x<=60):Ca b (ws.set i x) far β μ mn:=by
 have h60:=C.h60;refine⟨by rw[Mz];exact C.len,C.m1,C.m5,λw hw=>?_,h60,C.ok,C.sz,C.mu,C.bd⟩;rcases N6 hw with hw |rfl
 .exact C.le w hw
 .omega
def EO{N:Nat}{v:Val}{b:Bx}{ws:List Int}{far:Int}{β μ mn:Nat}{s0 s5 s6:Sl}{i:Int}(hN:N<=100000)(f:Fd N v)(C:Ca b ws far β μ mn)(h5:s5.pl=true)(h6:s6.pl=true):∃v' ws' u5 u6,Fd (N+2) v'/\Ca b ws' far β μ mn/\mS.G [s0,.ow v,.sh (bV b),.ow (.lst (ws.map .int)),.sh (.int i),s5,s6]=.nx [s0,.ow v',.sh (bV b),.ow (.lst (ws'.map .int)),.sh (.int i),.sh u5,.sh u6]:=by
 have d_:=C.len;have hm1:=C.m1;have hm5:=C.m5;have hw:∀w∈ws,1<=w:=λw h=>(C.le w h).1;have h0:ws≠[]:=by rintro rfl;rw[M1] at d_;omega
 have H:=C.h51;obtain⟨t,ls,e3,z,hp,tr⟩:=oJ hw h0 (by omega) H;have e4:=EC hw h0 (by omega) H hp tr rfl z;have ei:=uI ws;have ef:=wm (bst "any" ws 7 b (bL ws.length));have fq:=w9 (bst "any" ws 7 b (bL ws.length));have ft:=J5 tr;generalize bst "any" ws 7 b (bL ws.length)=q at *;have itl:∀xs:List Val,(Val.lst xs).items=some xs:=λ_=>rfl;obtain⟨y,v1,e5,f1,y0,y1⟩:=bM (m:=60) f (by omega) (by decide) (sm8 (by decide));obtain⟨x,v2,e6,f2,x0,x1⟩:=bM (m:=(ws.length:Nat)) f1 (by omega) (by omega) (sm8 (by omega));obtain⟨k,rfl⟩:=Oe x0;have lw:((ws.map Val.int).length:Nat)=ws.length:=v_ ..;have ix:ixN ws.length (k:Nat)=some k:=Hf (i:=(k:Nat)) (by omega) (by show k<_;omega);have st:(ws.map Val.int).set k (.int (1+y))=(ws.set k (1+y)).map .int:=by rw[List.map_set]
 refine⟨v2,ws.set k (1+y),.lst (ws.map .int),.tup [fV q,t],f2,C.set (by omega) (by omega),?_⟩;unfold liV at e3 e4;unfold mS;simp![bo,bp,bq,bc,aO,aG,aR,ax,aK,aJ,aE,aa,ao,aW,aC,ay,af,ar,aj,aS,aH,aD,bh,a8,aV,aT,aZ,az,ba,bf,aY,aX,aw,aF,ai,ak,ah,aU,aA,aQ,aM,aN,aB,au,aP,ag,bg,h5,h6,itl,e3,e4,ei,ef,fq,ft,e5,e6,lw,ix,CF,st]
def Jx(ns:List Int)(hl:ns.length<=63):qK.G [.kl (ns.map .int)]=.ok (.val (.bl true)) []:=by obtain⟨v,e1,f⟩:=Ek hl;obtain⟨b,ws,far,β,μ,mn,v',C,f2,e2⟩:=CS f (by omega);obtain⟨e',⟨v3,ws3,s4,s5,s6,_,_,_,_,_,rfl⟩,fr⟩:=tU (g:=(gtN 4).G) (B:=mS.G) (e:=[.sh (.kl (ns.map .int)),.ow v',.sh (bV b),.ow (.lst (ws.map .int)),.no,.no,.no]) (λi e=>∃(v:Val) (ws:List Int) (s4 s5 s6:Sl),Fd (200+2*i) v/\Ca b ws far β μ mn/\s4.pl=true/\s5.pl=true/\s6.pl=true/\e=[.sh (.kl (ns.map .int)),.ow v,.sh (bV b),.ow (.lst (ws.map .int)),s4,s5,s6]) 2 ⟨v',ws,.no,.no,.no,f2.mono (by omega),C,rfl,rfl,rfl,rfl⟩ (by rintro i hi e ⟨v,ws,s4,s5,s6,f,C,h4,h5,h6,rfl⟩;obtain⟨v',ws',u5,u6,f',C',eb⟩:=EO (s0:=.sh (.kl (ns.map .int))) (i:=(i:Nat)) (by omega) f C h5 h6;exact⟨_,_,by simp![bo,bp,bq,bc,aO,aG,aR,ax,aK,aJ,aE,aa,ao,aW,aC,ay,af,ar,aj,aS,aH,aD,bh,a8,aV,aT,aZ,az,ba,bf,aY,aX,aw,aF,ai,ak,ah,aU,aA,aQ,aM,aN,aB,au,aP,ag,bg,h4],.inl eb,v',ws',_,_,_,f'.mono (by omega),C',rfl,rfl,rfl,rfl⟩);have rg:ij [.int 2]=some (rgV 2):=lz (i:=2) (by omega) (by omega);unfold qK;rw[bJ];unfold BX;unfold liV at e2;simp![bo,bp,bq,bc,aO,aG,aR,ax,aK,aJ,aE,aa,ao,aW,aC,ay,af,ar,aj,aS,aH,aD,bh,a8,aV,aT,aZ,az,ba,bf,aY,aX,aw,aF,ai,ak,ah,aU,aA,aQ,aM,aN,aB,au,aP,ag,bg,e1,e2,rg,fr,and_self]
end KK
namespace PySem.W.Fast
def q__:=trivial
def tw10036177884283215171:=q__
def tw10095827474162322057:=q__
def tw10115394299416557403:=q__
def tw10156968333642583009:=q__
def tw10173035068028631500:=q__
def tw1021680600946440061:=q__
def tw10238555940129668552:=q__
def tw10291514192317139531:=q__
def tw10354182212322648995:=q__
def tw10389596927868460141:=q__
def tw10391188411323110443:=q__
def tw10437301477759099681:=q__
def tw10506445213304619721:=q__
def tw10638141630553406206:=q__
def tw1067533115121970572:=q__
def tw1083008398499941143:=q__
def tw10831405417761362286:=q__
def tw10893629678609399719:=q__
def tw10906329015165623170:=q__
def tw10914043912452388142:=q__
def tw10939177058474522019:=q__
def tw10966821577938124094:=q__
def tw11028716656709618182:=q__
def tw11045197361287725881:=q__
def tw11087603600707084709:=q__
def tw11330652685127342676:=q__
def tw11416301091784683147:=q__
def tw11475755007000486542:=q__
def tw11502506765694161069:=q__
def tw11510510298914907207:=q__
def tw11632812684067150408:=q__
def tw11705802781412003841:=q__
def tw11709495753103675139:=q__
def tw11748379150651482605:=q__
def tw11769291378227020677:=q__
def tw11873307268909956124:=q__
def tw11899755421125674337:=q__
def tw11958227697450105444:=q__
def tw11995122239147784317:=q__
def tw12084116367238950419:=q__
def tw12103919876147010279:=q__
def tw12333842559867551511:=q__
def tw12341298396635185602:=q__
def tw12344543319600491591:=q__
def tw12486791199969230508:=q__
def tw1248860090009868042:=q__
def tw12522764622587781173:=q__
def tw12523369725600303677:=q__
def tw1253548883342651348:=q__
def tw12650479946519023453:=q__
def tw12734478076209690206:=q__
def tw12738402722999787827:=q__
def tw12843228486621905947:=q__
def tw12864640537698833333:=q__
def tw12924742681273322596:=q__
def tw13001303894235424699:=q__
def tw13007181766194643995:=q__
def tw13012524619689166944:=q__
def tw13114135719648780574:=q__
def tw13130760344920413230:=q__
def tw13139187332599732681:=q__
def tw13145444454849480461:=q__
def tw13159002809049604420:=q__
def tw13173573130562923483:=q__
def tw13213088870008882668:=q__
def tw13255896814426907467:=q__
def tw13259693257763935439:=q__
def tw1326393918000482109:=q__
def tw13363983719617962919:=q__
def tw13422184731646427745:=q__
def tw13432315392230798725:=q__
def tw13450254553728066883:=q__
def tw13531647127598288340:=q__
def tw13646619385570271561:=q__
def tw13655976220108833078:=q__
def tw13667609925154340071:=q__
def tw13699489241218500583:=q__
def tw13710139402549531981:=q__
def tw13731714115310310800:=q__
def tw1375887368255891176:=q__
def tw13813025374150776721:=q__
def tw13858738467177625206:=q__
def tw13859037995284302737:=q__
def tw13944887451452265718:=q__
def tw13964524277872344374:=q__
def tw13982639948501104262:=q__
def tw14066450942919163414:=q__
def tw14139308723276194409:=q__
def tw14148582820054457211:=q__
def tw14177367772435429955:=q__
def tw14202434270587263164:=q__
def tw14278794102452882479:=q__
def tw14427311209333055685:=q__
def tw14468017513475691641:=q__
def tw14544162363969853394:=q__
def tw14591776870672904312:=q__
def tw14651935118649796455:=q__
def tw14761302965588018481:=q__
def tw14770799238945661012:=q__
def tw14788104595971819044:=q__
def tw14789936623783509744:=q__
def tw14813553558687351520:=q__
def tw14834084698475524275:=q__
def tw14957277903008379571:=q__
def tw1503241478076766728:=q__
def tw15062249650969051884:=q__
def tw15118247463737394427:=q__
def tw15155580593731459043:=q__
def tw15176895499322039780:=q__
def tw1520553097926706098:=q__
def tw1530577081907379713:=q__
def tw15340207560251028570:=q__
def tw15391737032777123080:=q__
def tw15465333812392021661:=q__
def tw15486569155270750021:=q__
def tw15534173719229507176:=q__
def tw15548775998461063126:=q__
def tw1556345350898913477:=q__
def tw15585046655353135188:=q__
def tw15688294023238308959:=q__
def tw15729987102934397858:=q__
def tw15736759589343527324:=q__
def tw15750706699104275642:=q__
def tw15751552751400642437:=q__
def tw1578559736232510840:=q__
def tw15847225707416538709:=q__
def tw1587652750524719604:=q__
def tw1591943048017458854:=q__
def tw15962648863838898923:=q__
def tw16003433253583706560:=q__
def tw16122716471086357456:=q__
def tw16261670369431595972:=q__
def tw16337233135756457665:=q__
def tw16466467831198429491:=q__
def tw16467283003479787339:=q__
def tw16624801761140999616:=q__
def tw1667575526760387074:=q__
def tw16692733224251491723:=q__
def tw16696899495196758729:=q__
def tw16699796057371113986:=q__
def tw16743444585998982940:=q__
def tw16749814886364269416:=q__
def tw16750704449066818245:=q__
def tw16797113735913447908:=q__
def tw16801474124643162648:=q__
def tw16808540469324222963:=q__
def tw16827790827263862979:=q__
def tw16855008896202918420:=q__
def tw17004050868262025630:=q__
def tw17051340802326946275:=q__
def tw17068531608814844682:=q__
def tw17073923896236452262:=q__
def tw17087019101090178573:=q__
def tw17234584272057134390:=q__
def tw1725645234315458567:=q__
def tw17264972196250101894:=q__
def tw17308739853834732527:=q__
def tw17324010182116400698:=q__
def tw17340855630557655021:=q__
def tw17350841164073199840:=q__
def tw17366676139876750918:=q__
def tw17390751351234074297:=q__
def tw17407278971662240007:=q__
def tw17459851853627117627:=q__
def tw17484561235382118546:=q__
def tw17505204478137745386:=q__
def tw17567241388833365050:=q__
def tw17593129717262285391:=q__
def tw17808379484199222184:=q__
def tw17885395445249425612:=q__
def tw17944289334210975871:=q__
def tw17963684582402264962:=q__
def tw17995682638462846381:=q__
def tw18090061655024120793:=q__
def tw18167804354833676650:=q__
def tw1824208678678879176:=q__
def tw18299849476590838000:=q__
def tw18351344458517152022:=q__
def tw18358110651258117484:=q__
def tw18393084821809219794:=q__
def tw18411832739662769583:=q__
def tw1931907717758204218:=q__
def tw1995545937339248388:=q__
def tw2002440490580791890:=q__
def tw2065802028162605499:=q__
def tw2133839746863002451:=q__
def tw2173130329734176421:=q__
def tw2195631571596943096:=q__
def tw2263970945887622509:=q__
def tw2304659828515029301:=q__
def tw2316107291318987194:=q__
def tw2333996337593465107:=q__
def tw233831332806171674:=q__
def tw2369853153209746157:=q__
def tw2379816843440975490:=q__
def tw239472996892461130:=q__
def tw242645860761161843:=q__
def tw242786045328500601:=q__
def tw2485411245395201933:=q__
def tw2500516223275586403:=q__
def tw2523359007466452255:=q__
def tw2531981905847424301:=q__
def tw2555944849644469482:=q__
def tw2628621538694782036:=q__
def tw2645433774919105861:=q__
def tw2650853032950951924:=q__
def tw2714127179787117410:=q__
def tw2725357928610036397:=q__
def tw2734526741743210233:=q__
def tw2742752362606535133:=q__
def tw2745049473902141988:=q__
def tw2761447621795615096:=q__
def tw280013040524374939:=q__
def tw2823179821576837126:=q__
def tw2853086997278002905:=q__
def tw2912396693902730536:=q__
def tw2912959468262217772:=q__
def tw2952184602320363899:=q__
def tw2968081541426795463:=q__
def tw3007200610568092603:=q__
def tw3076286553443181657:=q__
def tw3178728785919714096:=q__
def tw3252436290782654035:=q__
def tw3268577239095305367:=q__
def tw3289547182225193114:=q__
def tw3322443769351974511:=q__
def tw3348147014495884449:=q__
def tw3387884802350919821:=q__
def tw3466006773173021030:=q__
def tw3502415485598849051:=q__
def tw3567592378686855445:=q__
def tw3567885560280968536:=q__
def tw3579212471484787700:=q__
def tw3585611874959314537:=q__
def tw3607331891014501704:=q__
def tw3646065953867959710:=q__
def tw36633923627081094:=q__
def tw3703069626797590167:=q__
def tw3721381006798241242:=q__
def tw3740137564262502126:=q__
def tw3788482917351933142:=q__
def tw3799402050799454906:=q__
def tw3912431629061755282:=q__
def tw3945197981405294231:=q__
def tw3956558600445569847:=q__
def tw4053313295401312306:=q__
def tw4063524301255247670:=q__
def tw4092155590386719622:=q__
def tw4150887978917320376:=q__
def tw418795468974296027:=q__
def tw4259104496947416876:=q__
def tw4260841700325307478:=q__
def tw4269278348250295175:=q__
def tw4278954083386287810:=q__
def tw430355690636777698:=q__
def tw4312916943703950231:=q__
def tw4366765014910257963:=q__
def tw4382028343457556126:=q__
def tw4408474039730366804:=q__
def tw4413970984482732962:=q__
def tw4447226776280568467:=q__
def tw4466178592794092807:=q__
def tw4493294617462228444:=q__
def tw4546795278740529659:=q__
def tw4567931501452169397:=q__
def tw4602487105072256519:=q__
def tw4644581246761046961:=q__
def tw4692403104324697104:=q__
def tw4722051087711280968:=q__
def tw4763461497729181900:=q__
def tw484718081233135071:=q__
def tw4930336703364532462:=q__
def tw5004802145630576318:=q__
def tw5047876054118717610:=q__
def tw5083641882408350434:=q__
def tw5098543091288623477:=q__
def tw5128733058670196934:=q__
def tw5194058273653142234:=q__
def tw5216171628941436973:=q__
def tw5339048067143579789:=q__
def tw5400992206429829677:=q__
def tw544657646041833161:=q__
def tw5490669989673727816:=q__
def tw5491423644891596223:=q__
def tw5493286313667619390:=q__
def tw5652836961385743773:=q__
def tw5682332814740909370:=q__
def tw5790543874010534201:=q__
def tw5839666187990382977:=q__
def tw5939326753456995654:=q__
def tw5966693150676116586:=q__
def tw5982705759061175293:=q__
def tw6078013367845625326:=q__
def tw6078347069752380753:=q__
def tw6083349706242091310:=q__
def tw6196522288739806275:=q__
def tw6262640207004704731:=q__
def tw6314125404486456900:=q__
def tw6324081332752767232:=q__
def tw6343683863181873455:=q__
def tw6395901999485094379:=q__
def tw6491526223950427907:=q__
def tw6497594561705353699:=q__
def tw6510940239055561810:=q__
def tw6512585872505019600:=q__
def tw6567891690736438301:=q__
def tw6596362351186315687:=q__
def tw6644492523312980635:=q__
def tw6662844398093698411:=q__
def tw6703375830490564738:=q__
def tw6743196193433188746:=q__
def tw6787277171032513287:=q__
def tw6842490279182390696:=q__
def tw6850810164962651688:=q__
def tw6915761833606550265:=q__
def tw6959383802898005721:=q__
def tw703895665868768524:=q__
def tw7101194244654415109:=q__
def tw7129879426772135562:=q__
def tw7131842484175718957:=q__
def tw7159866232135985057:=q__
def tw7194228579678401257:=q__
def tw7258803915245864051:=q__
def tw7278038965760651912:=q__
def tw731782818343579672:=q__
def tw7412139699022690085:=q__
def tw7483934624208663837:=q__
def tw7501224051514387008:=q__
def tw7567479115686795801:=q__
def tw7613910749988300184:=q__
def tw767031874458606178:=q__
def tw77953843318495065:=q__
def tw7848481994887450883:=q__
def tw7960296633768097766:=q__
def tw8084405509103088623:=q__
def tw8089270452754041940:=q__
def tw8110422167419229823:=q__
def tw8172739901773414190:=q__
def tw8221202514508957227:=q__
def tw8268973258003933074:=q__
def tw8353735652164917692:=q__
def tw836212434389763110:=q__
def tw8375907915114381211:=q__
def tw8383462683115060127:=q__
def tw8407465484915641219:=q__
def tw8416304126364434816:=q__
def tw8446891325418879818:=q__
def tw8461226369094629478:=q__
def tw8529911322349255375:=q__
def tw8546294508026980944:=q__
def tw8703572082050731907:=q__
def tw8716476480512410470:=q__
def tw8744383747039255592:=q__
def tw874724708819427530:=q__
def tw8749424502422245997:=q__
def tw8796301709300087559:=q__
def tw8870740462684819867:=q__
def tw8949006666147641883:=q__
def tw9017433635333541755:=q__
def tw9054473254738895798:=q__
def tw9088469735695686048:=q__
def tw9099050188238406202:=q__
def tw91120524637477155:=q__
def tw9144788053544823995:=q__
def tw9159091763580302130:=q__
def tw9159349532175829330:=q__
def tw920176441204761658:=q__
def tw9251221473336423341:=q__
def tw9286452865137524298:=q__
def tw9423518057843804716:=q__
def tw9490260686518135964:=q__
def tw9549158114204745445:=q__
def tw9587196988263867643:=q__
def tw961800685571991590:=q__
def tw9654727227856370824:=q__
def tw9660534854464147684:=q__
def tw9693958302453319938:=q__
def tw9735881783663907834:=q__
def tw9811847858739977084:=q__
def tw9829045576012276667:=q__
def tw9831617378791314096:=q__
def tw9915863358556226664:=q__
end PySem.W.Fast
open PySem PySem.W PyProof.Rows L2 L3 KK
set_option maxRecDepth 100000 in
set_option maxHeartbeats 0 in
theorem PySem.Challenge.cw_weightrooms_k52_least_worst_at_all_holds : PySem.Challenge.rw_weightrooms_k52_least_worst_at_all.Holds := by
 w_on;o_law;k_head;(case hw=>w_witness2)
 k_fill
 refine L2.walk_lawD (l:=PySem.Challenge.rw_weightrooms_k52_least_worst_at_all) (x:="_law_script") (k:=20) rfl rfl ⟨rfl,by decide,by decide⟩ (λw h Y=>W.kIn_of Y) ?F ?D
 case F=>
  intro w mg h KX G base kb nb;refine AD (D2 ⟨⟨JP KX G (by kernel_rfl),?_⟩,(by refine' zE (kvs:=cL) KX G ?a9 ?b9 ?c9 ?d9 ?e9;(case a9=>exact rfl);(case b9=>exact rfl);(case c9=>exact rfl);(case d9=>exact (.cons rfl rfl rfl (.cons rfl rfl rfl .nil)));(case e9=>decide))⟩) (Gm KX G (by kernel_rfl)) (law3 qK rfl Jx);repeat first
   |exact trivial
   |refine⟨by refine' xr KX G ?a ?l ?c ?k;(case a=>k_is);(case l=>k_is);(case c=>k_is);(case k=>k_is),?_⟩
 case D=>
  intro w mg h KX G;refine⟨top 60,?_,(λ_ _ _ _ _ _=>ar1 λ_=>rfl)⟩;refine' xr KX G ?a ?l ?c ?k;case a|l|c|k=>k_is
