import PyProof.Rows.All
import Wide.All
import OpenK.AllK
import Wide.FinOn
import Lean
import PyProof.EqAt
import PyProof.EqKinds
import PyProof.TupleCall
import PyProof.Rows.SumAny
import PyProof.EnumMake
import PyProof.Draws
import PyProof.ZipIter
import KE.KNestM
import KE.KUnpack
import KE.KxIndex
import PyProof.SetRoads
import PyProof.SetNew
import PyProof.AutoSeq1
import KE.KRevSl
import PyProof.SeqI3
import PyProof.Rows.SortWalk
import PyProof.Rows.Range3
import KE.KSortTup
import KE.KLam
import PyProof.Rows.SetFrom
import PyProof.FactsAll.list_2
import PySem.Challenge.RW_weightrooms_k57_papers_told
local macro_rules|`(tactic|trivial)=>`(tactic|first|exact Or.inl rfl|exact Or.inr rfl)
local macro_rules|`(tactic|decide)=>`(tactic|decide +kernel)
set_option genSizeOf false
set_option genInjectivity false
set_option bootstrap.genMatcherCode false
noncomputable section
set_option Elab.async false
set_option linter.all false
def u_:=@List.length_map
def v_:=@PySem.wpAny_bind
def w_:=@List.mem_cons_of_mem
def x_:=@List.getElem?_eq_some_iff
def y_:=@Nat.le_refl
def z_:=@Bool.false_ne_true
def A_:=@List.map_cons
def B_:=@Bool.and_eq_true
def C_:=@List.mem_cons_self
def D_:=@PySem.Heap.get?_push_of_some
def Em:=@PySem.Heap.lt_size
def E_:=@PySem.wpAny_pure
def F_:=@List.length_append
def G_:=@Nat.le_trans
def H_:=@List.size_toArray
def I_:=@decide_eq_false
def J_:=@decide_eq_true
def K_:=@Nat.lt_of_lt_of_le
def L_:=@List.all_eq_true
def M_:=@PySem.Heap.get?_push_size
def N_:=@List.length_set
def OO:=@List.length_cons
def OP:=@List.mem_cons
def OQ:=@Option.some.inj
def OR:=@List.getElem?_append_left
def OS:=@beq_eq_false_iff_ne
def OT:=@List.getElem?_eq_getElem
def OU:=@Nat.ne_of_lt
def OV:=@Option.map_eq_some_iff
def OW:=@List.getElem?_map
def OX:=@List.mem_append_right
def OY:=@List.length_pos_iff
def OZ:=@List.nil_append
def O0:=@List.getElem?_append_right
def O1:=@List.sum_cons
def O2:=@Nat.zero_le
def O3:=@List.map_nil
def O4:=@congrArg
def O5:=@PySem.wpAny_mono
def O6:=@List.length_nil
def O7:=@beq_iff_eq
def O8:=@PyProof.Rows.callWith_type1
def O9:=@Option.bind_eq_some_iff
def O_:=@List.map_append
def Pa:=@List.mem_map
def Pb:=@Nat.pow_le_pow_right
def Pc:=@List.contains_iff_mem
def Pd:=@PySem.wpAny_field
def Pe:=@List.getElem?_replicate
def Pf:=@List.getD_eq_getElem?_getD
def Pg:=@Nat.lt_irrefl
def Ph:=@List.append_assoc
def Pj:=@List.length_replicate
def Pk:=@List.mem_singleton
def Pl:=@Option.isSome_iff_exists
def Pm:=@List.all_cons
def Pn:=@PySem.wpAny_newObj_type
def Pp:=@List.append_nil
def Pq:=@List.find?_cons
def Pr:=@PySem.mem_of_lookup
def Pt:=@List.any_cons
def Pu:=@List.getElem?_eq_none_iff
def Pw:=@List.mem_append
def Px:=@List.nodup_cons
def Py:=@PySem.wpAny_truthy_bool
def Pz:=@Int.mul_assoc
def PB:=@PySem.wpAny_callSpecial?_slot
def PC:=@List.filterMap_cons
def PD:=@List.lookup_cons
def PF:=@PySem.wpAny_seqItems
def PH:=@List.take_of_length_le
def PJ:=@PySem.wpAny_setField_rec
def PK:=@Int.mul_ne_zero
def PL:=@List.getElem?_zipWith
def PM:=@Nat.not_lt_zero
def PN:=@PySem.wpAny_passesOwn
def PQ:=@PySem.F.slot_tuple_iterator_next
def PR:=@List.reverse_cons
def PU:=@List.mem_of_getElem?
def PV:=@PySem.Heap.size_push
def PX:=@Int.natAbs_mul
def PY:=@if_true
def PZ:=@List.map_map
def P0:=@List.length_zipWith
def P1:=@Int.eq_ofNat_of_zero_le
def P2:=@List.take_nil
def P4:=@PySem.wpAny_holding
def P5:=@Bool.false_eq_true
def P6:=@Rat.not_lt
def P7:=@PySem.wpAny_Call_Name_kw
def P8:=@Int.mul_left_comm
def P9:=@decide_eq_true_eq
def P_:=@List.mapM_cons
def Qa:=@List.getElem?_set_ne
def Qb:=@List.length_take
def Qc:=@PySem.wpAny_call_entry
def Qd:=@Int.eq_of_mul_eq_mul_right
def Qe:=@List.drop_nil
def Qf:=@Nat.mul_le_mul_left
def Qg:=@Classical.byContradiction
def Qh:=@List.mem_of_find?_eq_some
def Qi:=@List.mem_or_eq_of_mem_set
def Qj:=@PySem.AutoSeq1.wpAny_loadPart'
def Qk:=@Int.mul_comm
def Ql:=@Int.mul_right_comm
def Qm:=@Nat.ne_of_gt
def Qn:=@PySem.F.args_tuple_add_2
def Qo:=@PySem.wpAny_pyIter_tuple
def Qp:=@PySem.F.entry_tuple_add
def Qq:=@Int.toNat_natCast
def Qr:=@List.getElem?_set
def Qs:=@List.length_range
def Qt:=@PySem.Heap.get?_update_other
def Qu:=@PySem.F.slot_tuple_add
def Qv:=@PyProof.Rows.subscriptTail_builtinR
def Qw:=@PySem.wpAny_standAt
def Qx:=@Nat.le_add_right
def Qy:=@Option.getD_none
def Qz:=@beq_self_eq_true
def QA:=@if_false
def QB:=@List.take_append_drop
def QC:=@PySem.F.slot_zip_next
def QD:=@PySem.Heap.get?_none_of_le
def QE:=@Int.natCast_add
def QF:=@List.forIn_cons
def QG:=@List.getElem?_append
def QH:=@Nat.lt_trans
def QI:=@Nat.mul_comm
def QJ:=@Nat.sub_self
def QK:=@Rat.intCast_mul
def QL:=@Rat.num_eq_zero
def QM:=@PySem.wpAny_execs_nil
def QN:=@PySem.wpAny_updateSeq_pair
def QO:=@Array.length_toList
def QP:=@List.mem_map_of_mem
def QQ:=@List.forIn_nil
def QR:=@List.mem_range
def QS:=@Rat.le_refl
def QT:=@Bool.and_self
def QU:=@Rat.lt_irrefl
def QV:=@PySem.wpAny_attempt
def QW:=@PySem.wpAny_onRaise
set_option maxRecDepth 100000
namespace L2
open PySem PySem.Spec PyProof.Rows
abbrev _root_.Ra:=Str->Option Value
abbrev _root_.Rb:=List (Addr×Obj)
abbrev _root_.Rf:=Value->Shared->Prop
abbrev _root_.Rg:=List (Option Nat)
abbrev Key:=Sum Int Str
noncomputable def mM:Key->Value->Bool
 |.inl k,v=>Value.isInt k v
 |.inr x,v=>Value.isStrOf x v
noncomputable def keyH(w:World):Key->Int
 |.inl k=>hashInt k
 |.inr x=>hashStr w x
theorem du:∀{k:Key}{v:Value},mM k v=true->(∃i t,k=Sum.inl i/\v=Value.int i t)\/(∃x t,k=Sum.inr x/\v=Value.str x t)
 |
  .inl i,v,h=>by
  obtain⟨t,e⟩:=Value.isInt_shape (k:=i) (v:=v) h;exact .inl ⟨i,t,rfl,e⟩
 |
  .inr x,v,h=>by
  obtain⟨t,e⟩:=Value.isStrOf_shape (x:=x) (v:=v) h;exact .inr ⟨x,t,rfl,e⟩
def Aw(i:Int)(t:Tok):mM (.inl i) (.int i t)=true:=by simp [mM,Value.isInt]
def Ap(x:Str)(t:Tok):mM (.inr x) (.str x t)=true:=by simp [mM,Value.isStrOf]
def K3(a b:Int):decide ((Sum.inl a:Key)=Sum.inl b)=(a==b):=by
 by_cases e:a=b
 .subst e;simp
 .have h:¬ (Sum.inl a:Key)=Sum.inl b:=λq=>e (Sum.inl.inj q);rw[I_ h];exact (OS.mpr e).symm
def JF(a b:Str):decide ((Sum.inr a:Key)=Sum.inr b)=decide (a=b):=by
 by_cases e:a=b
 .subst e;simp
 .have h:¬ (Sum.inr a:Key)=Sum.inr b:=λq=>e (Sum.inr.inj q);rw[I_ h,I_ e]
def Hl(a:Int)(b:Str):decide ((Sum.inl a:Key)=Sum.inr b)=false:=I_ (λq=>nomatch q)
def Jm(a:Str)(b:Int):decide ((Sum.inr a:Key)=Sum.inl b)=false:=I_ (λq=>nomatch q)
noncomputable def cz(prog:Program)(w:World):PySem.KeyKind prog w Key where
 is:=mM
 hash:=keyH w
 inj
  := λv a b ha hb=>by
  rcases du ha with ⟨i,t,rfl,rfl⟩ |⟨x,t,rfl,rfl⟩
  .rcases du hb with ⟨j,u,rfl,e⟩ |⟨y,u,rfl,e⟩
   .injection e with e1 _;rw[e1]
   .exact nomatch e
  .rcases du hb with ⟨j,u,rfl,e⟩ |⟨y,u,rfl,e⟩
   .exact nomatch e
   .injection e with e1 _;rw[e1]
 byValue:=λk v h=>by rcases du h with ⟨i,t,rfl,rfl⟩ |⟨x,t,rfl,rfl⟩ <;> rfl
 pyHash:=λhv h=>by
  rcases du hv with ⟨i,t,rfl,rfl⟩ |⟨x,t,rfl,rfl⟩
  .exact wpAny_pyHash_int h
  .exact wpAny_pyHash_str h
 eqBool:=λhu hv h=>by
  rcases du hu with ⟨i,t,rfl,rfl⟩ |⟨x,t,rfl,rfl⟩
  .rcases du hv with ⟨j,u,rfl,rfl⟩ |⟨y,u,rfl,rfl⟩
   .rw[K3] at h;exact wpAny_eqBool_int h
   .rw[Hl] at h;exact SeqAt.EqAt.int_str i t y u _ _ _ _ h
  .rcases du hv with ⟨j,u,rfl,rfl⟩ |⟨y,u,rfl,rfl⟩
   .rw[Jm] at h;exact SeqAt.EqAt.str_int x t j u _ _ _ _ h
   .rw[JF] at h;exact wpAny_eqBool_str h
 «strs»:=λk x t v h=>by
  rcases du h with ⟨i,u,rfl,e⟩ |⟨y,u,rfl,e⟩
  .exact nomatch e
  .injection e with e1 _;subst e1;cases v <;> rfl
def vW(prog:Program)(w:World)(i:Int)(t:Tok):(cz prog w).is (.inl i) (.int i t)=true:=Aw i t
def nq(prog:Program)(w:World)(x:Str)(t:Tok):(cz prog w).is (.inr x) (.str x t)=true:=Ap x t
inductive V where
 |non |bl (b:Bool) |int (i:Int) |str (x:Str) |byt (b:Array UInt8) |flt (b:UInt64) |ref (a:Addr) |ty (n:String)
 deriving DecidableEq
def RelV:V->Value->Prop
 |.non,u=>u=Value.none
 |.bl b,u=>u=Value.bool b
 |.int i,u=>∃t,u=Value.int i t
 |.str x,u=>∃t,u=Value.str x t
 |.byt b,u=>∃t,u=Value.bytes b t
 |.flt b,u=>∃t,u=Value.float b t
 |.ref a,u=>u=Value.ref a
 |.ty n,u=>u=Value.type n
abbrev Vals:List V->List Value->Prop:=Paired RelV
def Vals.length(r:Vals xs us):xs.length=us.length:=Paired.length r
def Vals.get{xs:List V}{us:List Value}{i:Nat}{x:V}(r:Vals xs us)(e:xs[i]?=some x):∃u,us[i]?=some u/\RelV x u:=by
 induction r generalizing i with
 |nil=>rw[List.getElem?_nil] at e;cases e
 |
  cons r t ih=>
  cases i with
  |zero=>cases e;exact⟨_,rfl,r⟩
  |succ i=>exact ih (i:=i) e
def Vals.set(r:RelV x u)(i:Nat)(q:Vals xs us):Vals (xs.set i x) (us.set i u):=by
 induction q generalizing i with
 |nil=>exact .nil
 |
  cons q t ih=>
  cases i with
  |zero=>exact .cons r t
  |succ i=>exact .cons q (ih i)
def Vals.append(r:Vals xs us)(s:Vals ys ws):Vals (xs++ys) (us++ws):=by
 induction r with
 |nil=>exact s
 |cons r t ih=>exact .cons r ih
def Vals.take(n:Nat)(r:Vals xs us):Vals (xs.take n) (us.take n):=by
 induction r generalizing n with
 |nil=>rw[P2,P2];exact .nil
 |
  cons r t ih=>
  cases n with
  |zero=>exact .nil
  |succ n=>exact .cons r (ih n)
def Vals.drop(n:Nat)(r:Vals xs us):Vals (xs.drop n) (us.drop n):=by
 induction r generalizing n with
 |nil=>rw[Qe,Qe];exact .nil
 |
  cons r t ih=>
  cases n with
  |zero=>exact .cons r t
  |succ n=>exact ih n
def RelO:Option V->Option Value->Prop
 |some v,some u=>RelV v u
 |none,none=>True
 |_,_=>False
def KV{κ:Type}:List (κ×V)->List (κ×Value)->Prop:=Paired λ(p:κ×V) (q:κ×Value)=>p.1=q.1/\RelV p.2 q.2
noncomputable def kV:Key->V
 |.inl i=>.int i
 |.inr x=>.str x
inductive HO where
 |lst (xs:List V)
 |tup (xs:List V)
 |dK (kvs:List (Key×V)) |dT (kvs:List (List Key×V))
 |set (S:Int->Bool) (n:Nat)
 |ins (C dx:Addr) (fs:List (Str×V))
 |own (x:Addr)
 |xd (fs:List (Str×V))
 |met (f x:Addr)
 |rng (lo hi:Int)
 |frz (o:Obj) (u:HO)
 |tbl (ps:Array Value)
 |ext (φ:Heap->Prop)
abbrev Hp:=Addr->Option HO
noncomputable def upd(H:Hp)(a:Addr)(o:HO):Hp:=λb=>if b=a then some o else H b
def dS:upd H a o a=some o:=by unfold upd;rw[if_pos rfl]
def bO(h:b≠a):upd H a o b=H b:=by unfold upd;rw[if_neg h]
def Nd{H:Hp}{a b:Addr}{o u:HO}(h:H a=some o)(h':H b=some u)(d:o≠u):a≠b:=by intro e;subst e;rw[h] at h';exact d (OQ h')
def cL{H:Hp}{a b:Addr}{o:HO}(h:H a=some o)(h':H b=none):a≠b:=by intro e;subst e;rw[h] at h';cases h'
section
variable(P:Program)(w:World)
def ObjOk(H:Hp)(h:Heap)(a:Addr):HO->Prop
 |.lst xs=>xs.length<=sizeLine/\∃(its:List Value) (n:Nat),Vals xs its/\h.get? a=some { cls:=.type "list",data:=.seq its.toArray n }
 |.tup xs=>xs.length<=sizeLine/\∃its:List Value,Vals xs its/\IsTup h a its.toArray
 |.dK kvs=>kvs.length<=sizeLine/\(a==sysModules)=false/\∃vs,KV kvs vs/\h.DictOf (cz P w) a vs
 |.dT kvs=>kvs.length<=sizeLine/\(a==sysModules)=false/\∃xs:List (List Key×Addr×Value),
  Paired (λ(p:List Key×V) (q:List Key×Addr×Value)=>p.1=q.1/\H q.2.1=some (.tup (p.1.map kV))/\RelV p.2 q.2.2) kvs xs/\
  ∃o es ep,h.get? a=some o/\o.ExactDict/\o.data=.dict es ep/\es.toList=xs.map (entryOfKey (tupleKind (cz P w)))/\(xs.map (·.1)).Nodup
 |.set S n=>h.SetOf (intKind P w) a S n
 |.ins C dx fs=>H dx=some (.own a)/\fs.length<=1000/\dx≠a/\h.get? a=some (W.instObj C dx)/\
  ∃mA,h.Ns1 dx mA/\(∀f,RelO (fs.lookup f) (mA f))/\PySem.Within mA (fs.map (·.1))
 |.own _=>∃o,h.get? a=some o
 |.xd fs=>∃mA,h.Ns1 a mA/\∀f,RelO (fs.lookup f) (mA f)
 |.rng lo hi=>∃t u v,h.get? a=some { cls:=.type "range",data:=.fields #[.int lo t,.int hi u,.int 1 v] }
 |.frz o u=>h.get? a=some o/\ObjOk H h a u
 |.tbl ps=>h.get? a=some { cls:=.none,data:=.fields ps }
 |.met f x=>h.get? a=some (W.methodObj (.ref f) (.ref x))
 |.ext φ=>φ h/\(∃o,h.get? a=some o)/\∀h1 h2:Heap,φ h1->(∀o,h1.get? a=some o->h2.get? a=some o)->φ h2
def HOk(H:Hp)(h:Heap):Prop:=∀a o,H a=some o->ObjOk P w H h a o
end
section
variable{P:Program}{w:World}{H H':Hp}{h h':Heap}{a:Addr}{o:HO}
def ObjOk.lt(x:ObjOk P w H h a o):a<h.objs.size:=by
 cases o with
 |lst xs=>obtain⟨_,_,_,_,e⟩:=x;exact Em e
 |tup xs=>obtain⟨_,_,_,p⟩:=x;exact p.lt
 |dK kvs=>obtain⟨_,_,_,_,o,_,_,e,_⟩:=x;exact Em e
 |dT kvs=>obtain⟨_,_,_,_,o,_,_,e,_⟩:=x;exact Em e
 |set S n=>obtain⟨o,_,_,_,e,_⟩:=x;exact Em e
 |ins C dx fs=>obtain⟨_,_,_,e,_⟩:=x;exact Em e
 |own y=>obtain⟨_,e⟩:=x;exact Em e
 |xd fs=>obtain⟨_,⟨_,_,_,e,_⟩,_⟩:=x;exact Em e
 |rng lo hi=>obtain⟨_,_,_,e⟩:=x;exact Em e
 |frz ob u=>obtain⟨e,_⟩:=x;exact Em e
 |tbl ps=>exact Em (show h.get? a=some _ from x)
 |met f y=>exact Em (show h.get? a=some _ from x)
 |ext φ=>obtain⟨_,⟨_,e⟩,_⟩:=x;exact Em e
def Paired.mapP(r:Paired F l₁ l₂)(f:∀a b,F a b->G a b):Paired G l₁ l₂:=by
 induction r with
 |nil=>exact .nil
 |cons r t ih=>exact .cons (f _ _ r) ih
def ObjOk.stay(x:ObjOk P w H h a o)(k:∀b u,(b=a\/H b=some (.own a))->h.get? b=some u->h'.get? b=some u)
 (ho:∀b,H b=some (.own a)->H' b=some (.own a)) (ht:∀b xs,H b=some (.tup xs)->H' b=some (.tup xs)):ObjOk P w H' h' a o:=by
 induction o with
 |lst xs=>obtain⟨z,its,n,r,e⟩:=x;exact⟨z,its,n,r,k _ _ (.inl rfl) e⟩
 |tup xs=>obtain⟨z,its,r,ob,e,c⟩:=x;exact⟨z,its,r,ob,k _ _ (.inl rfl) e,c⟩
 |dK kvs=>obtain⟨z,y,vs,r,ob,es,ep,e,c⟩:=x;exact⟨z,y,vs,r,ob,es,ep,k _ _ (.inl rfl) e,c⟩
 |dT kvs=>obtain⟨z,y,xs,r,ob,es,ep,e,c⟩:=x;exact⟨z,y,xs,Paired.mapP r λp q z=>⟨z.1,ht _ _ z.2.1,z.2.2⟩,ob,es,ep,k _ _ (.inl rfl) e,c⟩
 |set S n=>obtain⟨ob,es,ep,t,e,c⟩:=x;exact⟨ob,es,ep,t,k _ _ (.inl rfl) e,c⟩
 |ins C dx fs=>obtain⟨d,z,ne,e,mA,⟨od,es,ep,e2,c⟩,r⟩:=x;exact⟨ho _ d,z,ne,k _ _ (.inl rfl) e,mA,⟨od,es,ep,k _ _ (.inr d) e2,c⟩,r⟩
 |own y=>obtain⟨ob,e⟩:=x;exact⟨ob,k _ _ (.inl rfl) e⟩
 |xd fs=>obtain⟨mA,⟨od,es,ep,e,c⟩,r⟩:=x;exact⟨mA,⟨od,es,ep,k _ _ (.inl rfl) e,c⟩,r⟩
 |rng lo hi=>obtain⟨t,u,v,e⟩:=x;exact⟨t,u,v,k _ _ (.inl rfl) e⟩
 |frz ob u ih=>obtain⟨e,q⟩:=x;exact⟨k _ _ (.inl rfl) e,ih q⟩
 |tbl ps=>have e:h.get? a=some { cls:=.none,data:=.fields ps }:=x;show h'.get? a=some { cls:=.none,data:=.fields ps };exact k a _ (.inl rfl) e
 |met f y=>have e:h.get? a=some (W.methodObj (.ref f) (.ref y)):=x;show h'.get? a=some (W.methodObj (.ref f) (.ref y));exact k a _ (.inl rfl) e
 |ext φ=>obtain⟨p,⟨o,e⟩,st⟩:=x;exact⟨st _ _ p λo q=>k _ _ (.inl rfl) q,⟨o,k _ _ (.inl rfl) e⟩,st⟩
def HOk.lt(x:HOk P w H h)(e:H a=some o):a<h.objs.size:=(x a o e).lt
def HOk.fresh(x:HOk P w H h)(e:h.objs.size<=a):H a=none:=by
 cases q:H a with
 |none=>rfl
 |some u=>exact absurd (K_ (x.lt q) e) (Pg _)
def HOk.kept(x:HOk P w H h)(k:∀b u,h.get? b=some u->h'.get? b=some u):HOk P w H h':=λa o e=>
 (x a o e).stay (λb u _ q=>k b u q) (λ_ q=>q) λ_ _ q=>q
def HOk.laid(x:HOk P w H h)(k:∀b u,h.get? b=some u->h'.get? b=some u)(hp:h.objs.size<=a)(new:ObjOk P w (upd H a o) h' a o):HOk P w (upd H a o) h':=λb u e=>by
 have hn:=x.fresh hp;by_cases hb:b=a
 .subst hb;rw[dS] at e;cases e;exact new
 .rw[bO hb] at e;exact (x b u e).stay (λc v _ q=>k c v q) (λc q=>by rw[bO (cL q hn)];exact q) λc xs q=>by rw[bO (cL q hn)];exact q
end
def Rd(H:Hp)(a:Addr)(u:HO):Prop:=H a=some u\/∃o,H a=some (.frz o u)
def Rd.ok(r:Rd H a u)(x:HOk P w H h):ObjOk P w H h a u:=by
 rcases r with r |⟨o,r⟩
 .exact x a u r
 .obtain⟨_,q⟩:=x a _ r;exact q
def Mut:Option HO->Prop
 |some (.lst _)=>True
 |some (.dK _)=>True
 |some (.dT _)=>True
 |some (.set _ _)=>True
 |some (.ins _ _ _)=>True
 |some (.ext _)=>True
 |_=>False
section
variable{P:Program}{w:World}{H:Hp}{h h':Heap}{x e:Addr}{o':HO}
def HOk.write(ok:HOk P w H h)(mu:Mut (H x))(he:e=x\/H e=some (.own x))(k:∀b u,b≠e->h.get? b=some u->h'.get? b=some u)(heo:∃u,h'.get? e=some u)
 (new:ObjOk P w (upd H x o') h' x o'):HOk P w (upd H x o') h':=λb u q=>by
 have nown:∀c y,H c=some (.own y)->c≠x:=λc y r z=>by subst z;rw[r] at mu;exact mu
 have ntup:∀c xs,H c=some (.tup xs)->c≠x:=λc xs r z=>by subst z;rw[r] at mu;exact mu
 by_cases hb:b=x
 .subst hb;rw[dS] at q;cases q;exact new
 .rw[bO hb] at q;by_cases hbe:b=e
  .have q':H b=some (.own x):=by
    rcases he with z |z
    .exact absurd (hbe.trans z) hb
    .rw[hbe];exact z
   rw[q] at q';cases q';obtain⟨v,hv⟩:=heo;exact⟨v,by rw[hbe];exact hv⟩
  .refine (ok b u q).stay (λc v hc r=>k c v ?_ r) (λc r=>by rw[bO (nown c b r)];exact r) λc xs r=>by rw[bO (ntup c xs r)];exact r
   rcases hc with rfl |hc
   .exact hbe
   .rintro rfl;rcases he with z |z
    .exact nown c b hc z
    .rw[hc] at z;cases z;exact hb rfl
end
structure Un(fs ex:List Addr)(H H':Hp)(h h':Heap):Prop where
 keep:∀b o,h.get? b=some o->H b=none->b∉fs->b∉ex->h'.get? b=some o
 slot:∀b o,h.get? b=some o->H b=none->b∈fs->b∉ex->∃sl,h'.get? b=some { o with slots:=sl }
 free:∀b o,h.get? b=some o->H b=none->b∉ex->H' b=none
 there:∀b o,h.get? b=some o->b∉ex->∃o',h'.get? b=some o'
 tups:∀b xs,H b=some (.tup xs)->H' b=some (.tup xs)
 frzs:∀b o u,H b=some (.frz o u)->H' b=some (.frz o u)
 tbls:∀b ps,H b=some (.tbl ps)->∃more,H' b=some (.tbl (ps++more))
section
variable{fs ex:List Addr}{H H1:Hp}{h h1 h':Heap}{a x e:Addr}{o:HO}
def Un.any(u:Un fs ex H H1 h h1)(q:h.get? b=some ob)(n:H b=none)(hx:b∉ex):∃sl,h1.get? b=some { ob with slots:=sl }:=by
 by_cases hb:b∈fs
 .exact u.slot b ob q n hb hx
 .exact⟨ob.slots,u.keep b ob q n hb hx⟩
def Un.kept(k:∀b u,h.get? b=some u->h'.get? b=some u):Un fs ex H H h h':=
 ⟨λb ob q _ _ _=>k b ob q,λb ob q _ _ _=>⟨ob.slots,k b ob q⟩,λ_ _ _ n _=>n,λb ob q _=>⟨ob,k b ob q⟩,λ_ _ q=>q,λ_ _ _ q=>q,λ_ ps q=>⟨#[],by rw[q];simp⟩⟩
def Un.refl:Un fs ex H H h h:=Un.kept λ_ _ q=>q
def Un.laid(k:∀b u,h.get? b=some u->h'.get? b=some u)(hp:h.objs.size<=a)(hn:H a=none):Un fs ex H (upd H a o) h h' where
 keep:=λb u q _ _ _=>k b u q
 slot:=λb u q _ _ _=>⟨u.slots,k b u q⟩
 free:=λb u q n _=>by rw[bO (OU (K_ (Em q) hp))];exact n
 there:=λb u q _=>⟨u,k b u q⟩
 tups:=λb xs q=>by rw[bO (cL q hn)];exact q
 frzs:=λb u xs q=>by rw[bO (cL q hn)];exact q
 tbls:=λb ps q=>⟨#[],by rw[bO (cL q hn),q];simp⟩
def Un.write(mu:Mut (H x))(he:e=x\/H e=some (.own x))(k:∀b u,b≠e->h.get? b=some u->h'.get? b=some u)(heo:∃u,h'.get? e=some u):Un fs ex H (upd H x o) h h':=by
 have hx:∀b,H b=none->b≠x:=λb n z=>by subst z;rw[n] at mu;exact mu
 have hb:∀b,H b=none->b≠e:=λb n z=>by
  subst z;rcases he with r |r
  .exact hx b n r
  .rw[n] at r;cases r
 have hm:∀b u,H b=some u->¬ Mut (some u)->b≠x:=λb u q nm z=>by subst z;rw[q] at mu;exact nm mu
 refine⟨λb u q n _ _=>k b u (hb b n) q,λb u q n _ _=>⟨u.slots,k b u (hb b n) q⟩,λb u q n _=>by rw[bO (hx b n)];exact n,λb u q _=>?_,
  λb xs q=>by rw[bO (hm b _ q λz=>z)];exact q,λb u xs q=>by rw[bO (hm b _ q λz=>z)];exact q,λb ps q=>⟨#[],by rw[bO (hm b _ q λz=>z),q];simp⟩⟩
 by_cases hbe:b=e
 .subst hbe;exact heo
 .exact⟨u,k b u hbe q⟩
end
noncomputable def trk(h:Heap)(H:Hp):List Addr:=(List.range h.objs.size).filter λa=>(H a).isSome
noncomputable def kN(h:Heap)(H:Hp):Heap:=W.hideAll h (trk h H)
def Be(h:Heap)(H:Hp):(kN h H).objs.size=h.objs.size:=W.hideAll_size _ _
def B1(e:h.get? b=some o)(n:H b=none):(kN h H).get? b=some o:=
 W.hideAll_get _ e λhm=>by have q:(H b).isSome=true:=(List.mem_filter.mp hm).2;rw[n] at q;simp at q
def Fp(e:(kN h H).get? b=some o):h.get? b=some o/\H b=none:=by
 have e':h.get? b=some o:=W.of_hideAll (trk h H) e;refine⟨e',?_⟩;cases q:H b with
 |none=>rfl
 |some x=>have hm:b∈trk h H:=List.mem_filter.mpr ⟨QR.mpr (Em e'),by simp [q]⟩;have z:(kN h H).get? b=none:=W.hideAll_none (trk h H) hm;rw[z] at e;cases e
noncomputable def E1(g h:Heap)(L:Addr):List (Addr×Obj):=(List.range h.objs.size).filterMap λa=>if a=L\/(g.get? a).isSome=true then none else (h.get? a).map λo=>(a,o)
noncomputable def rest(g h:Heap)(L d:Addr):List (Addr×Obj):=(E1 g h L).filter λp=>decide (p.1≠d)
structure Mod(K:W.Frag)(mg:Ra)(base:Heap):Prop where
 kin:K.In base
 glob:base.Ns mainGlobals mg
 blt:∃mb,base.Ns builtinsNs mb/\∀x:Str,x ≠ "__name__"->mb x=bootBuiltins x
 nolimit:base.NoLimit
structure Cx where
 prog:Program
 w:World
 K:W.Frag
 mg:Str->Option Value
 base:Heap
 A:Around
 N:List Str
 s₀:Shared
 H₀:Hp
 env:Env
 outer:List Env
 stack:List Env
 ex:List Addr
 fn:Str->Bool
 calm:Bool
 pn:List (Addr×Obj)
 xe:Value->Shared->Prop
noncomputable def frs(l:List Env):List Addr:=l.filterMap (·.frame)
abbrev Cx.fs(X:Cx):List Addr:=frs X.outer
def Vis(sc:Scope)(x:Str):Prop:=sc.names.lookup x=some .local\/sc.names.lookup x=some .cell\/sc.names.lookup x=some .free
def Loc(sc:Scope)(x:Str):Prop:=sc.names.lookup x=some .local\/sc.names.lookup x=some .cell
def Look(env:Env)(h:Heap)(m:Ra)(x:Str)(u:Value):Prop:=
 (env.kindOf x=some .local/\m x=some u)\/((env.kindOf x=some .cell\/env.kindOf x=some .free)/\∃c,env.cells.lookup x=some c/\h.IsCell c (some u))
structure Cx.Ok(X:Cx):Prop where
 mod:Mod X.K X.mg X.base
 kind:X.env.scope.kind=.function
 glob:X.env.globals=mainGlobals
 blt:X.env.builtins=builtinsNs
 above:X.s₀.heap.objs.size<=X.env.locals
 inj:∀x y c,X.env.cells.lookup x=some c->X.env.cells.lookup y=some c->x=y
 has:∀x,(X.env.kindOf x=some .cell\/X.env.kindOf x=some .free)->∃c,X.env.cells.lookup x=some c
 cab:∀x c,X.fn x=true->X.env.cells.lookup x=some c->X.s₀.heap.objs.size<=c
 hd:X.calm=true->X.A.handled=none
 frames:X.A.frames=some X.stack
 stk:X.stack=X.outer\/(X.stack=X.env::X.outer/\X.env.frame=some X.env.locals)
 exf:∀b∈X.ex,b≠X.env.locals/\∀x c,X.env.cells.lookup x=some c->c≠b
 bs:∀b o,X.base.get? b=some o->X.s₀.heap.get? b=some o/\X.H₀ b=none
 bsz:X.base.objs.size<=X.s₀.heap.objs.size
 noex:∀b o,X.base.get? b=some o->b∉X.ex
 exfs:∀b∈X.ex,b∉X.fs
 funs:X.s₀.heap.FunFrames X.base X.outer
 frf:∀b∈X.fs,X.H₀ b=none
structure Inv(X:Cx)(pins:Rb)(σ:List (Option V))(H:Hp)(s:Shared):Prop where
 ok:X.Ok
 os:s.os=X.s₀.os
 bare:AllBare s.gens
 base:Un X.fs X.ex X.H₀ H X.s₀.heap s.heap
 loc:∃m,s.heap.Ns X.env.locals m/\∀(i:Nat) (x:Str) (v:V),X.N[i]?=some x->σ[i]?=some (some v)->Vis X.env.scope x->∃u,RelV v u/\Look X.env s.heap m x u
 cell:∀x c,X.env.cells.lookup x=some c->∃v,s.heap.IsCell c v
 free:H X.env.locals=none
 freeC:∀x c,X.env.cells.lookup x=some c->H c=none
 pin:∀p∈X.pn++pins,s.heap.get? p.1=some p.2/\H p.1=none/\p.1≠X.env.locals/\p.1∉X.fs/\∀v,p.2.data ≠ .cell v
 hok:HOk X.prog X.w H s.heap
 len:σ.length=X.N.length
section
variable{X:Cx}{pins:Rb}{σ:List (Option V)}{H H':Hp}{s:Shared}{h':Heap}
def Cx.Ok.nofr(ok:X.Ok)(e:X.base.get? b=some o):b∉X.fs:=λhb=>by
 have:=(ok.funs.mem hb).1
 rw[e] at this;cases this
def Inv.bs(I:Inv X pins σ H s):∀b o,X.base.get? b=some o->s.heap.get? b=some o/\H b=none:=λb o e=>
 ⟨I.base.keep b o (I.ok.bs b o e).1 (I.ok.bs b o e).2 (I.ok.nofr e) (I.ok.noex b o e),I.base.free b o (I.ok.bs b o e).1 (I.ok.bs b o e).2 (I.ok.noex b o e)⟩
def Inv.bk(I:Inv X pins σ H s):∀b o,X.base.get? b=some o->s.heap.get? b=some o:=λb o e=>(I.bs b o e).1
def Inv.mod(I:Inv X pins σ H s):Mod X.K X.mg X.base:=I.ok.mod
def Inv.kIn(I:Inv X pins σ H s):X.K.In s.heap:=I.ok.mod.kin.keeps I.bk
def Inv.lt(I:Inv X pins σ H s):X.env.locals<s.heap.objs.size:=let ⟨_,hn,_⟩:=I.loc;hn.lt
def Inv.sz(I:Inv X pins σ H s):X.s₀.heap.objs.size<=s.heap.objs.size:=G_ I.ok.above (Nat.le_of_lt I.lt)
def Inv.nofs(I:Inv X pins σ H s)(h:s.heap.objs.size<=a):a∉X.fs:=λhb=>by obtain⟨_,o,ho,_⟩:=I.ok.funs.mem hb;exact absurd (K_ (Em ho) (G_ I.sz h)) (Pg _)
def Inv.cne(I:Inv X pins σ H s):∀x c,X.env.cells.lookup x=some c->c≠X.env.locals:=λx c e z=>by obtain⟨v,o,ho,hd⟩:=I.cell x c e;obtain⟨m,⟨o',es,ep,ho',hd',_⟩,_⟩:=I.loc;rw[z,ho'] at ho;cases ho;rw[hd'] at hd;cases hd
def Inv.funs(I:Inv X pins σ H s):s.heap.FunFrames X.base X.outer:=by
 have all:∀(l:List Env),(∀b∈frs l,b∈X.fs)->X.s₀.heap.FunFrames X.base l->s.heap.FunFrames X.base l:=by
  intro l;induction l with
  |nil=>intro _ _;trivial
  |cons env r ih=>intro hs hl;obtain⟨hk,⟨L,o,hf,hn,ho,hd⟩,hr⟩:=hl;have hL:L∈X.fs:=hs L (by unfold frs;rw[PC,hf];exact C_);obtain⟨sl,e⟩:=I.base.slot L o ho (I.ok.frf L hL) hL λz=>I.ok.exfs L z hL;exact⟨hk,⟨L,_,hf,hn,e,hd⟩,ih (λb hb=>hs b (by unfold frs;rw[PC,hf];exact w_ _ hb)) hr⟩
 exact all X.outer (λ_ hb=>hb) I.ok.funs
def Inv.stack(I:Inv X pins σ H s):s.heap.FunFrames X.base X.stack:=by
 rcases I.ok.stk with e |⟨e,hf⟩
 .rw[e];exact I.funs
 .rw[e];obtain⟨m,hn,_⟩:=I.loc;refine .cons (by rw[I.ok.kind];decide) hf hn ?_ I.funs;exact QD (G_ I.ok.bsz I.ok.above)
def Inv.stkSub(I:Inv X pins σ H s):∀b∈frs X.stack,b∈X.env.locals::X.fs:=λb hb=>by
 rcases I.ok.stk with e |⟨e,hf⟩
 .rw[e] at hb;exact w_ _ hb
 .rw[e] at hb;unfold frs at hb;rw[PC,hf] at hb;exact hb
def Inv.stkFree(I:Inv X pins σ H s):∀b∈frs X.stack,H b=none:=λb hb=>by
 rcases OP.mp (I.stkSub b hb) with e |hb
 .rw[e];exact I.free
 .obtain⟨_,o,ho,_⟩:=I.ok.funs.mem hb;exact I.base.free b o ho (I.ok.frf b hb) λz=>I.ok.exfs b z hb
def Inv.step{g':Array GenState}{t':Nat}{d':Drawn}{ch:List Addr}(I:Inv X pins σ H s)
 (hch:∀b∈ch,(b∈X.ex\/X.s₀.heap.objs.size<=b)/\b≠X.env.locals/\(∀x c,X.env.cells.lookup x=some c->c≠b)/\∀p∈X.pn++pins,p.1≠b)
 (keep:∀b o,b≠X.env.locals->b∉X.fs->b∉ch->s.heap.get? b=some o->H b=none->h'.get? b=some o)
 (slot:∀b o,b≠X.env.locals->b∈X.fs->b∉ch->s.heap.get? b=some o->H b=none->∃sl,h'.get? b=some { o with slots:=sl }) (free:∀b o,b∉ch->s.heap.get? b=some o->H b=none->H' b=none)
 (there:∀b o,b∉ch->s.heap.get? b=some o->∃o',h'.get? b=some o')
 (tups:∀b xs,H b=some (.tup xs)->H' b=some (.tup xs)) (frzs:∀b o u,H b=some (.frz o u)->H' b=some (.frz o u)) (tbls:∀b ps,H b=some (.tbl ps)->∃more,H' b=some (.tbl (ps++more)))
 (ns:∀m,s.heap.Ns X.env.locals m->h'.Ns X.env.locals m) (hok:HOk X.prog X.w H' h') (hg:AllBare g'):
 Inv X pins σ H' { s with heap:=h',gens:=g',drawn:=d',toks:=t' }:=by
 have neL:∀b o,X.s₀.heap.get? b=some o->b≠X.env.locals:=λb o e=>OU (K_ (Em e) I.ok.above);have neC:∀b o,X.s₀.heap.get? b=some o->b∉X.ex->b∉ch:=λb o e hx hb=>by
  rcases (hch b hb).1 with z |z
  .exact hx z
  .exact absurd (K_ (Em e) z) (Pg _)
 have cellK:∀x c,X.env.cells.lookup x=some c->∀v,s.heap.IsCell c v->h'.IsCell c v:=λx c e v ⟨o,ho,hd⟩=>by
  have nch:c∉ch:=λz=>(hch c z).2.2.1 x c e rfl;by_cases hc:c∈X.fs
  .obtain⟨sl,q⟩:=slot c o (I.cne x c e) hc nch ho (I.freeC x c e);exact⟨_,q,hd⟩
  .exact⟨o,keep c o (I.cne x c e) hc nch ho (I.freeC x c e),hd⟩
 refine⟨I.ok,I.os,hg,⟨λb o e n hb hx=>?_,λb o e n hb hx=>?_,λb o e n hx=>?_,λb o e hx=>?_,λb xs e=>tups b xs (I.base.tups b xs e),λb o xs e=>frzs b o xs (I.base.frzs b o xs e),λb ps e=>?_⟩,?_,λx c e=>?_,?_,λx c e=>?_,λp hp=>?_,hok,I.len⟩
 .exact keep b o (neL b o e) hb (neC b o e hx) (I.base.keep b o e n hb hx) (I.base.free b o e n hx)
 .obtain⟨sl,e1⟩:=I.base.slot b o e n hb hx;obtain⟨sl',e2⟩:=slot b _ (neL b o e) hb (neC b o e hx) e1 (I.base.free b o e n hx);exact⟨sl',e2⟩
 .obtain⟨o',e1⟩:=I.base.there b o e hx;exact free b o' (neC b o e hx) e1 (I.base.free b o e n hx)
 .obtain⟨o',e1⟩:=I.base.there b o e hx;exact there b o' (neC b o e hx) e1
 .obtain⟨m1,e1⟩:=I.base.tbls b ps e;obtain⟨m2,e2⟩:=tbls b _ e1;exact⟨m1++m2,by rw[e2,Array.append_assoc]⟩
 .obtain⟨m,hn,hl⟩:=I.loc;refine⟨m,ns m hn,λi x v e1 e2 e3=>?_⟩;obtain⟨u,r,l⟩:=hl i x v e1 e2 e3;refine⟨u,r,?_⟩;rcases l with l |⟨k,c,e,z⟩
  .exact .inl l
  .exact .inr ⟨k,c,e,cellK x c e _ z⟩
 .obtain⟨v,z⟩:=I.cell x c e;exact⟨v,cellK x c e v z⟩
 .obtain⟨m,⟨o,_,_,ho,_⟩,_⟩:=I.loc;exact free _ o (λz=>(hch _ z).2.1 rfl) ho I.free
 .obtain⟨v,o,ho,hd⟩:=I.cell x c e;exact free c o (λz=>(hch c z).2.2.1 x c e rfl) ho (I.freeC x c e)
 .obtain⟨e,n,ne,nf,d⟩:=I.pin p hp;have nch:p.1∉ch:=λz=>(hch p.1 z).2.2.2 p hp rfl;exact⟨keep p.1 p.2 ne nf nch e n,free p.1 p.2 nch e n,ne,nf,d⟩
def Inv.un{t':Nat}(I:Inv X pins σ H s)(u:Un X.fs [] H H' s.heap h')(hok:HOk X.prog X.w H' h'):Inv X pins σ H' { s with heap:=h',toks:=t' }:=by obtain⟨m,⟨o,es,ep,ho,r⟩,_⟩:=id I.loc;obtain⟨sl,hL⟩:=u.any ho I.free (by simp);exact I.step (g':=s.gens) (d':=s.drawn) (ch:=[]) (λ_ z=>nomatch z) (λb o _ hb _ e n=>u.keep b o e n hb (by simp)) (λb o _ hb _ e n=>u.slot b o e n hb (by simp)) (λb o _ e n=>u.free b o e n (by simp)) (λb o _ e=>u.there b o e (by simp)) u.tups u.frzs u.tbls (λm' hm=>by obtain⟨o',es',ep',ho',r'⟩:=hm;rw[ho] at ho';cases ho';exact⟨_,es',ep',hL,r'⟩) hok I.bare
def Inv.call{g':Array GenState}{t':Nat}{d':Drawn}{ch:List Addr}(I:Inv X pins σ H s)(u:Un (frs X.stack) ch H H' s.heap h')(hok:HOk X.prog X.w H' h')(hg:AllBare g')
 (hch:∀b∈ch,(b∈X.ex\/X.s₀.heap.objs.size<=b)/\b≠X.env.locals/\(∀x c,X.env.cells.lookup x=some c->c≠b)/\∀p∈X.pn++pins,p.1≠b):
 Inv X pins σ H' { s with heap:=h',gens:=g',drawn:=d',toks:=t' }:=by
 obtain⟨m,⟨o,es,ep,ho,r⟩,_⟩:=id I.loc;obtain⟨sl,hL⟩:=u.any ho I.free λz=>(hch _ z).2.1 rfl;exact I.step (ch:=ch) hch (λb o hL hb hc e n=>u.keep b o e n (λz=>(OP.mp (I.stkSub b z)).elim hL hb) hc) (λb o _ _ hc e n=>u.any e n hc) (λb o hc e n=>u.free b o e n hc) (λb o hc e=>u.there b o e hc) u.tups u.frzs u.tbls (λm' hm=>by obtain⟨o',es',ep',ho',r'⟩:=hm;rw[ho] at ho';cases ho';exact⟨_,es',ep',hL,r'⟩) hok hg
def Inv.turned{t':Nat}{it:Addr}(I:Inv X pins σ H s)(k:∀b o,b≠it->s.heap.get? b=some o->h'.get? b=some o)(hn:H it=none)(hL:it≠X.env.locals)
 (h1:it∈X.ex\/X.s₀.heap.objs.size<=it) (h2:∀x c,X.env.cells.lookup x=some c->c≠it) (h3:∀p∈X.pn++pins,p.1≠it):Inv X pins σ H { s with heap:=h',toks:=t' }:=by
 have nit:∀b u,H b=some u->b≠it:=λb u e z=>by rw[z,hn] at e;cases e
 refine I.step (g':=s.gens) (d':=s.drawn) (ch:=[it]) (λb hb=>?_) (λb o _ _ hc e _=>k b o (λz=>hc (by simp [z])) e) (λb o _ _ hc e _=>⟨o.slots,k b o (λz=>hc (by simp [z])) e⟩) (λ_ _ _ _ n=>n)
  (λb o hc e=>⟨o,k b o (λz=>hc (by simp [z])) e⟩) (λ_ _ e=>e) (λ_ _ _ e=>e) (λb ps e=>⟨#[],by rw[e];simp⟩) (λm hm=>?_) (λb u e=>?_) I.bare
 .have e:b=it:=by simpa using hb
  subst e;exact⟨h1,hL,h2,h3⟩
 .obtain⟨o,es,ep,ho,r⟩:=hm;exact⟨o,es,ep,k _ o (Ne.symm hL) ho,r⟩
 .refine (I.hok b u e).stay (λc v hc q=>k c v ?_ q) (λ_ q=>q) λ_ _ q=>q;rcases hc with z |z
  .rw[z];exact nit b u e
  .exact nit c _ z
def Inv.tok(I:Inv X pins σ H s)(t:Nat):Inv X pins σ H { s with toks:=t }:=I.un (h':=s.heap) (t':=t) Un.refl I.hok
def Inv.kept(I:Inv X pins σ H s)(k:∀b u,s.heap.get? b=some u->h'.get? b=some u):Inv X pins σ H { s with heap:=h',toks:=t' }:=I.un (Un.kept k) (I.hok.kept k)
def Inv.laid(I:Inv X pins σ H s)(k:∀b u,s.heap.get? b=some u->h'.get? b=some u)(hp:s.heap.objs.size<=a)(new:ObjOk X.prog X.w (upd H a o) h' a o):
 Inv X pins σ (upd H a o) { s with heap:=h',toks:=t' }:=I.un (Un.laid k hp (I.hok.fresh hp)) (I.hok.laid k hp new)
def Inv.write(I:Inv X pins σ H s)(mu:Mut (H x))(he:e=x\/H e=some (.own x))(k:∀b u,b≠e->s.heap.get? b=some u->h'.get? b=some u)(heo:∃u,h'.get? e=some u)
 (new:ObjOk X.prog X.w (upd H x o) h' x o):Inv X pins σ (upd H x o) { s with heap:=h',toks:=t' }:=I.un (Un.write mu he k heo) (I.hok.write mu he k heo new)
def Inv.pins_of(I:Inv X pins σ H s)(h:∀p∈pins',s.heap.get? p.1=some p.2/\H p.1=none/\p.1≠X.env.locals/\p.1∉X.fs/\∀v,p.2.data ≠ .cell v):Inv X pins' σ H s:=
 ⟨I.ok,I.os,I.bare,I.base,I.loc,I.cell,I.free,I.freeC,λp hp=>(Pw.mp hp).elim (λz=>I.pin p (List.mem_append_left _ z)) (h p),I.hok,I.len⟩
def vw{N:List Str}(hN:N.Nodup){i j:Nat}{x:Str}(a:N[i]?=some x)(b:N[j]?=some x):i=j:=by obtain⟨h1,e1⟩:=x_.mp a;obtain⟨h2,e2⟩:=x_.mp b;exact (List.getElem_inj hN).mp (e1.trans e2.symm)
def sj(I:Inv X pins σ H s)(hN:X.N.Nodup)(hi:X.N[i]?=some x)(hx:Loc X.env.scope x)(r:RelV v u)
 (h:∀s',Inv X pins (σ.set i (some v)) H s'->(∃a,Heap.SameBut a s.heap s'.heap/\(a=X.env.locals\/X.env.cells.lookup x=some a))->Q () s') (hf:X.fn x=true\/X.env.scope.names.lookup x=some .local):wpAny M A (storeName X.env x u) Q E s:=by
 obtain⟨m,hn,hl⟩:=id I.loc;have hcls:(X.env.scope.kind == .class || (X.env.scope.kind == .module&&X.env.locals != X.env.globals))=false:=by rw[I.ok.kind];rfl
 have hiσ:i<σ.length:=by rw[I.len];exact (x_.mp hi).1
 have cne:=I.cne;have tracked:∀{a:Addr}{h':Heap},(∃o,s.heap.get? a=some o/\H a=none)->Heap.SameBut a s.heap h'->HOk X.prog X.w H h':=λ{a h'} ha hs b ob e=>by
  obtain⟨_,_,hfree⟩:=ha;refine (I.hok b ob e).stay (λc w' hc q=>(hs.2 c ?_).trans q) (λ_ q=>q) λ_ _ q=>q;rintro rfl;rcases hc with rfl |hc
  .rw[hfree] at e;cases e
  .rw[hfree] at hc;cases hc
 rcases hx with hk |hk
 .refine wpAny_storeName_local hk hn (λh' hn' hs=>?_) hcls;obtain⟨oL,_,_,hoL,_⟩:=id hn;refine h _ ⟨I.ok,I.os,I.bare,⟨λb o e n hb hx=>?_,λb o e n hb hx=>?_,I.base.free,λb o e hx=>?_,I.base.tups,I.base.frzs,I.base.tbls⟩,⟨_,hn',λj y v' e1 e2 e3=>?_⟩,λy c e=>?_,I.free,I.freeC,λp hp=>?_,tracked ⟨oL,hoL,I.free⟩ hs,by simpa using I.len⟩ ⟨_,hs,.inl rfl⟩
  .exact (hs.2 b (OU (K_ (Em e) I.ok.above))).trans (I.base.keep b o e n hb hx)
  .obtain⟨sl,e1⟩:=I.base.slot b o e n hb hx;exact⟨sl,(hs.2 b (OU (K_ (Em e) I.ok.above))).trans e1⟩
  .obtain⟨o',e1⟩:=I.base.there b o e hx;exact⟨o',(hs.2 b (OU (K_ (Em e) I.ok.above))).trans e1⟩
  .by_cases hj:j=i
   .subst hj;rw[hi] at e1;cases e1;rw[List.getElem?_set_self hiσ] at e2;cases e2;exact⟨u,r,.inl ⟨hk,by simp⟩⟩
   .rw[Qa (Ne.symm hj)] at e2;obtain⟨u',r',q⟩:=hl j y v' e1 e2 e3;refine⟨u',r',?_⟩;rcases q with ⟨k,e⟩ |⟨k,c,e,z⟩
    .refine .inl ⟨k,?_⟩;have:y≠x:=λe=>hj (vw hN e1 (e ▸ hi));simp [this,e]
    .exact .inr ⟨k,c,e,z.sameBut hs (cne y c e)⟩
  .obtain⟨w',z⟩:=I.cell y c e;exact⟨w',z.sameBut hs (cne y c e)⟩
  .obtain⟨e,n,ne,nf,d⟩:=I.pin p hp;exact⟨(hs.2 p.1 ne).trans e,n,ne,nf,d⟩
 .have hfn:X.fn x=true:=by
   rcases hf with z |z
   .exact z
   .rw[z] at hk;cases hk
  obtain⟨c,hc⟩:=I.ok.has x (.inl hk);obtain⟨w',z⟩:=I.cell x c hc;refine wpAny_storeName_cell I.ok.kind hk hc z (λh' hc' hs=>?_);obtain⟨oc,hoc,hocd⟩:=id z;refine h { s with heap:=h' } ⟨I.ok,I.os,I.bare,⟨λb o e n hb hx=>?_,λb o e n hb hx=>?_,I.base.free,λb o e hx=>?_,I.base.tups,I.base.frzs,I.base.tbls⟩,⟨m,hn.sameBut hs (Ne.symm (cne x c hc)),λj y v' e1 e2 e3=>?_⟩,λy c' e=>?_,I.free,I.freeC,λp hp=>?_,tracked ⟨oc,hoc,I.freeC x c hc⟩ hs,by simpa using I.len⟩ ⟨c,hs,.inr hc⟩
  .exact (hs.2 b (OU (K_ (Em e) (I.ok.cab x c hfn hc)))).trans (I.base.keep b o e n hb hx)
  .obtain⟨sl,e1⟩:=I.base.slot b o e n hb hx;exact⟨sl,(hs.2 b (OU (K_ (Em e) (I.ok.cab x c hfn hc)))).trans e1⟩
  .obtain⟨o',e1⟩:=I.base.there b o e hx;exact⟨o',(hs.2 b (OU (K_ (Em e) (I.ok.cab x c hfn hc)))).trans e1⟩
  .by_cases hj:j=i
   .subst hj;rw[hi] at e1;cases e1;rw[List.getElem?_set_self hiσ] at e2;cases e2;exact⟨u,r,.inr ⟨.inl hk,c,hc,hc'⟩⟩
   .rw[Qa (Ne.symm hj)] at e2;obtain⟨u',r',q⟩:=hl j y v' e1 e2 e3;refine⟨u',r',?_⟩;rcases q with q |⟨k,c',e,z'⟩
    .exact .inl q
    .refine .inr ⟨k,c',e,z'.sameBut hs ?_⟩;rintro rfl;exact hj (vw hN e1 (I.ok.inj _ _ _ e hc ▸ hi))
  .by_cases hcc:c'=c
   .subst hcc;exact⟨_,hc'⟩
   .obtain⟨w2,z2⟩:=I.cell y c' e;exact⟨w2,z2.sameBut hs hcc⟩
  .obtain⟨e,n,ne,nf,d⟩:=I.pin p hp;refine⟨(hs.2 p.1 ?_).trans e,n,ne,nf,d⟩;intro q;rw[q,hoc] at e;have q':oc=p.2:=OQ e;exact d w' (by rw[<- q'];exact hocd)
def je(I:Inv X pins σ H s)(hN:X.N.Nodup)(hi:X.N[i]?=some x)(hx:Loc X.env.scope x)(r:RelV v u)
 (h:∀s',Inv X pins (σ.set i (some v)) H s'->Q () s') (hf:X.fn x=true\/X.env.scope.names.lookup x=some .local):wpAny M A (storeName X.env x u) Q E s:=
 sj I hN hi hx r (λs' I' _=>h s' I') hf
def Inv.call'(I:Inv X pins σ H s)(ho:s'.os=s.os)(u:Un (frs X.stack) ch H H' s.heap s'.heap)(hok:HOk X.prog X.w H' s'.heap)(hg:AllBare s'.gens)
 (hch:∀b∈ch,(b∈X.ex\/X.s₀.heap.objs.size<=b)/\b≠X.env.locals/\(∀x c,X.env.cells.lookup x=some c->c≠b)/\∀p∈X.pn++pins,p.1≠b):Inv X pins σ H' s':=by
 obtain⟨h',g',d',t',o'⟩:=s';have e:o'=s.os:=ho;subst e;exact I.call (g':=g') (t':=t') (d':=d') u hok hg hch
end
abbrev XK:=Value->Option Addr->Hp->Prop
abbrev St:=List (Option V)
abbrev VK:=V->Hp->Prop
abbrev TE:=St->Hp->VK->Prop
abbrev TT:=St->Hp->(Bool->Hp->Prop)->Prop
abbrev TA:=St->Hp->(List V->Hp->Prop)->Prop
structure Ends where
 nx:St->Hp->Prop
 rt:VK
 bk:St->Hp->Prop:=λ_ _=>False
 ct:St->Hp->Prop:=λ_ _=>False
abbrev TS:=Ends->St->Hp->Prop
def EP(X:Cx)(pins:Rb)(σ:St)(Q:VK)(u:Value)(s':Shared):Prop:=∃v H',Inv X pins σ H' s'/\RelV v u/\Q v H'
def TP(X:Cx)(pins:Rb)(σ:St)(Q:Bool->Hp->Prop)(b:Bool)(s':Shared):Prop:=∃H',Inv X pins σ H' s'/\Q b H'
def AP(X:Cx)(pins:Rb)(σ:St)(Q:List V->Hp->Prop)(us:List Value)(s':Shared):Prop:=∃vs H',Inv X pins σ H' s'/\Vals vs us/\Q vs H'
def SP(X:Cx)(pins:Rb)(D:Ends)(f:Flow)(s':Shared):Prop:=
 match f with
 |.next=>∃σ' H',Inv X pins σ' H' s'/\D.nx σ' H'
 |.brk=>∃σ' H',Inv X pins σ' H' s'/\D.bk σ' H'
 |.cont=>∃σ' H',Inv X pins σ' H' s'/\D.ct σ' H'
 |.ret u=>∃v σ' H',Inv X pins σ' H' s'/\RelV v u/\D.rt v H'
def PE(X:Cx)(e:Expr)(t:TE):Prop:=
 ∀(pins:Rb) (s:Shared) (σ:St) (H:Hp) (Q:VK),Inv X pins σ H s->t σ H Q->wpAny (model X.prog X.w) X.A (eval e X.env) (EP X pins σ Q) X.xe s
def PT(X:Cx)(e:Expr)(t:TT):Prop:=
 ∀(pins:Rb) (s:Shared) (σ:St) (H:Hp) (Q:Bool->Hp->Prop),Inv X pins σ H s->t σ H Q->wpAny (model X.prog X.w) X.A (isTrue e X.env (eval e X.env)) (TP X pins σ Q) X.xe s
def PW(X:Cx)(e:Expr)(t:TT):Prop:=
 ∀(s_:Sem Value) (pins:Rb) (s:Shared) (σ:St) (H:Hp) (Q:Bool->Hp->Prop),Inv X pins σ H s->t σ H Q->wpAny (model X.prog X.w) X.A (isTrue e X.env s_) (TP X pins σ Q) X.xe s
def PW.pt(h:PW X e t):PT X e t:=h _
def PA(X:Cx)(es:List Expr)(t:TA):Prop:=
 ∀(pos:Pos) (pins:Rb) (s:Shared) (σ:St) (H:Hp) (Q:List V->Hp->Prop),Inv X pins σ H s->t σ H Q->wpAny (model X.prog X.w) X.A (spliced (backTo pos (starEach es X.env))) (AP X pins σ Q) X.xe s
def PS(X:Cx)(st:Stmt)(t:TS):Prop:=
 ∀(pins:Rb) (s:Shared) (σ:St) (H:Hp) (D:Ends),Inv X pins σ H s->t D σ H->wpAny (model X.prog X.w) X.A (exec st X.env) (SP X pins D) X.xe s
def PSs(X:Cx)(st:List Stmt)(t:TS):Prop:=
 ∀(pins:Rb) (s:Shared) (σ:St) (H:Hp) (D:Ends),Inv X pins σ H s->t D σ H->wpAny (model X.prog X.w) X.A (execs st X.env) (SP X pins D) X.xe s
def thn(h:wpAny M A t Q E s)(hQ:∀a s,Q a s->Q' a s):wpAny M A t Q' E s:=O5 h hQ λ_ _ x=>x
section
variable{X:Cx}
def tVar(i:Nat):TE:=λσ H Q=>∃v,σ[i]?=some (some v)/\Q v H
def tC(v:V):TE:=λ_ H Q=>Q v H
def AR(hN:X.N[i]?=some x)(hv:Vis X.env.scope x)(hd:(x==("__debug__" : Str))=false)(t_:(x==("__classdict__" : Str))=false):PE X (.Name x pos) (tVar i):=by
 intro pins s σ H Q I h;obtain⟨v,e,h⟩:=h;obtain⟨m,hn,hl⟩:=I.loc;obtain⟨u,r,l⟩:=hl i x v hN e hv;have i_:EP X pins σ Q u s:=⟨v,H,I,r,h⟩;rcases l with ⟨hk,hm⟩ |⟨hk,c,hc,hcell⟩
 .exact wpAny_Name (wpAny_loadName_local I.ok.kind hk hn hm i_) hd
 .rcases hk with hk |hk
  .exact wpAny_Name (wpAny_loadName_cell I.ok.kind hk hc hcell i_) hd
  .exact wpAny_Name (wpAny_loadName_free I.ok.kind hk hc hcell i_ t_) hd
def HN{i j pos}:PE X (.Constant (.int i) j pos) (tC (.int i)):=λ_ _ _ H _ I h=>wpAny_Constant_int ⟨.int i,H,I.tok _,⟨_,rfl⟩,h⟩
def ML{b j pos}:PE X (.Constant (.bool b) j pos) (tC (.bl b)):=λ_ _ _ H _ I h=>Constant_bool ⟨.bl b,H,I,rfl,h⟩
def Je{j pos}:PE X (.Constant .none j pos) (tC .non):=λ_ _ _ H _ I h=>Constant_none ⟨.non,H,I,rfl,h⟩
def Ay{x j pos}:PE X (.Constant (.str x) j pos) (tC (.str x)):=λ_ _ _ H _ I h=>Calls.Constant_str ⟨.str x,H,I.tok _,⟨_,rfl⟩,h⟩
def Gl(X:Cx)(x:Str):Prop:=X.env.kindOf x=some .globalImplicit
def pR(I:Inv X pins σ H s)(hg:Gl X x)(hm:X.mg x=some u)(h:Q u s)
 (hd:(x==("__debug__" : Str))=false):wpAny (model X.prog X.w) X.A (eval (.Name x pos) X.env) Q E s:=
 Calls.Name_function_global I.ok.kind hg (Calls.loadGlobal_global (by rw[I.ok.glob];exact I.mod.glob.keeps I.bk) hm h) hd
def gR(I:Inv X pins σ H s)(hg:Gl X x)(hm:X.mg x=none)(hv:bootBuiltins x=some u)(h:Q u s)
 (hn:x ≠ "__name__":=by decide) (hd:(x==("__debug__" : Str))=false:=by decide):wpAny (model X.prog X.w) X.A (eval (.Name x pos) X.env) Q E s:=by
 obtain⟨mb,h1,h2⟩:=I.mod.blt;exact Calls.Name_function_global I.ok.kind hg (Calls.loadGlobal_builtin (by rw[I.ok.glob];exact I.mod.glob.keeps I.bk) hm (by rw[I.ok.blt];exact h1.keeps I.bk) ((h2 x hn).trans hv) h) hd
def xf(hg:Gl X x)(hm:X.mg x=some u)(r:RelV v u)(hd:(x==("__debug__" : Str))=false):PE X (.Name x pos) (tC v):=
 λ_ _ _ H _ I h=>pR I hg hm ⟨v,H,I,r,h⟩ hd
def F1(hg:Gl X x)(hm:X.mg x=none)(hv:bootBuiltins x=some u)(r:RelV v u)(hn:x ≠ "__name__")(hd:(x==("__debug__" : Str))=false):PE X (.Name x pos) (tC v):=
 λ_ _ _ H _ I h=>gR I hg hm hv ⟨v,H,I,r,h⟩ hn hd
variable{a b:Expr}{ta tb:TE}{pos:Pos}
def tB(t:TE):TT:=λσ H Q=>t σ H λx H1=>∃c,x=.bl c/\Q c H1
def Lk(h:PE X e t)(he:∀s_,isTrue e X.env s_=(do let v <- s_;standAt e.pos;holding [v] (truthy v))):PT X e (tB t):=by intro pins s σ H Q I hw;refine isTrue_plain (thn (h pins s σ H _ I hw) λv s1 ⟨x,H1,I1,r1,q1⟩=>?_) (he _);obtain⟨d,rfl,q⟩:=q1;cases r1;exact Py ⟨H1,I1,q⟩
variable{tA tB':TT}{rest:List Expr}
def tAnd(t u:TT):TT:=λσ H Q=>t σ H λc H1=>if c=true then u σ H1 Q else Q false H1
def tOr(t u:TT):TT:=λσ H Q=>t σ H λc H1=>if c=true then Q true H1 else u σ H1 Q
def tNot(t:TT):TT:=λσ H Q=>t σ H λc H1=>Q (!c) H1
def Fo(ha:PT X a tA):PW X (.BoolOp .And [a] pos) tA:=by
 intro wh pins s σ H Q I h;refine isTrue_and (thn (ha pins s σ H Q I h) λc s1 e=>?_);cases c with
 |true=>exact isTrue_and_nil e
 |false=>exact e
def Kc(ha:PT X a tA):PW X (.BoolOp .Or [a] pos) tA:=by
 intro wh pins s σ H Q I h;refine isTrue_or (thn (ha pins s σ H Q I h) λc s1 e=>?_);cases c with
 |false=>exact isTrue_or_nil e
 |true=>exact e
def LR(ha:PT X a tA)(hb:PW X (.BoolOp .And (b::rest) pos) tB'):PW X (.BoolOp .And (a::b::rest) pos) (tAnd tA tB'):=by
 intro wh pins s σ H Q I h;refine isTrue_and (thn (ha pins s σ H _ I h) λc s1 ⟨H1,I1,q1⟩=>?_);cases c with
 |true=>exact hb wh pins s1 σ H1 Q I1 q1
 |false=>exact⟨H1,I1,q1⟩
def Ng(ha:PT X a tA)(hb:PW X (.BoolOp .Or (b::rest) pos) tB'):PW X (.BoolOp .Or (a::b::rest) pos) (tOr tA tB'):=by
 intro wh pins s σ H Q I h;refine isTrue_or (thn (ha pins s σ H _ I h) λc s1 ⟨H1,I1,q1⟩=>?_);cases c with
 |true=>exact⟨H1,I1,q1⟩
 |false=>exact hb wh pins s1 σ H1 Q I1 q1
def KS(ha:PT X a tA):PT X (.UnaryOp .Not a pos) (tNot tA):=by intro pins s σ H Q I h;exact isTrue_not (ha pins s σ H (λc H1=>Q (!c) H1) I h)
def Mk(ta tb:TE):TE:=λσ H Q=>ta σ H λx H1=>∃c,x=.bl c/\if c=true then tb σ H1 Q else Q (.bl false) H1
def Mi(ta:TE):TE:=λσ H Q=>ta σ H λx H1=>∃c,x=.bl c/\Q (.bl (!c)) H1
def LA{op}(h:PE X a t):PE X (.BoolOp op [a] pos) t:=λpins s σ H Q I hw=>BoolOp_one (h pins s σ H Q I hw)
def Hs(ha:PE X a ta)(hb:PE X (.BoolOp .And (b::rest) pos) tb):PE X (.BoolOp .And (a::b::rest) pos) (Mk ta tb):=by
 intro pins s σ H Q I h;refine BoolOp_and (thn (ha pins s σ H _ I h) λv s1 ⟨x,H1,I1,r1,q1⟩=>?_);obtain⟨c,rfl,q1⟩:=q1;cases r1;refine Py ?_;cases c with
 |true=>exact hb pins s1 σ H1 Q I1 q1
 |false=>exact⟨.bl false,H1,I1,rfl,q1⟩
def LU(ha:PE X a ta):PE X (.UnaryOp .Not a pos) (Mi ta):=by intro pins s σ H Q I h;refine UnaryOp_ (thn (ha pins s σ H _ I h) λv s1 ⟨x,H1,I1,r1,q1⟩=>?_);obtain⟨c,rfl,q1⟩:=q1;cases r1;exact not_of (Py ⟨.bl (!c),H1,I1,rfl,q1⟩)
def tIf(t:TT)(ta tb:TE):TE:=λσ H Q=>t σ H λc H1=>if c=true then ta σ H1 Q else tb σ H1 Q
def CH(hc:PT X c tA)(ha:PE X a ta)(hb:PE X b tb):PE X (.IfExp c a b pos) (tIf tA ta tb):=by
 intro pins s σ H Q I h;refine wpAny_IfExp (thn (hc pins s σ H _ I h) λd s1 ⟨H1,I1,q1⟩=>?_);cases d with
 |true=>exact ha pins s1 σ H1 Q I1 q1
 |false=>exact hb pins s1 σ H1 Q I1 q1
end
def SqL(K:W.Frag)(H:Hp)(a:Addr)(xs:List V):Prop:=
 Rd H a (.lst xs)\/
  ∃(o:Obj) (its:Array Value) (n:Nat),K.lookup a=some o/\o.cls=.type "list" /\ o.dict=none/\o.data=.seq its n/\its.size<=sizeLine/\Vals xs its.toList
def SqT(K:W.Frag)(H:Hp)(a:Addr)(xs:List V):Prop:=
 Rd H a (.tup xs)\/
  ∃(o:Obj) (its:Array Value) (n:Nat),K.lookup a=some o/\o.cls=.type "tuple" /\ o.data=.seq its n/\its.size<=sizeLine/\Vals xs its.toList
noncomputable def absV:Value->Option V
 |.none=>some .non
 |.bool b=>some (.bl b)
 |.int i _=>some (.int i)
 |.str x _=>some (.str x)
 |.bytes b _=>some (.byt b)
 |.float b _=>some (.flt b)
 |.ref a=>some (.ref a)
 |.type n=>some (.ty n)
 |_=>none
def RelV.abs(r:RelV x u):absV u=some x:=by
 cases x with
 |non=>cases r;rfl
 |bl _=>cases r;rfl
 |int _=>obtain⟨t,rfl⟩:=r;rfl
 |str _=>obtain⟨t,rfl⟩:=r;rfl
 |byt _=>obtain⟨t,rfl⟩:=r;rfl
 |flt _=>obtain⟨t,rfl⟩:=r;rfl
 |ref _=>cases r;rfl
 |ty _=>cases r;rfl
def RelV.inj(r:RelV x u)(q:RelV y u):x=y:=OQ (r.abs.symm.trans q.abs)
def Vals.inj(r:Vals xs us)(q:Vals ys us):xs=ys:=by
 induction r generalizing ys with
 |nil=>cases q;rfl
 |
  cons r t ih=>
  cases q with
  |cons q t'=>rw[r.inj q,ih t']
section
variable{X:Cx}{pins:Rb}{σ:St}{H:Hp}{s:Shared}{a:Addr}{xs ys:List V}
def SqL.of{K:W.Frag}(h:H a=some (.lst xs)):SqL K H a xs:=.inl (.inl h)
def SqT.of{K:W.Frag}(h:H a=some (.tup xs)):SqT K H a xs:=.inl (.inl h)
def Inv.list(I:Inv X pins σ H s)(h:SqL X.K H a xs):∃its:List Value,Vals xs its/\PlainL s.heap a its.toArray/\xs.length<=sizeLine:=by
 rcases h with h |⟨o,its,n,hk,hc,hd,hs,hz,r⟩
 .obtain⟨z,its,n,r,e⟩:=h.ok I.hok;exact⟨its,r,⟨_,n,e,rfl,rfl,rfl⟩,z⟩
 .refine⟨its.toList,r,⟨o,n,I.kIn a o hk,hc,hd,by simpa using hs⟩,?_⟩;have e:=r.length;simp only[QO] at e;omega
def Inv.tuple(I:Inv X pins σ H s)(h:SqT X.K H a xs):∃its:List Value,Vals xs its/\IsTup s.heap a its.toArray/\xs.length<=sizeLine:=by
 rcases h with h |⟨o,its,n,hk,hc,hs,hz,r⟩
 .obtain⟨z,its,r,p⟩:=h.ok I.hok;exact⟨its,r,p,z⟩
 .refine⟨its.toList,r,⟨o,I.kIn a o hk,hc,n,by simpa using hs⟩,?_⟩;have e:=r.length;simp only[QO] at e;omega
def Inv.list_inj(I:Inv X pins σ H s)(h:SqL X.K H a xs)(h':SqL X.K H a ys):xs=ys:=by
 obtain⟨its,r,⟨o,n,e,_,_,d⟩,_⟩:=I.list h;obtain⟨its',r',⟨o',n',e',_,_,d'⟩,_⟩:=I.list h';rw[e] at e';cases e';rw[d] at d';injection d' with d1 _;have:its=its':=by simpa using O4 Array.toList d1
 subst this;exact r.inj r'
def Inv.tuple_inj(I:Inv X pins σ H s)(h:SqT X.K H a xs)(h':SqT X.K H a ys):xs=ys:=by
 obtain⟨its,r,⟨o,e,_,n,d⟩,_⟩:=I.tuple h;obtain⟨its',r',⟨o',e',_,n',d'⟩,_⟩:=I.tuple h';rw[e] at e';cases e';rw[d] at d';injection d' with d1 _;have:its=its':=by simpa using O4 Array.toList d1
 subst this;exact r.inj r'
end
section
variable{X:Cx}{st:Stmt}{rest:List Stmt}{t u:TS}{e:Expr}{te:TE}{pos:Pos}
def Mx:TS:=λD σ H=>D.nx σ H
def tSeq(t u:TS):TS:=λD σ H=>t { D with nx:=u D } σ H
def FX:PSs X [] Mx:=λ_ _ σ H _ I h=>QM ⟨σ,H,I,h⟩
def CK(h1:PS X st t)(h2:PSs X rest u):PSs X (st::rest) (tSeq t u):=by
 intro pins s σ H D I h;refine wpAny_execs_cons (thn (h1 pins s σ H { D with nx:=u D } I h) λf s1 q=>?_);cases f with
 |next=>obtain⟨σ',H',I',q⟩:=q;exact h2 pins s1 σ' H' D I' q
 |ret v=>exact q
 |brk=>exact q
 |cont=>exact q
def Fe(h1:PS X st t):PSs X [st] t:=by
 intro pins s σ H D I h;refine wpAny_execs_cons (thn (h1 pins s σ H D I h) λf s1 q=>?_);cases f with
 |next=>exact QM q
 |ret v=>exact q
 |brk=>exact q
 |cont=>exact q
def N0:TS:=λD σ H=>D.ct σ H
def wj:PS X (.Continue pos) N0:=λ_ _ σ H _ I h=>wpAny_Continue ⟨σ,H,I,h⟩
def Inv.quiet(I:Inv X pins σ H s):interactive X.env=false:=by simp [interactive,I.ok.kind]
def Nn(te:TE):TS:=λD σ H=>te σ H λ_ H1=>D.nx σ H1
def E2(he:PE X e te)(hs:swapsWith e none pos.line X.env=pure false):PS X (.Expr e pos) (Nn te):=by intro pins s σ H D I h;exact wpAny_Expr_any (thn (he pins s σ H _ I h) λv s1 ⟨x,H1,I1,r1,q1⟩=>⟨σ,H1,I1,q1⟩) I.quiet hs
def tRet(te:TE):TS:=λD σ H=>te σ H D.rt
def HD(he:PE X e te):PS X (.Return (some e) pos) (tRet te):=by intro pins s σ H D I h;exact wpAny_Return_some (thn (he pins s σ H _ I h) λv s1 ⟨x,H1,I1,r1,q1⟩=>⟨x,σ,H1,I1,r1,q1⟩)
def tIfS(c:TT)(t u:TS):TS:=λD σ H=>c σ H λb H1=>if b=true then t D σ H1 else u D σ H1
def Ov(hc:PT X c tc)(ha:PSs X a t)(hb:PSs X b u):PS X (.If c a b pos) (tIfS tc t u):=by
 intro pins s σ H D I h;refine wpAny_If (thn (hc pins s σ H _ I h) λd s1 ⟨H1,I1,q1⟩=>?_);cases d with
 |true=>exact ha pins s1 σ H1 D I1 q1
 |false=>exact hb pins s1 σ H1 D I1 q1
end
abbrev TG:=V->St->Hp->(St->Hp->Prop)->Prop
abbrev TGs:=List V->St->Hp->(St->Hp->Prop)->Prop
def PG(X:Cx)(target:Expr)(t:TG):Prop:=
 ∀
  (pins:Rb) (s:Shared) (σ:St) (H:Hp) (v:V) (u:Value) (Q:St->Hp->Prop),Inv X pins σ H s->RelV v u->t v σ H Q->
  wpAny (model X.prog X.w) X.A (assign target X.env u) (λ_ s'=>∃σ' H',Inv X pins σ' H' s'/\Q σ' H') X.xe s
def PGs(X:Cx)(ts:List Expr)(t:TGs):Prop:=
 ∀
  (pins:Rb) (s:Shared) (σ:St) (H:Hp) (vs:List V) (us:List Value) (Q:St->Hp->Prop),Inv X pins σ H s->Vals vs us->t vs σ H Q->
  wpAny (model X.prog X.w) X.A (assignInOrder ((assignEach ts X.env).map (·.2)) us) (λ_ s'=>∃σ' H',Inv X pins σ' H' s'/\Q σ' H') X.xe s
abbrev zq:=V->V->V->Hp->(Hp->Prop)->Prop
def uA(X:Cx)(t:zq):Prop:=
 ∀
  (pins:Rb) (s:Shared) (σ:St) (H:Hp) (o i v:V) (ov iv u:Value) (Q:Hp->Prop),Inv X pins σ H s->RelV o ov->RelV i iv->RelV v u->t o i v H Q->
  wpAny (model X.prog X.w) X.A (setItem ov iv u) (λ_ s'=>∃H',Inv X pins σ H' s'/\Q H') X.xe s
abbrev TIp:=V->V->Hp->VK->Prop
def PIp(X:Cx)(op:Operator)(t:TIp):Prop:=
 ∀
  (pins:Rb) (s:Shared) (σ:St) (H:Hp) (x y:V) (v u:Value) (Q:VK),Inv X pins σ H s->RelV x v->RelV y u->t x y H Q->
  wpAny (model X.prog X.w) X.A (inplaceOp op v u) (EP X pins σ Q) X.xe s
section
variable{X:Cx}{pos:Pos}
def sZ(i:Nat):TG:=λv σ H Q=>Q (σ.set i (some v)) H
def EL(hN:X.N.Nodup)(hi:X.N[i]?=some x)(hx:Loc X.env.scope x)(hf:X.fn x=true\/X.env.scope.names.lookup x=some .local):PG X (.Name x pos) (sZ i):=by intro pins s σ H v u Q I r h;exact wpAny_assign_Name (je I hN hi hx r (λs' I'=>⟨_,H,I',h⟩) hf)
def gNil:TGs:=λvs σ H Q=>vs=[]/\Q σ H
def Mv(t:TG)(u:TGs):TGs:=λvs σ H Q=>∃v r,vs=v::r/\t v σ H λσ' H'=>u r σ' H' Q
def Gn:PGs X [] gNil:=by intro pins s σ H vs us Q I r h;obtain⟨e,h⟩:=h;subst e;cases r;exact assignInOrder_nil ⟨σ,H,I,h⟩
def Dc(h1:PG X e t)(h2:PGs X es u)
 (hs:(assignEach (e::es) X.env).map (·.2)=assign e X.env::(assignEach es X.env).map (·.2)):PGs X (e::es) (Mv t u):=by
 intro pins s σ H vs us Q I r h;obtain⟨v,vr,e1,h⟩:=h;subst e1;cases r with
 |cons r rr=>rw[hs];refine assignInOrder_cons (thn (h1 pins s σ H _ _ _ I r h) λ_ s1 ⟨σ1,H1,I1,q1⟩=>?_);exact h2 pins s1 σ1 H1 _ _ Q I1 rr q1
def gTup(K:W.Frag)(n:Nat)(t:TGs):TG:=λv σ H Q=>∃a xs,v=.ref a/\SqT K H a xs/\xs.length=n/\t xs σ H Q
def zU(hc:X.calm=true)(h:PGs X es t)
 (hn:(assignEach es X.env).length=n) (hst:(assignEach es X.env).findIdx? (·.1)=none):PG X (.Tuple es k pos) (gTup X.K n t):=by
 intro pins s σ H v u Q I r hw;obtain⟨a,xs,e1,hq,hl,hw⟩:=hw;subst e1;cases r;obtain⟨its,rv,ht,hz⟩:=I.tuple hq;refine assign_Tuple_tuple (I.ok.hd hc) ht (by simp [hn,<- hl,rv.length]) hst λh' hx=>?_;have I1:Inv X pins σ H { s with heap:=h' }:=I.kept (t':=s.toks) λb o e=>hx b o (OU (Em e)) e;exact h pins _ σ H xs _ Q I1 (by simpa using rv) hw
def gSub(to ti:TE)(t:zq):TG:=λv σ H Q=>to σ H λo H1=>ti σ H1 λi H2=>t o i v H2 λH3=>Q σ H3
def HR(ho:PE X o to)(hi:PE X i ti)(hs:uA X t)
 (ha:∀v,assign (.Subscript o i pos) X.env v=(do
  let ov <- holding [v] (eval o X.env)
  let iv <- holding [v,ov] (eval i X.env)
  standAt pos
  holding [v,ov,iv] (setItem ov iv v)
  release [v,ov,iv] [])):PG X (.Subscript o i pos) (gSub to ti t):=by
 intro pins s σ H v u Q I r h;rw[ha];refine v_ (P4 (thn (ho pins s σ H _ I h) λov s1 ⟨x,H1,I1,r1,q1⟩=>?_));refine v_ (P4 (thn (hi pins s1 σ H1 _ I1 q1) λiv s2 ⟨y,H2,I2,r2,q2⟩=>?_));refine v_ (Qw (v_ (P4 (thn (hs pins s2 σ H2 x y v ov iv u _ I2 r1 r2 r q2) λ_ s3 ⟨H3,I3,q3⟩=>?_))));exact wpAny_release ⟨σ,H3,I3,q3⟩
def xN(te:TE)(g:TG):TS:=λD σ H=>te σ H λx H1=>g x σ H1 D.nx
def Kv(he:PE X e te)(hg:PG X tg g)(hs:swapsWithSole [tg] e pos.line X.env=pure false)(hw:swappedStores [tg] e X.env=pure none)
 (h1:(assignEach [tg] X.env).map (·.2)=[assign tg X.env]):PS X (.Assign [tg] e pos) (xN te g):=by
 intro pins s σ H D I h;refine wpAny_Assign_stores (thn (he pins s σ H _ I h) λv s1 ⟨x,H1,I1,r1,q1⟩=>?_) hs hw;rw[h1];exact thn (hg pins s1 σ H1 x v _ I1 r1 q1) λ_ s2 q=>q
def HK(hN:X.N.Nodup)(hi:X.N[i]?=some x)(hx:Loc X.env.scope x)(he:PE X e te)(hs:swapsWith e (some (.Name x p_)) pos.line X.env=pure false)(hf:X.fn x=true\/X.env.scope.names.lookup x=some .local):
 PS X (.Assign [.Name x p_] e pos) (xN te (sZ i)):=by
 intro pins s σ H D I h;refine wpAny_Assign_Name (thn (he pins s σ H _ I h) λv s1 ⟨y,H1,I1,r1,q1⟩=>?_) hs;exact je I1 hN hi hx r1 (λs2 I2=>⟨_,H1,I2,q1⟩) hf
def tPar(i j:Nat)(ta:TA):TS:=λD σ H=>ta σ H λvs H1=>∃v w,vs=[v,w]/\D.nx ((σ.set i (some v)).set j (some w)) H1
def Hv{kt k2 pt2}(hc:X.calm=true)(hN:X.N.Nodup)(hi:X.N[i]?=some x)(hj:X.N[j]?=some y)(hij:i≠j)
 (hx:X.env.scope.names.lookup x=some .local) (hy:X.env.scope.names.lookup y=some .local) (ha:PA X [a,b] ta)
 (hw:swappedStores [.Tuple [.Name x px,.Name y py] kt pt] (.Tuple [a,b] k2 pt2) X.env=pure (some [x,y]))
 (hs:swapsWithSole [.Tuple [.Name x px,.Name y py] kt pt] (.Tuple [a,b] k2 pt2) pos.line X.env=pure false):
 PS X (.Assign [.Tuple [.Name x px,.Name y py] kt pt] (.Tuple [a,b] k2 pt2) pos) (tPar i j ta):=by
 intro pins s σ H D I h;rw[exec_Assign_arm];refine v_ (Qw ?_);rw[hs];refine v_ (E_ ?_);rw[if_neg (by decide)];refine v_ (Tuple_ (thn (ha _ pins s σ H _ I h) λus s1 ⟨vs,H1,I1,r1,q1⟩=>?_));obtain⟨v,w,e1,q1⟩:=q1;subst e1;obtain⟨u1,u2,rfl,rv,rw'⟩:∃u1 u2,us=[u1,u2]/\RelV v u1/\RelV w u2:=by
  cases r1 with
  |
   cons p q=>
   cases q with
   |cons p' q'=>cases q';exact⟨_,_,rfl,p,p'⟩
 refine Pn ?_ (by show 2<=sizeLine;decide);have I2:Inv X pins σ H1 { s1 with heap:=s1.heap.push { cls:=.type "tuple",data:=.seq [u1,u2].toArray } }:=I1.kept (t':=s1.toks) λb o e=>D_ _ e;rw[hw];refine v_ (E_ ?_);show wpAny (model X.prog X.w) X.A (do rule "assign.swapped-stores";let items <- unpackItems (.ref s1.heap.objs.size) 2 none;assignInOrder [λv=>bindName X.env y v,λv=>bindName X.env x v] items.reverse;pure Flow.next) _ _ _;refine v_ (wpAny_rule (v_ (unpackItems_tuple (items:=#[u1,u2]) (I.ok.hd hc) (IsTup.new s1.heap _) λh' hx'=>?_)));have I3:=I2.kept (h':=h') (t':=s1.toks) λb o e=>hx' b o (OU (Em e)) e;show wpAny _ _ (assignInOrder [λv=>bindName X.env y v,λv=>bindName X.env x v] [u2,u1] >>= λ_=>pure Flow.next) _ _ _;refine v_ (assignInOrder_cons (wpAny_bindName (je I3 hN hj (.inl hy) rw' (λs2 I4=>?_) (.inr hy))));refine assignInOrder_cons (wpAny_bindName (je I4 hN hi (.inl hx) rv (λs3 I5=>assignInOrder_nil (E_ ?_)) (.inr hx)));rw[List.set_comm _ _ (Ne.symm hij)] at I5;exact⟨_,H1,I5,q1⟩
def tAug(i:Nat)(te:TE)(ti:TIp):TS:=λD σ H=>∃x,σ[i]?=some (some x)/\te σ H λy H1=>ti x y H1 λz H2=>D.nx (σ.set i (some z)) H2
def KD(hN:X.N.Nodup)(hi:X.N[i]?=some x)(hx:Loc X.env.scope x)(he:PE X e te)(ho:PIp X op ti)(hf:X.fn x=true\/X.env.scope.names.lookup x=some .local):
 PS X (.AugAssign (.Name x p_) op e pos) (tAug i te ti):=by
 intro pins s σ H D I h;obtain⟨v,e1,h⟩:=h;obtain⟨m,hn,hl⟩:=I.loc;have vis:Vis X.env.scope x:=by rcases hx with k |k;exact .inl k;exact .inr (.inl k)
 obtain⟨u,r,l⟩:=hl i x v hi e1 vis;refine wpAny_AugAssign_Name ?_;have go:wpAny (model X.prog X.w) X.A (eval e X.env) (λw s₂=>wpAny (model X.prog X.w) X.A (inplaceOp op u w) (λr s₃=>wpAny (model X.prog X.w) X.A (storeName X.env x r) (λ_=>SP X pins D .next) X.xe s₃) X.xe s₂) X.xe s:=by refine thn (he pins s σ H _ I h) λw s1 ⟨y,H1,I1,r1,q1⟩=>?_;refine thn (ho pins s1 σ H1 v y u w _ I1 r r1 q1) λz s2 ⟨zv,H2,I2,r2,q2⟩=>?_;exact je I2 hN hi hx r2 (λs3 I3=>⟨_,H2,I3,q2⟩) hf
 rcases l with ⟨hk,hm⟩ |⟨hk,c,hc,hcell⟩
 .exact wpAny_loadName_local I.ok.kind hk hn hm go
 .rcases hk with hk |hk
  .exact wpAny_loadName_cell I.ok.kind hk hc hcell go
  .rcases hx with k |k
   .have:X.env.scope.names.lookup x=some .free:=hk;rw[k] at this;cases this
   .have:X.env.scope.names.lookup x=some .free:=hk;rw[k] at this;cases this
def ipI(f:Int->Int->Int):TIp:=λx y H Q=>∃i j,x=.int i/\y=.int j/\Q (.int (f i j)) H
def K8:PIp X .Add (ipI λi j=>i+j):=by intro pins s σ H x y v u Q I r1 r2 h;obtain⟨i,j,e1,e2,q⟩:=h;subst e1;subst e2;obtain⟨t,rfl⟩:=r1;obtain⟨t',rfl⟩:=r2;exact iadd_int ⟨.int _,H,I.tok _,⟨_,rfl⟩,q⟩
def LS(c:TT)(tb:TS):TS:=λD σ H=>∃W:Nat->St->Hp->Prop,(∃m,W m σ H)/\∀m σ H,W m σ H->
 c σ H λb H1=>if b=true then ∃N:St->Hp->Prop,(∀σ' H',N σ' H'->∃m',m'<m/\W m' σ' H')/\tb { D with nx:=N,ct:=N,bk:=D.nx } σ H1 else D.nx σ H1
def Cw(hp:PassesOwn (model X.prog X.w) X.A X.env X.xe)(hc:PT X c tc)(hb:PSs X body tb):PS X (.While c body [] pos) (LS tc tb):=by
 intro pins s σ H D I h;obtain⟨W,⟨m0,w0⟩,turn⟩:=h;refine wpAny_While (codeAny_whileLoop (λn s'=>∃σ' H',Inv X pins σ' H' s'/\W n σ' H') ?_ m0 ⟨σ,H,I,w0⟩);rintro n s1 ⟨σ1,H1,I1,w1⟩;refine PN hp (thn (hc pins s1 σ1 H1 _ I1 (turn n σ1 H1 w1)) λb s2 ⟨H2,I2,q2⟩=>?_);cases b with
 |
  true=>
  obtain⟨N,hN,q2⟩:=q2;rw[if_pos rfl];refine PN hp (thn (hb pins s2 σ1 H2 _ I2 q2) λf s3 q3=>?_);cases f with
  |next=>obtain⟨σ3,H3,I3,n3⟩:=q3;obtain⟨m',hm,w3⟩:=hN σ3 H3 n3;exact⟨m',hm,σ3,H3,I3,w3⟩
  |cont=>obtain⟨σ3,H3,I3,n3⟩:=q3;obtain⟨m',hm,w3⟩:=hN σ3 H3 n3;exact⟨m',hm,σ3,H3,I3,w3⟩
  |brk=>exact q3
  |ret v=>exact q3
 |false=>rw[if_neg z_];exact QM ⟨σ1,H2,I2,q2⟩
end
structure It where
 go:Nat->Hp->Prop
 yld:Nat->Hp->V->Hp->Prop
 stop:Nat->Hp->Prop
def FpOk(X:Cx)(pins:Rb)(H:Hp)(b:Addr):Prop:=
 H b=none/\b≠X.env.locals/\b∉X.fs/\(b∈X.ex\/X.s₀.heap.objs.size<=b)/\(∀x c,X.env.cells.lookup x=some c->c≠b)/\∀p∈X.pn++pins,p.1≠b
def Inv.fpOk(I:Inv X pins σ H s)(hb:s.heap.objs.size<=b)(hn:H' b=none):FpOk X pins H' b:=by
 refine⟨hn,Qm (K_ I.lt hb),I.nofs hb,.inr (G_ I.sz hb),λx c e z=>?_,λp hp z=>?_⟩
 .obtain⟨v,q⟩:=I.cell x c e;exact absurd (K_ q.lt (by rw[z];exact hb)) (Pg _)
 .exact absurd (K_ (Em (I.pin p hp).1) (by rw[z];exact hb)) (Pg _)
structure Turn(P:Program)(w:World)(K:W.Frag)(tg:Expr)(J:It)(fp:List Addr)(it:Addr)(tn:Nat->Heap->Prop):Prop where
 mem:it∈fp
 obj:∀i h,tn i h->∀b∈fp,∃o,h.get? b=some o/\∀v,o.data ≠ .cell v
 keep:∀i h h',tn i h->(∀b∈fp,∀o,h.get? b=some o->h'.get? b=some o)->tn i h'
 item:∀(X:Cx),X.prog=P->X.w=w->X.K=K->X.calm=true->∀(i:Nat) (pins:Rb) (s:Shared) (σ:St) (H:Hp) (E:Rf),Inv X pins σ H s->(∀b∈fp,FpOk X pins H b)->tn i s.heap->J.go i H->
  wpAny (model P w) X.A (pyNext (.ref it)) (λr s1=>∃u,r=some u/\
   wpAny (model P w) X.A (letOwnedTupleGo tg (.ref it) u) (λ_ s2=>∃x H',Inv X pins σ H' s2/\RelV x u/\J.yld i H x H'/\tn (i+1) s2.heap/\∀b∈fp,H' b=none) E s1) E s
 done:∀(X:Cx),X.prog=P->X.w=w->X.K=K->X.calm=true->∀(i:Nat) (pins:Rb) (s:Shared) (σ:St) (H:Hp) (E:Rf),Inv X pins σ H s->(∀b∈fp,FpOk X pins H b)->tn i s.heap->J.stop i H->
  wpAny (model P w) X.A (pyNext (.ref it)) (λr s1=>r=none/\Inv X pins σ H s1) E s
 self:∀(A:Around) (i:Nat) (s:Shared) (Q:Rf) (E:Rf),tn i s.heap->Q (.ref it) s->wpAny (model P w) A (pyIter (.ref it)) Q E s
abbrev TI:=St->Hp->(It->Hp->Prop)->Prop
def PIE(X:Cx)(pins:Rb)(σ:St)(tg:Expr)(R:It->Hp->Prop)(itv:Value)(s2:Shared):Prop:=
 ∃(it:Addr) (fp:List Addr) (tn:Nat->Heap->Prop) (J:It) (H':Hp),itv=.ref it/\Inv X pins σ H' s2/\Turn X.prog X.w X.K tg J fp it tn/\tn 0 s2.heap/\(∀b∈fp,FpOk X pins H' b)/\R J H'
def PI(X:Cx)(tg a_:Expr)(wi:TI):Prop:=
 ∀
  (pins:Rb) (s:Shared) (σ:St) (H:Hp) (R:It->Hp->Prop),Inv X pins σ H s->wi σ H R->
  wpAny (model X.prog X.w) X.A (eval a_ X.env) (λv s1=>wpAny (model X.prog X.w) X.A (pyIter v) (PIE X pins σ tg R) X.xe s1) X.xe s
def yZ(ho:s.heap.get? it=some o)(hc:o.cls=.type n)(hd:o.data=.fields vs)
 (hn:["enumerate", "zip", "dict_itemiterator", "dict_reverseitemiterator", "odict_iterator", "itertools.zip_longest", "itertools.pairwise"].contains n=false) (hQ:Q () s):wpAny M A (letOwnedTupleGo tg (.ref it) u) Q E s:=by
 unfold letOwnedTupleGo;cases tg
  <;> first
  |exact E_ hQ
  |(cases u <;> first
   |exact E_ hQ
   |(
    refine v_ (wpAny_load ho ?_);rw[hc,hd];show wpAny M A (if (["enumerate", "zip", "dict_itemiterator", "dict_reverseitemiterator", "odict_iterator", "itertools.zip_longest", "itertools.pairwise"].contains n&&vs[0]?==some (rawInt _))=true then _ else _) Q E s;rw[if_neg (by intro h;rw[hn,Bool.false_and] at h;cases h)];exact E_ hQ))
noncomputable def Itl(K:W.Frag)(a:Addr):It:=
 ⟨λi H=>∃xs x,SqL K H a xs/\xs[i]?=some x,λi H x H'=>H'=H/\∀xs,SqL K H a xs->xs[i]?=some x,λi H=>∃xs,SqL K H a xs/\xs.length<=i⟩
noncomputable def Itt(K:W.Frag)(a:Addr):It:=
 ⟨λi H=>∃xs x,SqT K H a xs/\xs[i]?=some x,λi H x H'=>H'=H/\∀xs,SqT K H a xs->xs[i]?=some x,λi H=>∃xs,SqT K H a xs/\xs.length<=i⟩
noncomputable def Itr(lo:Int)(n:Nat):It:=⟨λi _=>i<n,λi H x H'=>H'=H/\x=.int (lo+i),λi _=>n<=i⟩
def As{P:Program}{w:World}{K:W.Frag}{tg:Expr}(a it:Addr):Turn P w K tg (Itl K a) [it] it (λi h=>h.IsListIter it a i) where
 mem:=by simp
 obj:=λi h st b hb=>by
  have e:b=it:=by simpa using hb
  subst e;obtain⟨o,e,c,d⟩:=st;exact⟨o,e,λv z=>by rw[d] at z;cases z⟩
 keep:=λi h h' st k=>st.at λo e=>k it (by simp) o e
 item:=by intro X hP hw hK hc i pins s σ H E I hf st hg;subst hP hw hK;obtain⟨xs,x,hq,hx⟩:=hg;obtain⟨its,rv,p,hz⟩:=I.list hq;obtain⟨u,hu,ru⟩:=rv.get hx;obtain⟨f0,f1,f2,f3,f4,f5⟩:=hf it (by simp);refine wpAny_pyNext_list_item st p.isList (x:=u) (by simpa using hu) λh' st' sb=>?_;have I1:Inv X pins σ H { s with heap:=h' }:=I.turned (t':=s.toks) (λb o hb e=>(sb.2 b hb).trans e) f0 f1 f3 f4 f5;obtain⟨o,e,c,d⟩:=id st';exact⟨u,rfl,yZ (s:={ s with heap:=h' }) e c d (by decide) ⟨x,H,I1,ru,⟨rfl,λys hy=>by rw[I.list_inj hy hq];exact hx⟩,st',λb hb=>(hf b hb).1⟩⟩
 done:=by intro X hP hw hK hc i pins s σ H E I hf st hg;subst hP hw hK;obtain⟨xs,hq,hx⟩:=hg;obtain⟨its,rv,p,hz⟩:=I.list hq;obtain⟨f0,f1,f2,f3,f4,f5⟩:=hf it (by simp);have hl:=rv.length;exact wpAny_pyNext_list_end (I.ok.hd hc) st p.isList (by simp;omega) λh' eb=>⟨rfl,I.turned (t':=s.toks) (λb o hb e=>eb b o hb e) f0 f1 f3 f4 f5⟩
 self:=λ_ _ _ _ _ st h=>wpAny_pyIter_listiter st h
def y9{P:Program}{w:World}{K:W.Frag}{tg:Expr}(a it:Addr):Turn P w K tg (Itt K a) [it] it (λi h=>h.IsTupleIter it a i) where
 mem:=by simp
 obj:=λi h st b hb=>by
  have e:b=it:=by simpa using hb
  subst e;obtain⟨o,e,c,d⟩:=st;exact⟨o,e,λv z=>by rw[d] at z;cases z⟩
 keep:=λi h h' st k=>st.at λo e=>k it (by simp) o e
 item:=by intro X hP hw hK hc i pins s σ H E I hf st hg;subst hP hw hK;obtain⟨xs,x,hq,hx⟩:=hg;obtain⟨its,rv,p,hz⟩:=I.tuple hq;obtain⟨u,hu,ru⟩:=rv.get hx;obtain⟨f0,f1,f2,f3,f4,f5⟩:=hf it (by simp);refine wpAny_pyNext_tuple_item st (show s.heap.IsTuple a its.toArray from p) (x:=u) (by simpa using hu) λh' st' sb=>?_;have I1:Inv X pins σ H { s with heap:=h' }:=I.turned (t':=s.toks) (λb o hb e=>(sb.2 b hb).trans e) f0 f1 f3 f4 f5;obtain⟨o,e,c,d⟩:=id st';exact⟨u,rfl,yZ (s:={ s with heap:=h' }) e c d (by decide) ⟨x,H,I1,ru,⟨rfl,λys hy=>by rw[I.tuple_inj hy hq];exact hx⟩,st',λb hb=>(hf b hb).1⟩⟩
 done:=by intro X hP hw hK hc i pins s σ H E I hf st hg;subst hP hw hK;obtain⟨xs,hq,hx⟩:=hg;obtain⟨its,rv,p,hz⟩:=I.tuple hq;obtain⟨f0,f1,f2,f3,f4,f5⟩:=hf it (by simp);have hl:=rv.length;exact wpAny_pyNext_tuple_end (I.ok.hd hc) st (show s.heap.IsTuple a its.toArray from p) (by simp;omega) λh' eb=>⟨rfl,I.turned (t':=s.toks) (λb o hb e=>eb b o hb e) f0 f1 f3 f4 f5⟩
 self:=λ_ _ _ _ _ st h=>wpAny_pyIter_tupleiter st h
def zj{P:Program}{w:World}{K:W.Frag}{tg:Expr}(it:Addr)(lo:Int)(n:Nat):Turn P w K tg (Itr lo n) [it] it (λi h=>IsRangeIter h it (lo+(i:Nat)*1) ((n:Int)-(i:Nat)) 1) where
 mem:=by simp
 obj
  := λi h st b hb=>by
  have e:b=it:=by simpa using hb
  subst e;exact⟨_,st,λv z=>by have z':Data.fields _=Data.cell v:=z;cases z'⟩
 keep:=λi h h' st k=>k it (by simp) _ st
 item:=by intro X hP hw hK hc i pins s σ H E I hf st hg;subst hP hw hK;obtain⟨f0,f1,f2,f3,f4,f5⟩:=hf it (by simp);have W:=Walks.range (prog:=X.prog) (w:=X.w) (I.ok.hd hc) it lo 1 n;refine W.item i s _ _ hg st λv h' tk hv st' kk=>?_;obtain⟨t,rfl⟩:=hv;have I1:Inv X pins σ H { s with heap:=h',toks:=tk }:=I.turned (λb o hb e=>kk b o (by simpa using hb) e) f0 f1 f3 f4 f5;refine⟨_,rfl,yZ (s:={ s with heap:=h',toks:=tk }) (n:="range_iterator") st' rfl rfl (by decide) ⟨.int (lo+i),H,I1,⟨t,?_⟩,⟨rfl,rfl⟩,st',λb hb=>(hf b hb).1⟩⟩;rw[Int.mul_one]
 done:=by intro X hP hw hK hc i pins s σ H E I hf st hg;subst hP hw hK;obtain⟨f0,f1,f2,f3,f4,f5⟩:=hf it (by simp);exact wpAny_pyNext_range_end (I.ok.hd hc) st (by have:n<=i:=hg;omega) λh' eb=>⟨rfl,I.turned (t':=s.toks) (λb o hb e=>eb b o hb e) f0 f1 f3 f4 f5⟩
 self:=λ_ _ _ _ _ st h=>wpAny_pyIter_rangeiter st h
section
variable{X:Cx}{tg:Expr}
def ur{pins:Rb}{σ:St}{H:Hp}{s:Shared}{R:It->Hp->Prop}{E:Rf}{lo hi:Int}{t u v:Tok}{tk:Nat}(I:Inv X pins σ H s)(h1:-(2^62)<=lo)(h2:lo<2^62)(h3:-(2^62)<=hi)(h4:hi<2^62)
 (q:R (Itr lo (hi-lo).toNat) H):wpAny (model X.prog X.w) X.A (pyIter (.ref s.heap.objs.size)) (PIE X pins σ tg R) E { s with heap:=s.heap.push { cls:=.type "range",data:=.fields #[.int lo t,.int hi u,.int 1 v] },toks:=tk }:=by
 refine wpAny_pyIter_range (IsRange.new ..) (small_one h1 h2 h3 h4) ?_;have I1:Inv X pins σ H { s with heap:=s.heap.push { cls:=.type "range",data:=.fields #[.int lo t,.int hi u,.int 1 v] },toks:=tk }:=I.kept λb o e=>D_ _ e;refine⟨(s.heap.push { cls:=.type "range",data:=.fields #[.int lo t,.int hi u,.int 1 v] }).objs.size,[(s.heap.push { cls:=.type "range",data:=.fields #[.int lo t,.int hi u,.int 1 v] }).objs.size],_,_,H,rfl,
  I1.kept (t':=tk) λb o e=>D_ _ e,zj _ lo (hi-lo).toNat,?_,λb hb=>?_,q⟩
 .have e1:lo+((0:Nat):Int)*1=lo:=by simp
  have e2:(((hi-lo).toNat:Nat):Int)-((0:Nat):Int)=Builtin.Range.rangeSize lo hi 1:=by rw[rangeSize_one];split <;> omega
  show IsRangeIter _ _ (lo+((0:Nat):Int)*1) ((((hi-lo).toNat:Nat):Int)-((0:Nat):Int)) 1;rw[e1,e2];exact M_ _ rfl
 .have e:b=(s.heap.push { cls:=.type "range",data:=.fields #[.int lo t,.int hi u,.int 1 v] }).objs.size:=by simpa using hb
  subst e;exact I1.fpOk (y_ _) (I1.hok.fresh (y_ _))
def L9(ta:TA):TI:=λσ H R=>ta σ H λvs H1=>∃j:Int,vs=[.int j]/\-(2^62)<=j/\j<2^62/\R (Itr 0 j.toNat) H1
def Nk(ta:TA):TI:=λσ H R=>ta σ H λvs H1=>∃i j:Int,vs=[.int i,.int j]/\(-(2^62)<=i/\i<2^62/\-(2^62)<=j/\j<2^62)/\R (Itr i (j-i).toNat) H1
def AI(hg:Gl X "range")(hm:X.mg "range"=none)(ha:PA X [a] ta)(hs:starEach [a] X.env=[(false,eval a X.env)]):PI X tg (.Call (.Name "range" p) [a] [] pos) (L9 ta):=by
 intro pins s σ H R I h;refine Call_ (gR I hg hm boot_range (O8 (thn (ha pos pins s σ H _ I h) λus s1 ⟨vs,H1,I1,r1,q1⟩=>?_) hs rfl));obtain⟨j,e,q1,q2,q⟩:=q1;subst e;cases r1 with
 |cons r rr=>cases rr;obtain⟨t,rfl⟩:=r;exact call_range_1 (ur I1 (by omega) (by omega) q1 q2 (by simpa using q))
def zO(hg:Gl X "range")(hm:X.mg "range"=none)(ha:PA X [a,b] ta)(hs:starEach [a,b] X.env=[(false,eval a X.env),(false,eval b X.env)])(hs2:starEach [b] X.env=[(false,eval b X.env)]):
 PI X tg (.Call (.Name "range" p) [a,b] [] pos) (Nk ta):=by
 intro pins s σ H R I h;refine Call_ (gR I hg hm boot_range (O8 (thn (ha pos pins s σ H _ I h) λus s1 ⟨vs,H1,I1,r1,q1⟩=>?_) (by rw[hs,hs2]) (by rw[hs2];rfl)));obtain⟨i,j,e,⟨q1,q2,q3,q4⟩,q⟩:=q1;subst e;cases r1 with
 |
  cons r rr=>
  cases rr with
  |cons r' rr=>cases rr;obtain⟨t,rfl⟩:=r;obtain⟨t',rfl⟩:=r';exact call_range_2 (ur I1 q1 q2 q3 q4 q)
def tFor(wi:TI)(g:TG)(tb:TS):TS:=λD σ H=>wi σ H λJ H1=>∃W:Nat->Nat->St->Hp->Prop,(∃m,W 0 m σ H1)/\∀i m σ H,W i m σ H->
 (J.stop i H/\D.nx σ H)\/(J.go i H/\∃N:St->Hp->Prop,(∀σ' H',N σ' H'->∃m',m'<m/\W (i+1) m' σ' H')/\∀x H',J.yld i H x H'->g x σ H' λσ2 H2=>tb { D with nx:=N,ct:=N,bk:=D.nx } σ2 H2)
noncomputable def lV(fp:List Addr)(h:Heap):List (Addr×Obj):=fp.filterMap λb=>(h.get? b).map λo=>(b,o)
def i4(hb:b∈fp)(e:h.get? b=some o):(b,o)∈lV fp h:=List.mem_filterMap.mpr ⟨b,hb,by rw[e];rfl⟩
def Am(hp:p∈lV fp h):p.1∈fp/\h.get? p.1=some p.2:=by
 obtain⟨b,hb,e⟩:=List.mem_filterMap.mp hp;cases q:h.get? b with
 |none=>rw[q] at e;cases e
 |some o=>rw[q] at e;have e':(b,o)=p:=OQ e;subst e';exact⟨hb,q⟩
def Inv.pinned(I:Inv X pins σ H s)(hf:∀b∈fp,FpOk X pins H b)(ho:∀b∈fp,∃o,s.heap.get? b=some o/\∀v,o.data ≠ .cell v):Inv X (pins++lV fp s.heap) σ H s:=
 I.pins_of λp hp=>(Pw.mp hp).elim (λz=>I.pin p (OX _ z)) λz=>by obtain⟨hb,e⟩:=Am z;obtain⟨f0,f1,f2,_⟩:=hf p.1 hb;obtain⟨o,e',d⟩:=ho p.1 hb;rw[e] at e';cases e';exact⟨e,f0,f1,f2,d⟩
def Inv.unpinned(I:Inv X (pins++pl) σ H s):Inv X pins σ H s:=I.pins_of λp hp=>I.pin p (OX _ (List.mem_append_left _ hp))
def Lr(hp:PassesOwn (model X.prog X.w) X.A X.env X.xe)(hc:X.calm=true)(hi:PI X tg a_ wi)(hg:PG X tg g)(hb:PSs X body tb)
 (hs:∀x,foldedSetIterable a_ X.env x=pure x):PS X (.For tg a_ body [] pos) (tFor wi g tb):=by
 intro pins s σ H D I h;refine wpAny_For (thn (hi pins s σ H _ I h) λv s1 h1=>thn h1 λitv s2 h2=>?_) hs;obtain⟨it,fp,tn,J,H2,e,I2,T,st2,f2,W,⟨m0,w0⟩,turn⟩:=h2;subst e;have stat:∀{H':Hp},(∀b∈fp,H' b=none)->∀b∈fp,FpOk X pins H' b:=λhn b hb=>⟨hn b hb,(f2 b hb).2⟩;refine codeAny_forLoop_any (λn s'=>∃i σ' H',Inv X pins σ' H' s'/\tn i s'.heap/\(∀b∈fp,H' b=none)/\W i n σ' H') ?_ m0 ⟨0,σ,H2,I2,st2,λb hb=>(f2 b hb).1,w0⟩;rintro n s3 ⟨i,σ3,H3,I3,st3,fr3,w3⟩;rcases turn i n σ3 H3 w3 with ⟨stop,qn⟩ |⟨go,N,hN,step⟩
 .refine PN hp (thn (T.done X rfl rfl rfl hc i pins s3 σ3 H3 X.xe I3 (stat fr3) st3 stop) λr s4 ⟨hr,I4⟩=>?_);subst hr;exact QM ⟨σ3,H3,I4,qn⟩
 .refine PN hp (thn (T.item X rfl rfl rfl hc i pins s3 σ3 H3 X.xe I3 (stat fr3) st3 go) λr s4 ⟨u,hr,h4⟩=>?_);subst hr;refine PN hp (thn h4 λ_ s5 ⟨x,H5,I5,r5,y5,st5,fr5⟩=>?_);have I5':=I5.pinned (stat fr5) (T.obj _ _ st5);refine PN hp (thn (hg _ s5 σ3 H5 x u _ I5' r5 (step x H5 y5)) λ_ s6 ⟨σ6,H6,I6,q6⟩=>?_);refine PN hp (thn (hb _ s6 σ6 H6 _ I6 q6) λf s7 q7=>?_);have again:∀{σ7:St}{H7:Hp},Inv X (pins++lV fp s5.heap) σ7 H7 s7->N σ7 H7->∃m,m<n/\∃i σ' H',Inv X pins σ' H' s7/\tn i s7.heap/\(∀b∈fp,H' b=none)/\W i m σ' H':=λ{σ7 H7} I7 n7=>by obtain⟨m',hm,w7⟩:=hN σ7 H7 n7;refine⟨m',hm,i+1,σ7,H7,I7.unpinned,T.keep _ _ _ st5 λb hb o e=>(I7.pin (b,o) (OX _ (OX _ (i4 hb e)))).1,λb hb=>?_,w7⟩;obtain⟨o,e,d⟩:=T.obj _ _ st5 b hb;exact (I7.pin (b,o) (OX _ (OX _ (i4 hb e)))).2.1
  cases f with
  |next=>obtain⟨σ7,H7,I7,n7⟩:=q7;exact again I7 n7
  |cont=>obtain⟨σ7,H7,I7,n7⟩:=q7;exact again I7 n7
  |brk=>obtain⟨σ7,H7,I7,q7⟩:=q7;exact⟨σ7,H7,I7.unpinned,q7⟩
  |ret v=>obtain⟨x7,σ7,H7,I7,r7,q7⟩:=q7;exact⟨x7,σ7,H7,I7.unpinned,r7,q7⟩
end
abbrev R2:=V->V->Hp->VK->Prop
def OpR(X:Cx)(f:Value->Value->Sem Value)(r:R2):Prop:=
 ∀
  (pins:Rb) (s:Shared) (σ:St) (H:Hp) (x y:V) (v u:Value) (Q:VK),Inv X pins σ H s->RelV x v->RelV y u->r x y H Q->
  wpAny (model X.prog X.w) X.A (f v u) (EP X pins σ Q) X.xe s
def UnR(X:Cx)(f:Value->Sem Value)(r:V->Hp->VK->Prop):Prop:=
 ∀
  (pins:Rb) (s:Shared) (σ:St) (H:Hp) (x:V) (v:Value) (Q:VK),Inv X pins σ H s->RelV x v->r x H Q->
  wpAny (model X.prog X.w) X.A (f v) (EP X pins σ Q) X.xe s
def CallR(X:Cx)(f:Value)(r:List V->Hp->VK->Prop):Prop:=
 ∀
  (pins:Rb) (s:Shared) (σ:St) (H:Hp) (xs:List V) (us:List Value) (Q:VK),Inv X pins σ H s->Vals xs us->r xs H Q->
  wpAny (model X.prog X.w) X.A (call f us) (EP X pins σ Q) X.xe s
def tOp(r:R2)(ta tb:TE):TE:=λσ H Q=>ta σ H λx H1=>tb σ H1 λy H2=>r x y H2 Q
def tUn(r:V->Hp->VK->Prop)(ta:TE):TE:=λσ H Q=>ta σ H λx H1=>r x H1 Q
def rI(C:Int->Int->Prop)(g:Int->Int->V):R2:=λx y H Q=>∃i j,x=.int i/\y=.int j/\C i j/\Q (g i j) H
def rI0(g:Int->Int->V):R2:=λx y H Q=>∃i j,x=.int i/\y=.int j/\Q (g i j) H
def rU(g:Int->V):V->Hp->VK->Prop:=λx H Q=>∃i,x=.int i/\Q (g i) H
section
variable{X:Cx}{a b:Expr}{ta tb:TE}{pos:Pos}
def BC(ha:PE X a ta)(hb:PE X b tb){pins:Rb}{s:Shared}{σ:St}{H:Hp}{R:V->V->Hp->Prop}(I:Inv X pins σ H s)
 (h:ta σ H λx H1=>tb σ H1 λy H2=>R x y H2) {Q:Rf}{f:Value->Value->Sem Value}
 (hf:∀v u s2 x y H2,Inv X pins σ H2 s2->RelV x v->RelV y u->R x y H2->wpAny (model X.prog X.w) X.A (f v u) Q X.xe s2):
 wpAny (model X.prog X.w) X.A (eval a X.env) (λv s₁=>wpAny (model X.prog X.w) X.A (eval b X.env) (λu s₂=>wpAny (model X.prog X.w) X.A (f v u) Q X.xe s₂) X.xe s₁) X.xe s:=by
 refine thn (ha pins s σ H _ I h) λv s1 ⟨x,H1,I1,r1,q1⟩=>?_;refine thn (hb pins s1 σ H1 _ I1 q1) λu s2 ⟨y,H2,I2,r2,q2⟩=>?_;exact hf v u s2 x y H2 I2 r1 r2 q2
def Oz(ho:OpR X (binaryOp op) r)(ha:PE X a ta)(hb:PE X b tb):PE X (.BinOp a op b pos) (tOp r ta tb):=by intro pins s σ H Q I h;exact wpAny_BinOp (BC ha hb I h λv u s2 x y H2 I2 rx ry q=>ho pins s2 σ H2 x y v u Q I2 rx ry q)
def NZ(ho:UnR X (unaryOp op) r)(ha:PE X a ta):PE X (.UnaryOp op a pos) (tUn r ta):=by intro pins s σ H Q I h;exact UnaryOp_ (thn (ha pins s σ H _ I h) λv s1 ⟨x,H1,I1,r1,q1⟩=>ho pins s1 σ H1 x v Q I1 r1 q1)
def opI{f:Value->Value->Sem Value}{C:Int->Int->Prop}{g:Int->Int->Int}
 (rule:∀(i j:Int) (t u:Tok) (s:Shared) (Q:Rf) (E:Rf),C i j->Q (.int (g i j) s.toks) { s with toks:=s.toks+1 }->wpAny (model X.prog X.w) X.A (f (.int i t) (.int j u)) Q E s):
 OpR X f (rI C λi j=>.int (g i j)):=by
 intro pins s σ H x y v u Q I rx ry h;obtain⟨i,j,rfl,rfl,hc,q⟩:=h;obtain⟨t,rfl⟩:=rx;obtain⟨t',rfl⟩:=ry;exact rule i j t t' s _ _ hc ⟨.int (g i j),H,I.tok _,⟨_,rfl⟩,q⟩
def opI0{f:Value->Value->Sem Value}{g:Int->Int->Int}
 (rule:∀(i j:Int) (t u:Tok) (s:Shared) (Q:Rf) (E:Rf),Q (.int (g i j) s.toks) { s with toks:=s.toks+1 }->wpAny (model X.prog X.w) X.A (f (.int i t) (.int j u)) Q E s):
 OpR X f (rI0 λi j=>.int (g i j)):=by
 intro pins s σ H x y v u Q I rx ry h;obtain⟨i,j,rfl,rfl,q⟩:=h;obtain⟨t,rfl⟩:=rx;obtain⟨t',rfl⟩:=ry;exact rule i j t t' s _ _ ⟨.int (g i j),H,I.tok _,⟨_,rfl⟩,q⟩
def yJ{f:Value->Value->Sem Value}{g:Int->Int->Bool}
 (rule:∀(i j:Int) (t u:Tok) (s:Shared) (Q:Rf) (E:Rf),Q (.bool (g i j)) s->wpAny (model X.prog X.w) X.A (f (.int i t) (.int j u)) Q E s):
 OpR X f (rI0 λi j=>.bl (g i j)):=by
 intro pins s σ H x y v u Q I rx ry h;obtain⟨i,j,rfl,rfl,q⟩:=h;obtain⟨t,rfl⟩:=rx;obtain⟨t',rfl⟩:=ry;exact rule i j t t' s _ _ ⟨.bl (g i j),H,I,rfl,q⟩
def i0(i j:Int):Prop:=0<=j/\j<=1000000/\i.natAbs<2^64
def CMul(i j:Int):Prop:=(-(2^64)<i/\i<2^64)\/(-(2^64)<j/\j<2^64)
def CMul.ok(h:CMul i j):IntMulOk i j:=by
 rcases h with ⟨h1,h2⟩ |⟨h1,h2⟩
 .exact .of_left (intBits_le_64 h1 h2)
 .exact .of_right (intBits_le_64 h1 h2)
def Hq:OpR X (binaryOp .Add) (rI0 λi j=>.int (i+j)):=opI0 λ_ _ _ _ _ _ _ q=>add_int q
def Ho:OpR X (binaryOp .Sub) (rI0 λi j=>.int (i-j)):=opI0 λ_ _ _ _ _ _ _ q=>sub_int q
def HH:OpR X (binaryOp .Mult) (rI CMul λi j=>.int (i*j)):=opI λ_ _ _ _ _ _ _ hc q=>mul_int q hc.ok
def Gu:OpR X (binaryOp .Mod) (rI (λ_ j=>j≠0) λi j=>.int (i.fmod j)):=opI λ_ _ _ _ _ _ _ hc q=>mod_int' hc q
def J8:OpR X (binaryOp .Pow) (rI i0 λi j=>.int (i^j.toNat)):=opI λ_ _ _ _ _ _ _ hc q=>pow_int_small hc.1 hc.2.1 hc.2.2 q
def Hr:OpR X (binaryOp .LShift) (rI i0 λi j=>.int (i*2^j.toNat)):=opI λ_ _ _ _ _ _ _ hc q=>lshift_int_small hc.1 hc.2.1 hc.2.2 q
def unI{f:Value->Sem Value}{g:Int->Int}
 (rule:∀(i:Int) (t:Tok) (s:Shared) (Q:Rf) (E:Rf),Q (.int (g i) s.toks) { s with toks:=s.toks+1 }->wpAny (model X.prog X.w) X.A (f (.int i t)) Q E s):
 UnR X f (rU λi=>.int (g i)):=by
 intro pins s σ H x v Q I rx h;obtain⟨i,rfl,q⟩:=h;obtain⟨t,rfl⟩:=rx;exact rule i t s _ _ ⟨.int (g i),H,I.tok _,⟨_,rfl⟩,q⟩
def J5:UnR X (unaryOp .USub) (rU λi=>.int (-i)):=unI λ_ _ _ _ _ q=>neg_int q
end
section
variable{X:Cx}{a b c:Expr}{ta tb tc:TE}{pos:Pos}
def ky(I:Inv X pins σ H s)(q:Q (.bl k) H)(e:k=k'):EP X pins σ Q (.bool k') s:=by subst e;exact⟨.bl k,H,I,rfl,q⟩
def Ei:OpR X (compareOp .Lt) (rI0 λi j=>.bl (decide (i<j))):=yJ λ_ _ _ _ _ _ _ q=>lt_int q
def Eu:OpR X (compareOp .LtE) (rI0 λi j=>.bl (decide (i<=j))):=yJ λ_ _ _ _ _ _ _ q=>le_int q
def Ep:OpR X (compareOp .Gt) (rI0 λi j=>.bl (decide (j<i))):=yJ λ_ _ _ _ _ _ _ q=>gt_int q
def EG:OpR X (compareOp .GtE) (rI0 λi j=>.bl (decide (j<=i))):=yJ λ_ _ _ _ _ _ _ q=>ge_int q
def Jt:OpR X (compareOp .Is) (λx y H Q=>y=.non/\Q (.bl (decide (x=.non))) H):=by
 intro pins s σ H x y v u Q I rx ry h;obtain⟨rfl,q⟩:=h;cases ry;refine is_none_gen (ky I q ?_);cases x <;> first
  |(cases rx;rfl)
  |(obtain⟨t,rfl⟩:=rx;rfl)
def Fv:OpR X (compareOp .IsNot) (λx y H Q=>y=.non/\Q (.bl (!decide (x=.non))) H):=by
 intro pins s σ H x y v u Q I rx ry h;obtain⟨rfl,q⟩:=h;cases ry;refine isnot_none_gen (ky I q ?_);cases x <;> first
  |(cases rx;rfl)
  |(obtain⟨t,rfl⟩:=rx;rfl)
def OpR.or(h:OpR X f r)(h':OpR X f r'):OpR X f (λx y H Q=>r x y H Q\/r' x y H Q):=by
 intro pins s σ H x y v u Q I rx ry q;rcases q with q |q
 .exact h pins s σ H x y v u Q I rx ry q
 .exact h' pins s σ H x y v u Q I rx ry q
def Ba(b:Expr)(h:op ≠ .In:=by decide)(h2:op ≠ .NotIn:=by decide):behindInMarks op b=false:=by
 have e1:(op==CmpOp.In)=false:=by cases op <;> first |rfl |exact absurd rfl h
 have e2:(op==CmpOp.NotIn)=false:=by cases op <;> first |rfl |exact absurd rfl h2
 cases b <;> simp [behindInMarks,e1,e2]
def GV(ho:OpR X (compareOp op) r)(ha:PE X a ta)(hb:PE X b tb)(hm:behindInMarks op b=false):PE X (.Compare a [op] [b] pos) (tOp r ta tb):=by intro pins s σ H Q I h;exact wpAny_Compare1 (BC ha hb I h λv u s2 x y H2 I2 rx ry q=>ho pins s2 σ H2 x y v u Q I2 rx ry q) hm
def EC(t:TE):TT:=λσ H Q=>t σ H λx H'=>∃k,x=.bl k/\Q k H'
def Gk(ho:OpR X (compareOp op) r)(ha:PE X a ta)(hb:PE X b tb)(hm:behindInMarks op b=false):PT X (.Compare a [op] [b] pos) (EC (tOp r ta tb)):=by
 intro pins s σ H Q I h;refine wpAny_isTrue_Compare1 (thn (ha pins s σ H _ I h) λv s1 ⟨x,H1,I1,r1,q1⟩=>thn (hb pins s1 σ H1 _ I1 q1) λu s2 ⟨y,H2,I2,r2,q2⟩=>
  thn (ho pins s2 σ H2 x y v u _ I2 r1 r2 q2) λc s3 ⟨z,H3,I3,r3,k,e,q3⟩=>?_) hm
 subst e;cases r3;exact Py ⟨H3,I3,q3⟩
def zK(r r':R2)(ta tb tc:TE):TE:=λσ H Q=>ta σ H λx H1=>tb σ H1 λy H2=>r x y H2 λz H3=>∃k,z=.bl k/\
 (if k=true then tc σ H3 λw' H4=>r' y w' H4 Q else Q (.bl false) H3)
def BX(ho:OpR X (compareOp op) r)(ho':OpR X (compareOp op') r')(ha:PE X a ta)(hb:PE X b tb)(hc:PE X c tc)
 (hm:lastMarks [op,op'] [b,c]=false):PT X (.Compare a [op,op'] [b,c] pos) (EC (zK r r' ta tb tc)):=by
 intro pins s σ H Q I h;refine isTrue_chain (thn (ha pins s σ H _ I h) λv s1 ⟨x,H1,I1,r1,q1⟩=>test_link (thn (hb pins s1 σ H1 _ I1 q1) λu s2 ⟨y,H2,I2,r2,q2⟩=>
  thn (ho pins s2 σ H2 x y v u _ I2 r1 r2 q2) λd s3 ⟨z,H3,I3,r3,k,e,q3⟩=>?_)) hm
 subst e;cases r3;refine Py ?_;cases k with
 |false=>obtain⟨k',e',q'⟩:=q3;cases e';exact ite_ff ⟨H3,I3,q'⟩
 |true=>refine ite_tt (test_last (thn (hc pins s3 σ H3 _ I3 q3) λw' s4 ⟨z',H4,I4,r4,q4⟩=>thn (ho' pins s4 σ H4 y z' u w' _ I4 r2 r4 q4) λd' s5 ⟨z2,H5,I5,r5,k2,e2,q5⟩=>?_));subst e2;cases r5;exact Py ⟨H5,I5,q5⟩
def l7:(sizeLine:Nat)<2^63:=by rw[sizeLine_eq];decide
def lB(r:Vals [x] us):∃u,us=[u]/\RelV x u:=by
 cases r with
 |cons r1 r2=>cases r2;exact⟨_,rfl,r1⟩
def DV(r:Vals [x,y] us):∃u w',us=[u,w']/\RelV x u/\RelV y w':=by
 cases r with
 |
  cons r1 r2=>
  cases r2 with
  |cons r3 r4=>cases r4;exact⟨_,_,rfl,r1,r3⟩
def Cp:CallR X (.builtin "abs") (λxs H Q=>∃i,xs=[.int i]/\Q (.int (if i<0 then -i else i)) H):=by intro pins s σ H xs us Q I r h;obtain⟨i,rfl,q⟩:=h;obtain⟨u,rfl,t,rfl⟩:=lB r;exact call_abs_int λu tk=>⟨.int (if i<0 then -i else i),H,I.tok _,⟨_,rfl⟩,q⟩
end
structure ObjM(h:Heap)(x dx C:Addr)(mA:Ra):Prop where
 obj:h.get? x=some (W.instObj C dx)
 ns:h.Ns1 dx mA
 ne:dx≠x
def Ar{h:Heap}{dx:Addr}{mA:Ra}(n:h.Ns1 dx mA):∃od,h.get? dx=some od/\∀name,W.lookIn name od=some (mA name):=by
 obtain⟨o,es,ep,ho,hd,hk,_,hm⟩:=n;refine⟨o,ho,λname=>?_⟩;have e:=hm name;unfold nsFind findBy at e;rw[<- Array.find?_toList] at e;unfold W.lookIn;rw[hd];dsimp only;split
 .rename_i y q;rw[q] at e;exact O4 some e
 .rename_i q;rw[q] at e;have a:es.toList.any (·.refKey)=false:=by rw[List.any_eq_false];intro y hy;obtain⟨z,t,hkey⟩:=hk y (Array.mem_toList_iff.mp hy);simp [DictEntry.refKey,hkey]
  have a':¬ es.toList.any (·.refKey)=true:=by rw[a];exact z_
  rw[if_neg a'];exact O4 some e
def ObjM.look(I:ObjM h x dx C mA):∃od,W.InstAt h x (W.instObj C dx) C (some od)/\∀name,W.lookIn name od=some (mA name):=
 let ⟨od,ho,hl⟩:=Ar I.ns
 ⟨od,⟨I.obj,rfl,rfl,ho⟩,hl⟩
def RelO.some_of(r:RelO (some v) o):∃u,o=some u/\RelV v u:=by
 cases o with
 |none=>exact (show False from r).elim
 |some u=>exact⟨u,rfl,r⟩
section
variable{P:Program}{w:World}{H:Hp}{h:Heap}{a C dx:Addr}{fs:List (Str×V)}
def Gi(hok:HOk P w H h)(e:H a=some (.ins C dx fs)):∃mA,ObjM h a dx C mA/\(∀f,RelO (fs.lookup f) (mA f))/\PySem.Within mA (fs.map (·.1))/\fs.length<=1000/\H dx=some (.own a):=by obtain⟨d,z,ne,ob,mA,n,r,q⟩:=(show ObjOk P w H h a (.ins C dx fs) from hok a _ e);exact⟨mA,⟨ob,n,ne⟩,r,q,z,d⟩
end
structure Cls(K:W.Frag)(C:Addr):Prop where
 pg:W.plainGet K C Str.empty=true
 hd:W.hasDictIn K C=true
 po:W.plainOver K C=true
 sa:W.findIn K (.ref C) "__setattr__"=some (some (.builtin "object.__setattr__"))
def Cls.get{K:W.Frag}{C:Addr}(c:Cls K C)(f:Str):W.plainGet K C f=true:=c.pg
section
variable{H:Hp}
inductive TyOf(K:W.Frag)(H:Hp):V->Value->Prop where
 |non:TyOf K H .non (.type "NoneType")
 |bl (x:Bool):TyOf K H (.bl x) (.type "bool")
 |int (i:Int):TyOf K H (.int i) (.type "int")
 |str (x:Str):TyOf K H (.str x) (.type "str")
 |flt (x:UInt64):TyOf K H (.flt x) (.type "float")
 |lst {a:Addr}{xs:List V} (e:H a=some (.lst xs)):TyOf K H (.ref a) (.type "list")
 |frz {a:Addr}{o:Obj}{xs:List V} (e:H a=some (.frz o (.lst xs))):TyOf K H (.ref a) (.type "list")
 |tup {a:Addr}{xs:List V} (e:H a=some (.tup xs)):TyOf K H (.ref a) (.type "tuple")
 |dK {a:Addr}{kvs:List (Key×V)} (e:H a=some (.dK kvs)):TyOf K H (.ref a) (.type "dict")
 |dT {a:Addr}{kvs:List (List Key×V)} (e:H a=some (.dT kvs)):TyOf K H (.ref a) (.type "dict")
 |ins {a C dx:Addr}{fs:List (Str×V)} (e:H a=some (.ins C dx fs)) (cl:Cls K C) (ha:W.findIn K (.ref C) "__class__"=some (some (.builtin "object.__class__")))
  (hn:W.specialIn K (.builtin "object.__class__") "__get__"=some (some (.builtin "getset_descriptor.__get__"))) (htk:W.takesIn K (.builtin "object.__class__")=some true)
  (hm:W.mroIn K C (.type "object")=some true):TyOf K H (.ref a) (.ref C)
end
structure Room(k:Nat)(A:Around):Prop where
 hd:A.handled=none
 dp:A.depth+3*k+5<recursionLimit
 un:A.units+16*k+200<cLine
def Room.mono(r:Room k A)(h:j<=k):Room j A:=⟨r.hd,by have:=r.dp;omega,by have:=r.un;omega⟩
def Room.deeper(r:Room (k+1) A)(env:Env):Room k (A.deeper env):=
 ⟨r.hd,by have:=r.dp;show A.depth+1+3*k+5<_;omega,by have:=r.un;show A.units+3+16*k+200<_;omega⟩
def Room.depth(r:Room k A):A.depth<recursionLimit:=by have:=r.dp;omega
def Room.units(r:Room k A):A.units+64<cLine:=by have:=r.un;omega
def tNil:TA:=λ_ H Q=>Q [] H
def Nh(ta:TE)(tr:TA):TA:=λσ H Q=>ta σ H λx H1=>tr σ H1 λxs H2=>Q (x::xs) H2
section
variable{X:Cx}{e:Expr}{es:List Expr}{te:TE}{t:TA}{pos:Pos}
def Ls:PA X [] tNil:=λ_ _ _ _ H Q I h=>Calls.spliced_nil ⟨[],H,I,.nil,h⟩
def ET(ha:PE X e te)(hr:PA X es t)(hs:starEach (e::es) X.env=(false,eval e X.env)::starEach es X.env):PA X (e::es) (Nh te t):=by intro pos pins s σ H Q I h;rw[hs];show wpAny _ _ (spliced ((false,eval e X.env)::backTo pos (starEach es X.env))) _ _ s;refine Calls.spliced_cons (thn (ha pins s σ H _ I h) λu s1 ⟨x,H1,I1,r1,q1⟩=>?_);exact thn (hr pos pins s1 σ H1 _ I1 q1) λus s2 ⟨xs,H2,I2,r2,q2⟩=>⟨x::xs,H2,I2,.cons r1 r2,q2⟩
def tTup(t:TA):TE:=λσ H Q=>t σ H λxs H1=>xs.length<=sizeLine/\∀p,H1 p=none->Q (.ref p) (upd H1 p (.tup xs))
def tLst(t:TA):TE:=λσ H Q=>t σ H λxs H1=>xs.length<=sizeLine/\∀p,H1 p=none->Q (.ref p) (upd H1 p (.lst xs))
def Ig{x1}(h:PA X es t):PE X (.Tuple es x1 pos) (tTup t):=by intro pins s σ H Q I hq;refine wpAny_Tuple_spliced (thn (h pos pins s σ H _ I hq) λus s1 ⟨xs,H1,I1,r,z,q⟩=>⟨by rw[<- r.length];exact z,?_⟩);have hf:H1 s1.heap.objs.size=none:=I1.hok.fresh (y_ _);refine⟨.ref s1.heap.objs.size,upd H1 s1.heap.objs.size (.tup xs),I1.laid (t':=s1.toks) (λb u e=>D_ _ e) (y_ _) ?_,rfl,q _ hf⟩;exact⟨z,us,r,⟨_,M_ _ rfl,rfl,_,rfl⟩⟩
def HM(h:PA X es t):PE X (.List es pos) (tLst t):=by intro pins s σ H Q I hq;refine wpAny_List_spliced (thn (h pos pins s σ H _ I hq) λus s1 ⟨xs,H1,I1,r,z,q⟩=>⟨by rw[<- r.length];exact z,?_⟩);have hf:H1 s1.heap.objs.size=none:=I1.hok.fresh (y_ _);refine⟨.ref s1.heap.objs.size,upd H1 s1.heap.objs.size (.lst xs),I1.laid (t':=s1.toks) (λb u e=>D_ _ e) (y_ _) ?_,rfl,q _ hf⟩;exact⟨z,us,0,r,M_ _ rfl⟩
end
abbrev Sp:=List V->Hp->VK->XK->Prop
abbrev CXT:=List Env->Hp->Shared->XK->Value->Shared->Prop
structure Env0(P:Program)(w:World)(K:W.Frag)(mg:Ra)(base:Heap)(A:Around)(outer:List Env)(s:Shared)(H:Hp):Prop where
 frames:A.frames=some outer
 mod:Mod K mg base
 bs:∀b o,base.get? b=some o->s.heap.get? b=some o/\H b=none
 bsz:base.objs.size<=s.heap.objs.size
 funs:s.heap.FunFrames base outer
 frf:∀b∈frs outer,H b=none
 hok:HOk P w H s.heap
 bare:AllBare s.gens
def CE(outer:List Env)(P:Program)(w:World)(H:Hp)(s:Shared)(Q:VK)(u:Value)(s':Shared):Prop:=
 ∃v H',s'.os=s.os/\AllBare s'.gens/\Un (frs outer) [] H H' s.heap s'.heap/\HOk P w H' s'.heap/\RelV v u/\Q v H'
def CR(CX:CXT)(outer:List Env)(P:Program)(w:World)(H:Hp)(s:Shared)(Q:VK)(E:XK)(r:Result)(s':Shared):Prop:=
 match r with
 |.ok (.ret u)=>CE outer P w H s Q u s'
 |.ok _=>False
 |.error e=>CX outer H s E e s'
structure FnOk(P:Program)(w:World)(K:W.Frag)(mg:Ra)(base:Heap)(CX:CXT)(k:Nat)(f:Addr)(fd:FuncData)(ps:List Str)(sp:Sp):Prop where
 len:∀vs H Q E,sp vs H Q E->vs.length=ps.length
 run:∀(A:Around) (outer:List Env) (s:Shared) (H:Hp) (args:Args) (us:List Value) (vs:List V) (Q:VK) (E:XK),Room k A->Env0 P w K mg base A outer s H->BindsTo s fd args (ps.zip us)->Vals vs us->sp vs H Q E->
  codeAny (model P w) A (.call (.ref f) args) (CR CX outer P w H s Q E) s
def FnOk.imp{P:Program}{w:World}{K:W.Frag}{mg:Ra}{base:Heap}{CX:CXT}{k:Nat}{f:Addr}{fd:FuncData}{ps:List Str}{sp sp':Sp}(F:FnOk P w K mg base CX k f fd ps sp)
 (h:∀vs H Q E,sp' vs H Q E->sp vs H Q E):FnOk P w K mg base CX k f fd ps sp':=
 ⟨λvs H Q E q=>F.len vs H Q E (h _ _ _ _ q),λA outer s H args us vs Q E hr he hb hv hs=>F.run A outer s H args us vs Q E hr he hb hv (h _ _ _ _ hs)⟩
section
variable{X:Cx}{pins:Rb}{σ:St}{H:Hp}{s s':Shared}
def Inv.env0(I:Inv X pins σ H s):Env0 X.prog X.w X.K X.mg X.base X.A X.stack s H:=
 ⟨I.ok.frames,I.ok.mod,I.bs,G_ I.ok.bsz I.sz,I.stack,I.stkFree,I.hok,I.bare⟩
def Inv.after(I:Inv X pins σ H s)(h:CE X.stack X.prog X.w H s Q u s'):EP X pins σ Q u s':=by obtain⟨v,H',os,bare,un,hok,r,q⟩:=h;obtain⟨hh,g,d,t,os'⟩:=s';obtain rfl:os'=s.os:=os;exact⟨v,H',I.call (h':=hh) (g':=g) (d':=d) (t':=t) (ch:=[]) un hok bare (λb z=>absurd z (by simp)),r,q⟩
end
def Binds(K:W.Frag)(fd:FuncData)(ps:List Str)(ds:List Value):Prop:=
 ∀(s:Shared) (us:List Value),K.In s.heap->(us++ds).length=ps.length->BindsTo s fd ⟨us,[]⟩ (ps.zip (us++ds))
def Binds.all{K:W.Frag}{fd:FuncData}{ps:List Str}(h:∀us:List Value,us.length=ps.length->bindArgs fd ⟨us,[]⟩=pure (ps.zip us)):Binds K fd ps []:=λs us _ hl=>by rw[Pp] at hl ⊢;exact .of_eq (h us hl)
def uc(CX:CXT)(X:Cx)(E:XK):Prop:=∀(pins:Rb) (σ:St) (H:Hp) (s:Shared) (e:Value) (s':Shared),Inv X pins σ H s->CX X.stack H s E e s'->X.xe e s'
structure FnScope(N P:List Str)(sc:Scope):Prop where
 kind:sc.kind=.function
 co:sc.isCoroutine=false
 gen:sc.isGenerator=false
 nd:N.Nodup
 pre:N.take P.length=P
 par:∀x∈P,sc.names.lookup x=some .local\/sc.names.lookup x=some .cell
 nofree:∀y∈sc.names,y.2 ≠ .free
theorem rC{kindOf:Str->Option NameKind}{x:Str}:∀{binds:List (Str×Value)}{m:Ra},(∀v,(x,v)∉binds)->bindL kindOf binds m x=m x
 | [],_,_=>rfl
 |
  (n,v)::r,m,h=>by
  unfold bindL;rw[rC λw hw=>h w (w_ _ hw)];split
  .have:x≠n:=by rintro rfl;exact h v C_
   simp [this]
  .rfl
theorem rX{kindOf:Str->Option NameKind}{x:Str}:∀{binds:List (Str×Value)}{m:Ra},(∀v,(x,v)∉binds)->bindC kindOf binds m x=m x
 | [],_,_=>rfl
 |
  (n,v)::r,m,h=>by
  unfold bindC;rw[rX λw hw=>h w (w_ _ hw)];split
  .rfl
  .have:x≠n:=by rintro rfl;exact h v C_
   simp [this]
theorem rP{kindOf:Str->Option NameKind}{x:Str}{v:Value}:∀{P:List Str}{vs:List Value}{i:Nat}{m:Ra},P.Nodup->P[i]?=some x->vs[i]?=some v->kindOf x=some .local->
 bindL kindOf (P.zip vs) m x=some v
 | [],_,_,_,_,h,_,_=>by simp at h
 |_::_,[],_,_,_,_,h,_=>by simp at h
 |
  p::P,w::vs,0,m,nd,h1,h2,hk=>by
  simp at h1 h2;subst h1;subst h2;show bindL kindOf ((p,w)::P.zip vs) m p=_;unfold bindL;rw[rC λv hv=>(Px.mp nd).1 (List.of_mem_zip hv).1,if_pos hk];simp
 |
  p::P,w::vs,i+1,m,nd,h1,h2,hk=>by
  show bindL kindOf ((p,w)::P.zip vs) m x=_;unfold bindL;exact rP (i:=i) (Px.mp nd).2 (by simpa using h1) (by simpa using h2) hk
theorem rE{kindOf:Str->Option NameKind}{x:Str}{v:Value}:∀{P:List Str}{vs:List Value}{i:Nat}{m:Ra},P.Nodup->P[i]?=some x->vs[i]?=some v->kindOf x≠some .local->
 bindC kindOf (P.zip vs) m x=some v
 | [],_,_,_,_,h,_,_=>by simp at h
 |_::_,[],_,_,_,_,h,_=>by simp at h
 |
  p::P,w::vs,0,m,nd,h1,h2,hk=>by
  simp at h1 h2;subst h1;subst h2;show bindC kindOf ((p,w)::P.zip vs) m p=_;unfold bindC;rw[rX λv hv=>(Px.mp nd).1 (List.of_mem_zip hv).1,if_neg hk];simp
 |
  p::P,w::vs,i+1,m,nd,h1,h2,hk=>by
  show bindC kindOf ((p,w)::P.zip vs) m x=_;unfold bindC;exact rE (i:=i) (Px.mp nd).2 (by simpa using h1) (by simpa using h2) hk
noncomputable def hX(N:List Str)(vs:List V):St:=vs.map some++List.replicate (N.length-vs.length) none
noncomputable def fJ(CX:CXT)(P:Program)(w:World)(K:W.Frag)(mg:Ra)(base:Heap)(N:List Str)(qual:Str)(scope:Scope)(f:Addr)(cd:Value)(A:Around)(outer:List Env)(s:Shared)(H:Hp)(E:XK):Cx where
 prog:=P
 w:=w
 K:=K
 mg:=mg
 base:=base
 A:=A.deeper (envOfC qual scope s.heap.objs.size f cd)
 N:=N
 s₀:=s
 H₀:=H
 env:=envOfC qual scope s.heap.objs.size f cd
 outer:=outer
 stack:=envOfC qual scope s.heap.objs.size f cd::outer
 ex:=[]
 calm:=true
 fn:=λ_=>true
 pn:=[]
 xe:=λe s'=>wpAny (model P w) (A.deeper (envOfC qual scope s.heap.objs.size f cd)) (leaving (envOfC qual scope s.heap.objs.size f cd) e) (λ_ s''=>CX outer H s E e s'') (λe' s''=>CX outer H s E e' s'') s'
def vv{sc:Scope}{n:Nat}{x:Str}(h:sc.names.lookup x=some .cell):∃c,(cellsFrom n sc.names []).lookup x=some c:=by have q:=W.cellsFrom_some sc.names n [] (.inl h);exact Pl.mp q
def Ad{CX:CXT}{P:Program}{w:World}{K:W.Frag}{mg:Ra}{base:Heap}{N ps:List Str}{qual:Str}{scope:Scope}{f:Addr}{cd:Value}{A:Around}{outer:List Env}{s s1:Shared}{H:Hp}{E:XK}{us:List Value}{vs:List V}
 (S:FnScope N ps scope) (hd:A.handled=none) (e0:Env0 P w K mg base A outer s H) (hl:vs.length=ps.length) (r:Vals vs us)
 (x:InCallC s s.heap.objs.size (bindL (envOfC qual scope s.heap.objs.size f cd).kindOf (ps.zip us) λ_=>none) (cellsFrom (s.heap.objs.size+1) scope.names []) (bindC (envOfC qual scope s.heap.objs.size f cd).kindOf (ps.zip us) λ_=>none) s1):
 Inv (fJ CX P w K mg base N qual scope f cd A outer s H E) [] (hX N vs) H s1:=by
 have hpl:ps.length<=N.length:=by have:=O4 List.length S.pre;rw[Qb] at this;omega
 obtain⟨h1,tk,rfl,hk⟩:=x.done;have noA:∀b:Addr,b∉(fJ CX P w K mg base N qual scope f cd A outer s H E).ex:=λb z=>absurd (show b∈([]:List Addr) from z) (by simp);refine⟨⟨e0.mod,S.kind,rfl,rfl,y_ _,λy z c h1 h2=>?_,λy hy=>?_,λy c _ h=>?_,λ_=>hd,Around.frames_deeper e0.frames,.inr ⟨rfl,rfl⟩,λb z=>absurd z (noA b),e0.bs,e0.bsz,λb _ _=>noA b,λb z=>absurd z (noA b),e0.funs,e0.frf⟩,
  rfl,e0.bare,Un.kept hk,⟨_,x.toInCall.ns,λi y v h1 h2 h3=>?_⟩,λy c h=>⟨_,x.cell y c h⟩,e0.hok.fresh (y_ _),λy c h=>?_,λp hp=>absurd (show p∈([]:Rb) from hp) (by simp),e0.hok.kept hk,?_⟩
 .exact name_of_addr x.apart (Pr h1) (Pr h2)
 .have hy:scope.names.lookup y=some .cell\/scope.names.lookup y=some .free:=hy;rcases hy with hy |hy
  .exact vv hy
  .exact absurd rfl (S.nofree _ (Pr hy))
 .exact Nat.le_of_lt (x.above y c (Pr h))
 .have hi:i<vs.length:=by
   unfold hX at h2;by_cases hi:i<vs.length
   .exact hi
   .rw[O0 (by simpa using hi)] at h2;rw[Pe] at h2;split at h2 <;> cases h2
  have ha:vs[i]?=some v:=by
   unfold hX at h2;rw[OR (by simpa using hi),OW] at h2;cases e:vs[i]? with
   |none=>rw[e] at h2;cases h2
   |some a=>rw[e] at h2;cases h2;rfl
  obtain⟨u,hu,rv⟩:=r.get ha;have hp:ps[i]?=some y:=by rw[<- S.pre,List.getElem?_take_of_lt (by omega)];exact h1
  have ndP:ps.Nodup:=by rw[<- S.pre];exact S.nd.sublist (List.take_sublist _ _)
  refine⟨u,rv,?_⟩;rcases S.par y (PU hp) with k |k
  .exact .inl ⟨k,rP ndP hp hu k⟩
  .obtain⟨c,e⟩:=vv (n:=s.heap.objs.size+1) k;refine .inr ⟨.inl k,c,e,?_⟩;have q:=x.cell y c e;rw[rE ndP hp hu (by show scope.names.lookup y≠_;rw[k];decide)] at q;exact q
 .exact e0.hok.fresh (Nat.le_of_lt (x.above y c (Pr h)))
 .unfold hX;show _=N.length;rw[F_,u_,Pj];omega
def MF{CX:CXT}{P:Program}{w:World}{K:W.Frag}{mg:Ra}{base:Heap}{k:Nat}{f:Addr}{name qual:Str}{params:Arguments}{body:List Stmt}{scope:Scope}{dV kV doc pm cdv ct oc:Value}{an od:Option Addr}
 {osl:Array (Option Value)}{N ps:List Str}{sp:Sp} (lk:K.lookup f=some ⟨oc,od,.func (W.fnOf name qual params body scope dV kV doc pm an cdv ct),osl⟩) (t_:W.codeIn K cdv qual=true) (S:FnScope N ps scope)
 (len:∀vs H Q E,sp vs H Q E->vs.length=ps.length)
 (j_:∀(A:Around) (outer:List Env) (s:Shared) (H:Hp) (vs:List V) (Q:VK) (E:XK),Room k (A.deeper (envOfC qual scope s.heap.objs.size f cdv))->sp vs H Q E->
  ∃t,PSs (fJ CX P w K mg base N qual scope f cdv A outer s H E) body t/\t { nx:=λ_ H'=>Q .non H',rt:=Q } (hX N vs) H):
 FnOk P w K mg base CX (k+1) f (W.fnOf name qual params body scope dV kV doc pm an cdv ct) ps sp:=by
 refine⟨len,λA outer s H args us vs Q E hr e0 hb r hsp=>?_⟩;have hl:=len _ _ _ _ hsp;have KX:K.In s.heap:=e0.mod.kin.keeps λb o e=>(e0.bs b o e).1;have lim:s.heap.NoLimit:=e0.mod.nolimit.keeps λb o e=>(e0.bs b o e).1;have hkind:∀y∈ps.zip us,scope.names.lookup y.1=some .local\/(scope.names.lookup y.1=some .cell/\((cellsFrom (s.heap.objs.size+1) scope.names []).lookup y.1).isSome=true):=λ⟨n,v⟩ hy=>by
  rcases S.par n (List.of_mem_zip hy).1 with q |q
  .exact .inl q
  .exact .inr ⟨q,W.cellsFrom_some _ _ _ (.inl q)⟩
 refine codeAny_call_function hr.depth (KX _ _ lk) rfl S.co S.gen rfl (W.codeRec_of KX t_) (hb _ _ _ _ ?_);refine wpAny_newFunctionEnv_cells S.kind hkind λenv he s1 x=>?_;subst he;refine⟨lim.keeps x.toInCall.keep,codeAny_func ?_⟩;obtain⟨t,ht,hq⟩:=j_ A outer s H vs Q E (hr.deeper _) hsp;have I:Inv (fJ CX P w K mg base N qual scope f cdv A outer s H E) [] (hX N vs) H s1:=Ad S hr.hd e0 hl r x;refine O5 (ht [] s1 (hX N vs) H _ I hq) (λfl s' hs=>?_) λe s' hs=>hs;have i_:∀{σ':St}{H':Hp}{v:V}{u:Value},Inv (fJ CX P w K mg base N qual scope f cdv A outer s H E) [] σ' H' s'->RelV v u->Q v H'->CE outer P w H s Q u s':=
  λ{σ' H' v u} J rv q=>⟨v,H',J.os,J.bare,J.base,J.hok,rv,q⟩
 cases fl with
 |ret u=>obtain⟨v,σ',H',J,rv,q⟩:=hs;exact i_ J rv q
 |next=>obtain⟨σ',H',J,q⟩:=hs;exact i_ (v:=V.non) (u:=Value.none) J rfl q
 |brk=>obtain⟨_,_,_,q⟩:=hs;exact False.elim q
 |cont=>obtain⟨_,_,_,q⟩:=hs;exact False.elim q
section
variable{X:Cx}{x:Str}{p pos:Pos}{e:Expr}{es:List Expr}{t:TA}{id T:String}{r:List V->Hp->VK->Prop}
def tCB(r:List V->Hp->VK->Prop)(t:TA):TE:=λσ H Q=>t σ H λvs H1=>r vs H1 Q
def Dh(hc:CallR X (.builtin id) r)(hg:Gl X x)(hm:X.mg x=none)(hv:bootBuiltins x=some (.builtin id))(ha:PA X (e::es) t)(hn:x ≠ "__name__")(hdb:(x==("__debug__" : Str))=false)
 (he:starEach (e::es) X.env=(false,eval e X.env)::starEach es X.env) (hpl:(backTo pos (starEach es X.env)).any (·.1)=false):PE X (.Call (.Name x p) (e::es) [] pos) (tCB r t):=by
 intro pins s σ H Q I h;refine P7 (gR I hg hm hv ?_ hn hdb);exact PyProof.Rows.callWith_builtin1 (thn (ha pos pins s σ H _ I h) λus s1 ⟨vs,H1,I1,r1,q1⟩=>hc pins s1 σ H1 vs us Q I1 r1 q1) he hpl
def zy(hc:CallR X (.type T) r)(hg:Gl X x)(hm:X.mg x=none)(hv:bootBuiltins x=some (.type T))(ha:PA X (e::es) t)(hn:x ≠ "__name__")(hdb:(x==("__debug__" : Str))=false)
 (he:starEach (e::es) X.env=(false,eval e X.env)::starEach es X.env) (hpl:(backTo pos (starEach es X.env)).any (·.1)=false):PE X (.Call (.Name x p) (e::es) [] pos) (tCB r t):=by
 intro pins s σ H Q I h;refine P7 (gR I hg hm hv ?_ hn hdb);exact O8 (thn (ha pos pins s σ H _ I h) λus s1 ⟨vs,H1,I1,r1,q1⟩=>hc pins s1 σ H1 vs us Q I1 r1 q1) he hpl
end
end L2
namespace HT
open PySem PyProof.Rows
section
variable{prog:Program}{w:World}{A:Around}{E:Rf}{s:Shared}
def cat_tup(ht:IsTup s.heap t vs.toArray)(hb:IsTup s.heap b ws.toArray)(hv:vs≠[])
 (h1:ws=[]->Q (.ref t) s) (h2:ws≠[]->Q (.ref s.heap.objs.size) { s with heap:=s.heap.push { cls:=.type "tuple",data:=.seq (vs++ws).toArray } })
 (hsz:vs.length+ws.length<=sizeLine):wpAny (model prog w) A (binaryOp .Add (.ref t) (.ref b)) Q E s:=by
 obtain⟨⟨cls,dd,data,sl⟩,ho,hc,n,hd⟩:=id ht;obtain⟨⟨cls2,dd2,data2,sl2⟩,ho2,hc2,n2,hd2⟩:=id hb;simp only at hc hd hc2 hd2;subst hc hd hc2 hd2;have e:vs.toArray++ws.toArray=(vs++ws).toArray:=by simp
 by_cases hw:ws=[]
 .exact concat_meets ⟨_,ho,rfl⟩ ⟨_,ho2,rfl⟩ noFill_tuple_add seq_tuple_add Qu Qp (Qn _ _)
   (tuple_addW1 t b vs.toArray ws.toArray n n2 dd dd2 sl sl2 (by simpa using hv) (by simp [hw])) ⟨ho,ho2,h1 hw⟩
 .refine concat_meets ⟨_,ho,rfl⟩ ⟨_,ho2,rfl⟩ noFill_tuple_add seq_tuple_add Qu Qp (Qn _ _)
   (tuple_addW2 t b vs.toArray ws.toArray n n2 dd dd2 sl sl2 (by simpa using hv) (by simpa using hw) (by rw[H_,H_];exact hsz)) ⟨ho,ho2,?_⟩
  rw[e];exact h2 hw
noncomputable def sIx(n d:Nat):Option Int->Nat
 |none=>d
 |some v=>if v<0 then (v+(n:Int)).toNat else min v.toNat n
def sIx_none(n d:Nat):sIx n d none=d:=rfl
def sIx_nat(n d k:Nat):sIx n d (some (k:Int))=min k n:=by show (if (k:Int)<0 then ((k:Int)+(n:Int)).toNat else min (k:Int).toNat n)=min k n;rw[if_neg (by omega),Qq]
def Hj(n d:Nat)(hd:d<=n)(o:Option Int):sIx n d o<=n:=by
 cases o with
 |none=>exact hd
 |
  some v=>
  show (if v<0 then (v+(n:Int)).toNat else min v.toNat n)<=n;by_cases hv:v<0
  .rw[if_pos hv];omega
  .rw[if_neg hv];exact Nat.min_le_right _ _
def xm(v:Int)(n d:Nat):(if v<0 then max (v+(n:Int)) 0 else min v (n:Int))=((sIx n d (some v):Nat):Int):=by
 show (if v<0 then max (v+(n:Int)) 0 else min v (n:Int))=(((if v<0 then (v+(n:Int)).toNat else min v.toNat n):Nat):Int);by_cases hv:v<0
 .simp only[if_pos hv];omega
 .simp only[if_neg hv];omega
def yA(lo hi:Option Int)(n:Nat):Builtin.Slice.sliceAdjust lo hi 1 (n:Int)=(((sIx n 0 lo:Nat):Int),((sIx n n hi:Nat):Int)):=by
 have h1:¬ ((1:Int)<0):=by omega
 unfold Builtin.Slice.sliceAdjust;simp only[h1,QA];refine Prod.ext ?_ ?_
 .cases lo with
  |none=>rfl
  |some v=>exact xm v n 0
 .cases hi with
  |none=>rfl
  |some v=>exact xm v n n
def zi(i j:Nat):Builtin.Slice.slicePlaces (i:Int) (j:Int) 1=j-i:=by
 unfold Builtin.Slice.slicePlaces;have h1:(1:Int)>0:=by omega
 simp only[h1,PY,Int.ediv_one];split <;> omega
def pD(p:IsPart v o)(h:Q o s):wpAny (model prog w) A (Builtin.Slice.slicePartIndex v) Q E s:=by
 cases p with
 |none=>exact slicePart_none h
 |int i t=>exact slicePart_int h
def nI{sl:Addr}{vl vu:Value}{lo hi:Option Int}{n:Nat}{Q:Int×Int×Nat->Shared->Prop}(hs:s.heap.IsSliceOf sl vl vu .none)(pl:IsPart vl lo)(pu:IsPart vu hi)
 (h:Q (((sIx n 0 lo:Nat):Int),1,sIx n n hi-sIx n 0 lo) s):wpAny (model prog w) A (Builtin.Slice.sliceApplied (.ref sl) (pure (n:Int))) Q E s:=by
 obtain⟨os,hos,hcs,hds⟩:=id hs;unfold Builtin.Slice.sliceApplied Builtin.Slice.sliceFields;refine v_ (v_ (Pd hos hds (x:=vl) rfl (v_ (Pd hos hds (x:=vu) rfl (v_ (Pd hos hds (x:=.none) rfl (E_ ?_)))))));refine v_ (slicePart_none ?_);show wpAny _ _ (if ((1:Int)==0)=true then _ else _) _ _ s;rw[if_neg (by decide)];refine v_ (pD pl (v_ (pD pu (v_ (E_ ?_)))));show wpAny _ _ (match Builtin.Slice.sliceAdjust lo hi 1 (n:Int) with |(lo,hi)=>pure (lo,(1:Int),Builtin.Slice.slicePlaces lo hi 1)) _ _ s;rw[yA lo hi n];show wpAny _ _ (pure (((sIx n 0 lo:Nat):Int),(1:Int),Builtin.Slice.slicePlaces ((sIx n 0 lo:Nat):Int) ((sIx n n hi:Nat):Int) 1)) _ _ s;rw[zi];exact E_ h
def BY(xs:Array Value)(i k:Nat):((List.range k).filterMap λ(m:Nat)=>xs[((i:Int)+(m:Int)*1).toNat]?).toArray=((xs.toList.drop i).take k).toArray:=by
 have e:(λ(m:Nat)=>xs[((i:Int)+(m:Int)*1).toNat]?)=λm=>xs[i+m]?:=by
  funext m;have:((i:Int)+(m:Int)*1).toNat=i+m:=by omega
  rw[this]
 rw[e]
 have:=pick_run xs i k
 rw[List.filterMap_map] at this;have e2:((λx=>xs[x]?) ∘ λx=>i+x)=λm=>xs[i+m]?:=rfl;rw[e2] at this;rw[this]
def getItem_tuple_cut{t sl:Addr}{items:Array Value}{vl vu:Value}{lo hi:Option Int}{Q:Rf}(ht:IsTup s.heap t items)(hs:s.heap.IsSliceOf sl vl vu .none)(pl:IsPart vl lo)(pu:IsPart vu hi)
 (hw:¬ (sIx items.size 0 lo=0/\sIx items.size items.size hi=items.size))
 (h:Q (.ref s.heap.objs.size) { s with heap:=s.heap.push { cls:=.type "tuple",data:=.seq ((items.toList.drop (sIx items.size 0 lo)).take (sIx items.size items.size hi-sIx items.size 0 lo)).toArray } })
 (hsz:items.size<=sizeLine):wpAny (model prog w) A (getItem (.ref t) (.ref sl)) Q E s:=by
 have htake:sizeOk (.seq ((items.toList.drop (sIx items.size 0 lo)).take (sIx items.size items.size hi-sIx items.size 0 lo)).toArray):=by show ((items.toList.drop (sIx items.size 0 lo)).take (sIx items.size items.size hi-sIx items.size 0 lo)).toArray.size<=sizeLine;rw[H_,Qb,List.length_drop,QO];omega
 have hj:sIx items.size items.size hi<=items.size:=Hj _ _ (y_ _) hi;obtain⟨os,hos,hcs,hds⟩:=id hs;have hTs:s.TypeIs (.ref sl) "slice":=⟨os,hos,hcs⟩;unfold getItem;try with_reducible refine P4 ?_
 first |refine v_ (E_ ?_) |skip
 refine v_ (wpAny_sequenceKey ht.typeIs (by decide) ?_);refine v_ (PB (name:=Str.ofString "__getitem__") ht.typeIs PyProof.Rows.slot_tuple_getitem
  (Qc PyProof.Rows.slot_tuple_getitem ht.typeIs entry_tuple_getitem ?_ (args_tuple_getitem _ _)))
 show wpAny _ _ (Builtin.Tuple.tupleItemsOf (.ref t) >>= _) _ _ s;refine v_ (tupleItemsOf_ ht ?_);refine v_ (wpAny_typeOf hTs ?_);rw[if_pos (by decide)];refine v_ (nI hs pl pu ?_);have hno:¬ ((((sIx items.size 0 lo:Nat):Int)==0&&(1:Int)==1&&(sIx items.size items.size hi-sIx items.size 0 lo)==items.size)=true):=by intro q;rw[B_,B_] at q;have q1:((sIx items.size 0 lo:Nat):Int)=0:=eq_of_beq q.1.1;have q2:sIx items.size items.size hi-sIx items.size 0 lo=items.size:=eq_of_beq q.2;exact hw ⟨by omega,by omega⟩
 show wpAny _ _ (if (((sIx items.size 0 lo:Nat):Int)==0&&(1:Int)==1&&(sIx items.size items.size hi-sIx items.size 0 lo)==items.size)=true then _ else _) _ _ s;rw[if_neg hno,BY];first
  |exact v_ (m:=Builtin.Tuple.tupleExact _) (Pn (E_ ⟨_,rfl,E_ h⟩) htake)
  |exact v_ (m:=Builtin.Tuple.tupleExact _) (Pn (v_ (E_ (E_ ⟨_,rfl,E_ h⟩))) htake)
  |exact v_ (v_ (m:=Builtin.Tuple.tupleExact _) (Pn (E_ (E_ ⟨_,rfl,E_ h⟩)) htake))
  |exact v_ (v_ (m:=Builtin.Tuple.tupleExact _) (Pn (E_ ⟨_,rfl,E_ h⟩) htake))
end
end HT
namespace L2
open PySem PySem.Spec PyProof.Rows
abbrev TO:=St->Hp->(Option Int->Hp->Prop)->Prop
def PO(X:Cx)(e:Option Expr)(t:TO):Prop:=
 ∀
  (pins:Rb) (s:Shared) (σ:St) (H:Hp) (Q:Option Int->Hp->Prop),Inv X pins σ H s->t σ H Q->
  wpAny (model X.prog X.w) X.A (evalPart e X.env) (λu s'=>∃o H',Inv X pins σ H' s'/\IsPart u o/\Q o H') X.xe s
def FU:TO:=λ_ H Q=>Q none H
def OB(t:TE):TO:=λσ H Q=>t σ H λx H1=>∃i,x=.int i/\Q (some i) H1
section
variable{X:Cx}{e:Expr}{te:TE}{lo hi:Option Expr}{tl th:TO}{pos p2:Pos}
def Gy:PO X none FU:=by intro pins s σ H Q I h;rw[evalPart_none];exact E_ ⟨none,H,I,.none,h⟩
def E8(h:PE X e te):PO X (some e) (OB te):=by intro pins s σ H Q I hw;rw[evalPart_some];refine thn (h pins s σ H _ I hw) λu s1 ⟨x,H1,I1,r1,q1⟩=>?_;obtain⟨i,rfl,q⟩:=q1;obtain⟨t,rfl⟩:=r1;exact⟨some i,H1,I1,.int i t,q⟩
def SlR(X:Cx)(r:V->Option Int->Option Int->Hp->VK->Prop):Prop:=
 ∀
  (pins:Rb) (s:Shared) (σ:St) (H:Hp) (x:V) (v vl vu:Value) (lo hi:Option Int) (sl:Addr) (Q:VK),Inv X pins σ H s->RelV x v->s.heap.IsSliceOf sl vl vu .none->IsPart vl lo->IsPart vu hi->r x lo hi H Q->
  ∃T id,typeLookup (.type T) "__getitem__"=pure (some (.builtin id))/\s.TypeIs v T/\wpAny (model X.prog X.w) X.A (getItem v (.ref sl)) (EP X pins σ Q) X.xe s
def SlR.or(h:SlR X r)(h':SlR X r'):SlR X (λx lo hi H Q=>r x lo hi H Q\/r' x lo hi H Q):=by
 intro pins s σ H x v vl vu lo hi sl Q I rx hs pl pu q;rcases q with q |q
 .exact h pins s σ H x v vl vu lo hi sl Q I rx hs pl pu q
 .exact h' pins s σ H x v vl vu lo hi sl Q I rx hs pl pu q
def tSl(r:V->Option Int->Option Int->Hp->VK->Prop)(te:TE)(tl th:TO):TE:=λσ H Q=>te σ H λx H1=>tl σ H1 λl H2=>th σ H2 λu H3=>r x l u H3 Q
def Bm(hr:SlR X r)(he:PE X e te)(hl:PO X lo tl)(hu:PO X hi th):PE X (.Subscript e (.Slice lo hi none p2) pos) (tSl r te tl th):=by intro pins s σ H Q I h;refine Subscript_ (thn (he pins s σ H _ I h) λv s1 ⟨x,H1,I1,r1,q1⟩=>?_);refine wpAny_Slice (thn (hl pins s1 σ H1 _ I1 q1) λvl s2 ⟨l,H2,I2,pl,q2⟩=>thn (hu pins s2 σ H2 _ I2 q2) λvu s3 ⟨u,H3,I3,pu,q3⟩=>?_);rw[evalPart_none];refine E_ ?_;have I4:Inv X pins σ H3 { s3 with heap:=s3.heap.push { cls:=.type "slice",data:=.fields #[vl,vu,.none] } }:=I3.kept (t':=s3.toks) λb ob q=>D_ _ q;obtain⟨T,id,hT,ht,hg⟩:=hr pins { s3 with heap:=s3.heap.push { cls:=.type "slice",data:=.fields #[vl,vu,.none] } } σ H3 x v vl vu l u s3.heap.objs.size Q I4 r1 (Heap.IsSliceOf.new ..) pl pu q3;show wpAny (model X.prog X.w) X.A (subscriptTail e (.Slice lo hi none p2) v (.ref s3.heap.objs.size)) (EP X pins σ Q) X.xe { s3 with heap:=s3.heap.push { cls:=.type "slice",data:=.fields #[vl,vu,.none] } };exact tail_any (ops:=[.ref s3.heap.objs.size,v]) ht hT hg (by with_unfolding_all rfl)
noncomputable def ma(xs:List V)(lo hi:Option Int):List V:=(xs.drop (HT.sIx xs.length 0 lo)).take (HT.sIx xs.length xs.length hi-HT.sIx xs.length 0 lo)
def nc(xs:List V)(lo hi:Option Int):(ma xs lo hi).length<=xs.length:=by unfold ma;rw[Qb,List.length_drop];omega
def rSlT(K:W.Frag):V->Option Int->Option Int->Hp->VK->Prop:=λx lo hi H Q=>∃a xs,x=.ref a/\SqT K H a xs/\
 ¬ (HT.sIx xs.length 0 lo=0/\HT.sIx xs.length xs.length hi=xs.length)/\∀p,H p=none->Q (.ref p) (upd H p (.tup (ma xs lo hi)))
def LD:SlR X (rSlT X.K):=by
 intro pins s σ H x v vl vu lo hi sl Q I rx hs pl pu h;obtain⟨a,xs,rfl,hx,hw,q⟩:=h;cases rx;obtain⟨its,r,ht,hz⟩:=I.tuple hx;have c_:its.toArray.size=xs.length:=by rw[H_];exact r.length.symm
 refine⟨"tuple",_,PyProof.Rows.slot_tuple_getitem.lookup,ht.typeIs,?_⟩;refine HT.getItem_tuple_cut ht hs pl pu (by rw[c_];exact hw) ?_ (by rw[c_];exact hz);rw[c_];refine⟨.ref s.heap.objs.size,_,I.laid (t':=s.toks) (o:=.tup (ma xs lo hi)) (λb ob q=>D_ _ q) (y_ _) ?_,rfl,q _ (I.hok.fresh (y_ _))⟩;exact⟨G_ (nc xs lo hi) hz,_,(r.drop (HT.sIx xs.length 0 lo)).take (HT.sIx xs.length xs.length hi-HT.sIx xs.length 0 lo),IsTup.new _ _⟩
def mV(K:W.Frag):R2:=λx y H Q=>∃a b xs ys,x=.ref a/\y=.ref b/\SqT K H a xs/\SqT K H b ys/\xs≠[]/\xs.length+ys.length<=sizeLine/\
 (ys=[]->Q (.ref a) H)/\(ys≠[]->∀p,H p=none->Q (.ref p) (upd H p (.tup (xs++ys))))
def Vals.nil_iff(r:Vals xs us):us=[] ↔ xs=[]:=by
 cases r with
 |nil=>simp
 |cons _ _=>simp
def Gq:OpR X (binaryOp .Add) (mV X.K):=by intro pins s σ H x y v u Q I rx ry h;obtain⟨a,b,xs,ys,rfl,rfl,ha,hb,hx,hz,q1,q2⟩:=h;cases rx;cases ry;obtain⟨its,r1,p1,_⟩:=I.tuple ha;obtain⟨its2,r2,p2,_⟩:=I.tuple hb;refine HT.cat_tup p1 p2 (λz=>hx (r1.nil_iff.mp z)) (λz=>⟨.ref a,H,I,rfl,q1 (r2.nil_iff.mp z)⟩) (λz=>?_) (by rw[<- r1.length,<- r2.length];exact hz);refine⟨.ref s.heap.objs.size,_,I.laid (t':=s.toks) (o:=.tup (xs++ys)) (λb ob q=>D_ _ q) (y_ _) ?_,rfl,q2 (λw=>z (r2.nil_iff.mpr w)) _ (I.hok.fresh (y_ _))⟩;exact⟨by rw[F_];exact hz,_,r1.append r2,IsTup.new _ _⟩
end
noncomputable def ixN(n:Nat)(i:Int):Option Nat:=if 0<=i then (if i<n then some i.toNat else none) else if -(n:Int)<=i then some (i+n).toNat else none
noncomputable def atI{α:Type}(xs:List α)(i:Int):Option α:=(ixN xs.length i).bind λj=>xs[j]?
def wA(h:ixN n i=some j):seqIndex? i n=some j/\j<n/\-(n:Int)<=i/\i<n:=by
 unfold ixN at h;by_cases h0:0<=i
 .rw[if_pos h0] at h;by_cases h1:i<n
  .rw[if_pos h1] at h;have e:i.toNat=j:=OQ h;exact⟨by rw[seqIndex_of h0 h1,e],by omega,by omega,h1⟩
  .rw[if_neg h1] at h;cases h
 .rw[if_neg h0] at h;by_cases h1:-(n:Int)<=i
  .rw[if_pos h1] at h;have e:(i+n).toNat=j:=OQ h;exact⟨by rw[seqIndex_neg (by omega) h1,e],by omega,h1,by omega⟩
  .rw[if_neg h1] at h;cases h
def wF(h:atI xs i=some v):∃j,seqIndex? i xs.length=some j/\xs[j]?=some v/\j<xs.length/\-(xs.length:Int)<=i/\i<xs.length:=by
 unfold atI at h;cases e:ixN xs.length i with
 |none=>rw[e] at h;cases h
 |some j=>rw[e] at h;obtain⟨h1,h2,h3,h4⟩:=wA e;exact⟨j,h1,h,h2,h3,h4⟩
def rB(b:Expr):Prop:=∀o i,subscripted b false o i=operate [o,i] (getItem o i)
def IxR(X:Cx)(r:R2):Prop:=
 ∀
  (value l_:Expr) (pins:Rb) (s:Shared) (σ:St) (H:Hp) (x y:V) (v u:Value) (Q:VK),Inv X pins σ H s->RelV x v->RelV y u->r x y H Q->
  subscripted l_ false v u=operate [v,u] (getItem v u)->wpAny (model X.prog X.w) X.A (subscriptTail value l_ v u) (EP X pins σ Q) X.xe s
def MtR(X:Cx)(id:String)(r:V->List V->Hp->VK->Prop):Prop:=
 ∀
  (pins:Rb) (s:Shared) (σ:St) (H:Hp) (x:V) (xs:List V) (v:Value) (us:List Value) (Q:VK),Inv X pins σ H s->RelV x v->Vals xs us->r x xs H Q->
  wpAny (model X.prog X.w) X.A (call (.builtin id) (v::us)) (EP X pins σ Q) X.xe s
section
variable{X:Cx}{a b:Expr}{ta tb:TE}{pos:Pos}
def IxR.or(h:IxR X r)(h':IxR X r'):IxR X (λx y H Q=>r x y H Q\/r' x y H Q):=by
 intro value l_ pins s σ H x y v u Q I rx ry q hs;rcases q with q |q
 .exact h value l_ pins s σ H x y v u Q I rx ry q hs
 .exact h' value l_ pins s σ H x y v u Q I rx ry q hs
def OF(hr:IxR X r)(ha:PE X a ta)(hb:PE X b tb)(hs:rB b):PE X (.Subscript a b pos) (tOp r ta tb):=by intro pins s σ H Q I h;exact Subscript_ (BC ha hb I h λv u s2 x y H2 I2 rx ry q=>hr a b pins s2 σ H2 x y v u Q I2 rx ry q (hs _ _))
def zt(K:W.Frag):R2:=λx y H Q=>∃p xs i v,x=.ref p/\y=.int i/\SqL K H p xs/\atI xs i=some v/\Q v H
def yb(K:W.Frag):R2:=λx y H Q=>∃p xs i v,x=.ref p/\y=.int i/\SqT K H p xs/\atI xs i=some v/\Q v H
def FF:IxR X (zt X.K):=by
 intro value l_ pins s σ H x y v u Q I rx ry h hs;obtain⟨p,xs,i,z,rfl,rfl,hq,he,q⟩:=h;cases rx;obtain⟨t,rfl⟩:=ry;obtain⟨its,r,pl,hz⟩:=I.list hq;obtain⟨j,h1,h2,h3,h4,h5⟩:=wF he;obtain⟨w,ew,rw'⟩:=r.get h2;have hl:=r.length;have hn:=l7;have i_:EP X pins σ Q w s:=⟨z,H,I,rw',q⟩;by_cases h0:0<=i
 .have hj:i.toNat=j:=by rw[seqIndex_of h0 h5] at h1;exact OQ h1
  exact item_listR pl.isList h0 (by omega) (by rw[hj];simpa using ew) i_ hs
 .have hj:(i+(its.toArray.size:Int)).toNat=j:=by rw[seqIndex_neg (by omega) h4] at h1;rw[H_,<- hl];exact OQ h1
  exact Qv (x:=w) pl.isList.typeIs slot_list_getitem.lookup
   (wpAny_getItem_list_neg (Q:=λr s'=>r=w/\EP X pins σ Q r s') pl.isList (by omega) (by rw[H_] <;> omega) (by omega) (by rw[hj];simpa using ew) ⟨rfl,i_⟩) hs
def JD:IxR X (yb X.K):=by
 intro value l_ pins s σ H x y v u Q I rx ry h hs;obtain⟨p,xs,i,z,rfl,rfl,hq,he,q⟩:=h;cases rx;obtain⟨t,rfl⟩:=ry;obtain⟨its,r,pl,hz⟩:=I.tuple hq;obtain⟨j,h1,h2,h3,h4,h5⟩:=wF he;obtain⟨w,ew,rw'⟩:=r.get h2;have hl:=r.length;have hn:=l7;have i_:EP X pins σ Q w s:=⟨z,H,I,rw',q⟩;exact Qv (x:=w) pl.typeIs slot_tuple_getitem.lookup
  (getItem_tuple (j:=j) (Q:=λr s'=>r=w/\EP X pins σ Q r s') pl (by omega) (by omega) (by rw[H_,<- hl];exact h1) (by simpa using ew) ⟨rfl,i_⟩) hs
def yu(its:List Value)(n j:Nat)(u:Value):Obj.mapSeq (·.setIfInBounds j u) { cls:=.type "list",data:=.seq its.toArray n }={ cls:=.type "list",data:=.seq (its.set j u).toArray n }:=by simp [Obj.mapSeq]
def Inv.lst(I:Inv X pins σ H s)(h:H p=some (.lst xs)):
 ∃(its:List Value) (n:Nat),Vals xs its/\s.heap.get? p=some { cls:=.type "list",data:=.seq its.toArray n }/\xs.length<=sizeLine:=by
 obtain⟨z,its,n,r,e⟩:=I.hok p _ h;exact⟨its,n,r,e,z⟩
def Inv.lstUpd{pins:Rb}{σ:St}{H:Hp}{s:Shared}{p:Addr}{xs ys:List V}{its its':List Value}{n n':Nat}{f:Obj->Obj}(I:Inv X pins σ H s)(h:H p=some (.lst xs))
 (ho:s.heap.get? p=some { cls:=.type "list",data:=.seq its.toArray n }) (hf:f { cls:=.type "list",data:=.seq its.toArray n }={ cls:=.type "list",data:=.seq its'.toArray n' }) (r:Vals ys its') (hz:ys.length<=sizeLine) (t:Nat):
 Inv X pins σ (upd H p (.lst ys)) { s with heap:=s.heap.update p f,toks:=t }:=by
 have e:(s.heap.update p f).get? p=some { cls:=.type "list",data:=.seq its'.toArray n' }:=by rw[Heap.get?_update_self f ho (by rw[hf] <;> rfl),hf]
 refine I.write (x:=p) (e:=p) (by rw[h];trivial) (.inl rfl) (λb u hb q=>(Qt _ _ (Ne.symm hb)).trans q) ⟨_,e⟩ ?_;exact⟨hz,its',n',r,e⟩
def x9:V->V->V->Hp->(Hp->Prop)->Prop:=λo i v H Q=>∃p xs k j,o=.ref p/\i=.int k/\H p=some (.lst xs)/\ixN xs.length k=some j/\Q (upd H p (.lst (xs.set j v)))
def Cu:uA X x9:=by
 intro pins s σ H o i v ov iv u Q I ro ri rv h;obtain⟨p,xs,k,j,rfl,rfl,hp,hj,q⟩:=h;cases ro;obtain⟨t,rfl⟩:=ri;obtain⟨its,n,r,ho,hz⟩:=I.lst hp;obtain⟨h1,h2,h3,h4⟩:=wA hj;have hl:=r.length;have hn:=l7;have I':Inv X pins σ (upd H p (.lst (xs.set j v))) { s with heap:=s.heap.update p (Obj.mapSeq (·.setIfInBounds j u)) }:=
  I.lstUpd hp ho (yu its n j u) (r.set rv j) (by rw[N_];exact hz) s.toks
 by_cases h0:0<=k
 .have hk:k.toNat=j:=by rw[seqIndex_of h0 h4] at h1;exact OQ h1
  exact W.ki_setAt ho h0 (by omega) (by rw[H_,<- hl];exact h4) (by rw[hk];exact⟨_,I',q⟩)
 .have hk:(k+(its.toArray.size:Int)).toNat=j:=by rw[seqIndex_neg (by omega) h3] at h1;rw[H_,<- hl];exact OQ h1
  exact W.ki_setBack ho (by omega) (by rw[H_,<- hl];exact h3) (by omega) (by rw[hk];exact⟨_,I',q⟩)
def tK(lo hi:Option Int)(n:Nat):(sliceBounds lo hi none n).1=((HT.sIx n 0 lo:Nat):Int)/\(sliceBounds lo hi none n).2.1=((HT.sIx n n hi:Nat):Int)/\(sliceBounds lo hi none n).2.2=1:=by
 refine⟨?_,?_,rfl⟩
 .cases lo with
  |none=>simp [sliceBounds,HT.sIx]
  |
   some i=>
   simp only[sliceBounds,HT.sIx,Qy,show (1:Int)>0 by decide,PY];by_cases h:i<0
   .simp only[h,PY] <;> omega
   .simp only[h,QA] <;> omega
 .cases hi with
  |none=>simp [sliceBounds,HT.sIx]
  |
   some i=>
   simp only[sliceBounds,HT.sIx,Qy,show (1:Int)>0 by decide,PY];by_cases h:i<0
   .simp only[h,PY] <;> omega
   .simp only[h,QA] <;> omega
def sU(its:List Value)(lo hi:Option Int):slicePick its.toArray lo hi none=((its.drop (HT.sIx its.length 0 lo)).take (HT.sIx its.length its.length hi-HT.sIx its.length 0 lo)).toArray:=by obtain⟨h1,h2,h3⟩:=tK lo hi its.toArray.size;unfold slicePick;rw[h1,h2,h3];simp only[sliceRange_one,pick_run,H_] <;> rfl
def rSlL(K:W.Frag):V->Option Int->Option Int->Hp->VK->Prop:=λx lo hi H Q=>∃a xs,x=.ref a/\SqL K H a xs/\∀p,H p=none->Q (.ref p) (upd H p (.lst (ma xs lo hi)))
def Hc:SlR X (rSlL X.K):=by intro pins s σ H x v vl vu lo hi sl Q I rx hs pl pu h;obtain⟨a,xs,rfl,hx,q⟩:=h;cases rx;obtain⟨its,r,ht,hz⟩:=I.list hx;have c_:=r.length;refine⟨"list",_,slot_list_getitem.lookup,ht.isList.typeIs,?_⟩;refine wpAny_getItem_list_slice ht.isList hs pl pu .none (by simp) ?_ (by rw[H_] <;> omega);rw[sU,<- c_];refine⟨.ref s.heap.objs.size,_,I.laid (t':=s.toks) (o:=.lst (ma xs lo hi)) (λb ob q=>D_ _ q) (y_ _) ?_,rfl,q _ (I.hok.fresh (y_ _))⟩;exact⟨G_ (nc xs lo hi) hz,_,0,(r.drop (HT.sIx xs.length 0 lo)).take (HT.sIx xs.length xs.length hi-HT.sIx xs.length 0 lo),M_ _ rfl⟩
noncomputable def flatV:V->Bool
 |.non=>true
 |.bl _=>true
 |.int _=>true
 |.str _=>true
 |_=>false
noncomputable def eqV:V->V->Bool
 |.non,.non=>true
 |.bl a,.bl b=>a==b
 |.bl a,.int b=>(if a then 1 else 0)==b
 |.int a,.bl b=>a==(if b then 1 else 0)
 |.int a,.int b=>a==b
 |.str a,.str b=>a==b
 |_,_=>false
def Jo(ry:RelV y u)(rx:RelV x v)(fy:flatV y=true)(fx:flatV x=true):SeqAt.EqAt A s u v (eqV y x):=by
 cases y with
 |
  non=>
  cases ry;cases x with
  |non=>cases rx;exact SeqAt.EqAt.same _
  |bl b=>cases rx;exact SeqAt.EqAt.none_bool b
  |int b=>obtain⟨t,rfl⟩:=rx;exact SeqAt.EqAt.none_int b t
  |str b=>obtain⟨t,rfl⟩:=rx;exact SeqAt.EqAt.none_str b t
  |_=>exact absurd (show false=true from fx) z_
 |
  bl a=>
  cases ry;cases x with
  |non=>cases rx;exact SeqAt.EqAt.bool_none a
  |bl b=>cases rx;exact SeqAt.EqAt.bool_bool a b
  |int b=>obtain⟨t,rfl⟩:=rx;exact SeqAt.EqAt.bool_int a b t
  |str b=>obtain⟨t,rfl⟩:=rx;exact SeqAt.EqAt.bool_str a b t
  |_=>exact absurd (show false=true from fx) z_
 |
  int a=>
  obtain⟨t',rfl⟩:=ry;cases x with
  |non=>cases rx;exact SeqAt.EqAt.int_none a t'
  |bl b=>cases rx;exact SeqAt.EqAt.int_bool a t' b
  |int b=>obtain⟨t,rfl⟩:=rx;exact SeqAt.EqAt.int_int a t' b t
  |str b=>obtain⟨t,rfl⟩:=rx;exact SeqAt.EqAt.int_str a t' b t
  |_=>exact absurd (show false=true from fx) z_
 |
  str a=>
  obtain⟨t',rfl⟩:=ry;cases x with
  |non=>cases rx;exact SeqAt.EqAt.str_none a t'
  |bl b=>cases rx;exact SeqAt.EqAt.str_bool a t' b
  |int b=>obtain⟨t,rfl⟩:=rx;exact SeqAt.EqAt.str_int a t' b t
  |str b=>obtain⟨t,rfl⟩:=rx;exact SeqAt.EqAt.str_str a t' b t
  |_=>exact absurd (show false=true from fx) z_
 |_=>exact absurd (show false=true from fy) z_
noncomputable def eqU(x:V)(u:Value):Bool:=match u with
 |.none=>eqV .non x
 |.bool b=>eqV (.bl b) x
 |.int i _=>eqV (.int i) x
 |.str z _=>eqV (.str z) x
 |_=>false
def zT(r:RelV y u)(f:flatV y=true):eqU x u=eqV y x:=by
 cases y with
 |non=>cases r;rfl
 |bl b=>cases r;rfl
 |int i=>obtain⟨t,rfl⟩:=r;rfl
 |str z=>obtain⟨t,rfl⟩:=r;rfl
 |_=>exact absurd (show false=true from f) z_
theorem kD:∀{xs:List V}{us:List Value},Vals xs us->xs.all flatV=true->us.any (eqU x)=xs.any λy=>eqV y x
 |_,_,.nil,_=>rfl
 |
  y::xs,u::us,.cons r t,f=>by
  rw[Pm,B_] at f;rw[Pt,Pt,zT r f.1,kD t f.2]
theorem ji(rx:RelV x v)(fx:flatV x=true):∀{xs:List V}{us:List Value},Vals xs us->xs.all flatV=true->∀u∈us,SeqAt.EqAt A s u v (eqU x u)
 |_,_,.nil,_=>λu hu=>by cases hu
 |
  y::xs,u::us,.cons r t,f=>λu' hu=>by
  rw[Pm,B_] at f;rcases OP.mp hu with rfl |hu
  .rw[zT r f.1];exact Jo r rx f.1 fx
  .exact ji rx fx t f.2 u' hu
noncomputable def inV(x:V)(xs:List V):Bool:=xs.any λy=>eqV y x
def rIn(K:W.Frag)(g_:Bool):R2:=λx y H Q=>∃p xs,y=.ref p/\(SqL K H p xs\/SqT K H p xs)/\flatV x=true/\xs.all flatV=true/\Q (.bl (if g_ then !inV x xs else inV x xs)) H
def AY:OpR X (compareOp .In) (rIn X.K false):=by
 intro pins s σ H x y v u Q I rx ry h;obtain⟨p,xs,rfl,hq,fx,fs,q⟩:=h;cases ry;rcases hq with hq |hq
 .obtain⟨its,r,pl,hz⟩:=I.list hq;refine SeqAt.in_listAt (eqU x) pl.isList (λw hw=>ji rx fx r fs w (by simpa using hw)) ⟨.bl _,H,I,rfl,?_⟩;rw[show its.toArray.any (eqU x)=its.any (eqU x) by simp,kD r fs];exact q
 .obtain⟨its,r,pl,hz⟩:=I.tuple hq;refine SeqAt.in_tupleAt (eqU x) pl (λw hw=>ji rx fx r fs w (by simpa using hw)) ⟨.bl _,H,I,rfl,?_⟩;rw[show its.toArray.any (eqU x)=its.any (eqU x) by simp,kD r fs];exact q
def uu:OpR X (compareOp .NotIn) (rIn X.K true):=by
 intro pins s σ H x y v u Q I rx ry h;obtain⟨p,xs,rfl,hq,fx,fs,q⟩:=h;cases ry;rcases hq with hq |hq
 .obtain⟨its,r,pl,hz⟩:=I.list hq;refine SeqAt.notIn_listAt (eqU x) pl.isList (λw hw=>ji rx fx r fs w (by simpa using hw)) ⟨.bl _,H,I,rfl,?_⟩;rw[show its.toArray.any (eqU x)=its.any (eqU x) by simp,kD r fs];exact q
 .obtain⟨its,r,pl,hz⟩:=I.tuple hq;refine SeqAt.notIn_tupleAt (eqU x) pl (λw hw=>ji rx fx r fs w (by simpa using hw)) ⟨.bl _,H,I,rfl,?_⟩;rw[show its.toArray.any (eqU x)=its.any (eqU x) by simp,kD r fs];exact q
def uW:CallR X (.builtin "len") (λxs H Q=>∃p ys,xs=[.ref p]/\(SqL X.K H p ys\/SqT X.K H p ys)/\Q (.int ys.length) H):=by
 intro pins s σ H xs us Q I r h;obtain⟨p,ys,rfl,hq,q⟩:=h;obtain⟨u,rfl,rx⟩:=lB r;cases rx;have hn:=l7;rcases hq with hq |hq
 .obtain⟨its,r',pl,hz⟩:=I.list hq;have c_:=r'.length;exact Calls.call_len_list pl.isList (by simp only[H_] <;> omega) ⟨.int ys.length,H,I.tok _,⟨s.toks+1,by rw[H_,c_]⟩,q⟩
 .obtain⟨its,r',pl,hz⟩:=I.tuple hq;have c_:=r'.length;exact len_tuple pl (by simp only[H_] <;> omega) ⟨.int ys.length,H,I.tok _,⟨s.toks+1,by rw[H_,c_]⟩,q⟩
def uC:CallR X (.builtin "len") (λxs H Q=>∃z,xs=[.str z]/\z.length<=sizeLine/\Q (.int z.length) H):=by intro pins s σ H xs us Q I r h;obtain⟨z,rfl,hz,q⟩:=h;obtain⟨u,rfl,t,rfl⟩:=lB r;have hn:=l7;exact len_str (by omega) ⟨.int z.length,H,I.tok _,⟨_,rfl⟩,q⟩
def CallR.or(h:CallR X f r)(h':CallR X f r'):CallR X f (λxs H Q=>r xs H Q\/r' xs H Q):=by
 intro pins s σ H xs us Q I rs q;rcases q with q |q
 .exact h pins s σ H xs us Q I rs q
 .exact h' pins s σ H xs us Q I rs q
def vA:CallR X (.type "list") (λxs H Q=>∃p ys,xs=[.ref p]/\(SqL X.K H p ys\/SqT X.K H p ys)/\∀l,H l=none->Q (.ref l) (upd H l (.lst ys))):=by
 intro pins s σ H xs us Q I r h;obtain⟨p,ys,rfl,hq,q⟩:=h;obtain⟨u,rfl,rx⟩:=lB r;cases rx;have i_:∀(its:List Value),Vals ys its->ys.length<=sizeLine->∀(h':Heap) (c':Nat),(∀b o',s.heap.get? b=some o'->h'.get? b=some o')->
  h'.get? s.heap.objs.size=some { cls:=.type "list",dict:=none,data:=.seq its.toArray c',slots:=#[] }->EP X pins σ Q (.ref s.heap.objs.size) { s with heap:=h' }:=λits r' hz h' c' kp e=>
  ⟨.ref s.heap.objs.size,_,I.laid (t':=s.toks) kp (y_ _) (show ObjOk X.prog X.w _ h' _ (.lst ys) from ⟨hz,its,c',r',e⟩),rfl,q _ (I.hok.fresh (y_ _))⟩
 rcases hq with hq |hq
 .obtain⟨its,r',pl,hz⟩:=I.list hq;have c_:=r'.length;obtain⟨o,ho,hc,n,hd⟩:=pl.isList;exact call_list_seq p (.inl rfl) ho hc hd (λh' c' kp e=>i_ its r' hz h' c' kp e) (by simp only[H_] <;> omega)
 .obtain⟨its,r',pl,hz⟩:=I.tuple hq;have c_:=r'.length;obtain⟨o,ho,hc,n,hd⟩:=pl;exact call_list_seq p (.inr rfl) ho hc hd (λh' c' kp e=>i_ its r' hz h' c' kp e) (by simp only[H_] <;> omega)
def sV:CallR X (.type "tuple") (λxs H Q=>∃p ys,xs=[.ref p]/\((SqL X.K H p ys/\∀l,H l=none->Q (.ref l) (upd H l (.tup ys)))\/(SqT X.K H p ys/\Q (.ref p) H))):=by
 intro pins s σ H xs us Q I r h;obtain⟨p,ys,rfl,h⟩:=h;obtain⟨u,rfl,rx⟩:=lB r;cases rx;rcases h with ⟨hq,q⟩ |⟨hq,q⟩
 .obtain⟨its,r',pl,hz⟩:=I.list hq;have c_:=r'.length;refine call_tuple_list pl.isList (λh' kp=>?_) (by simp only[H_] <;> omega);have I1:Inv X pins σ H { s with heap:=h' }:=I.kept (t':=s.toks) kp;have I2:Inv X pins σ (upd H h'.objs.size (.tup ys)) { s with heap:=h'.push { cls:=.type "tuple",data:=.seq its.toArray } }:=
   I1.laid (t':=s.toks) (λb o e=>D_ _ e) (y_ _) (show ObjOk X.prog X.w _ _ _ (.tup ys) from ⟨hz,its,r',IsTup.new _ _⟩)
  exact⟨.ref h'.objs.size,_,I2,rfl,q _ (I1.hok.fresh (y_ _))⟩
 .obtain⟨its,r',pl,hz⟩:=I.tuple hq;exact call_tuple_same pl ⟨.ref p,H,I,rfl,q⟩
def tyV(K:W.Frag)(T:String)(x:V)(H:Hp):Prop:=match x with
 |.str _=>T="str"
 |.int _=>T="int"
 |.ref p=>(T="list" /\ ∃xs,SqL K H p xs)\/(T="tuple" /\ ∃o,K.lookup p=some o/\o.cls=.type "tuple" /\ o.dict=none)\/
  (T="dict" /\ ((∃kvs,H p=some (.dK kvs))\/∃kvs,H p=some (.dT kvs)))\/(T="set" /\ ∃S n,H p=some (.set S n))
 |_=>False
def AV(I:Inv X pins σ H s)(r:RelV x v)(ty:tyV X.K T x H):
 s.TypeIs v T/\∀a,v=.ref a->∃ob,s.heap.get? a=some ob/\ob.dict=none:=by
 cases x with
 |str z=>obtain⟨t,rfl⟩:=r;cases (show T="str" from ty);exact⟨typeIs_str s z t,λ_ e=>nomatch e⟩
 |int i=>obtain⟨t,rfl⟩:=r;cases (show T="int" from ty);exact⟨typeIs_int s i t,λ_ e=>nomatch e⟩
 |
  ref p=>
  cases r;rcases ty with ⟨rfl,xs,hq⟩ |⟨rfl,o,hk,hc,hd⟩ |⟨rfl,hk⟩ |⟨rfl,S,n,hk⟩
  .obtain⟨its,_,pl,_⟩:=I.list hq;refine⟨pl.isList.typeIs,λa e=>?_⟩;cases e;obtain⟨o,n,e,c,hd,_⟩:=pl;exact⟨o,e,hd⟩
  .refine⟨⟨o,I.kIn p o hk,hc⟩,λa e=>?_⟩;cases e;exact⟨o,I.kIn _ o hk,hd⟩
  .have z:∃o,s.heap.get? p=some o/\o.ExactDict:=by
    rcases hk with ⟨kvs,hk⟩ |⟨kvs,hk⟩
    .obtain⟨_,_,_,_,o,_,_,e,ex,_⟩:=I.hok p _ hk;exact⟨o,e,ex⟩
    .obtain⟨_,_,_,_,o,_,_,e,ex,_⟩:=I.hok p _ hk;exact⟨o,e,ex⟩
   obtain⟨o,e,ex⟩:=z;refine⟨⟨o,e,ex.1⟩,λa e2=>?_⟩;cases e2;exact⟨o,e,ex.2.1⟩
  .obtain⟨o,_,_,_,e,ex,_⟩:=I.hok p _ hk;refine⟨⟨o,e,ex.1⟩,λa e2=>?_⟩;cases e2;exact⟨o,e,ex.2.1⟩
 |_=>exact False.elim ty
def tBM0(K:W.Frag)(T:String)(r:V->List V->Hp->VK->Prop)(to:TE):TE:=λσ H Q=>to σ H λx H1=>tyV K T x H1/\r x [] H1 Q
def tBM(K:W.Frag)(T:String)(r:V->List V->Hp->VK->Prop)(to:TE)(t:TA):TE:=λσ H Q=>to σ H λx H1=>tyV K T x H1/\t σ H1 λxs H2=>r x xs H2 Q
variable{o e:Expr}{es:List Expr}{to:TE}{t:TA}{name:Str}{apos cpos:Pos}{T id:String}{r:V->List V->Hp->VK->Prop}
def JO(pa:PlainAttrs T)(slot:Slot T name id)(hty:typeOf (.builtin id)=pure (.type "method_descriptor"))(hm:MtR X id r)(ho:PE X o to)
 (n_:attributeBase o name X.env (eval o X.env)=eval o X.env) (o_:(apos.endLine==cpos.line)=true):PE X (.Call (.Attribute o name apos) [] [] cpos) (tBM0 X.K T r to):=by
 intro pins s σ H Q I h;refine wpAny_Call_method0_late n_ o_ (thn (ho pins s σ H _ I h) λv s1 ⟨x,H1,I1,r1,ty,q1⟩=>?_);obtain⟨h1,h2⟩:=AV I1 r1 ty;exact⟨T,id,pa,slot,hty,h1,h2,Calls.callWith_builtin rfl (PySem.evalArgs_none (hm pins s1 σ H1 x [] v [] Q I1 r1 .nil q1))⟩
def N3(pa:PlainAttrs T)(slot:Slot T name id)(hty:typeOf (.builtin id)=pure (.type "method_descriptor"))(hm:MtR X id r)(ho:PE X o to)(ha:PA X (e::es) t)
 (n_:attributeBase o name X.env (eval o X.env)=eval o X.env)
 (hfew:((backTo cpos (starEach (e::es) X.env)).all (λx=>!x.1)&&(backToKw cpos (keywordEach [] X.env)).all (λx=>x.1.isSome)
  && decide ((e::es).length+([]:List Keyword).length+(if ([]:List Keyword).isEmpty then 0 else 1)<30))=true)
 (o_:(apos.endLine==cpos.line)=true) (hs:starEach (e::es) X.env=(false,eval e X.env)::starEach es X.env) (j':(backTo cpos (starEach es X.env)).any (·.1)=false):
 PE X (.Call (.Attribute o name apos) (e::es) [] cpos) (tBM X.K T r to t):=by
 intro pins s σ H Q I h;refine wpAny_Call_method_late n_ hfew o_ rfl (thn (ho pins s σ H _ I h) λv s1 ⟨x,H1,I1,r1,ty,q1⟩=>?_);obtain⟨h1,h2⟩:=AV I1 r1 ty;refine⟨T,id,pa,slot,hty,h1,h2,?_⟩;have hA:=ha cpos pins s1 σ H1 _ I1 q1;rw[hs] at hA ⊢;refine Calls.callWith_builtin (by show (false || (backTo cpos (starEach es X.env)).any (·.1))=false;rw[j'] <;> rfl) (Calls.evalArgs_plain ?_);exact thn hA λus s2 ⟨vs,H2,I2,r2,q2⟩=>hm pins s2 σ H2 x vs v us Q I2 r1 r2 q2
end
def MtM(X:Cx)(id:String)(r:V->List V->Hp->VK->Prop):Prop:=
 ∀
  (pins:Rb) (s:Shared) (σ:St) (H:Hp) (x:V) (xs:List V) (v:Value) (us:List Value) (Q:VK),Inv X pins σ H s->RelV x v->Vals xs us->r x xs H Q->
  wpAny (model X.prog X.w) X.A (call (.builtin id) (v::us)) (EP X pins σ Q) X.xe s
def Vals.one(r:Vals [x] us):∃u,us=[u]/\RelV x u:=by
 cases r with
 |cons r t=>cases t;exact⟨_,rfl,r⟩
theorem Vals.zero:∀{us:List Value},Vals [] us->us=[]
 |_,.nil=>rfl
def Vals.eraseIdx(i:Nat)(q:Vals xs us):Vals (xs.eraseIdx i) (us.eraseIdx i):=by
 induction q generalizing i with
 |nil=>exact .nil
 |
  cons q t ih=>
  cases i with
  |zero=>exact t
  |succ i=>exact .cons q (ih i)
def Vals.reverse(h:Vals xs us):Vals xs.reverse us.reverse:=by
 induction h with
 |nil=>exact .nil
 |cons r t ih=>rw[PR,PR];exact Vals.append ih (.cons r .nil)
theorem rJ{α:Type}:∀(l:List α) (i:Nat),(l.eraseIdx i).length<=l.length
 | [],_=>y_ _
 |_::_,0=>Nat.le_succ _
 |_::r,i+1=>Nat.succ_le_succ (rJ r i)
section
variable{X:Cx}{pins:Rb}{σ:St}{H:Hp}{s:Shared}{l:Addr}{xs ys:List V}
def Inv.lset{its its':List Value}{n:Nat}{f:Array Value->Array Value}{t':Nat}(I:Inv X pins σ H s)(hH:H l=some (.lst xs))
 (e:s.heap.get? l=some { cls:=.type "list",data:=.seq its.toArray n }) (hf:f its.toArray=its'.toArray) (hv:Vals ys its') (hz:ys.length<=sizeLine):
 Inv X pins σ (upd H l (.lst ys)) { s with heap:=s.heap.update l (Obj.mapSeq f),toks:=t' }:=by
 have q:=PySem.IsL.update e f;rw[hf] at q;refine I.write (x:=l) (e:=l) (by rw[hH];exact trivial) (.inl rfl) (λb' u hb hu=>(Qt s.heap (Obj.mapSeq f) (Ne.symm hb)).trans hu) ⟨_,q⟩ ?_;exact⟨hz,its',_,hv,q⟩
def Inv.lnew(I:Inv X pins σ H s)(hv:Vals ys its)(hz:ys.length<=sizeLine):
 Inv X pins σ (upd H s.heap.objs.size (.lst ys)) { s with heap:=s.heap.push { cls:=.type "list",data:=.seq its.toArray },toks:=t' }:=
 I.laid (λ_ _ q=>D_ _ q) (y_ _) ⟨hz,its,0,hv,M_ _ rfl⟩
def Inv.fresh(I:Inv X pins σ H s):H s.heap.objs.size=none:=I.hok.fresh (y_ _)
def Inv.lstM(I:Inv X pins σ H s)(hH:H l=some (.lst xs)):xs.length<=sizeLine/\∃(its:List Value) (n:Nat),Vals xs its/\xs.length=its.length/\s.heap.get? l=some { cls:=.type "list",data:=.seq its.toArray n }:=by obtain⟨z,its,n,r,e⟩:=I.hok l _ hH;exact⟨z,its,n,r,r.length,e⟩
end
section
variable{X:Cx}
def qU:V->List V->Hp->VK->Prop:=λx vs H Q=>∃l xs y,x=.ref l/\vs=[y]/\H l=some (.lst xs)/\xs.length<sizeLine/\Q .non (upd H l (.lst (xs++[y])))
def rH:MtM X "list.append" qU:=by intro pins s σ H x vs v us Q I rx rv h;obtain⟨l,xs,y,rfl,rfl,hH,hz,q⟩:=h;cases rx;obtain⟨u,rfl,ru⟩:=rv.one;obtain⟨z,its,n,r,hl,e⟩:=I.lstM hH;refine call_meets F.slot_list_append ⟨_,e,rfl⟩ F.entry_list_append (F.args_list_append_2 _ _) (PySem.list_append l its.toArray n u (by rw[H_];omega)) ⟨e,?_⟩;refine⟨.non,_,I.lset (its':=its++[u]) hH e (by simp) (r.append (.cons ru .nil)) ?_,rfl,q⟩;rw[F_,List.length_singleton];omega
def uI:V->List V->Hp->VK->Prop:=λx vs H Q=>∃l xs i k y,x=.ref l/\vs=[.int i]/\H l=some (.lst xs)/\-(2^63)<=i/\i<2^63/\seqIndex? i xs.length=some k/\xs[k]?=some y/\Q y (upd H l (.lst (xs.eraseIdx k)))
def Dq:MtM X "list.pop" uI:=by
 intro pins s σ H x vs v us Q I rx rv h;obtain⟨l,xs,i,k,y,rfl,rfl,hH,h1,h2,hk,hy,q⟩:=h;cases rx;obtain⟨u,rfl,ru⟩:=rv.one;obtain⟨t,rfl⟩:=ru;obtain⟨z,its,n,r,hl,e⟩:=I.lstM hH;obtain⟨w,hw,rw'⟩:=r.get hy;refine call_meets F.slot_list_pop ⟨_,e,rfl⟩ F.entry_list_pop (F.args_list_pop_2 _ _)
  (MeetsSeq.list_pop_at l its.toArray n i t k w (fitsIndex_both h1 h2) (by rw[H_,<- hl];exact hk) (by rw[<- Array.getElem?_toList];exact hw) (by rw[H_];omega)) ⟨e,?_⟩
 refine⟨y,_,I.lset (its':=its.eraseIdx k) hH e ?_ (r.eraseIdx k) ?_,rw',q⟩
 .show its.toArray.eraseIdxIfInBounds k=(its.eraseIdx k).toArray;rw[List.eraseIdxIfInBounds_toArray]
 .have:=rJ xs k
  omega
def nK:V->List V->Hp->VK->Prop:=λx vs H Q=>∃l xs,x=.ref l/\vs=[]/\H l=some (.lst xs)/\Q .non (upd H l (.lst xs.reverse))
def yX:MtM X "list.reverse" nK:=by intro pins s σ H x vs v us Q I rx rv h;obtain⟨l,xs,rfl,rfl,hH,q⟩:=h;cases rx;have hus:=rv.zero;subst hus;obtain⟨z,its,n,r,hl,e⟩:=I.lstM hH;refine call_meets F.slot_list_reverse ⟨_,e,rfl⟩ F.entry_list_reverse (F.args_list_reverse_1 _) (AutoSeq1.list_reverse_list_0 l its.toArray n (by rw[H_];omega)) ⟨e,?_⟩;refine⟨.non,_,I.lset (its':=its.reverse) hH e (by simp) r.reverse ?_,rfl,q⟩;rw[List.length_reverse];omega
def rA:R2:=λx y H Q=>∃l b xs zs,x=.ref l/\y=.ref b/\H l=some (.lst xs)/\H b=some (.lst zs)/\xs.length+zs.length<=sizeLine/\∀p,H p=none->Q (.ref p) (upd H p (.lst (xs++zs)))
def K4:OpR X (binaryOp .Add) rA:=by
 intro pins s σ H x y v u Q I rx ry h;obtain⟨l,b,xs,zs,rfl,rfl,hH,hB,hz,q⟩:=h;cases rx;cases ry;obtain⟨z,its,n,r,hl,e⟩:=I.lstM hH;obtain⟨z2,its2,n2,r2,hl2,e2⟩:=I.lstM hB;refine PySem.P.add_list e e2 ?_ (by rw[H_,H_];omega);have ea:its.toArray++its2.toArray=(its++its2).toArray:=by simp
 rw[ea];exact⟨.ref _,_,I.lnew (t':=s.toks) (r.append r2) (by rw[F_];omega),rfl,q _ I.fresh⟩
end
section
set_option maxRecDepth 100000 in
end
end L2
namespace Att
open PySem PySem.W PySem.Calls PyProof.Rows
def oJ:∀(ns:List Int) (vs:List Value),WellAll P h vs (ns.map WData.int)->IntsAre vs ns:=by
 intro ns;induction ns with
 |nil=>intro vs w;rw[O3] at w;cases w;exact .nil
 |
  cons n ns ih=>
  intro vs w;rw[A_] at w;cases w with
  |cons a b=>cases a;exact .cons _ _ (ih _ b)
def AA{l:OpenLaw}{n:Nat}(hn:l.most=some n){P:Params}{h:Heap}{args:List WData}{vals:List Value}
 (hpre:l.row.toRowW.claim.pre args=true) (hwl:WellAll P h vals args):
 ∃a vs ns,vals=[Value.ref a]/\args=[WData.list (ns.map WData.int)]/\h.get? a=some { cls:=.type "list",data:=.seq vs.toArray }/\IntsAre vs ns/\ns.length<=n:=by
 have hsh:WShape.hasAll [] args [.list .int]=true:=(pre_splitW hpre).1;have hc:l.pre.holds [] { args:=args }=true:=(pre_splitW hpre).2;obtain⟨d,r,rfl,h1,h2⟩:=hasAllW_cons hsh;obtain rfl:=hasAllW_nil h2;obtain⟨xs,rfl,h3⟩:=hasW_list h1;obtain⟨ns,rfl⟩:=items_int h3;have c_:ns.length<=n:=by
  unfold OpenLaw.pre at hc;have h4:(WTm.not (.lt (.lit (.int (n:Int))) (.len (.arg 0)))).holds [] { args:=[.list (ns.map .int)] }=true:=by have h4:=(holds_andW hc).1;rw[hn] at h4;exact h4
  have h5:=condW_of h4 (w_not (w_lt w_lit (w_len_list (w_arg rfl))));rw[u_] at h5;refine Nat.le_of_not_lt λq=>?_;have q':(n:Int)<((ns.length:Nat):Int):=by omega
  first
   |(rw[J_ q'] at h5;exact absurd h5 (by decide))
   |(simp at h5;omega)
 cases hwl with
 |
  cons w1 w2=>
  cases w2;cases w1 with
  |list ho hall=>exact⟨_,_,ns,rfl,rfl,ho,oJ ns _ hall,c_⟩
def AN(l:OpenLaw)(args:List WData):l.row.toRowW.claim.post args (.bool true) args=true:=
 postW_of (r:=l.row.toRowW) (X:=(true==true))
  (show WShape.has [] (.bool true) .bool=true by first |rfl |decide |simp [WShape.has,WShape.arms,WShape.armsAll])
  (show (WTm.eq .res (.lit (.bool true))).value [] { args:=args,res:=some (.bool true),after:=args }=some (.bool (true==true)) from w_eq_bool (w_res rfl) w_lit) rfl
def attach_call{l:OpenLaw}{n:Nat}{q:Program}{loose:List Str}{XP:(Str->Option Value)->Heap->Prop}{YP:World->Heap->Prop}{d:DefRec}
 (hn:l.most=some n) (hdf:d.params.defaults=[])
 (call:∀(w:World) (s₀ s₁:Shared) (mg mb:Ra) (fa:Addr) (o:Obj) (pm cd doc:Value) (a:Addr) (vs:List Value) (ns:List Int),
  Ground q loose [] XP w s₀ mg mb s₁.heap->YP w s₁.heap->
  s₁.heap.get? fa=some o->o.data=.func (docDef d.name d.params d.body d.scope pm cd doc)->s₁.heap.CodeRec cd d.name->mg d.name=some (.ref fa)->
  s₁.heap.get? a=some { cls:=.type "list",data:=.seq vs.toArray }->IntsAre vs ns->ns.length<=n->s₁.gens=#[]->
  codeAny (model l.prog w) callerA (.call (.ref fa) ⟨[.ref a],[]⟩) (λr s'=>r=.ok (.ret (.bool true))/\OldK s₁.heap s'.heap/\s'.os=s₁.os/\AllBare s'.gens) s₁):
 WalkO q loose XP YP l.row.toRowW d [] (λf vs=>PySem.call f vs):=by
 intro w s₀ s₁ mg mb G Y fa o pm cd doc dV kV ho hd t_ hD hmg hg args vals as hpre hlay hrd hwl hlo;obtain rfl:dV=.none:=Dflts.none hD hdf;obtain rfl:kV=.none:=Dflts.noKw hD;obtain⟨a,vs,ns,rfl,rfl,hobj,hints,c_⟩:=AA hn hpre hwl;refine enter_call (codeAny_mono (call w s₀ s₁ mg mb fa o pm cd doc a vs ns G Y ho (fd_plain hd) t_ hmg hobj hints c_ hg) λr s' hq=>?_);obtain⟨rfl,h2,h3,h4⟩:=hq;exact⟨.inl ⟨.bool true,.bool true,[],rfl,λ_=>rfl,.bool true,AN l _,λ_=>⟨List.Pairwise.nil,λ_ hm=>(nomatch hm)⟩⟩,h2,h3,h4⟩
section
def vE(h:Heap):Heap:={ h with objs:=#[] }
def yp(h:Heap)(b:Addr):(vE h).get? b=none:=by
 cases e:(vE h).get? b with
 |none=>rfl
 |some o=>exact absurd (Em e) (PM _)
def ledger(h:Heap)(L d:Addr):List (Addr×Obj):=(List.range h.objs.size).filterMap λa=>if a=L\/a=d then none else (h.get? a).map λo=>(a,o)
def fr_all(n:h.Ns L m):Fr (vE h) L h m:=
 ⟨n,λb o e=>(by rw[yp] at e;cases e),O2 _⟩
end
end Att
namespace L2
open PySem PySem.Spec PyProof.Rows
theorem rF:∀{vs:List Value}{ns:List Int},IntsAre vs ns->Vals (ns.map V.int) vs
 |_,_,.nil=>.nil
 |_,_,.cons n t h=>.cons ⟨t,rfl⟩ (rF h)
def rf(H:Hp):Prop:=∀b,H b=none\/∃o xs,H b=some (.frz o (.lst xs))
def B4{P:Program}{w:World}{K:W.Frag}{mg mb:Ra}{CX:CXT}{k:Nat}{fa a:Addr}{fd:FuncData}{x:Str}{sp:Sp}{s₁:Shared}{vs:List Value}{ns:List Int}
 (KX:K.In s₁.heap) (hns:s₁.heap.Ns mainGlobals mg) (hb:s₁.heap.Ns builtinsNs mb) (hbb:∀x:Str,x ≠ "__name__"->mb x=bootBuiltins x) (hlim:s₁.heap.NoLimit) (hg:s₁.gens=#[])
 (ha:s₁.heap.get? a=some { cls:=.type "list",data:=.seq vs.toArray }) (hi:IntsAre vs ns) (hl:ns.length<=sizeLine) (hr:Room k callerA)
 (F:∀base:Heap,K.In base->base.Ns mainGlobals mg->FnOk P w K mg base CX k fa fd [x] sp) (hbind:∀(s:Shared) (u:Value),BindsTo s fd ⟨[u],[]⟩ [(x,u)])
 (hsp:∀H:Hp,rf H->SqL K H a (ns.map V.int)->sp [.ref a] H (λv _=>v=.bl true) λ_ _ _=>False)
 (hCX:∀H e s',CX [] H s₁ (λ_ _ _=>False) e s'->False):
 codeAny (model P w) callerA (.call (.ref fa) ⟨[.ref a],[]⟩) (λr s'=>r=.ok (.ret (.bool true))/\OldK s₁.heap s'.heap/\s'.os=s₁.os/\AllBare s'.gens) s₁:=by
 have rv:=rF hi;have lenV:=hi.length;have core
  : ∀H:Hp,rf H->SqL K H a (ns.map V.int)->HOk P w H s₁.heap->(∀b,H b≠none->b=a)->(H a≠none->K.lookup a=none)->
  codeAny (model P w) callerA (.call (.ref fa) ⟨[.ref a],[]⟩) (λr s'=>r=.ok (.ret (.bool true))/\OldK s₁.heap s'.heap/\s'.os=s₁.os/\AllBare s'.gens) s₁:=by
  intro H hO hS hok hA hK;have base_of:∀{b:Addr}{o:Obj},s₁.heap.get? b=some o->H b=none->(kN s₁.heap H).get? b=some o:=λe n=>B1 e n;have noA:∀{b:Addr}{o:Obj}{es:Array DictEntry}{ep:Nat},s₁.heap.get? b=some o->o.data=.dict es ep->H b=none:=λ{b o es ep} e d=>by
   cases q:H b with
   |none=>rfl
   |some u=>have e':b=a:=hA b (by rw[q];simp);subst e';rw[ha] at e;cases e;have d':Data.seq vs.toArray _=Data.dict es ep:=d;cases d'
  have nsK:∀{b:Addr}{m:Ra},s₁.heap.Ns b m->(kN s₁.heap H).Ns b m:=λ{b m} ⟨o,es,ep,e,d,r⟩=>⟨o,es,ep,base_of e (noA e d),d,r⟩;have hKb:K.In (kN s₁.heap H):=λb o e=>base_of (KX b o e) (by
   cases q:H b with
   |none=>rfl
   |some u=>have e':b=a:=hA b (by rw[q];simp);subst e';rw[hK (by rw[q];simp)] at e;cases e)
  have hM:Mod K mg (kN s₁.heap H):=⟨hKb,nsK hns,⟨mb,nsK hb,hbb⟩,let ⟨mc,h1,h2⟩:=hlim;⟨mc,nsK h1,h2⟩⟩;have e0:Env0 P w K mg (kN s₁.heap H) callerA [] s₁ H:=⟨rfl,hM,λb o e=>Fp e,Nat.le_of_eq (Be _ _),trivial,λb hb=>absurd (show b∈([]:List Addr) from hb) (by simp),hok,.of_eq hg⟩;refine codeAny_mono ((F _ hKb (nsK hns)).run callerA [] s₁ H ⟨[.ref a],[]⟩ [.ref a] [.ref a] _ _ hr e0 (hbind s₁ (.ref a)) (.cons rfl .nil) (hsp H hO hS)) λr s' h=>?_;cases r with
  |error e=>exact (hCX H e s' h).elim
  |
   ok fl=>
   cases fl with
   |next=>exact False.elim h
   |brk=>exact False.elim h
   |cont=>exact False.elim h
   |
    ret u=>
    obtain⟨v,H',os,bare,un,hok',r',q⟩:=h;have q':v=.bl true:=q;subst q';obtain rfl:u=Value.bool true:=r';refine⟨rfl,OldK.of_keep λb o e=>?_,os,bare⟩;cases q:H b with
    |none=>exact un.keep b o e q (by intro z;exact absurd (show b∈([]:List Addr) from z) (by simp)) (by simp)
    |
     some u=>
     rcases hO b with z |⟨ob,xs,z⟩
     .rw[q] at z;cases z
     .have z2:=un.frzs b ob _ z;obtain⟨e1,_⟩:=hok b _ z;obtain⟨e2,_⟩:=hok' b _ z2;rw[e] at e1;cases e1;exact e2
 cases hk:K.lookup a with
 |some o=>have e:=KX a o hk;rw[ha] at e;cases e;refine core (λ_=>none) (λ_=>.inl rfl) (.inr ⟨_,vs.toArray,_,hk,rfl,rfl,rfl,by rw[H_,lenV];exact hl,by simpa using rv⟩) (λb u z=>by have z':(none:Option HO)=some u:=z;cases z') (λb z=>absurd rfl z) λz=>absurd rfl z
 |
  none=>
  refine core (λb=>if b=a then some (.frz { cls:=.type "list",data:=.seq vs.toArray } (.lst (ns.map V.int))) else none) (λb=>?_) (.inl (.inr ⟨{ cls:=.type "list",data:=.seq vs.toArray },if_pos rfl⟩)) (λb u z=>?_) (λb z=>?_) λ_=>hk
  .by_cases hb:b=a
   .exact .inr ⟨_,_,if_pos hb⟩
   .exact .inl (if_neg hb)
  .by_cases hb:b=a
   .have z':=(if_pos hb).symm.trans z;cases z';subst hb;exact⟨ha,by rw[u_];exact hl,vs,_,rv,ha⟩
   .have z':=(if_neg hb).symm.trans z;cases z'
  .by_cases hb:b=a
   .exact hb
   .exact absurd (if_neg hb) z
abbrev KOf{K:W.Frag}{h:Heap}(_:K.In h):W.Frag:=K
def walk_of{l:W.OpenLaw}{n k:Nat}{q:Program}{loose:List Str}{XP:(Str->Option Value)->Heap->Prop}{YP:World->Heap->Prop}{d:DefRec}{K:Params->W.Frag}{CX:World->CXT}{sp:World->Sp}{x:Str}
 (hn:l.most=some n) (hn2:n<=sizeLine) (hdf:d.params.defaults=[]) (hr:Room k callerA)
 (hY:∀(w:World) (h:Heap),YP w h->(K w.params).In h)
 (F:∀(w:World) (mg:Ra) (fa:Addr) (h:Heap),(K w.params).In h->h.Ns mainGlobals mg->mg d.name=some (.ref fa)->
  ∃
   fd:FuncData,(∀(s:Shared) (u:Value),BindsTo s fd ⟨[u],[]⟩ [(x,u)])/\
   ∀base:Heap,(K w.params).In base->base.Ns mainGlobals mg->FnOk l.prog w (K w.params) mg base (CX w) k fa fd [x] (sp w))
 (hsp:∀(w:World) (H:Hp) (a:Addr) (ns:List Int),ns.length<=n->rf H->SqL (K w.params) H a (ns.map V.int)->sp w [.ref a] H (λv _=>v=.bl true) λ_ _ _=>False)
 (hCX:∀(w:World) (H:Hp) (s:Shared) (e:Value) (s':Shared),CX w [] H s (λ_ _ _=>False) e s'->False):
 W.WalkO q loose XP YP l.row.toRowW d [] (λf vs=>PySem.call f vs):=by
 refine Att.attach_call hn hdf λw s₀ s₁ mg mb fa o pm cd doc a vs ns G Y ho hd t_ hmg hobj hints c_ hg=>?_;have KX:=hY w _ Y;obtain⟨fd,hb,hF⟩:=F w mg fa _ KX G.T.g hmg;exact B4 KX G.T.g G.T.b G.T.builtins G.T.nolimit hg hobj hints (G_ c_ hn2) hr hF hb (λH hO hS=>hsp w H a ns c_ hO hS) λH e s'=>hCX w H s₁ e s'
noncomputable def eh(s:Stmt):Arguments:=match s with
 |.FunctionDef _ a _ _ _ _ _ _ _ _=>a
 |_=>{ posonlyargs:=[],args:=[],vararg:=none,kwonlyargs:=[],kw_defaults:=[],kwarg:=none,defaults:=[] }
noncomputable def cA(s:Stmt):List Stmt:=match s with
 |.FunctionDef _ _ b _ _ _ _ _ _ _=>b
 |_=>[]
noncomputable def bF(s:Stmt):Scope:=match s with
 |.FunctionDef _ _ _ _ _ _ sc _ _ _=>sc
 |_=>{ kind:=.function,names:=[],isGenerator:=false,isCoroutine:=false }
abbrev E0:XK:=λ_ _ _=>False
structure Fun(K:W.Frag)(x qual:Str)(st:Stmt)(f:Addr)(fd:FuncData):Prop where
 ex:∃(oc:Value) (od:Option Addr) (kV doc pm:Value) (an:Option Addr) (cdv ct:Value) (osl:Array (Option Value)),
  fd=W.fnOf x qual (eh st) (cA st) (bF st) .none kV doc pm an cdv ct/\K.lookup f=some ⟨oc,od,.func fd,osl⟩/\W.codeIn K cdv qual=true
 kp:W.keepIn K (.ref f)=true
section
variable{K:W.Frag}
def Fun.binds{x qual:Str}{st:Stmt}{f:Addr}{fd:FuncData}{ps:List Str}(F:Fun K x qual st f fd)
 (h:∀(kV doc pm:Value) (an:Option Addr) (cdv ct:Value) (us:List Value),us.length=ps.length->bindArgs (W.fnOf x qual (eh st) (cA st) (bF st) .none kV doc pm an cdv ct) ⟨us,[]⟩=pure (ps.zip us)):Binds K fd ps []:=by
 obtain⟨oc,od,kV,doc,pm,an,cdv,ct,osl,rfl,lk,t_⟩:=F.ex;exact .all (h kV doc pm an cdv ct)
def Ic{x qual:Str}{st:Stmt}{f:Addr}{oc:Value}{od an:Option Addr}{osl:Array (Option Value)}{kV doc pm cdv ct:Value}(l:K.lookup f=some ⟨oc,od,.func (W.fnOf x qual (eh st) (cA st) (bF st) .none kV doc pm an cdv ct),osl⟩)
 (c:W.codeIn K cdv qual=true) (k:W.keepIn K (.ref f)=true):Fun K x qual st f (W.fnOf x qual (eh st) (cA st) (bF st) .none kV doc pm an cdv ct):=⟨⟨oc,od,kV,doc,pm,an,cdv,ct,osl,rfl,l,c⟩,k⟩
end
def EH(hr:Room k A):A.units+1<cLine:=Nat.lt_of_le_of_lt (Nat.add_le_add_left (by decide:1<=64) _) hr.units
section
variable{X:Cx}{pins:Rb}{σ:St}{H:Hp}{s:Shared}
def Inv.track{a:Addr}{o:HO}(I:Inv X pins σ H s)(hn:H a=none)(h0:X.s₀.heap.get? a=none)(hL:a≠X.env.locals)(hc:∀x c,X.env.cells.lookup x=some c->c≠a)
 (hp:∀p∈X.pn++pins,p.1≠a) (new:ObjOk X.prog X.w (upd H a o) s.heap a o):Inv X pins σ (upd H a o) s:=by
 have ne:∀b u,H b=some u->b≠a:=λb u e z=>by rw[z,hn] at e;cases e
 have ne0:∀b u,X.s₀.heap.get? b=some u->b≠a:=λb u e z=>by rw[z,h0] at e;cases e
 refine⟨I.ok,I.os,I.bare,⟨I.base.keep,I.base.slot,λb u e n hx=>?_,I.base.there,λb xs e=>?_,λb u xs e=>?_,λb ps e=>?_⟩,I.loc,I.cell,?_,λx c e=>?_,λp hp'=>?_,λb u e=>?_,I.len⟩
 .rw[bO (ne0 b u e)];exact I.base.free b u e n hx
 .have q:=I.base.tups b xs e;rw[bO (ne _ _ q)];exact q
 .have q:=I.base.frzs b u xs e;rw[bO (ne _ _ q)];exact q
 .obtain⟨m,q⟩:=I.base.tbls b ps e;exact⟨m,by rw[bO (ne _ _ q)];exact q⟩
 .rw[bO (Ne.symm hL)];exact I.free
 .rw[bO (hc x c e)];exact I.freeC x c e
 .obtain⟨e,n,r⟩:=I.pin p hp';exact⟨e,by rw[bO (hp p hp')];exact n,r⟩
 .by_cases hb:b=a
  .subst hb;rw[dS] at e;cases e;exact new
  .rw[bO hb] at e;exact (I.hok b u e).stay (λc v _ q=>q) (λc q=>by rw[bO (ne _ _ q)];exact q) λc xs q=>by rw[bO (ne _ _ q)];exact q
end
theorem kT{env:Env}:∀{names:List (Str×NameKind)} (cs:List (Str×Addr)),(∀x∈names,x.2=.free->∃c,env.cells.lookup x.1=some c)->(∀x c,cs.lookup x=some c->env.cells.lookup x=some c)->
 ∃
  cl,(forIn names cs λ(x:Str×NameKind) (r:List (Str×Addr))=>if (x.2==NameKind.free)=true then do let a <- cellOf env x.1;pure (ForInStep.yield ((x.1,a)::r)) else pure (ForInStep.yield r):Sem (List (Str×Addr)))=pure cl/\
  (∀x c,cl.lookup x=some c->env.cells.lookup x=some c)/\(∀x c,cs.lookup x=some c->∃c',cl.lookup x=some c')/\∀x∈names,x.2=.free->∃c,cl.lookup x.1=some c
 | [],cs,_,h=>⟨cs,by simp,h,λx c e=>⟨c,e⟩,λ_ hx=>nomatch hx⟩
 |
  (n,k)::r,cs,hf,h=>by
  rw[QF];by_cases hk:k=.free
  .subst hk;obtain⟨c,hc⟩:=hf (n,.free) C_ rfl;have hcell:cellOf env n=pure c:=by unfold cellOf;rw[hc]
   have h':∀x d,((n,c)::cs).lookup x=some d->env.cells.lookup x=some d:=λx d e=>by
    rw[PD] at e;cases q:x==n with
    |true=>rw[q] at e;cases e;rw[O7.mp q];exact hc
    |false=>rw[q] at e;exact h x d e
   obtain⟨cl,e1,e2,e3,e4⟩:=kT (env:=env) (names:=r) ((n,c)::cs) (λx hx=>hf x (w_ _ hx)) h';have top:∃c',cl.lookup n=some c':=e3 n c (by rw[PD];simp);refine⟨cl,?_,e2,λx d e=>?_,λx hx r_=>?_⟩
   .simp only[Qz,PY,hcell];exact e1
   .by_cases q:x=n
    .rw[q];exact top
    .exact e3 x d (by rw[PD,(OS.mpr q:(x==n)=false)];exact e)
   .rcases OP.mp hx with rfl |hx
    .exact top
    .exact e4 x hx r_
  .have hb:(k==NameKind.free)=false:=by simpa using hk
   obtain⟨cl,e1,e2,e3,e4⟩:=kT (env:=env) (names:=r) cs (λx hx=>hf x (w_ _ hx)) h;refine⟨cl,?_,e2,e3,λx hx r_=>?_⟩
   .simp only[hb,P5,QA];exact e1
   .rcases OP.mp hx with rfl |hx
    .exact absurd r_ hk
    .exact e4 x hx r_
def sJ{env:Env}{scope:Scope}(hf:∀x∈scope.names,x.2=.free->∃c,env.cells.lookup x.1=some c):
 ∃cl,closureFor scope env=pure cl/\(∀x c,cl.lookup x=some c->env.cells.lookup x=some c)/\∀x∈scope.names,x.2=.free->∃c,cl.lookup x.1=some c:=by
 obtain⟨cl,e1,e2,_,e4⟩:=kT (env:=env) (names:=scope.names) [] hf (λx c e=>by simp at e);refine⟨cl,?_,e2,e4⟩;unfold closureFor;simp only[e1];rfl
noncomputable def bL(X:Cx)(N:List Str)(scope:Scope)(cl:List (Str×Addr))(C:Addr)(s₂:Shared)(H:Hp)(fp:List Addr):Cx:=
 { X with N:=N,s₀:=s₂,H₀:=H,env:=compEnvC scope cl C X.env,outer:=X.stack,stack:=X.stack,ex:=fp,fn:=λ_=>false,pn:=[],xe:=λ_ _=>False }
noncomputable def iK(sub:Rg)(σ:St):St:=sub.map λo=>o.bind λi=>(σ[i]?).bind id
def LcW(J:It)(sub:Rg)(g:TG)(tc:TT)(te:TE)(σ:St)(H1:Hp)(Q:VK):Prop:=∃W:Nat->Nat->List V->St->Hp->Prop,(∃m,W 0 m [] (iK sub σ) H1)/\∀i m ys σ H,W i m ys σ H->
 (J.stop i H/\ys.length<=sizeLine/\∀D,H D=none->Q (.ref D) (upd H D (.lst ys)))\/
 (J.go i H/\ys.length<sizeLine/\∃Nx:List V->St->Hp->Prop,(∀ys' σ' H',Nx ys' σ' H'->∃m',m'<m/\W (i+1) m' ys' σ' H')/\
  ∀x H',J.yld i H x H'->g x σ H' λσ2 H2=>tc σ2 H2 λb H3=>if b=true then te σ2 H3 λy H4=>Nx (ys++[y]) σ2 H4 else Nx ys σ2 H3)
def mF(wi:TI)(sub:Rg)(g:TG)(tc:TT)(te:TE):TE:=λσ H Q=>wi σ H λJ H1=>LcW J sub g tc te σ H1 Q
abbrev tYes:TT:=λ_ H Q=>Q true H
section
variable{prog:Program}{w:World}{A:Around}{R:Result->Shared->Prop}{s:Shared}
def uV{k_ target a_:Expr}{ifs:List Expr}{scope:Scope}{pos:Pos}{it acc:Value}{env:Env}(I:Nat->Shared->Prop)
 (turn
  : ∀n s,I n s->wpAny (model prog w) A (pyNext it) (λr s₁=>match r with
  |none=>R (.ok .next) s₁
  |some v=>wpAny (model prog w) A (letOwnedTupleGo target it v) (λ_ s₁'=>wpAny (model prog w) A (assign target env v) (λ_ s₂=>
   wpAny (model prog w) A (forIn ifs true λc r=>if r=true then do let ok <- isTrue c env (eval c env);pure (ForInStep.yield ok) else pure (ForInStep.yield r))
    (λok s₃=>if ok=true then wpAny (model prog w) A (eval k_ env) (λx s₄=>wpAny (model prog w) A (call (.builtin "list.append") [acc,x]) (λ_ s₅=>∃m,m<n/\I m s₅) (λ_ _=>False) s₄) (λ_ _=>False) s₃
     else ∃m,m<n/\I m s₃) (λ_ _=>False) s₂) (λ_ _=>False) s₁') (λ_ _=>False) s₁) (λ_ _=>False) s)
 (n:Nat) (h:I n s):
 codeAny (model prog w) A (.compLoop (.ListComp k_ [⟨target,a_,ifs,0⟩] scope pos) 0 it acc env) R s:=by
 refine codeAny_loop rfl I (λn s hI=>?_) n h;show wpAny _ _ ((compTurn (.ListComp k_ [⟨target,a_,ifs,0⟩] scope pos) 0 it acc env).onRaise (λx=>do noteFrame x env;theTreesLotGoes x)) _ _ s;refine wpAny_noted ?_;rw[compTurn_list];refine O5 (E:=λ_ _=>False) ?_ (λ_ _ q=>q) λ_ _ q=>q.elim;refine v_ (Qw (v_ (O5 (turn n s hI) (λr s₁ h₁=>?_) λ_ _ h'=>h')));cases r with
 |none=>exact E_ h₁
 |
  some v=>
  refine v_ (O5 h₁ (λ_ s₁' h₁'=>?_) λ_ _ h'=>h');refine v_ (O5 h₁' (λ_ s₂ h₂=>?_) λ_ _ h'=>h');refine v_ (O5 h₂ (λok s₃ h₃=>?_) λ_ _ h'=>h');cases ok with
  |true=>simp only[PY] at h₃ ⊢;refine v_ (v_ (O5 h₃ (λx s₄ h₄=>?_) λ_ _ h'=>h'));refine v_ (O5 h₄ (λ_ s₅ h₅=>?_) λ_ _ h'=>h');exact E_ (E_ ⟨rfl,h₅⟩)
  |
   false=>
   simp only[P5,QA] at h₃ ⊢;first
    |exact v_ (E_ (E_ ⟨rfl,h₃⟩))
    |exact E_ ⟨rfl,h₃⟩
end
section
variable{X:Cx}
def PTs(X:Cx)(ifs:List Expr)(t:TT):Prop:=
 ∀
  (pins:Rb) (s:Shared) (σ:St) (H:Hp) (Q:Bool->Hp->Prop),Inv X pins σ H s->t σ H Q->
  wpAny (model X.prog X.w) X.A (forIn ifs true λc r=>if r=true then do let ok <- isTrue c X.env (eval c X.env);pure (ForInStep.yield ok) else pure (ForInStep.yield r)) (TP X pins σ Q) X.xe s
def G0:PTs X [] (λ_ H Q=>Q true H):=λpins s σ H Q I h=>by rw[QQ];exact E_ ⟨H,I,h⟩
def xo{c:Expr}{tc:TT}(hc:PT X c tc):PTs X [c] tc:=λpins s σ H Q I h=>by rw[QF];simp only[PY];refine v_ (v_ (thn (hc pins s σ H Q I h) λb s1 q=>E_ ?_));dsimp only;rw[QQ];exact E_ q
structure LcEnd(X:Cx)(pins:Rb)(σ:St)(Q:VK)(D C:Addr)(s4:Shared):Prop where
 ns:∃m,s4.heap.Ns C m
 dc:D<C
 fr:X.env.locals<D
 cell:∀x c,X.env.cells.lookup x=some c->c<D
 pin:∀p∈X.pn++pins,p.1<D
 sz:X.s₀.heap.objs.size<=D
 inv:∃H',H' C=none/\Q (.ref D) H'/\∀h',Heap.SameBut C s4.heap h'->Inv X pins σ H' { s4 with heap:=h' }
def wC{k_ a_ tg:Expr}{ifs:List Expr}{scope:Scope}{pos:Pos}{wi:TI}{g:TG}{tc:TT}{te:TE}{N:List Str}{sub:Rg}{use:Option (Value->Sem Unit)}{R:Rf}{pins:Rb}{s:Shared}{σ:St}{H:Hp}{Q:VK}{fpos:Pos}
 (hc:X.calm=true) (hi:PI X tg a_ wi)
 (hk:scope.kind=.function) (hnc:∀x∈scope.names,x.2 ≠ .cell) (b_:∀x∈scope.names,x.2=.local->scope.names.lookup x.1=some .local)
 (r_:∀x∈scope.names,x.2=.free->X.env.kindOf x.1=some .cell\/X.env.kindOf x.1=some .free)
 (hsl:sub.length=N.length) (f_:∀(j i:Nat) (x:Str),sub[j]?=some (some i)->N[j]?=some x->X.N[i]?=some x/\scope.names.lookup x=some .free)
 (hg:∀cl C s₂ H fp,PG (bL X N scope cl C s₂ H fp) tg g) (ht:∀cl C s₂ H fp,PTs (bL X N scope cl C s₂ H fp) ifs tc) (he:∀cl C s₂ H fp,PE (bL X N scope cl C s₂ H fp) k_ te)
 (hs:∀x,foldedSetIterable a_ X.env x=pure x) (I:Inv X pins σ H s) (h:mF wi sub g tc te σ H Q)
 (i_:∀D C s4,LcEnd X pins σ Q D C s4->compPost (model X.prog X.w) X.A X.xe use R (.ref D) C (.ok .next) s4):
 wpAny (model X.prog X.w) X.A (comprehension (.ListComp k_ [⟨tg,a_,ifs,0⟩] scope pos) scope X.env fpos (newList []) false (eval a_ X.env) use) R X.xe s:=by
 obtain⟨cl,hclos,hcl,hclf⟩:=sJ (env:=X.env) (scope:=scope) λx hx hf=>I.ok.has x.1 (r_ x hx hf);refine wpAny_comprehension_free rfl hs hclos hk b_ ?_;show wpAny _ _ (eval a_ X.env) _ _ _;refine thn (hi pins s σ H _ I h) λv s1 h1=>thn h1 λitv s2 h2=>?_;obtain⟨it,fp,tn,J,H2,e,I2,T,st2,f2,W,⟨m0,w0⟩,turn⟩:=h2;subst e;refine Pn (wpAny_newFunctionEnv hnc (by intro y hy;simp at hy) (λh₁ hns₁ hsb₁=>?_) hk);dsimp only at hns₁ hsb₁ ⊢;generalize hH2:s2.heap.push { cls:=.type "list",dict:=none,data:=.seq ([]:List Value).toArray }=G2 at hns₁ hsb₁ ⊢;have hC:G2.objs.size=s2.heap.objs.size+1:=by rw[<- hH2,PV]
 have hDC:s2.heap.objs.size≠G2.objs.size:=by omega
 have below:∀b,b<s2.heap.objs.size->b≠G2.objs.size/\b≠s2.heap.objs.size:=λb hb=>⟨by omega,by omega⟩;have old:∀b o,s2.heap.get? b=some o->h₁.get? b=some o:=λb o e=>hsb₁.extBut b o (below b (Em e)).1 (D_ _ (hH2 ▸ D_ _ e));have hD₁:h₁.get? s2.heap.objs.size=some { cls:=.type "list",dict:=none,data:=.seq ([]:List Value).toArray }:=hsb₁.extBut _ _ hDC (D_ _ (hH2 ▸ M_ _ rfl));have fresh:∀a,s2.heap.objs.size<=a->s2.heap.get? a=none:=λa ha=>QD ha;have cellOld:∀x c,cl.lookup x=some c->c<s2.heap.objs.size:=λx c e=>by obtain⟨v,z⟩:=I2.cell x c (hcl x c e);exact z.lt
 have fpOld:∀b∈fp,b<s2.heap.objs.size:=λb hb=>by obtain⟨o,e,_⟩:=T.obj _ _ st2 b hb;exact Em e
 let Y:Cx:=bL X N scope cl G2.objs.size s2 H2 fp
 have okY:Y.Ok
  := by
  refine⟨I2.ok.mod,?_,I2.ok.glob,I2.ok.blt,?_,λx y c e1 e2=>I2.ok.inj x y c (hcl x c e1) (hcl y c e2),λx hx=>?_,λx c hfn _=>absurd hfn z_,I2.ok.hd,I2.ok.frames,.inl rfl,
   λb hb=>⟨?_,λx c e z=>?_⟩,I2.bs,G_ I2.ok.bsz I2.sz,λb o e hb=>?_,λb hb hf=>?_,I2.stack,I2.stkFree⟩
  .show (relabel scope X.env).kind=.function;exact hk
  .show s2.heap.objs.size<=G2.objs.size;omega
  .have hx':(
    relabel scope X.env).names.lookup x=some .cell\/(relabel scope X.env).names.lookup x=some .free:=hx
   have:∃k,
    (x,k)∈scope.names/\k=.free:=by
    have gen:∀(names:List (Str×NameKind)),(∀y∈names,y.2 ≠ .cell)->∀kk,(kk=NameKind.cell\/kk=NameKind.free)->(names.map λ(n,k)=>if (k==NameKind.free&&X.env.scope.kind == .function&&X.env.kindOf n==some .cell) then (n,NameKind.cell) else (n,k)).lookup x=some kk->∃k,(x,k)∈names/\k=.free:=by
     intro names;induction names with
     |nil=>intro _ kk _ e;simp at e
     |
      cons y r ih=>
      intro hn kk hkk e;obtain⟨n,k⟩:=y;rw[A_,PD] at e;by_cases hkf:k=.free
      .subst hkf;by_cases hxn:x=n
       .exact⟨.free,by rw[hxn];exact C_,rfl⟩
       .have hb:(x==(if (NameKind.free==NameKind.free&&X.env.scope.kind == .function&&X.env.kindOf n==some .cell)=true then (n,NameKind.cell) else (n,NameKind.free)).1)=false:=by split <;> exact OS.mpr hxn
        rw[hb] at e;obtain⟨k',m,q⟩:=ih (λz hz=>hn z (w_ _ hz)) kk hkk e;exact⟨k',w_ _ m,q⟩
      .have hb0:(k==NameKind.free&&X.env.scope.kind == .function&&X.env.kindOf n==some .cell)=false:=by
        have:(k==NameKind.free)=false:=by simpa using hkf
        rw[this];rfl
       rw[hb0] at e;simp only[P5,QA] at e;cases q:x==n with
       |
        true=>
        rw[q] at e;have e':k=kk:=OQ e;subst e';rcases hkk with z |z
        .exact absurd z (hn (n,k) C_)
        .exact absurd z hkf
       |false=>rw[q] at e;obtain⟨k',m,q⟩:=ih (λz hz=>hn z (w_ _ hz)) kk hkk e;exact⟨k',w_ _ m,q⟩
    rcases hx' with z |z
    .exact gen scope.names hnc _ (.inl rfl) z
    .exact gen scope.names hnc _ (.inr rfl) z
   obtain⟨k,m,q⟩:=this;exact hclf (x,k) m q
  .show b≠G2.objs.size;exact (below b (fpOld b hb)).1
  .exact (f2 b hb).2.2.2.2.1 x c (hcl x c e) z
  .rcases (f2 b hb).2.2.2.1 with z |z
   .exact I2.ok.noex b o e z
   .exact absurd (K_ (Em e) (G_ I2.ok.bsz z)) (Pg _)
  .have hf':b∈frs X.stack:=hf;rcases OP.mp (I2.stkSub b hf') with z |z
   .exact (f2 b hb).2.1 z
   .exact (f2 b hb).2.2.1 z
 have startLoc
  : ∃m,h₁.Ns G2.objs.size m/\∀(i:Nat) (x:Str) (v:V),N[i]?=some x->(iK sub σ)[i]?=some (some v)->Vis (relabel scope X.env) x->∃u,RelV v u/\Look Y.env h₁ m x u:=by
  refine⟨_,hns₁,λj x v e1 e2 e3=>?_⟩;unfold iK at e2;rw[OW] at e2;cases q:sub[j]? with
  |none=>rw[q] at e2;cases e2
  |
   some o=>
   rw[q] at e2;cases o with
   |none=>cases e2
   |
    some i=>
    obtain⟨hNi,hfree⟩:=f_ j i x q e1;have e2':(σ[i]?).bind id=some v:=OQ e2;have e2'':σ[i]?=some (some v):=by
     cases z:σ[i]? with
     |none=>rw[z] at e2';cases e2'
     |some y=>rw[z] at e2';rw[show y=some v from e2']
    obtain⟨m2,hn2,hl2⟩:=I2.loc;have hkx:=r_ (x,.free) (Pr hfree) rfl;obtain⟨u,r,l⟩:=hl2 i x v hNi e2'' (by rcases hkx with z |z;exact .inr (.inl z);exact .inr (.inr z));refine⟨u,r,.inr ⟨?_,?_⟩⟩
    .rcases e3
      with z |z |z
     .exfalso;have gen:∀(names:List (Str×NameKind)),names.lookup x=some .free->(names.map λ(n,k)=>if (k==NameKind.free&&X.env.scope.kind == .function&&X.env.kindOf n==some .cell) then (n,NameKind.cell) else (n,k)).lookup x=some .local->False:=by
       intro names;induction names with
       |nil=>intro e _;simp at e
       |
        cons y r ih=>
        intro e1 e2;obtain⟨n,k⟩:=y;rw[PD] at e1;rw[A_,PD] at e2;by_cases hxn:x=n
        .have hb1:(x==n)=true:=O7.mpr hxn;rw[hb1] at e1;have:k=.free:=OQ e1;subst this;split at e2
         .rename_i hq;split at e2 <;> cases e2
         .rename_i hq;split at hq <;> (rw[hb1] at hq;cases hq)
        .have hb1:(x==n)=false:=OS.mpr hxn;rw[hb1] at e1;refine ih e1 ?_;split at e2
         .rename_i hq;split at hq <;> (rw[hb1] at hq;cases hq)
         .exact e2
      exact gen scope.names hfree z
     .exact .inl z
     .exact .inr z
    .obtain⟨c,hc'⟩:=hclf (x,.free) (Pr hfree) rfl;refine⟨c,hc',?_⟩;rcases l with ⟨k,_⟩ |⟨_,c2,ec2,z⟩
     .rcases hkx with z |z <;> (rw[k] at z;cases z)
     .have:=hcl x c hc'
      rw[ec2] at this;cases this;obtain⟨oc,hoc,hd⟩:=z;exact⟨oc,old _ _ hoc,hd⟩
 have pinD:∀{σ':St}{H':Hp}{s':Shared}{pl:Rb}{o:Obj},Inv Y pl σ' H' s'->s'.heap.get? s2.heap.objs.size=some o->(∀v,o.data ≠ .cell v)->H' s2.heap.objs.size=none->Inv Y [(s2.heap.objs.size,o)] σ' H' s':=λ{σ' H' s' pl o} IY e d n=>
  IY.pins_of λp hp=>by
   have e':p=(s2.heap.objs.size,o):=by simpa using hp
   subst e';refine⟨e,n,?_,?_,d⟩
   .show s2.heap.objs.size≠G2.objs.size;omega
   .intro hf;have hf':s2.heap.objs.size∈frs X.stack:=hf;obtain⟨_,o',ho',_⟩:=I2.stack.mem hf';exact absurd (Em ho') (Pg _)
 have fpY:∀{H':Hp}{pl:Rb},(∀b∈fp,H' b=none)->(∀p∈pl,p.1∉fp)->∀b∈fp,FpOk Y pl H' b:=λ{H' pl} hn hp b hb=>by
  refine⟨hn b hb,?_,?_,.inl hb,λx c e=>?_,λp hp'=>?_⟩
  .exact (okY.exf b hb).1
  .exact okY.exfs b hb
  .exact (okY.exf b hb).2 x c e
  .intro z;have hp'':p∈pl:=by simpa [Y,bL] using hp'
   exact hp p hp'' (by rw[z];exact hb)
 have hDfp:s2.heap.objs.size∉fp:=λz=>Pg _ (fpOld _ z);have loop
  : ∀s₃:Shared,s₃={ s2 with heap:=h₁,toks:=s2.toks+([]:List (Str×Value)).length }->
  codeAny (model X.prog X.w) X.A (.compLoop (.ListComp k_ [⟨tg,a_,ifs,0⟩] scope pos) 0 (.ref it) (.ref s2.heap.objs.size) (compEnvC scope cl G2.objs.size X.env))
   (compPost (model X.prog X.w) X.A X.xe use R (.ref s2.heap.objs.size) G2.objs.size) s₃:=by
  rintro s₃ rfl;have IY0:Inv Y [(s2.heap.objs.size,{ cls:=.type "list",dict:=none,data:=.seq ([]:List Value).toArray })] (iK sub σ) H2 { s2 with heap:=h₁,toks:=s2.toks+([]:List (Str×Value)).length }:=by
   have J0:Inv Y [] (iK sub σ) H2 { s2 with heap:=h₁,toks:=s2.toks+([]:List (Str×Value)).length }:=by
    refine⟨okY,rfl,I2.bare,Un.kept old,startLoc,λx c e=>?_,I2.hok.fresh (by show s2.heap.objs.size<=G2.objs.size;omega),λx c e=>I2.freeC x c (hcl x c e),λp hp=>absurd (show p∈([]:Rb) from hp) (by simp),I2.hok.kept old,?_⟩
    .obtain⟨v,oc,hoc,hd⟩:=I2.cell x c (hcl x c e);exact⟨v,oc,old _ _ hoc,hd⟩
    .show (iK sub σ).length=N.length;unfold iK;rw[u_];exact hsl
   exact pinD J0 hD₁ (λv z=>by cases z) I2.fresh
  refine uV (λn s'=>∃(i:Nat) (ys:List V) (its:List Value) (k:Nat) (σ':St) (H':Hp),Inv Y [(s2.heap.objs.size,{ cls:=.type "list",dict:=none,data:=.seq its.toArray k })] σ' H' s'/\Vals ys its/\tn i s'.heap/\(∀b∈fp,H' b=none)/\W i n ys σ' H') ?_ m0
   ⟨0,[],[],0,iK sub σ,H2,IY0,.nil,T.keep _ _ _ st2 (λb hb o e=>old b o e),λb hb=>(f2 b hb).1,w0⟩
  rintro n s3 ⟨i,ys,its,k,σ3,H3,I3,rv,st3,fr3,w3⟩;have npl:∀(o:Obj),∀p∈[(s2.heap.objs.size,o)],p.1∉fp:=λo p hp=>by
   have e':p=(s2.heap.objs.size,o):=by simpa using hp
   subst e';exact hDfp
  rcases turn i n ys σ3 H3 w3 with ⟨stop,hz,qn⟩ |⟨go,hz,Nx,hNx,step⟩
  .refine O5 (T.done Y rfl rfl rfl hc i _ s3 σ3 H3 (λ_ _=>False) I3 (fpY fr3 (npl _)) st3 stop) (λr s4 ⟨hr,I4⟩=>?_) λ_ _ z=>z;subst hr;obtain⟨m4,hn4,_⟩:=I4.loc;have hCfree:H3 G2.objs.size=none:=I4.free;have hD4:=I4.pin (s2.heap.objs.size,{ cls:=.type "list",dict:=none,data:=.seq its.toArray k }) (OX _ C_);have un4:Un (frs X.stack) fp H2 H3 s2.heap s4.heap:=I4.base;have ne2:∀b o,s2.heap.get? b=some o->b≠G2.objs.size:=λb o e=>(below b (Em e)).1;have hDfree:H3 s2.heap.objs.size=none:=hD4.2.1;have sz0:X.s₀.heap.objs.size<=s2.heap.objs.size:=I2.sz;refine i_ s2.heap.objs.size G2.objs.size s4 ⟨⟨m4,hn4⟩,by rw[hC];exact Nat.lt_succ_self _,I2.lt,λx c e=>?_,λp hp=>Em (I2.pin p hp).1,sz0,upd H3 s2.heap.objs.size (.lst ys),by rw[bO (Ne.symm hDC)];exact hCfree,qn _ hDfree,λh' hs'=>?_⟩
   .obtain⟨v,q⟩:=I2.cell x c e;exact q.lt
   have up:∀b o,b≠G2.objs.size->s4.heap.get? b=some o->h'.get? b=some o:=λb o hb e=>hs'.extBut b o hb e;have un5:Un (frs X.stack) fp H2 H3 s2.heap h':=by
    refine⟨λb o e n hb hx=>up b o (ne2 b o e) (un4.keep b o e n hb hx),λb o e n hb hx=>?_,un4.free,λb o e hx=>?_,un4.tups,un4.frzs,un4.tbls⟩
    .obtain⟨sl,q⟩:=un4.slot b o e n hb hx;exact⟨sl,up b _ (ne2 b o e) q⟩
    .obtain⟨o',q⟩:=un4.there b o e hx;exact⟨o',up b _ (ne2 b o e) q⟩
   have hok5:HOk X.prog X.w H3 h':=λb u e=>(I4.hok b u e).stay (λc v hcc q=>up c v (λz=>by
    rcases hcc with zz |zz
    .rw[zz] at z;rw[z,hCfree] at e;cases e
    .rw[z,hCfree] at zz;cases zz) q) (λ_ q=>q) λ_ _ q=>q
   have I5:Inv X pins σ H3 { s4 with heap:=h' }:=I2.call' (s':={ s4 with heap:=h' }) (ch:=fp) I4.os un5 hok5 I4.bare λb hb=>by obtain⟨_,g1,_,g3,g4,g5⟩:=f2 b hb;exact⟨g3,g1,g4,g5⟩
   refine I5.track (o:=.lst ys) hDfree (QD sz0) (Qm I2.lt) (λx c e z=>?_) (λp hp z=>?_) ?_
   .obtain⟨v,q⟩:=I2.cell x c e;exact absurd q.lt (by rw[z];exact Pg _)
   .exact absurd (Em (I2.pin p hp).1) (by rw[z];exact Pg _)
   .exact⟨hz,its,k,rv,up _ _ hDC hD4.1⟩
  .refine O5 (T.item Y rfl rfl rfl hc i _ s3 σ3 H3 (λ_ _=>False) I3 (fpY fr3 (npl _)) st3 go) (λr s4 ⟨u,hr,h4⟩=>?_) λ_ _ z=>z;subst hr;refine O5 h4 (λ_ s5 ⟨x,H5,I5,r5,y5,st5,fr5⟩=>?_) λ_ _ z=>z;have I5':=I5.pinned (fpY fr5 (npl _)) (T.obj _ _ st5);refine O5 (hg cl G2.objs.size s2 H2 fp _ s5 σ3 H5 x u _ I5' r5 (step x H5 y5)) (λ_ s6 ⟨σ6,H6,I6,q6⟩=>?_) λ_ _ z=>z;refine O5 (ht cl G2.objs.size s2 H2 fp _ s6 σ6 H6 _ I6 q6) (λok s7 ⟨H7,I7,q7⟩=>?_) λ_ _ z=>z;have back:∀{σ':St}{H':Hp}{s':Shared},Inv Y ([(s2.heap.objs.size,{ cls:=.type "list",dict:=none,data:=.seq its.toArray k })]++lV fp s5.heap) σ' H' s'->tn (i+1) s'.heap/\∀b∈fp,H' b=none:=λ{σ' H' s'} IB=>by refine⟨T.keep _ _ _ st5 λb hb o e=>(IB.pin (b,o) (OX _ (OX _ (i4 hb e)))).1,λb hb=>?_⟩;obtain⟨o,e,d⟩:=T.obj _ _ st5 b hb;exact (IB.pin (b,o) (OX _ (OX _ (i4 hb e)))).2.1
   cases ok with
   |false=>rw[if_neg z_] at q7;obtain⟨m',hm,w7⟩:=hNx _ _ _ q7;rw[if_neg z_];obtain⟨t7,f7⟩:=back I7;exact⟨m',hm,i+1,ys,its,k,σ6,H7,I7.unpinned,rv,t7,f7,w7⟩
   |
    true=>
    rw[if_pos rfl] at q7;rw[if_pos rfl];refine O5 (he cl G2.objs.size s2 H2 fp _ s7 σ6 H7 _ I7 q7) (λy s8 ⟨yv,H8,I8,r8,q8⟩=>?_) λ_ _ z=>z;obtain⟨m',hm,w8⟩:=hNx _ _ _ q8;obtain⟨t8,f8⟩:=back I8;have I9:=I8.unpinned;have hD9:=I9.pin (s2.heap.objs.size,{ cls:=.type "list",dict:=none,data:=.seq its.toArray k }) (OX _ C_);have e9:s8.heap.get? s2.heap.objs.size=some { cls:=.type "list",dict:=none,data:=.seq its.toArray k }:=hD9.1;have c_:=rv.length;refine call_meets F.slot_list_append ⟨_,e9,rfl⟩ F.entry_list_append (F.args_list_append_2 _ _) (PySem.list_append _ its.toArray k y (by rw[H_];omega)) ⟨e9,?_⟩;have q9:=PySem.IsL.update e9 (λxs=>xs.push y);have ea:its.toArray.push y=(its++[y]).toArray:=by simp
    rw[ea] at q9;have k9:∀b o,b≠s2.heap.objs.size->s8.heap.get? b=some o->(s8.heap.update s2.heap.objs.size (Obj.mapSeq λxs=>xs.push y)).get? b=some o:=λb o hb e=>(Qt _ _ (Ne.symm hb)).trans e;have I10:Inv Y [] σ6 H8 { s8 with heap:=s8.heap.update s2.heap.objs.size (Obj.mapSeq λxs=>xs.push y) }:=
     (I9.pins_of (pins':=[]) (λp hp=>nomatch hp)).turned (t':=s8.toks) k9 hD9.2.1 hD9.2.2.1 (.inr (y_ _)) (λx c e z=>absurd (cellOld x c e) (by rw[z];exact Pg _))
      (λp hp=>absurd (show p∈([]:Rb) from hp) (by simp))
    refine⟨m',hm,i+1,ys++[yv],its++[y],_,σ6,H8,pinD I10 q9 (λv z=>by cases z) hD9.2.1,rv.append (.cons r8 .nil),?_,f8,w8⟩;exact T.keep _ _ _ t8 λb hb o e=>k9 b o (λz=>hDfp (by rw[<- z];exact hb)) e
 exact codeAny_compStart_list (loop _ rfl) (T.self _ 0 _ _ _ (T.keep _ _ _ st2 λb hb o e=>old b o e) (loop _ rfl))
def A9{k_ a_ tg:Expr}{ifs:List Expr}{scope:Scope}{pos:Pos}{wi:TI}{g:TG}{tc:TT}{te:TE}{N:List Str}{sub:Rg}
 (hc:X.calm=true) (hi:PI X tg a_ wi)
 (hk:scope.kind=.function) (hnc:∀x∈scope.names,x.2 ≠ .cell) (b_:∀x∈scope.names,x.2=.local->scope.names.lookup x.1=some .local)
 (r_:∀x∈scope.names,x.2=.free->X.env.kindOf x.1=some .cell\/X.env.kindOf x.1=some .free)
 (hsl:sub.length=N.length) (f_:∀(j i:Nat) (x:Str),sub[j]?=some (some i)->N[j]?=some x->X.N[i]?=some x/\scope.names.lookup x=some .free)
 (hg:∀cl C s₂ H fp,PG (bL X N scope cl C s₂ H fp) tg g) (ht:∀cl C s₂ H fp,PTs (bL X N scope cl C s₂ H fp) ifs tc) (he:∀cl C s₂ H fp,PE (bL X N scope cl C s₂ H fp) k_ te)
 (hs:∀x,foldedSetIterable a_ X.env x=pure x):
 PE X (.ListComp k_ [⟨tg,a_,ifs,0⟩] scope pos) (mF wi sub g tc te):=by
 intro pins s σ H Q I h;rw[eval_ListComp];refine wC hc hi hk hnc b_ r_ hsl f_ hg ht he hs I h λD C s4 e=>?_;obtain⟨m,hm⟩:=e.ns;obtain⟨H',_,q,i⟩:=e.inv;exact⟨m,hm,λh' hs'=>⟨.ref D,H',i h' hs',rfl,q⟩⟩
noncomputable def fU(M:List Str)(names:List (Str×NameKind))(sub:Rg)(N:List Str):Bool:=(sub.zip N).all λp=>match p.1 with
 |none=>true
 |some i=>M[i]?==some p.2&&names.lookup p.2==some .free
def nB{M:List Str}{names:List (Str×NameKind)}{sub:Rg}{N:List Str}(h:fU M names sub N=true)(j i:Nat)(x:Str)(h1:sub[j]?=some (some i))(h2:N[j]?=some x):
 M[i]?=some x/\names.lookup x=some .free:=by
 unfold fU at h;rw[L_] at h;have hm:(some i,x)∈sub.zip N:=by refine PU (i:=j) ?_;rw[List.getElem?_zip_eq_some];exact⟨h1,h2⟩
 have q:=h _ hm;simp only[B_,O7] at q;exact q
noncomputable def iC(kn names:List (Str×NameKind)):Bool:=names.all λx=>x.2 != .free || kn.lookup x.1==some .cell || kn.lookup x.1==some .free
def rh{kn names:List (Str×NameKind)}(h:iC kn names=true):∀x∈names,x.2=.free->kn.lookup x.1=some .cell\/kn.lookup x.1=some .free:=λx hx hf=>by unfold iC at h;rw[L_] at h;have q:=h x hx;rw[hf] at q;simpa using q
def F9{k_ a_ tg c:Expr}{scope:Scope}{pos:Pos}{wi:TI}{g:TG}{tc:TT}{te:TE}(M:List Str)(kn:List (Str×NameKind))(N:List Str)(sub:Rg)
 (hc:X.calm=true) (hi:PI X tg a_ wi)
 (hg:∀cl C s₂ H fp,PG (bL X N scope cl C s₂ H fp) tg g) (ht:∀cl C s₂ H fp,PT (bL X N scope cl C s₂ H fp) c tc) (he:∀cl C s₂ H fp,PE (bL X N scope cl C s₂ H fp) k_ te)
 (hM:X.N=M) (hkn:X.env.scope.names=kn) (f_:fU M scope.names sub N=true)
 (hk:scope.kind=.function) (hnc:∀x∈scope.names,x.2 ≠ .cell) (b_:∀x∈scope.names,x.2=.local->scope.names.lookup x.1=some .local)
 (r_:iC kn scope.names=true)
 (hsl:sub.length=N.length) (hs:∀x,foldedSetIterable a_ X.env x=pure x):
 PE X (.ListComp k_ [⟨tg,a_,[c],0⟩] scope pos) (mF wi sub g tc te):=
 A9 hc hi hk hnc b_ (by subst hkn;exact rh r_) hsl (by subst hM;exact nB f_) hg (λcl C s₂ H fp=>xo (ht cl C s₂ H fp)) he hs
def OM{k_ a_ tg:Expr}{scope:Scope}{pos:Pos}{wi:TI}{g:TG}{te:TE}(M:List Str)(kn:List (Str×NameKind))(N:List Str)(sub:Rg)
 (hc:X.calm=true) (hi:PI X tg a_ wi)
 (hg:∀cl C s₂ H fp,PG (bL X N scope cl C s₂ H fp) tg g) (he:∀cl C s₂ H fp,PE (bL X N scope cl C s₂ H fp) k_ te)
 (hM:X.N=M) (hkn:X.env.scope.names=kn) (f_:fU M scope.names sub N=true)
 (hk:scope.kind=.function) (hnc:∀x∈scope.names,x.2 ≠ .cell) (b_:∀x∈scope.names,x.2=.local->scope.names.lookup x.1=some .local)
 (r_:iC kn scope.names=true)
 (hsl:sub.length=N.length) (hs:∀x,foldedSetIterable a_ X.env x=pure x):
 PE X (.ListComp k_ [⟨tg,a_,[],0⟩] scope pos) (mF wi sub g tYes te):=
 A9 hc hi hk hnc b_ (by subst hkn;exact rh r_) hsl (by subst hM;exact nB f_) hg (λcl C s₂ H fp=>G0) he hs
end
open PySem PySem.Spec PyProof.Rows PySem.W PySem.Builtin PySem.Builtin.ObjectAttr PySem.Builtin.Getset_descriptor
structure XCls(K:W.Frag)(C:Addr):Prop where
 cls:(clsIn K C).isSome=true
 ga:findIn K (.ref C) "__getattribute__"=some (some (.builtin "BaseException.__getattribute__"))
 gt:findIn K (.ref C) "__getattr__"=some none
 at_:findIn K (.ref C) "__class__"=some (some (.builtin "object.__class__"))
 gs:specialIn K (.builtin "object.__class__") "__get__"=some (some (.builtin "getset_descriptor.__get__"))
 tk:takesIn K (.builtin "object.__class__")=some true
 mo:mroIn K C (.type "object")=some true
 mb:mroIn K C (.type "BaseException")=some true
section
variable{prog:Program}{w:World}{A:Around}{E:Rf}{K:W.Frag}{x C:Addr}{o:Obj}
def kY(hx:h.get? x=some o)(hc:o.cls=.ref C):Looks M h (typeOf (.ref x)) (.ref C):=hc ▸ (Looks.ld hx).andThen .now
def Dv(X:K.In h)(T:XCls K C):Looks M h (find (.ref x) (.ref C) "__class__") (.bind (.builtin "getset_descriptor.__get__") (.builtin "object.__class__")):=by have L1:=looks_findIn (M:=M) X T.at_;have L2:Looks M h (getOf (some (.builtin "object.__class__"))) (some (.builtin "getset_descriptor.__get__")):=looks_specialIn X T.gs;have L3:=looks_takesIn (M:=M) X T.tk;refine L1.andThen (L2.andThen ?_);exact (show Looks M h (dataDescriptor? (some (.builtin "object.__class__")) (some (.builtin "getset_descriptor.__get__"))) (some (.builtin "getset_descriptor.__get__",.builtin "object.__class__")) from L3.andThen .now).andThen (Looks.tag .now)
def sO(X:K.In s.heap)(hx:s.heap.get? x=some o)(hc:o.cls=.ref C)(T:XCls K C)
 (h:R (.ok (.ret (.ref C))) s):codeAny (model prog w) A (.call (.builtin "getset_descriptor.__get__") ⟨[.builtin "object.__class__",.ref x,tp],[]⟩) R s:=by
 obtain⟨hh,g,dr,t,os⟩:=s;have L0:=kY (M:=model prog w) hx hc;have L1:=looks_mroIn (M:=model prog w) X T.mo;refine codeAny_call_builtin KF.slot_gs.plain KF.entry_gs (KF.slot_gs.check _ _ _ _ _ _ _ _ KF.type_class (KF.args_gs _ _ _) ?_);unfold Builtin.«getset_descriptor.__get__» descrGet;rw[dga_obj];refine v_ (E_ ?_);unfold descrGetter descrCheckInstance descrNameAndClass isInstance;simp only[KF.owner_class];repeat lk
 refine⟨Code.quiet_builtin _ (by decide),codeAny_builtin KF.entry_class ?_⟩;unfold Builtin.«object.__class__» shownTypeOf;repeat lk
 exact h
def AJ(X:K.In s.heap)(hx:s.heap.get? x=some o)(hc:o.cls=.ref C)(T:XCls K C)(hq:Q () s):
 wpAny M A (checkBuiltinCall "BaseException.__getattribute__" ⟨[.ref x,nameV],[]⟩) Q E s:=by
 obtain⟨h,g,dr,t,os⟩:=s;have hk:builtinKind "BaseException.__getattribute__"=some .slot:=by decide
 have hsplit:splitId "BaseException.__getattribute__"=some ("BaseException", "__getattribute__"):=by decide
 have ha:=PySem.F.args_bexc_ga (.ref x) nameV;have L0:=kY (M:=M) hx hc;have LM:=looks_mroIn (M:=M) X T.mb;have LI:Looks M h (isInstance (.ref x) (.type "BaseException")) true:=L0.andThen LM;simp only[checkBuiltinCall,hk,hsplit];refine v_ ?_;refine LI.at ?_;repeat (first |wp_step)
 all_goals exact hq
def HZ(X:K.In s.heap)(hx:s.heap.get? x=some o)(hc:o.cls=.ref C)(T:XCls K C)(h:Q (some (.ref C)) { s with toks:=s.toks+1 }):
 wpAny (model prog w) A (getAttr? (.ref x) "__class__") Q E s:=by
 obtain⟨hh,g,d,t,os⟩:=s;have L0:=kY (M:=model prog w) hx hc;have L1:=looks_findIn (M:=model prog w) X T.ga;have L2:=looks_findIn (M:=model prog w) X T.gt;have LF:=Dv (M:=model prog w) (x:=x) X T;have f3:=PySem.F.excAttr_ValueError.ga.bind (.ref x);have hx2:(Value.builtin "BaseException.__getattribute__" == Value.builtin "object.__getattribute__")=false:=by decide
 unfold getAttr? getAttrBy? getAttrBy;refine v_ (wpAny_mkText (v_ (QV (P4 (v_ (L0.at (v_ (L1.at ?_))))))));dsimp only;rw[if_neg (by rw[hx2];simp)];unfold getAttrByItsOwn hookBefore;rw[if_pos (show onTheHeap (Value.ref C)=true from rfl)];refine v_ (L2.at ?_);unfold callGetattribute;refine v_ (QV (P4 ?_));rw[if_neg (by simp)];unfold boundAndCalled;refine v_ (wpAny_of_eq f3 ?_);refine wpAny_call (codeAny_call_builtin PySem.F.excAttr_ValueError.ga.plain PySem.F.entry_bexc_ga (AJ X hx hc T ?_));unfold Builtin.«object.__getattribute__»;repeat (first |(refine v_ (L0.at ?_)) |(refine v_ (LF.at ?_)) |wp_step)
 refine sO (s:=⟨hh,g,d,t+1,os⟩) X hx hc T ?_;repeat (first |exact h |wp_step)
def C7(x:Addr)(C:Addr)(h:Heap):Prop:=∃o vs,h.get? x=some o/\o.cls=.ref C/\o.data=.fields vs
def CW(T:XCls K C):KitX K (.ref x) (.ref C) (C7 x C) where
 ty:=λM h _ ⟨o,_,hx,hc,_⟩=>kY hx hc
 it:=λM h X _=>by
  obtain⟨cd,t_⟩:=Pl.mp T.cls;unfold clsIn at t_;split at t_
  .rename_i c' d' cd' sl' ho;intro A' Q' E' s' k q;unfold isType loadHead;exact v_ (wpAny_loadPart (k _ _ (X _ _ ho)) (E_ q))
  .cases t_
 ne:=λh tp dd its n sl X htp=>by
  obtain⟨cd,t_⟩:=Pl.mp T.cls;refine Bool.eq_false_iff.mpr λq=>?_;have e:C=tp:=Value.ref.inj (O7.mp q);subst e;unfold clsIn at t_;split at t_
  .rename_i c' d' cd' sl' ho;have z:=(X _ _ ho).symm.trans htp;cases z
  .cases t_
 ca:=λX ⟨o,_,hx,hc,_⟩ k=>HZ X hx hc T k
end
inductive TyX(K:W.Frag)(H:Hp):V->Value->Prop where
 |of {x:V}{t:Value} (h:TyOf K H x t):TyX K H x t
 |exc {a C:Addr} (e:H a=some (.ext (C7 a C))) (T:XCls K C):TyX K H (.ref a) (.ref C)
 |sqT {a:Addr}{xs:List V} (h:SqT K H a xs):TyX K H (.ref a) (.type "tuple")
 |sqL {a:Addr}{xs:List V} (h:SqL K H a xs):TyX K H (.ref a) (.type "list")
section
variable{X:Cx}{pins:Rb}{σ:St}{H:Hp}{s:Shared}{c:Value}
def xa(I:Inv X pins σ H s)(rx:RelV x u)(ty:TyX X.K H x t):∃Hh:Heap->Prop,KitX X.K u t Hh/\Hh s.heap/\u ≠ .builtin "__main__.__loader__#opaque":=by
 cases ty with
 |exc ea T=>cases (show u=Value.ref _ from rx);exact⟨_,CW T,(I.hok _ _ ea).1,λz=>nomatch z⟩
 |sqT h=>cases (show u=Value.ref _ from rx);obtain⟨its,rv,⟨o,e,c,_⟩,_⟩:=I.tuple h;exact⟨_,kitx_tuple,⟨o,e,c⟩,λz=>nomatch z⟩
 |sqL h=>cases (show u=Value.ref _ from rx);obtain⟨its,rv,⟨o,n,e,c,_⟩,_⟩:=I.list h;exact⟨_,kitx_list,⟨o,e,c⟩,λz=>nomatch z⟩
 |
  of ty=>
  cases ty with
  |non=>cases (show u=Value.none from rx);exact⟨_,kitx_none,True.intro,λz=>nomatch z⟩
  |bl y=>cases (show u=Value.bool y from rx);exact⟨_,kitx_bool,True.intro,λz=>nomatch z⟩
  |int i=>obtain⟨t,q⟩:=(show ∃t,u=Value.int i t from rx);cases q;exact⟨_,kitx_int,True.intro,λz=>nomatch z⟩
  |str y=>obtain⟨t,q⟩:=(show ∃t,u=Value.str y t from rx);cases q;exact⟨_,kitx_str,True.intro,λz=>nomatch z⟩
  |flt y=>obtain⟨t,q⟩:=(show ∃t,u=Value.float y t from rx);cases q;exact⟨_,kitx_float,True.intro,λz=>nomatch z⟩
  |@lst a xs ea=>cases (show u=Value.ref a from rx);obtain⟨_,_,n,_,h1⟩:=(show ObjOk X.prog X.w H s.heap a (.lst xs) from I.hok a _ ea);exact⟨_,kitx_list,⟨_,h1,rfl⟩,λz=>nomatch z⟩
  |@frz a ob xs ea=>cases (show u=Value.ref a from rx);obtain⟨_,_,_,n,_,h1⟩:=(show ObjOk X.prog X.w H s.heap a (.frz ob (.lst xs)) from I.hok a _ ea);exact⟨_,kitx_list,⟨_,h1,rfl⟩,λz=>nomatch z⟩
  |@tup a xs ea=>cases (show u=Value.ref a from rx);obtain⟨_,_,_,p⟩:=(show ObjOk X.prog X.w H s.heap a (.tup xs) from I.hok a _ ea);obtain⟨o,h1,h2,_⟩:=p;exact⟨_,kitx_tuple,⟨o,h1,h2⟩,λz=>nomatch z⟩
  |@dK a kvs ea=>cases (show u=Value.ref a from rx);obtain⟨_,_,vs,_,p⟩:=(show ObjOk X.prog X.w H s.heap a (.dK kvs) from I.hok a _ ea);obtain⟨o,es,ep,h1,h2,_⟩:=p;exact⟨_,kitx_dict,⟨o,h1,h2.1⟩,λz=>nomatch z⟩
  |@dT a kvs ea=>cases (show u=Value.ref a from rx);obtain⟨_,_,xs,_,o,es,ep,h1,h2,_⟩:=(show ObjOk X.prog X.w H s.heap a (.dT kvs) from I.hok a _ ea);exact⟨_,kitx_dict,⟨o,h1,h2.1⟩,λz=>nomatch z⟩
  |@ins a C dx fs ea cl ha hn htk hm=>cases (show u=Value.ref a from rx);obtain⟨mA,O,_⟩:=Gi I.hok ea;obtain⟨od,J,_⟩:=O.look;exact⟨_,kitx_own (cl.get _) cl.hd ha hn htk hm,J,λz=>nomatch z⟩
end
section
variable{X:Cx}
noncomputable def gQ:V->Option Value
 |.ref C=>some (.ref C)
 |.ty T=>some (.type T)
 |_=>none
def uX(h:gQ c=some v)(r:RelV c u):u=v:=by
 cases c with
 |ref C=>cases r;exact OQ h
 |ty T=>cases r;exact OQ h
 |_=>cases h
theorem se:∀{cs:List V}{us vs:List Value},cs.mapM gQ=some vs->Vals cs us->us=vs
 |
  [],_,vs,h,.nil=>by
  have h':some ([]:List Value)=some vs:=h;exact OQ h'
 |
  c::cs,_,vs,h,.cons r rr=>by
  rw[P_] at h;cases q:gQ c with
  |none=>rw[q] at h;cases h
  |
   some v=>
   rw[q] at h;cases q2:cs.mapM gQ with
   |none=>rw[q2] at h;cases h
   |some vs'=>rw[q2] at h;have h':some (v::vs')=some vs:=h;cases h';rw[uX q r,se q2 rr]
def Du:CallR X (.builtin "isinstance") (λxs H Q=>∃x c t v b,xs=[x,c]/\TyX X.K H x t/\gQ c=some v/\kitOne X.K t v=some b/\Q (.bl b) H):=by intro pins s σ H xs us Q I r h;obtain⟨x,c,t,v,b,rfl,ty,hc,hk,q⟩:=h;obtain⟨u,w',rfl,rx,rc⟩:=DV r;obtain rfl:=uX hc rc;obtain⟨Hh,Z,p,hne⟩:=xa I rx ty;exact kia_one Z I.kIn p hk hne λtk=>⟨.bl b,H,I.tok _,rfl,q⟩
end
def ObjOk.there(x:ObjOk P w H h a o):∃u,h.get? a=some u:=by
 cases o with
 |lst xs=>obtain⟨_,_,_,_,e⟩:=x;exact⟨_,e⟩
 |tup xs=>obtain⟨_,_,_,ob,e,_⟩:=x;exact⟨_,e⟩
 |dK kvs=>obtain⟨_,_,_,_,o,_,_,e,_⟩:=x;exact⟨_,e⟩
 |dT kvs=>obtain⟨_,_,_,_,o,_,_,e,_⟩:=x;exact⟨_,e⟩
 |set S n=>obtain⟨o,_,_,_,e,_⟩:=x;exact⟨_,e⟩
 |ins C dx fs=>obtain⟨_,_,_,e,_⟩:=x;exact⟨_,e⟩
 |own y=>exact x
 |xd fs=>obtain⟨_,⟨_,_,_,e,_⟩,_⟩:=x;exact⟨_,e⟩
 |rng lo hi=>obtain⟨_,_,_,e⟩:=x;exact⟨_,e⟩
 |frz ob u=>obtain⟨e,_⟩:=x;exact⟨_,e⟩
 |tbl ps=>exact⟨_,show h.get? a=some _ from x⟩
 |met f y=>exact⟨_,show h.get? a=some _ from x⟩
 |ext φ=>obtain⟨_,e,_⟩:=x;exact e
structure Fly(P:Program)(w:World)(outer:List Env)(H:Hp)(h₀:Heap)(H':Hp)(ea:Addr)(cls:Value)(h:Heap)(B:Heap)(t:Addr):Prop where
 un:Un (frs outer) [] H H' h₀ h
 hok:HOk P w H' h
 fl:Heap.FlyingW B outer ea cls (.ref t) h
 old:∀b o,h₀.get? b=some o->b∉frs outer->∃o',B.get? b=some o'
 trk:∀b o,H' b=some o->∃o',B.get? b=some o'
def CX1(P:Program)(w:World):CXT:=λouter H s E e s'=>∃(ea t:Addr) (cls:Value) (H':Hp) (B:Heap),e=.ref ea/\s'.os=s.os/\AllBare s'.gens/\Fly P w outer H s.heap H' ea cls s'.heap B t/\E cls none H'
def uQ(h:env.frame=some L):frs (env::outer)=L::frs outer:=by unfold frs;rw[PC,h]
section
variable{P:Program}{w:World}{outer:List Env}{H H':Hp}{h₀ h h' B:Heap}{ea t:Addr}{cls:Value}
def Fly.step(F:Fly P w outer H h₀ H' ea cls h B t)(fl':Heap.FlyingW B outer' ea cls (.ref t) h')(up:h.UpToSlots h'):
 Un (frs outer) [] H H' h₀ h'/\HOk P w H' h':=by
 have st:=F.fl.1;have same:∀b o,(∃o',B.get? b=some o')->h.get? b=some o->h'.get? b=some o:=λb o ⟨o',e⟩ q=>by have z:=st b o' e;rw[q] at z;cases z;exact fl'.1 b _ e
 have frame:∀b o,b∈frs outer->h.get? b=some o->∃sl,h'.get? b=some { o with slots:=sl }:=λb o hb q=>by obtain⟨_,o',ho',hd⟩:=F.fl.2.2.1.mem hb;rw[q] at ho';cases ho';exact up b o q hd
 refine⟨⟨λb o e n hb hx=>same b o (F.old b o e hb) (F.un.keep b o e n hb hx),λb o e n hb hx=>?_,F.un.free,λb o e hx=>?_,F.un.tups,F.un.frzs,F.un.tbls⟩,λa o e=>?_⟩
 .obtain⟨sl,q⟩:=F.un.slot b o e n hb hx;obtain⟨sl',q'⟩:=frame b _ hb q;exact⟨sl',q'⟩
 .obtain⟨o',q⟩:=F.un.there b o e hx;by_cases hb:b∈frs outer
  .obtain⟨sl,q'⟩:=frame b _ hb q;exact⟨_,q'⟩
  .exact⟨o',same b o' (F.old b o e hb) q⟩
 .refine (F.hok a o e).stay (λb u hb q=>same b u ?_ q) (λ_ q=>q) λ_ _ q=>q;rcases hb with z |z
  .rw[z];exact F.trk a o e
  .exact F.trk b _ z
end
structure Cx.Top(X:Cx):Prop where
 ex:X.ex=[]
 stk:X.stack=X.env::X.outer
 fr:X.env.frame=some X.env.locals
section
variable{X:Cx}{pins:Rb}{σ:St}{H:Hp}{s s':Shared}{E:XK}{e:Value}
def zC(T:X.Top)(hA:A.frames=some X.stack)(I:Inv X pins σ H s)(h:CX1 X.prog X.w X.stack H s E e s'):
 wpAny (model X.prog X.w) A (leaving X.env e) (λ_ s''=>CX1 X.prog X.w X.outer X.H₀ X.s₀ E e s'') E' s':=by
 obtain⟨ea,t,cls,H',B,rfl,os,bare,F,q⟩:=h;have F0:=F;rw[T.stk] at F;have hf:=uQ (outer:=X.outer) T.fr;refine wpAny_leaves_onW (by rw[hA,T.stk]) T.fr F.fl λh'' fl'' up=>?_;obtain⟨un2,hok2⟩:=F.step fl'' up;have exn:∀b,b∉X.ex:=λb z=>by rw[T.ex] at z;cases z
 have neL:∀b o,X.s₀.heap.get? b=some o->b≠X.env.locals:=λb o e=>OU (K_ (Em e) I.ok.above);have notin:∀b o,X.s₀.heap.get? b=some o->b∉frs X.outer->b∉frs (X.env::X.outer):=λb o e hb z=>by
  rw[hf] at z;rcases OP.mp z with z |z
  .exact neL b o e z
  .exact hb z
 refine⟨ea,t,cls,H',B,rfl,os.trans I.os,bare,⟨⟨λb o e n hb hx=>?_,λb o e n hb hx=>?_,λb o e n hx=>?_,λb o e hx=>?_,λb xs e=>un2.tups b xs (I.base.tups b xs e),λb o xs e=>un2.frzs b o xs (I.base.frzs b o xs e),λb ps e=>?_⟩,hok2,fl'',λb o e hb=>?_,F.trk⟩,q⟩
 .exact un2.keep b o (I.base.keep b o e n hb (exn b)) (I.base.free b o e n (exn b)) (notin b o e hb) (by simp)
 .obtain⟨sl,e1⟩:=I.base.slot b o e n hb (exn b);obtain⟨sl',e2⟩:=un2.slot b _ e1 (I.base.free b o e n (exn b)) (by rw[hf];exact w_ _ hb) (by simp);exact⟨sl',e2⟩
 .obtain⟨o',e1⟩:=I.base.there b o e (exn b);exact un2.free b o' e1 (I.base.free b o e n (exn b)) (by simp)
 .obtain⟨o',e1⟩:=I.base.there b o e (exn b);exact un2.there b o' e1 (by simp)
 .obtain⟨m1,e1⟩:=I.base.tbls b ps e;obtain⟨m2,e2⟩:=un2.tbls b _ e1;exact⟨m1++m2,by rw[e2,Array.append_assoc]⟩
 .obtain⟨o',e1⟩:=I.base.there b o e (exn b);exact F.old b o' e1 (notin b o e hb)
def Dj(T:X.Top)(hA:A.frames=some X.stack)(I:Inv X pins σ H s)(hx:Heap.MadeExcOf s.heap h' ea cls args)(q:E cls none H):
 wpAny (model X.prog X.w) A (leaving X.env (.ref ea)) (λ_ s''=>CX1 X.prog X.w X.outer X.H₀ X.s₀ E (.ref ea) s'') E' { s with heap:=h' }:=by
 have hf:=uQ (outer:=X.outer) T.fr;have stk:=I.stack;rw[T.stk] at stk;have hin:∀env∈(X.env::X.outer),∀b,env.frame=some b->b∈frs (X.env::X.outer):=λenv he b hb=>List.mem_filterMap.mpr ⟨env,he,hb⟩;refine wpAny_leaves_madeW (base:=W.hideAll s.heap (frs (X.env::X.outer))) (h:=s.heap) (by rw[hA,T.stk]) T.fr (λb o q=>W.of_hideAll _ q) (W.funFrames_hide stk hin) hx λh'' t fl tup tn up=>?_;have inB:∀b o,s.heap.get? b=some o->b∉frs (X.env::X.outer)->(W.hideAll s.heap (frs (X.env::X.outer))).get? b=some o:=λb o e hb=>W.hideAll_get _ e hb;have free:∀b∈frs (X.env::X.outer),H b=none:=λb hb=>I.stkFree b (by rw[T.stk];exact hb);have up2:s.heap.UpToSlots h'':=(Heap.UpToSlots.of_keeps hx.keeps).trans up;have exn:∀b,b∉X.ex:=λb z=>by rw[T.ex] at z;cases z
 have neL:∀b o,X.s₀.heap.get? b=some o->b≠X.env.locals:=λb o e=>OU (K_ (Em e) I.ok.above);have notin:∀b o,X.s₀.heap.get? b=some o->b∉frs X.outer->b∉frs (X.env::X.outer):=λb o e hb z=>by
  rw[hf] at z;rcases OP.mp z with z |z
  .exact neL b o e z
  .exact hb z
 have trk:∀b o,H b=some o->∃o',(W.hideAll s.heap (frs (X.env::X.outer))).get? b=some o':=λb o e=>by obtain⟨u,hu⟩:=(I.hok b o e).there;exact⟨u,inB b u hu λz=>by rw[free b z] at e;cases e⟩
 refine⟨ea,t,cls,H,_,rfl,I.os,I.bare,⟨⟨λb o e n hb hx=>?_,λb o e n hb hx=>?_,λb o e n hx=>?_,λb o e hx=>?_,I.base.tups,I.base.frzs,I.base.tbls⟩,λa o e=>?_,fl,λb o e hb=>?_,trk⟩,q⟩
 .exact fl.1 b o (inB b o (I.base.keep b o e n hb (exn b)) (notin b o e hb))
 .obtain⟨sl,e1⟩:=I.base.slot b o e n hb (exn b);obtain⟨_,o',ho',hd⟩:=I.ok.funs.mem hb;rw[e] at ho';cases ho';obtain⟨sl',e2⟩:=up2 b _ e1 hd;exact⟨sl',e2⟩
 .exact I.base.free b o e n (exn b)
 .obtain⟨o',e1⟩:=I.base.there b o e (exn b);by_cases hb:b∈frs X.outer
  .obtain⟨_,o2,ho2,hd⟩:=I.funs.mem hb;rw[e1] at ho2;cases ho2;obtain⟨sl',e2⟩:=up2 b _ e1 hd;exact⟨_,e2⟩
  .exact⟨o',fl.1 b o' (inB b o' e1 (notin b o e hb))⟩
 .refine (I.hok a o e).stay (λb u hb q=>?_) (λ_ q=>q) λ_ _ q=>q;refine fl.1 b u (inB b u q λz=>?_);rcases hb with y |y
  .rw[y] at z;rw[free a z] at e;cases e
  .rw[free b z] at y;cases y
 .obtain⟨o',e1⟩:=I.base.there b o e (exn b);exact⟨o',inB b o' e1 (notin b o e hb)⟩
end
section
variable{P:Program}{w:World}{K:W.Frag}{mg:Ra}{base:Heap}{N:List Str}{qual:Str}{scope:Scope}{f:Addr}{cd:Value}{A:Around}{outer:List Env}{s:Shared}{H:Hp}{E:XK}
def DY:(fJ (CX1 P w) P w K mg base N qual scope f cd A outer s H E).Top:=⟨rfl,rfl,rfl⟩
def Ow:uc (CX1 P w) (fJ (CX1 P w) P w K mg base N qual scope f cd A outer s H E) E:=λpins σ H s e s' I h=>zC DY I.ok.frames I h
def Mu:uc (CX1 P w) X E0:=λpins σ H s e s' I ⟨_,_,_,_,_,_,_,_,_,q⟩=>q.elim
def mf:PassesOwn (model P w) (fJ (CX1 P w) P w K mg base N qual scope f cd A outer s H E).A (fJ (CX1 P w) P w K mg base N qual scope f cd A outer s H E).env (fJ (CX1 P w) P w K mg base N qual scope f cd A outer s H E).xe:=PassesOwn.leaving
def Rz(X:Cx)(E:XK):Prop:=∀(pins:Rb) (σ:St) (H:Hp) (s:Shared) (h':Heap) (ea:Addr) (cls:Value) (args:List Value),Inv X pins σ H s->Heap.MadeExcOf s.heap h' ea cls args->E cls none H->X.xe (.ref ea) { s with heap:=h' }
def rz1:Rz (fJ (CX1 P w) P w K mg base N qual scope f cd A outer s H E) E:=λpins σ H s h' ea cls args I hx q=>Dj DY I.ok.frames I hx q
def Fun.okR{x qual:Str}{st:Stmt}{f:Addr}{fd:FuncData}{N ps:List Str}{k:Nat}{sp:Sp}(F:Fun K x qual st f fd)(S:FnScope N ps (bF st))(len:∀vs H Q E,sp vs H Q E->vs.length=ps.length)
 (j_:∀(cdv:Value) (A:Around) (outer:List Env) (s:Shared) (H:Hp) (vs:List V) (Q:VK) (E:XK),Room k (A.deeper (envOfC qual (bF st) s.heap.objs.size f cdv))->sp vs H Q E->
  ∃t,PSs (fJ (CX1 P w) P w K mg base N qual (bF st) f cdv A outer s H E) (cA st) t/\t { nx:=λ_ H'=>Q .non H',rt:=Q } (hX N vs) H):FnOk P w K mg base (CX1 P w) (k+1) f fd ps sp:=by
 obtain⟨oc,od,kV,doc,pm,an,cdv,ct,osl,rfl,lk,t_⟩:=F.ex;exact MF lk t_ S len λA outer s H vs Q E hr hsp=>j_ cdv A outer s H vs Q E hr hsp
end
abbrev oq:List Value:=[.type "ValueError",.type "Exception",.type "BaseException",.type "object"]
def Av{K:W.Frag}{h:Heap}{C:Addr}(X:K.In h)(q:W.excIn K C oq "ValueError.__new__"=true):
 ∃bm N nm q' bs hdct sn sub ab col dd k0 k1 k2 k3 k5 mN,h.get? C=some (excClassObj nm q' C N bs bm hdct sn sub ab col dd k0 k1 k2 k3 k5 "ValueError.__new__")/\h.Ns N mN/\mN "__init__"=none/\OwnTail h oq bm:=by
 unfold W.excIn at q;split at q
 .rename_i dd cd sl ho;split at q
  .rename_i C' bm k0 k1 k2 k3 n k5 hm hs;simp only[B_,O7,Bool.not_eq_true'] at q;obtain⟨⟨⟨⟨⟨rfl,rfl⟩,hdel⟩,ht⟩,hok⟩,hni⟩:=q;obtain⟨nm,bs,mro,ns,qn,hd,sn,sub,ab,col,del⟩:=cd;dsimp only at hm hdel hok hni;subst hm hdel;have hsl:sl=#[k0,k1,k2,k3,some (.builtin "ValueError.__new__"),k5]:=by obtain⟨l⟩:=sl;simp only at hs;rw[hs]
   subst hsl;exact⟨bm,ns,nm,qn,bs,hd,sn,sub,ab,col,dd,k0,k1,k2,k3,k5,_,X _ _ ho,.of_isNs (W.isNs_of_in X hok),W.nsMap_none_of_in X hok hni,W.tail_of_in X ht⟩
  .cases q
 .cases q
section
variable{X:Cx}{x:Str}{C:Addr}{E:XK}{np cpos pos:Pos}{e₀:Expr}{es:List Expr}{ta:TA}
def Lm(C:Addr)(E:XK)(ta:TA):TS:=λ_ σ H=>ta σ H λvs H1=>vs.length<=sizeLine/\E (.ref C) none H1
def CT(hc:X.calm=true)(hR:Rz X E)(hg:Gl X x)(hm:X.mg x=some (.ref C))(hq:W.excIn X.K C oq "ValueError.__new__"=true)(ha:PA X (e₀::es) ta)
 (he:starEach (e₀::es) X.env=(false,eval e₀ X.env)::starEach es X.env) (j':(backTo cpos (starEach es X.env)).any (·.1)=false) (hd:(x==("__debug__" : Str))=false):
 PS X (.Raise (some (.Call (.Name x np) (e₀::es) [] cpos)) none pos) (Lm C E ta):=by
 intro pins s σ H D I h;obtain⟨bm,N,nm,q',bs,hdct,sn,sub,ab,col,dd,k0,k1,k2,k3,k5,mN,hC,hN,hni,T⟩:=Av I.ok.mod.kin hq;refine wpAny_Raise_call_subT (C:=C) (nm:=nm) (q:=q') (N:=N) (bs:=bs) (bm:=bm) (hdct:=hdct) (sn:=sn) (sub:=sub) (ab:=ab) (col:=col) (dd:=dd) (k0:=k0) (k1:=k1) (k2:=k2) (k3:=k3) (k5:=k5)
  PySem.F.excBase_ValueError (mN:=mN) (T.hasType PySem.F.excBase_ValueError.hasBase) (I.ok.hd hc) (by rw[he];show (false || (backTo cpos (starEach es X.env)).any (·.1))=false;rw[j'];rfl) hni (pR I hg hm ⟨rfl,?_⟩ hd)
 have hA:=ha cpos pins s σ H _ I h;rw[he] at hA ⊢;refine Calls.evalArgs_plain (thn hA λus s2 ⟨vs,H2,I2,r2,hz,q2⟩=>⟨rfl,by rw[<- r2.length];exact hz,I2.bk _ _ hC,hN.keeps I2.bk,T.keeps I2.bk,λh' e hm'=>?_⟩);exact hR pins σ H2 s2 h' e _ _ I2 hm' q2
end
abbrev XS:=St->XK
abbrev TEx:=St->Hp->VK->XK->Prop
abbrev TSx:=Ends->XS->St->Hp->Prop
def XP(X:Cx)(pins:Rb)(E:XS)(e:Value)(s':Shared):Prop:=∃σ1 H1 s1,Inv X pins σ1 H1 s1/\CX1 X.prog X.w X.stack H1 s1 (E σ1) e s'
def PEx(X:Cx)(e:Expr)(t:TEx):Prop:=
 ∀(pins:Rb) (s:Shared) (σ:St) (H:Hp) (Q:VK) (E:XS),Inv X pins σ H s->t σ H Q (E σ)->wpAny (model X.prog X.w) X.A (eval e X.env) (EP X pins σ Q) (XP X pins E) s
structure XHand(K:W.Frag)(C:Addr):Prop where
 ty:W.typeIn K (.ref C)=some (.type "type")
 cls:(W.clsIn K C).isSome=true
 mb:W.mroIn K C (.type "BaseException")=some true
mutual
inductive Rep(K:W.Frag)(H:Hp):V->PyData->Prop where
 |non:Rep K H .non .none
 |bl (b:Bool):Rep K H (.bl b) (.bool b)
 |int (i:Int):Rep K H (.int i) (.int i)
 |str (x:Str):Rep K H (.str x) (.str x)
 |tup {a:Addr}{xs:List V}{ds:List PyData} (h:SqT K H a xs) (r:Reps K H xs ds):Rep K H (.ref a) (.tuple ds)
 |lst {a:Addr}{xs:List V}{ds:List PyData} (h:SqL K H a xs) (r:Reps K H xs ds):Rep K H (.ref a) (.list ds)
inductive Reps(K:W.Frag)(H:Hp):List V->List PyData->Prop where
 |nil:Reps K H [] []
 |cons {x:V}{d:PyData}{xs:List V}{ds:List PyData} (r:Rep K H x d) (rr:Reps K H xs ds):Reps K H (x::xs) (d::ds)
end
section
variable{X:Cx}{pins:Rb}{σ:St}{H:Hp}{s:Shared}{K:W.Frag}
def Rep.reads(I:Inv X pins σ H s)(r:Rep X.K H v d)(q:RelV v u):∃as,Reads s.heap u d as:=
 Rep.rec (motive_1:=λv d _=>∀u,RelV v u->∃as,Reads s.heap u d as) (motive_2:=λvs ds _=>∀us,Vals vs us->∃as,ReadsAll s.heap us ds as)
  (λu r=>by cases r;exact⟨_,.none⟩) (λb u r=>by cases r;exact⟨_,.bool b⟩) (λi u r=>by obtain⟨t,rfl⟩:=r;exact⟨_,.int i t⟩) (λx u r=>by obtain⟨t,rfl⟩:=r;exact⟨_,.str x t⟩)
  (λh _ ih u r=>by cases r;obtain⟨its,rv,⟨o,e,c,n,d⟩,_⟩:=I.tuple h;obtain⟨as,q⟩:=ih _ rv;exact⟨as,.tuple e c d (by simpa using q)⟩)
  (λh _ ih u r=>by cases r;obtain⟨its,rv,⟨o,n,e,c,_,d⟩,_⟩:=I.list h;obtain⟨as,q⟩:=ih _ rv;exact⟨_,.list e c d (by simpa using q)⟩)
  (λus r=>by cases r;exact⟨_,.nil⟩)
  (λ_ _ a b us q=>by
   cases q with
   |cons q1 q2=>obtain⟨as,h1⟩:=a _ q1;obtain⟨bs,h2⟩:=b _ q2;exact⟨_,.cons h1 h2⟩) r u q
end
section
variable{X:Cx}
noncomputable def shp(d:PyData):Bool:=d.canLay0&&decide (d.depth<=160)
def mK(h:shp d=true):d.canLay0=true:=(Bool.and_eq_true_iff.mp h).1
def vL{A:Around}{d e:PyData}(h:shp d=true)(hu:A.units+180<cLine):A.units+min d.depth e.depth<cLine:=by have h1:d.depth<=160:=of_decide_eq_true (Bool.and_eq_true_iff.mp h).2;have h2:min d.depth e.depth<=d.depth:=Nat.min_le_left _ _;omega
def xJ(K:W.Frag):R2:=λx y H Q=>∃dx dy,Rep K H x dx/\Rep K H y dy/\shp dx=true/\shp dy=true/\Q (.bl (PyData.eqv dx dy)) H
def xY(K:W.Frag):R2:=λx y H Q=>∃dx dy,Rep K H x dx/\Rep K H y dy/\shp dx=true/\shp dy=true/\Q (.bl (!PyData.eqv dx dy)) H
def Iv(hu:X.A.units+180<cLine):OpR X (compareOp .Eq) (xJ X.K):=by intro pins s σ H x y v u Q I rx ry h;obtain⟨dx,dy,r1,r2,h1,h2,q⟩:=h;obtain⟨as,q1⟩:=r1.reads I rx;obtain⟨bs,q2⟩:=r2.reads I ry;exact SeqAt.compareEq_reads q1 q2 (mK h1) (mK h2) (vL h1 hu) (ky I q rfl)
def JA(hu:X.A.units+180<cLine):OpR X (compareOp .NotEq) (xY X.K):=by intro pins s σ H x y v u Q I rx ry h;obtain⟨dx,dy,r1,r2,h1,h2,q⟩:=h;obtain⟨as,q1⟩:=r1.reads I rx;obtain⟨bs,q2⟩:=r2.reads I ry;exact SeqAt.compareNe_reads q1 q2 (mK h1) (mK h2) (vL h1 hu) (ky I q rfl)
open PySem.Builtin.Int (intBits)
def CDivB(i j:Int):Prop:=j≠0/\intBits j<=8000
def Ed(i j:Int):Prop:=intBits i<=100000/\intBits j<=100000
def CG:OpR X (binaryOp .FloorDiv) (rI CDivB λi j=>.int (i.fdiv j)):=opI λi j _ _ _ _ _ hc q=>floordiv_int hc.1 q (.inl (PyProof.noPylong_of_log2 (by
 have h:=hc.2;have h0:=hc.1;unfold intBits at h;have hb:(j==0)=false:=by simpa using h0
 rw[hb] at h;simp only[P5,QA] at h;omega)))
def F7:OpR X (binaryOp .Mult) (rI Ed λi j=>.int (i*j)):=opI λi j _ _ _ _ _ hc q=>mul_int q (PySem.IntMulOk.of_le hc.1 hc.2 (by decide))
def Af(bs:List Bool):((List.range bs.length).all λi=>bs.getD i false)=bs.all id:=by
 rw[Bool.eq_iff_iff,L_,L_];constructor
 .intro h x hx;obtain⟨i,hi,rfl⟩:=List.mem_iff_getElem.mp hx
  have:=h i (QR.mpr hi)
  simpa [Pf,hi] using this
 .intro h i hi;have hi':=QR.mp hi
  have:=h bs[i] (List.getElem_mem hi')
  simpa [Pf,hi'] using this
def CL(hc:X.calm=true):CallR X (.builtin "all") (λxs H Q=>∃(a:Addr) (bs:List Bool),xs=[.ref a]/\SqL X.K H a (bs.map V.bl)/\Q (.bl (bs.all id)) H):=by
 intro pins s σ H xs us Q I r h;obtain⟨a,bs,rfl,hq,q⟩:=h;obtain⟨u,rfl,ru⟩:=lB r;cases ru;obtain⟨its,rv,p,hz⟩:=I.list hq;have hl:=rv.length;rw[u_] at hl;have hlt:a<s.heap.objs.size:=by obtain⟨o,n,e,_⟩:=p;exact Em e
 refine call_all_walk (wpAny_pyIter_list p.isList ?_);refine⟨s.heap.objs.size,_,_,_,_,_,λi=>bs.getD i false,rfl,Walks.list (A:=X.A.in1) (I.ok.hd hc) s.heap.objs.size a (OU hlt) its.toArray,⟨⟨_,M_ _ rfl,rfl,rfl⟩,(p.keeps λb o e=>D_ _ e).isList⟩,λi v s' Q' E' hP hQ=>?_,λh' tk hk=>?_⟩
 .have hP':its[i]?=some v:=by simpa using hP
  have hi:i<bs.length:=by rw[hl];exact (x_.mp hP').1
  have hb:(bs.map V.bl)[i]?=some (V.bl bs[i]):=by simp [hi]
  obtain⟨u,hu,ru⟩:=rv.get hb;rw[hP'] at hu;cases hu;cases ru;refine Py ?_;have e:bs.getD i false=bs[i]:=by simp [Pf,hi]
  show Q' bs[i] s';rw[<- e];exact hQ
 .have e1:its.toArray.size=bs.length:=by rw[H_,hl]
  rw[e1,Af];have hn:H s.heap.objs.size=none:=I.fresh;have I1:Inv X pins σ H { s with heap:=s.heap.push { cls:=.type "list_iterator",dict:=none,data:=.fields #[.ref a,rawInt 0] } }:=I.kept (t':=s.toks) λb o e=>D_ _ e;refine⟨.bl _,H,?_,rfl,q⟩;refine I.kept (t':=tk) λb o e=>?_;have hne:b≠s.heap.objs.size:=OU (Em e);exact hk b o (by simpa using hne) (D_ _ e)
end
structure Def(K:W.Frag)(mg:Ra)(x:Str)(st:Stmt):Prop where
 ex:∃f fd,Fun K x x st f fd/\mg x=some (.ref f)
def AK{K:W.Frag}{h:Heap}{mg:Ra}{x:Str}{st:Stmt}{f:Addr}{oc:Value}{od an:Option Addr}{osl:Array (Option Value)}{kV doc pm cdv ct:Value}(X:K.In h)(G:h.Ns mainGlobals mg)
 (a:W.nsIn K mainGlobals x=some (some (.ref f))) (l:K.lookup f=some ⟨oc,od,.func (W.fnOf x x (eh st) (cA st) (bF st) .none kV doc pm an cdv ct),osl⟩)
 (c:W.codeIn K cdv x=true) (k:W.keepIn K (.ref f)=true):Def K mg x st:=⟨f,_,Ic l c k,W.mg_of X G a⟩
def Fun.look{K:W.Frag}{x qual:Str}{st:Stmt}{f:Addr}{fd:FuncData}(F:Fun K x qual st f fd):∃oc od osl,K.lookup f=some ⟨oc,od,.func fd,osl⟩:=by obtain⟨oc,od,kV,doc,pm,an,cdv,ct,osl,rfl,lk,t_⟩:=F.ex;exact⟨oc,od,osl,lk⟩
structure Callee(P:Program)(w:World)(K:W.Frag)(mg:Ra)(base:Heap)(x:Str)(k:Nat)(ps:List Str)(sp:Sp):Prop where
 ex:∃f fd,FnOk P w K mg base (CX1 P w) k f fd ps sp/\mg x=some (.ref f)/\W.keepIn K (.ref f)=true/\Binds K fd ps []/\∃oc od osl,K.lookup f=some ⟨oc,od,.func fd,osl⟩
section
variable{P:Program}{w:World}{K:W.Frag}{mg:Ra}{base:Heap}{x:Str}{st:Stmt}{k:Nat}{ps N:List Str}{sp:Sp}
def Callee.imp(C:Callee P w K mg base x k ps sp)(h:∀vs H Q E,sp' vs H Q E->sp vs H Q E):Callee P w K mg base x k ps sp':=by obtain⟨f,fd,F,r⟩:=C.ex;exact⟨f,fd,F.imp h,r⟩
def Def.okR(D:Def K mg x st)(S:FnScope N ps (bF st))
 (hb:∀(kV doc pm:Value) (an:Option Addr) (cdv ct:Value) (us:List Value),us.length=ps.length->bindArgs (W.fnOf x x (eh st) (cA st) (bF st) .none kV doc pm an cdv ct) ⟨us,[]⟩=pure (ps.zip us))
 (len:∀vs H Q E,sp vs H Q E->vs.length=ps.length)
 (j_:∀(f:Addr) (cdv:Value) (A:Around) (outer:List Env) (s:Shared) (H:Hp) (vs:List V) (Q:VK) (E:XK),Room k (A.deeper (envOfC x (bF st) s.heap.objs.size f cdv))->sp vs H Q E->
  ∃t,PSs (fJ (CX1 P w) P w K mg base N x (bF st) f cdv A outer s H E) (cA st) t/\t { nx:=λ_ H'=>Q .non H',rt:=Q } (hX N vs) H):Callee P w K mg base x (k+1) ps sp:=by
 obtain⟨f,fd,F,m⟩:=D.ex;exact⟨f,fd,F.okR S len (j_ f),m,F.kp,F.binds hb,F.look⟩
end
section
variable{X:Cx}{K:W.Frag}
def allK(h:X.K=K)(hc:X.calm=true):CallR X (.builtin "all") (λxs H Q=>∃(a:Addr) (bs:List Bool),xs=[.ref a]/\SqL K H a (bs.map V.bl)/\Q (.bl (bs.all id)) H):=by subst h;exact CL hc
def Room.u180(r:Room k A):A.units+180<cLine:=by have:=r.un;omega
def eqDK(h:X.K=K)(hu:X.A.units+180<cLine):OpR X (compareOp .Eq) (xJ K):=by subst h;exact Iv hu
def neDK(h:X.K=K)(hu:X.A.units+180<cLine):OpR X (compareOp .NotEq) (xY K):=by subst h;exact JA hu
def inK(h:X.K=K):OpR X (compareOp .In) (rIn K false):=by subst h;exact AY
def Ku(h:X.K=K):OpR X (compareOp .NotIn) (rIn K true):=by subst h;exact uu
end
section
variable{X:Cx}
def JK{k_ a_ tg:Expr}{ifs:List Expr}{scope:Scope}{pos:Pos}{wi:TI}{g:TG}{tc:TT}{te:TE}{N:List Str}{sub:Rg}{iT:Nat}{xT:Str}{px spos:Pos}
 (hc:X.calm=true) (hN:X.N.Nodup) (hix:X.N[iT]?=some xT) (hxl:Loc X.env.scope xT) (hi:PI X tg a_ wi)
 (hk:scope.kind=.function) (hnc:∀x∈scope.names,x.2 ≠ .cell) (b_:∀x∈scope.names,x.2=.local->scope.names.lookup x.1=some .local)
 (r_:∀x∈scope.names,x.2=.free->X.env.kindOf x.1=some .cell\/X.env.kindOf x.1=some .free)
 (hsl:sub.length=N.length) (f_:∀(j i:Nat) (x:Str),sub[j]?=some (some i)->N[j]?=some x->X.N[i]?=some x/\scope.names.lookup x=some .free)
 (hg:∀cl C s₂ H fp,PG (bL X N scope cl C s₂ H fp) tg g) (ht:∀cl C s₂ H fp,PTs (bL X N scope cl C s₂ H fp) ifs tc) (he:∀cl C s₂ H fp,PE (bL X N scope cl C s₂ H fp) k_ te)
 (hsw:swapsWith (.ListComp k_ [⟨tg,a_,ifs,0⟩] scope pos) (some (.Name xT px)) spos.line X.env=pure true)
 (hs:∀x,foldedSetIterable a_ X.env x=pure x) (hf:X.fn xT=true\/X.env.scope.names.lookup xT=some .local):
 PS X (.Assign [.Name xT px] (.ListComp k_ [⟨tg,a_,ifs,0⟩] scope pos) spos) (xN (mF wi sub g tc te) (sZ iT)):=by
 intro pins s σ H D0 I h;rw[exec_Assign_Name_used _ _ _ _ hsw];refine v_ (Qw (v_ ?_));show wpAny _ X.A (do let _ <- comprehension (.ListComp k_ [⟨tg,a_,ifs,0⟩] scope pos) scope X.env _ (newList []) false (eval a_ X.env) (some (assign (.Name xT px) X.env))) _ _ s;refine v_ (O5 (wC (use:=some (assign (.Name xT px) X.env)) (R:=λ_ s'=>SP X pins D0 .next s') hc hi hk hnc b_ r_ hsl f_ hg ht he hs I h λD C s4 e=>?_) (λ_ s' hq=>E_ (E_ hq)) λ_ _ e=>e);obtain⟨m,hm⟩:=e.ns;obtain⟨H',hC,q,i⟩:=e.inv;have dc:=e.dc;have fr:=e.fr;refine wpAny_assign_Name (sj (v:=.ref D) (i s4.heap ⟨rfl,λ_ _=>rfl⟩) hN hix hxl rfl (λs7 I7 ⟨a7,sb7,ha7⟩=>?_) hf);have ha:a7<D:=by
  rcases ha7 with z |z
  .rw[z];exact fr
  .exact e.cell xT a7 z
 refine⟨m,hm.sameBut sb7 (Qm (QH ha dc)),λh8 hs8=>⟨_,_,I7.turned (it:=C) (t':=s7.toks) (λb o hb e=>hs8.extBut b o hb e) hC (Qm (QH fr dc)) (.inr (G_ e.sz (Nat.le_of_lt dc))) (λx c q=>OU (QH (e.cell x c q) dc)) (λp hp=>OU (QH (e.pin p hp) dc)),q⟩⟩
end
theorem wN:∀{ns:List Int}{its:List Value},Vals (ns.map V.int) its->IntsAre its ns
 | [],_,h=>by cases h;exact .nil
 |
  i::r,_,h=>by
  cases h with
  |cons h1 h2=>obtain⟨t,rfl⟩:=h1;exact .cons i t (wN h2)
def fR{X:Cx}{K:W.Frag}(hK:X.K=K)(hc:X.calm=true):CallR X (.builtin "sum") (λxs H Q=>∃(a:Addr) (ns:List Int),xs=[.ref a]/\SqL K H a (ns.map V.int)/\Q (.int ns.sum) H):=by
 subst hK;intro pins s σ H xs us Q I r h;obtain⟨a,ns,rfl,hq,q⟩:=h;obtain⟨u,rfl,ru⟩:=lB r;cases ru;obtain⟨its,rv,p,hz⟩:=I.list hq;have hi:=wN rv;obtain⟨ys,hy⟩:=hi.allInts.items;have hn:numsOf its.toArray.toList=ns:=by rw[show its.toArray.toList=its from rfl,hi.numsOf]
 have pl:=p.isList;rw[hy] at pl hn;rw[nums_intItems] at hn;refine sum_intListG (I.ok.hd hc) pl λh' tk t' hk=>?_;rw[preSum_eq,PH (by simp),hn];exact⟨.int ns.sum,H,I.kept (t':=tk) hk,⟨_,rfl⟩,q⟩
end L2
namespace Fr
noncomputable def dv(a b:Int):Int:=if b<0 then -((Int.gcd a b:Nat):Int) else ((Int.gcd a b:Nat):Int)
def T(a b:Int):Int:=a.fdiv (dv a b)
def B(a b:Int):Int:=b.fdiv (dv a b)
def tP(hb:b≠0):0<Int.gcd a b:=Int.gcd_pos_of_ne_zero_right a hb
def dv_ne(hb:b≠0):dv a b≠0:=by
 have:=tP (a:=a) hb
 unfold dv;split <;> omega
def Df(a b:Int):dv a b ∣ a:=by
 have h:((Int.gcd a b:Nat):Int) ∣ a:=Int.gcd_dvd_left a b;unfold dv;split
 .exact Int.neg_dvd.mpr h
 .exact h
def Cq(a b:Int):dv a b ∣ b:=by
 have h:((Int.gcd a b:Nat):Int) ∣ b:=Int.gcd_dvd_right a b;unfold dv;split
 .exact Int.neg_dvd.mpr h
 .exact h
def wO{a d q:Int}(hd:d≠0)(h:a=d*q):a.fdiv d=q:=by rw[h,Qk];exact Int.mul_fdiv_cancel q hd
def T_mul(hb:b≠0):T a b*dv a b=a:=by obtain⟨q,h⟩:=Df a b;have:T a b=q:=wO (dv_ne hb) h;rw[this,Qk];exact h.symm
def B_mul(hb:b≠0):B a b*dv a b=b:=by obtain⟨q,h⟩:=Cq a b;have:B a b=q:=wO (dv_ne hb) h;rw[this,Qk];exact h.symm
def B_pos(hb:b≠0):0<B a b:=by
 have h:=B_mul (a:=a) hb;have hg:=tP (a:=a) hb;generalize hx:B a b=x at h ⊢;unfold dv at h;split at h
 .rename_i hneg;have h2:x*((Int.gcd a b:Nat):Int)=-b:=by rw[Int.mul_neg] at h;omega
  rcases Int.lt_or_le 0 x with z |z
  .exact z
  .have:x*((Int.gcd a b:Nat):Int)<=0:=Int.mul_nonpos_of_nonpos_of_nonneg z (by omega);omega
 .rename_i hpos;rcases Int.lt_or_le 0 x with z |z
  .exact z
  .have:x*((Int.gcd a b:Nat):Int)<=0:=Int.mul_nonpos_of_nonpos_of_nonneg z (by omega);omega
def cross(hb:b≠0):T a b*b=a*B a b:=by have h1:=T_mul (a:=a) hb;have h2:=B_mul (a:=a) hb;generalize T a b=x at *;generalize B a b=y at *;generalize dv a b=d at *;rw[<- h2,<- h1];rw[<- Pz,Ql]
def dv_abs(a b:Int):(dv a b).natAbs=Int.gcd a b:=by unfold dv;split <;> simp
def low(hb:b≠0):Int.gcd (T a b) (B a b)=1:=by
 have h1:=T_mul (a:=a) hb;have h2:=B_mul (a:=a) hb;have hg:=tP (a:=a) hb;have e1:a.natAbs=(T a b).natAbs*Int.gcd a b:=by rw[<- dv_abs a b,<- PX,h1]
 have e2:b.natAbs=(B a b).natAbs*Int.gcd a b:=by rw[<- dv_abs a b,<- PX,h2]
 have e3:Int.gcd a b=Nat.gcd ((T a b).natAbs*Int.gcd a b) ((B a b).natAbs*Int.gcd a b):=by rw[<- e1,<- e2];rfl
 rw[Nat.gcd_mul_right] at e3;show Nat.gcd (T a b).natAbs (B a b).natAbs=1;generalize Nat.gcd (T a b).natAbs (B a b).natAbs=k at *;generalize Int.gcd a b=g at *;have:(1:Nat)*g=k*g:=by omega
 exact (Nat.eq_of_mul_eq_mul_right hg this).symm
def uniq(hy:0<y)(hy':0<y')(h:Int.gcd x y=1)(h':Int.gcd x' y'=1)(e:x*y'=x'*y):x=x'/\y=y':=by
 have c1:Nat.Coprime y.natAbs x.natAbs:=by rw[Nat.coprime_comm];exact h
 have c2:Nat.Coprime y'.natAbs x'.natAbs:=by rw[Nat.coprime_comm];exact h'
 have e1:x.natAbs*y'.natAbs=x'.natAbs*y.natAbs:=by rw[<- PX,<- PX,e]
 have d1:y.natAbs ∣ y'.natAbs:=c1.dvd_of_dvd_mul_left (by rw[e1];exact Nat.dvd_mul_left _ _);have d2:y'.natAbs ∣ y.natAbs:=c2.dvd_of_dvd_mul_left (by rw[<- e1];exact Nat.dvd_mul_left _ _);have ey:y.natAbs=y'.natAbs:=Nat.dvd_antisymm d1 d2;have ey':y=y':=by omega
 subst ey';exact⟨Qd (by omega) e,rfl⟩
def same(hb:b≠0)(hd:d≠0)(e:a*d=c*b):T a b=T c d/\B a b=B c d:=by
 refine uniq (B_pos hb) (B_pos hd) (low hb) (low hd) ?_;have h1:=cross (a:=a) hb;have h2:=cross (a:=c) hd;have hbd:b*d≠0:=PK hb hd;refine Qd hbd ?_
 calc T a b*B c d*(b*d)=(T a b*b)*(B c d*d):=by rw[Pz,P8 (B c d) b d,<- Pz]
  _=(a*B a b)*(B c d*d):=by rw[h1]
  _=(a*d)*(B c d*B a b):=by rw[Pz a,Pz a,P8 (B a b),P8 d,Qk (B a b) d]
  _=(c*b)*(B c d*B a b):=by rw[e]
  _=(c*B c d)*(B a b*b):=by rw[Pz c,Pz c,P8 b,Qk b (B a b)]
  _=(T c d*d)*(B a b*b):=by rw[<- h2]
  _=T c d*B a b*(b*d):=by rw[Pz,Pz,P8 d,Qk d b]
def self(hb:0<b)(h:Int.gcd a b=1):T a b=a/\B a b=b:=
 uniq (B_pos (by omega)) hb (low (by omega)) h (cross (by omega))
def euc(m n:Nat):Nat.gcd n (m % n)=Nat.gcd m n:=by rw[Nat.gcd_comm,<- Nat.gcd_rec,Nat.gcd_comm]
end Fr
set_option maxHeartbeats 1000000
namespace L2
open PySem PySem.Spec PyProof.Rows
def Inv.turnedL{X:Cx}{pins:Rb}{σ:St}{H:Hp}{s:Shared}{h':Heap}{t':Nat}{ch:List Addr}(I:Inv X pins σ H s)(k:∀b o,b∉ch->s.heap.get? b=some o->h'.get? b=some o)(hf:∀b∈ch,FpOk X pins H b):Inv X pins σ H { s with heap:=h',toks:=t' }:=by
 have away:∀b u,H b=some u->b∉ch:=λb u e z=>by have:=(hf b z).1;rw[e] at this;cases this
 refine I.step (g':=s.gens) (d':=s.drawn) (ch:=ch) (λb hb=>⟨(hf b hb).2.2.2.1,(hf b hb).2.1,(hf b hb).2.2.2.2.1,(hf b hb).2.2.2.2.2⟩) (λb o _ _ hc e _=>k b o hc e) (λb o _ _ hc e _=>⟨o.slots,k b o hc e⟩) (λ_ _ _ _ n=>n)
  (λb o hc e=>⟨o,k b o hc e⟩) (λ_ _ e=>e) (λ_ _ _ e=>e) (λb ps e=>⟨#[],by rw[e];simp⟩) (λm hm=>?_) (λb u e=>?_) I.bare
 .obtain⟨o,es,ep,ho,r⟩:=hm;exact⟨o,es,ep,k _ o (λz=>(hf _ z).2.1 rfl) ho,r⟩
 .refine (I.hok b u e).stay (λc v hc q=>k c v ?_ q) (λ_ q=>q) λ_ _ q=>q;rcases hc with z |z
  .rw[z];exact away b u e
  .exact away c _ z
def FpOk.up(f:FpOk X pins H b)(hn:b≠p):FpOk X pins (upd H p o) b:=⟨by rw[bO hn];exact f.1,f.2⟩
def pI(hj:s.heap.IsTupleIter j t n)(ht:s.heap.IsTuple t its)(hv:its[n]?=some v)
 (k:∀h',h'.IsTupleIter j t (n+1)->Heap.SameBut j s.heap h'->Q v { s with heap:=h' }):wpAny (model prog w) A (Builtin.SmallTypes.nextOf (.ref j)) Q E s:=by
 obtain⟨oj,ej,cj,dj⟩:=id hj;obtain⟨ot,et,_,m,dt⟩:=ht;unfold Builtin.SmallTypes.nextOf;refine v_ (PB (name:=Str.ofString "__next__") hj.typeIs PQ (Qc PQ hj.typeIs F.entry_tuple_iterator_next ?_ (F.args_tuple_iterator_next_1 _)));show wpAny _ _ (field (.ref j) 0 >>= _) _ _ s;refine v_ (Pd ej dj (x:=.ref t) rfl ?_);show wpAny _ _ (if (Value.ref t==Value.none)=true then _ else _) _ _ s;rw[if_neg (show ¬ ((Value.ref t==Value.none)=true) from z_)];show wpAny _ _ (field (.ref j) 1 >>= _) _ _ s;refine v_ (Pd ej dj (x:=.int n 0) rfl ?_);show wpAny _ _ (seqItems? (.ref t) >>= _) _ _ s;refine v_ (PF et dt ?_);simp only[Qq,hv];refine v_ (wpAny_setField ej dj (by simp) (E_ ⟨v,rfl,E_ (k _ ?_ (Heap.SameBut.update ..))⟩));exact⟨_,Heap.get?_update_self _ ej (Obj.isFreed_of_fields (Obj.data_mapFields dj _)),(Obj.cls_mapFields ..).trans cj,by rw[Obj.data_mapFields dj];simp [rawInt]⟩
def kh(hh:A.handled=none)(hj:s.heap.IsTupleIter j t n)(ht:s.heap.IsTuple t its)(hv:its[n]?=none)
 (k:∀h' e,Heap.ExtBut j s.heap h'->(∃o,h'.get? e=some o/\o.cls=.type "StopIteration")->E (.ref e) { s with heap:=h' }):wpAny (model prog w) A (Builtin.SmallTypes.nextOf (.ref j)) Q E s:=by
 obtain⟨oj,ej,cj,dj⟩:=id hj;obtain⟨ot,et,_,m,dt⟩:=ht;unfold Builtin.SmallTypes.nextOf;refine v_ (PB (name:=Str.ofString "__next__") hj.typeIs PQ (Qc PQ hj.typeIs F.entry_tuple_iterator_next ?_ (F.args_tuple_iterator_next_1 _)));show wpAny _ _ (field (.ref j) 0 >>= _) _ _ s;refine v_ (Pd ej dj (x:=.ref t) rfl ?_);show wpAny _ _ (if (Value.ref t==Value.none)=true then _ else _) _ _ s;rw[if_neg (show ¬ ((Value.ref t==Value.none)=true) from z_)];show wpAny _ _ (field (.ref j) 1 >>= _) _ _ s;refine v_ (Pd ej dj (x:=.int n 0) rfl ?_);show wpAny _ _ (seqItems? (.ref t) >>= _) _ _ s;refine v_ (PF et dt ?_);simp only[Qq,hv];refine v_ (wpAny_rule (v_ (wpAny_setField ej dj (by simp) ?_)));show wpAny _ _ (newExc (.type "StopIteration") [] >>= _) _ _ _;refine v_ ?_;simp only[newExc,newTuple];refine v_ (Pn ?_ (by size_fits));refine v_ (m:=firstArgMember _ _) (wpAny_of_eq (a:=Value.none) (by first |rfl |(simp only[firstArgMember];rfl)) ?_);refine Pn ?_ (by size_fits);simp only[raiseNew];refine v_ (wpAny_handled ?_);first |rw[show A.in1.handled=none from hh] |rw[hh]
 refine v_ (E_ (wpAny_throw ?_));exact k _ _ (((Heap.SameBut.update ..).extBut.push _).push _) ⟨_,M_ _ rfl,rfl⟩
def IT(hh:A.handled=none)(j t:Addr)(ne:t≠j)(its:Array Value):Draws prog w A j [j,t] its.size (λi v=>its[i]?=some v) (λi h=>h.IsTupleIter j t i/\h.IsTuple t its) where
 live:=λ_ _ z=>let ⟨o,e,_⟩:=z.1;⟨o,e⟩
 frame:=λ_ _ _ z k=>⟨z.1.at λo e=>k j (by simp) o e,let ⟨o,e,r⟩:=z.2;⟨o,k t (by simp) o e,r⟩⟩
 item:=λi s Q E hi z k=>pI z.1 z.2 (v:=its[i]) (by simp [hi]) λh' z' sb=>k _ h' s.toks (by simp [hi]) ⟨z',let ⟨o,e,r⟩:=z.2;⟨o,(sb.2 t ne).trans e,r⟩⟩ sb
 done:=λs Q E z k=>kh hh z.1 z.2 (by simp) k
def AL(l:Addr)(its:Array Value)(n:Nat)(dc:Option Addr)(sl:Array (Option Value)):
 Meets (Builtin.«enumerate.__new__» ⟨[.type "enumerate",.ref l],[]⟩) (λ_ R s=>s.heap.get? l=some { cls:=.type "tuple",dict:=dc,data:=.seq its n,slots:=sl }/\
  R
   (.ok (.ret (.ref (s.heap.push { cls:=.type "tuple_iterator",data:=.fields #[.ref l,.int 0 0] }).objs.size)))
   { s with heap:=(s.heap.push { cls:=.type "tuple_iterator",data:=.fields #[.ref l,.int 0 0] }).push { cls:=.type "enumerate",data:=.fields #[.none,.bool false,.ref s.heap.objs.size,rawInt 0,.none,.none] } }):=
 .of_wp λprog w A R s h=>by
  obtain⟨hp,g,d,tk,os⟩:=s;obtain⟨hl,h⟩:=h;have f_:=sub_enumerate;have hT:Heap.IsTuple (Shared.heap ⟨hp,g,d,tk,os⟩) l its:=⟨_,hl,rfl,n,rfl⟩
  wp_walk using Qj hl
  refine wpAny_stack_any λst=>E_ ?_;split
  .rename_i c _ _ _ _ _;cases (c==Value.type "enumerate") <;> (wp_walk using Qj hl,Qo hT;exact⟨_,rfl,h⟩)
  .wp_walk using Qj hl,Qo hT;exact⟨_,rfl,h⟩
def xU(hT:s.heap.IsTuple l its)
 (k:∀h',IsEnum h' (s.heap.objs.size+1) s.heap.objs.size 0 .none->h'.IsTupleIter s.heap.objs.size l 0->h'.objs.size=s.heap.objs.size+2->(∀b o,s.heap.get? b=some o->h'.get? b=some o)->Q (.ref (s.heap.objs.size+1)) { s with heap:=h' }):
 wpAny (model prog w) A (call (.type "enumerate") [.ref l]) Q E s:=by
 obtain⟨⟨c,dc,dt,sl⟩,hl,hc,n,hd⟩:=hT;have hc':c=.type "tuple":=hc;have hd':dt=.seq its n:=hd;subst hc' hd';refine callType_new F.called_enumerate (by decide) (F.typeCall_enumerate_1 _) (F.newCall_enumerate_1 _) (λobj=>F.args_object_init_2 obj _) F.entry_enumerate_new (AL l its n dc sl) ⟨hl,?_⟩;have z1:(s.heap.push { cls:=.type "tuple_iterator",data:=.fields #[.ref l,.int 0 0] }).objs.size=s.heap.objs.size+1:=PV ..;show _/\_;rw[z1];have he:IsEnum ((s.heap.push { cls:=.type "tuple_iterator",data:=.fields #[.ref l,.int 0 0] }).push { cls:=.type "enumerate",data:=.fields #[.none,.bool false,.ref s.heap.objs.size,rawInt 0,.none,.none] }) (s.heap.objs.size+1) s.heap.objs.size 0 .none:=by have z2:=M_ (s.heap.push { cls:=.type "tuple_iterator",data:=.fields #[.ref l,.int 0 0] }) (o:={ cls:=.type "enumerate",data:=.fields #[.none,.bool false,.ref s.heap.objs.size,rawInt 0,.none,.none] }) rfl;rw[z1] at z2;exact z2
 exact⟨⟨_,he,rfl⟩,k _ he ⟨_,D_ _ (M_ _ rfl),rfl,rfl⟩ (by rw[PV,z1]) λb o x=>D_ _ (D_ _ x)⟩
def SqB(K:W.Frag)(b:Bool)(H:Hp)(a:Addr)(xs:List V):Prop:=match b with
 |true=>SqL K H a xs
 |false=>SqT K H a xs
def ItB(b:Bool)(h:Heap)(j a:Addr)(i:Nat):Prop:=match b with
 |true=>h.IsListIter j a i
 |false=>h.IsTupleIter j a i
def SqB.inj(I:Inv X pins σ H s)(x:SqB X.K b H a xs)(y:SqB X.K b H a ys):xs=ys:=by
 cases b with
 |true=>exact I.list_inj x y
 |false=>exact I.tuple_inj x y
noncomputable def CZ(K:W.Frag)(b:Bool)(a:Addr):It:=
 ⟨λi H=>∃xs x,SqB K b H a xs/\xs[i]?=some x,λi H x H'=>∃p u,x=.ref p/\H p=none/\H'=upd H p (.tup [.int (i:Nat),u])/\∀xs,SqB K b H a xs->xs[i]?=some u,λi H=>∃xs,SqB K b H a xs/\xs.length=i⟩
def xA(I:Inv X pins σ H s)(hh:X.A.handled=none)(hq:SqB X.K b H a xs)(hj:ItB b s.heap j a i):
 ∃(its:List Value) (St:Nat->Heap->Prop),Vals xs its/\Draws X.prog X.w X.A.in1 j [j,a] its.length (λi v=>its[i]?=some v) St/\St i s.heap/\(∀i h,St i h->ItB b h j a i)/\∃o n,s.heap.get? a=some o/\o.cls=.type (if b then "list" else "tuple")/\o.data=.seq its.toArray n:=by
 cases b with
 |
  true=>
  obtain⟨its,rv,p,hz⟩:=I.list hq;obtain⟨o,n,e,c,d,ds⟩:=p;have hL:s.heap.IsList a its.toArray:=⟨o,e,c,n,ds⟩;have hj':s.heap.IsListIter j a i:=hj;have ne:a≠j:=λz=>by subst z;obtain⟨o',e',c',_⟩:=hj';rw[e] at e';cases e';rw[c] at c';exact absurd (Value.type.inj c') (by decide)
  have D:=Draws.list (prog:=X.prog) (w:=X.w) (A:=X.A.in1) hh j a ne its.toArray;refine⟨its,λi h=>h.IsListIter j a i/\h.IsList a its.toArray,rv,?_,⟨hj',hL⟩,λ_ _ z=>z.1,o,n,e,c,ds⟩;have e1:its.toArray.size=its.length:=by simp
  have e2:(λ(i:Nat) (v:Value)=>its.toArray[i]?=some v)=λi v=>its[i]?=some v:=by funext i v;simp
  rw[e1,e2] at D;exact D
 |
  false=>
  obtain⟨its,rv,p,hz⟩:=I.tuple hq;have hT:s.heap.IsTuple a its.toArray:=p;obtain⟨o,e,c,n,ds⟩:=id hT;have hj':s.heap.IsTupleIter j a i:=hj;have ne:a≠j:=λz=>by subst z;obtain⟨o',e',c',_⟩:=hj';rw[e] at e';cases e';rw[c] at c';exact absurd (Value.type.inj c') (by decide)
  have D:=IT (prog:=X.prog) (w:=X.w) (A:=X.A.in1) hh j a ne its.toArray;refine⟨its,λi h=>h.IsTupleIter j a i/\h.IsTuple a its.toArray,rv,?_,⟨hj',hT⟩,λ_ _ z=>z.1,o,n,e,c,ds⟩;have e1:its.toArray.size=its.length:=by simp
  have e2:(λ(i:Nat) (v:Value)=>its.toArray[i]?=some v)=λi v=>its[i]?=some v:=by funext i v;simp
  rw[e1,e2] at D;exact D
def jb(z:ItB b h j a i):∃o,h.get? j=some o/\(∀v,o.data ≠ .cell v)/\o.cls=.type (if b then "list_iterator" else "tuple_iterator"):=by
 cases b with
 |true=>obtain⟨o,e,c,d⟩:=z;exact⟨o,e,(λv y=>by rw[d] at y;cases y),c⟩
 |false=>obtain⟨o,e,c,d⟩:=z;exact⟨o,e,(λv y=>by rw[d] at y;cases y),c⟩
def cN(z:ItB b h j a i)(k:∀o,h.get? j=some o->h'.get? j=some o):ItB b h' j a i:=by
 cases b with
 |true=>obtain⟨o,e,r⟩:=z;exact⟨o,k o e,r⟩
 |false=>obtain⟨o,e,r⟩:=z;exact⟨o,k o e,r⟩
def zH{P:Program}{w:World}{K:W.Frag}{elts:List Expr}{x1:Nat}{tp:Pos}(b:Bool)(a e j:Addr)(hej:e≠j):Turn P w K (.Tuple elts x1 tp) (CZ K b a) [e,j] e (λi h=>(∃old,IsEnum h e j ((i:Nat):Int) old)/\ItB b h j a i) where
 mem:=by simp
 obj
  := λi h st c hc=>by
  rcases OP.mp hc with rfl |hc
  .obtain⟨old,he⟩:=st.1;exact⟨_,he,λv z=>by cases z⟩
  .have:c=j:=by simpa using hc
   subst this;obtain⟨o,q1,q2,_⟩:=jb st.2;exact⟨o,q1,q2⟩
 keep:=λi h h' st k=>⟨let ⟨old,he⟩:=st.1;⟨old,k e (by simp) _ he⟩,cN st.2 λo q=>k j (by simp) o q⟩
 item:=
  by
  intro X hP hw hK hc i pins s σ H E I hf st hg;subst hP hw hK;obtain⟨xs,x,hq,hx⟩:=hg;obtain⟨⟨old,he⟩,hj⟩:=st;obtain⟨its,St,rv,D,hst,hSt,oa,na,ea,ca,da⟩:=xA I (I.ok.hd hc) hq hj;obtain⟨u,hu,ru⟩:=rv.get hx;have hlt:i<its.length:=(x_.mp hu).1;have hea:e≠a:=λz=>by subst z;rw[he] at ea;cases ea;cases b <;> exact absurd (Value.type.inj ca) (by decide)
  refine wpAny_pyNext_enum_itemD D he hst hlt hej (by simp [hej,hea]) λy h' tk hy heo hst' ht hsz hk=>?_;have:y=u:=by rw[hu] at hy;exact (OQ hy).symm
  subst this;refine⟨_,rfl,wpAny_letOwnedTupleGo_enum (s:={ s with heap:=h',toks:=tk+1 }) heo λh2 he2 sb=>?_⟩;have hT:H s.heap.objs.size=none:=I.hok.fresh (y_ _);have hef:=Em he;obtain⟨oj,q1,_,_⟩:=jb hj;have hjf:=Em q1;have I1:Inv X pins σ (upd H s.heap.objs.size (.tup [.int (i:Nat),x])) { s with heap:=s.heap.push { cls:=.type "tuple",data:=.seq #[.int (i:Nat) tk,y] },toks:=s.toks }:=
   I.laid (t':=s.toks) (λc o q=>D_ _ q) (y_ _) ⟨by show 2<=sizeLine;decide,[.int (i:Nat) tk,y],.cons ⟨tk,rfl⟩ (.cons ru .nil),⟨_,M_ _ rfl,rfl,_,rfl⟩⟩
  have sb':Heap.SameBut e h' h2:=sb;have I2:Inv X pins σ (upd H s.heap.objs.size (.tup [.int (i:Nat),x])) { s with heap:=h2,toks:=tk+1 }:=
   Inv.turnedL (s:={ s with heap:=s.heap.push { cls:=.type "tuple",data:=.seq #[.int (i:Nat) tk,y] },toks:=s.toks }) (ch:=[e,j]) (t':=tk+1) I1 (λc o hc' q=>by
    have c1:c≠e:=λz=>hc' (by simp [z]);have c2:c≠j:=λz=>hc' (by simp [z]);rw[sb'.2 c c1];by_cases z:c=s.heap.objs.size
    .subst z;have q':(s.heap.push { cls:=.type "tuple",data:=.seq #[.int (i:Nat) tk,y] }).get? s.heap.objs.size=some o:=q;rw[M_ _ rfl] at q';cases q';exact ht
    .refine hk c o c1 c2 ?_;have q':(s.heap.push { cls:=.type "tuple",data:=.seq #[.int (i:Nat) tk,y] }).get? c=some o:=q;rw[Heap.get?_push_ne _ _ _ z] at q';exact q') λc hc'=>by
    rcases OP.mp hc' with rfl |hc'
    .exact (hf c (by simp)).up (OU hef)
    .have:c=j:=by simpa using hc'
     subst this;exact (hf c (by simp)).up (OU hjf)
  refine⟨.ref s.heap.objs.size,_,I2,rfl,⟨_,x,rfl,hT,rfl,λys hy'=>by rw[SqB.inj I hy' hq];exact hx⟩,⟨⟨y,he2⟩,cN (hSt _ _ hst') λo q=>(sb'.2 j (Ne.symm hej)).trans q⟩,λc hc'=>?_⟩;rcases OP.mp hc' with rfl |hc'
  .exact ((hf c (by simp)).up (OU hef)).1
  .have:c=j:=by simpa using hc'
   subst this;exact ((hf c (by simp)).up (OU hjf)).1
 done:=by
  intro X hP hw hK hc i pins s σ H E I hf st hg;subst hP hw hK;obtain⟨xs,hq,hx⟩:=hg;obtain⟨⟨old,he⟩,hj⟩:=st;obtain⟨its,St,rv,D,hst,hSt,oa,na,ea,ca,da⟩:=xA I (I.ok.hd hc) hq hj;have hl:=rv.length;subst hx;rw[hl] at hst;refine wpAny_pyNext_enum_endD D he hst λh' eb=>⟨rfl,Inv.turnedL (ch:=[j]) (t':=s.toks) I (λc o hc' q=>eb c o (λz=>hc' (by simp [z])) q) λc hc'=>?_⟩;have:c=j:=by simpa using hc'
  subst this;exact hf c (by simp)
 self:=λ_ _ _ _ _ st h=>let ⟨_,he⟩:=st.1;wpAny_pyIter_enum he h
def FV(hg:Gl X "enumerate")(hm:X.mg "enumerate"=none)(ha:PA X [l] tl)(hs:starEach [l] X.env=[(false,eval l X.env)]):
 PI X (.Tuple elts x1 tp) (.Call (.Name "enumerate" p) [l] [] pos) (λσ H R=>tl σ H λvs H1=>∃(b:Bool) (a:Addr) (xs:List V),vs=[.ref a]/\SqB X.K b H1 a xs/\R (CZ X.K b a) H1):=by
 intro pins s σ H R I h;refine Call_ (gR I hg hm boot_enumerate (O8 (thn (ha pos pins s σ H _ I h) λus s1 ⟨vs,H1,I1,r1,q1⟩=>?_) hs rfl));obtain⟨b,a,xs,e,hq,q⟩:=q1;subst e;cases r1 with
 |
  cons r rr=>
  cases rr;cases r;have i_:∀h',IsEnum h' (s1.heap.objs.size+1) s1.heap.objs.size 0 .none->ItB b h' s1.heap.objs.size a 0->(∀c o,s1.heap.get? c=some o->h'.get? c=some o)->
   wpAny (model X.prog X.w) X.A (pyIter (.ref (s1.heap.objs.size+1))) (PIE X pins σ (.Tuple elts x1 tp) R) X.xe { s1 with heap:=h' }:=λh' he hj hk=>by
   refine wpAny_pyIter_enum he ⟨s1.heap.objs.size+1,[s1.heap.objs.size+1,s1.heap.objs.size],_,_,H1,rfl,I1.kept (t':=s1.toks) λc o z=>hk c o z,zH b a _ _ (Nat.succ_ne_self _),⟨⟨.none,he⟩,hj⟩,λc hc=>?_,q⟩;rcases OP.mp hc with rfl |hc
   .exact I1.fpOk (Nat.le_succ _) (I1.hok.fresh (Nat.le_succ _))
   .have:c=s1.heap.objs.size:=by simpa using hc
    subst this;exact I1.fpOk (y_ _) (I1.hok.fresh (y_ _))
  cases b with
  |true=>obtain⟨its,rv,pp,hz⟩:=I1.list hq;exact call_enumerate_list pp.isList λh' he hit _ hk=>i_ h' he hit hk
  |false=>obtain⟨its,rv,pp,hz⟩:=I1.tuple hq;exact xU (show s1.heap.IsTuple a its.toArray from pp) λh' he hit _ hk=>i_ h' he hit hk
def LsB(b:Bool)(h:Heap)(a:Addr)(its:Array Value):Prop:=match b with
 |true=>h.IsList a its
 |false=>h.IsTuple a its
def LsB.keep(z:LsB b h a its)(k:∀o,h.get? a=some o->h'.get? a=some o):LsB b h' a its:=by cases b <;> (obtain⟨o,e,r⟩:=z;exact⟨o,k o e,r⟩)
def zg(hj:ItB b s.heap j a n)(ht:LsB b s.heap a its)(hv:its[n]?=some v)
 (k:∀h',ItB b h' j a (n+1)->Heap.SameBut j s.heap h'->Q v { s with heap:=h' }):wpAny (model prog w) A (Builtin.SmallTypes.nextOf (.ref j)) Q E s:=by
 cases b with
 |true=>exact wpAny_nextOf_list_item hj ht hv k
 |false=>exact pI hj ht hv k
def rQ(hh:A.handled=none)(hj:ItB b s.heap j a n)(ht:LsB b s.heap a its)(hv:its[n]?=none)
 (k:∀h' e,Heap.ExtBut j s.heap h'->(∃o,h'.get? e=some o/\o.cls=.type "StopIteration")->E (.ref e) { s with heap:=h' }):wpAny (model prog w) A (Builtin.SmallTypes.nextOf (.ref j)) Q E s:=by
 cases b with
 |true=>exact wpAny_nextOf_list_end hh hj ht hv k
 |false=>exact kh hh hj ht hv k
section
variable{prog:Program}{w:World}{A:Around}{E:Rf}{s:Shared}{b1 b2:Bool}{z p q j1 j2 a1 a2:Addr}{n:Nat}{xs ys:Array Value}{x y u v:Value}
def zipN{Q:Rf}(D:ZipApart z p q j1 j2 a1 a2)(hz:IsZip s.heap z p q .none)(hp:IsPair s.heap p (.ref j1) (.ref j2))(hq:IsPair s.heap q u v)
 (i1:ItB b1 s.heap j1 a1 n) (i2:ItB b2 s.heap j2 a2 n) (l1:LsB b1 s.heap a1 xs) (l2:LsB b2 s.heap a2 ys) (ex:xs[n]?=some x) (ey:ys[n]?=some y)
 (k:∀h',IsZip h' z p q (rawInt s.heap.objs.size)->IsPair h' q x y->ItB b1 h' j1 a1 (n+1)->ItB b2 h' j2 a2 (n+1)->IsPair h' s.heap.objs.size x y->(∀c o,c≠z->c≠q->c≠j1->c≠j2->s.heap.get? c=some o->h'.get? c=some o)->Q (.ref s.heap.objs.size) { s with heap:=h' }):
 wpAny (model prog w) A (Builtin.«zip.__next__» ⟨[.ref z],[]⟩) (λi_ s'=>∃v,i_=.done (.ret v)/\Q v s') E s:=by
 show wpAny _ _ (field (.ref z) 2 >>= _) _ _ _;refine v_ (Pd hz rfl (x:=.bool false) rfl ?_);show wpAny _ _ (field (.ref z) 3 >>= _) _ _ _;refine v_ (Pd hz rfl (x:=.ref p) rfl ?_);refine v_ (PF hp rfl ?_);show wpAny _ _ (Builtin.SmallTypes.ownedTupleIsFree (.ref z) >>= _) _ _ _;refine v_ ?_;unfold Builtin.SmallTypes.ownedTupleIsFree;refine v_ (Pd hz rfl (x:=.none) rfl (E_ ?_));simp only[PY];refine v_ (wpAny_rule ?_);refine v_ (Pd hz rfl (x:=.ref q) rfl ?_);refine v_ (PJ hz (by simp) λg1 (y1:IsZip g1 z p q .ellipsis) t1=>?_);refine v_ ?_;simp only[List.zipIdx_cons,List.zipIdx_nil,QF,QQ];refine v_ (v_ (QW ?_));show wpAny _ _ (Builtin.SmallTypes.nextOf (.ref j1) >>= _) _ _ _;refine v_ (zg (cN i1 λo e=>t1.extBut _ _ D.i1z e) (l1.keep λo e=>t1.extBut _ _ D.l1z e) ex λg2 m1 t2=>E_ ?_);have q2:IsPair g2 q u v:=t2.extBut _ _ D.TOi1 (t1.extBut _ _ D.TOz hq);refine v_ (PF q2 rfl ?_);refine v_ (QN q2 λg3 (q3:IsPair g3 q x v) t3=>?_);refine v_ (wpAny_letGo (E_ ?_));refine v_ (v_ (QW ?_));show wpAny _ _ (Builtin.SmallTypes.nextOf (.ref j2) >>= _) _ _ _;refine v_ (zg (cN i2 λo e=>t3.extBut _ _ D.TOi2.symm (t2.extBut _ _ D.i12.symm (t1.extBut _ _ D.i2z e))) (l2.keep λo e=>t3.extBut _ _ D.l2TO (t2.extBut _ _ D.l2i1 (t1.extBut _ _ D.l2z e))) ey λg4 m2 t4=>E_ ?_);have q4:IsPair g4 q x v:=t4.extBut _ _ D.TOi2 q3;refine v_ (PF q4 rfl ?_);refine v_ (QN q4 λg5 (q5:IsPair g5 q x y) t5=>?_);refine v_ (wpAny_letGo (E_ (E_ ?_)));refine v_ (PF q5 rfl ?_);refine v_ (wpAny_newTuple ?_);have sz:g5.objs.size=s.heap.objs.size:=by rw[t5.1,t4.1,t3.1,t2.1,t1.1]
 have y5:IsZip g5 z p q .ellipsis:=t5.extBut _ _ D.TOz.symm (t4.extBut _ _ D.i2z.symm (t3.extBut _ _ D.TOz.symm (t2.extBut _ _ D.i1z.symm y1)));have all5:∀c o,c≠z->c≠q->c≠j1->c≠j2->s.heap.get? c=some o->g5.get? c=some o:=λc o c1 c2 c3 c4 e=>t5.extBut _ _ c2 (t4.extBut _ _ c4 (t3.extBut _ _ c2 (t2.extBut _ _ c3 (t1.extBut _ _ c1 e))));have n1:ItB b1 g5 j1 a1 (n+1):=cN m1 λo e=>t5.extBut _ _ D.TOi1.symm (t4.extBut _ _ D.i12 (t3.extBut _ _ D.TOi1.symm e));have n2:ItB b2 g5 j2 a2 (n+1):=cN m2 λo e=>t5.extBut _ _ D.TOi2.symm e;have zl:z<g5.objs.size:=Em y5;show wpAny _ _ (Builtin.SmallTypes.ownedTupleHandOut (.ref z) (.ref g5.objs.size) >>= _) _ _ _;refine v_ ?_;unfold Builtin.SmallTypes.ownedTupleHandOut;have y6:IsZip (g5.push { cls:=.type "tuple",data:=.seq #[x,y] }) z p q .ellipsis:=D_ _ y5;refine v_ (PJ y6 (by simp) λg7 (y7:IsZip g7 z p q (rawInt g5.objs.size)) t7=>?_);refine PJ y7 (by simp) λg8 (y8:IsZip g8 z p q (rawInt g5.objs.size)) t8=>?_;have up:∀c o,c≠z->g5.get? c=some o->g8.get? c=some o:=λc o c1 e=>t8.extBut _ _ c1 (t7.extBut _ _ c1 (D_ _ e));have w8:IsPair g8 g5.objs.size x y:=t8.extBut _ _ (Qm zl) (t7.extBut _ _ (Qm zl) (M_ _ rfl));rw[sz] at y8 w8;refine E_ ⟨_,rfl,?_⟩;show Q (.ref g5.objs.size) _;rw[sz];exact k g8 y8 (up _ _ D.TOz q5) (cN n1 λo e=>up _ o D.i1z e) (cN n2 λo e=>up _ o D.i2z e) w8 λc o c1 c2 c3 c4 e=>up c o c1 (all5 c o c1 c2 c3 c4 e)
def Dw(hh:A.handled=none)(D:ZipApart z p q j1 j2 a1 a2)(hz:IsZip s.heap z p q .none)(hp:IsPair s.heap p (.ref j1) (.ref j2))(hq:IsPair s.heap q u v)
 (i1:ItB b1 s.heap j1 a1 n) (i2:ItB b2 s.heap j2 a2 n) (l1:LsB b1 s.heap a1 xs) (l2:LsB b2 s.heap a2 ys) (en:xs[n]?=none\/ys[n]?=none)
 (k:∀h' e,(∀c o,c≠z->c≠q->c≠j1->c≠j2->s.heap.get? c=some o->h'.get? c=some o)->(∃o,h'.get? e=some o/\o.cls=.type "StopIteration")->E (.ref e) { s with heap:=h' }):wpAny (model prog w) A (Builtin.«zip.__next__» ⟨[.ref z],[]⟩) Q E s:=by
 show wpAny _ _ (field (.ref z) 2 >>= _) _ _ _;refine v_ (Pd hz rfl (x:=.bool false) rfl ?_);show wpAny _ _ (field (.ref z) 3 >>= _) _ _ _;refine v_ (Pd hz rfl (x:=.ref p) rfl ?_);refine v_ (PF hp rfl ?_);show wpAny _ _ (Builtin.SmallTypes.ownedTupleIsFree (.ref z) >>= _) _ _ _;refine v_ ?_;unfold Builtin.SmallTypes.ownedTupleIsFree;refine v_ (Pd hz rfl (x:=.none) rfl (E_ ?_));simp only[PY];refine v_ (wpAny_rule ?_);refine v_ (Pd hz rfl (x:=.ref q) rfl ?_);refine v_ (PJ hz (by simp) λg1 (y1:IsZip g1 z p q .ellipsis) t1=>?_);refine v_ ?_;simp only[List.zipIdx_cons,List.zipIdx_nil,QF,QQ];refine v_ (v_ (QW ?_));show wpAny _ _ (Builtin.SmallTypes.nextOf (.ref j1) >>= _) _ _ _;cases ex:xs[n]? with
 |
  none=>
  refine v_ (rQ hh (cN i1 λo e=>t1.extBut _ _ D.i1z e) (l1.keep λo e=>t1.extBut _ _ D.l1z e) ex λg2 e t2 ⟨oe,he,ce⟩=>?_);have y2:IsZip g2 z p q .ellipsis:=t2 _ _ D.i1z.symm y1;have ez:e≠z:=λw=>by subst w;rw[y2] at he;cases he;simp at ce
  exact PJ y2 (by simp) λg3 _ t3=>k g3 e (λc o c1 _ c3 _ w=>t3.extBut _ _ c1 (t2 _ _ c3 (t1.extBut _ _ c1 w))) ⟨oe,t3.extBut _ _ ez he,ce⟩
 |
  some x=>
  have ey:ys[n]?=none:=en.resolve_left λw=>by rw[ex] at w;cases w
  refine v_ (zg (cN i1 λo e=>t1.extBut _ _ D.i1z e) (l1.keep λo e=>t1.extBut _ _ D.l1z e) ex λg2 m1 t2=>E_ ?_);have q2:IsPair g2 q u v:=t2.extBut _ _ D.TOi1 (t1.extBut _ _ D.TOz hq);refine v_ (PF q2 rfl ?_);refine v_ (QN q2 λg3 q3 t3=>?_);refine v_ (wpAny_letGo (E_ ?_));refine v_ (v_ (QW ?_));show wpAny _ _ (Builtin.SmallTypes.nextOf (.ref j2) >>= _) _ _ _;refine v_ (rQ hh (cN i2 λo e=>t3.extBut _ _ D.TOi2.symm (t2.extBut _ _ D.i12.symm (t1.extBut _ _ D.i2z e))) (l2.keep λo e=>t3.extBut _ _ D.l2TO (t2.extBut _ _ D.l2i1 (t1.extBut _ _ D.l2z e))) ey λg4 e t4 ⟨oe,he,ce⟩=>?_);have y4:IsZip g4 z p q .ellipsis:=t4 _ _ D.i2z.symm (t3.extBut _ _ D.TOz.symm (t2.extBut _ _ D.i1z.symm y1));have ez:e≠z:=λw=>by subst w;rw[y4] at he;cases he;simp at ce
  exact PJ y4 (by simp) λg5 _ t5=>k g5 e (λc o c1 c2 c3 c4 w=>t5.extBut _ _ c1 (t4 _ _ c4 (t3.extBut _ _ c2 (t2.extBut _ _ c3 (t1.extBut _ _ c1 w))))) ⟨oe,t5.extBut _ _ ez he,ce⟩
end
noncomputable def CN(b:Bool):String:=if b then "list_iterator" else "tuple_iterator"
def wz(h:LsB b s.heap a its)(k:Q (.ref s.heap.objs.size) { s with heap:=s.heap.push { cls:=.type (CN b),data:=.fields #[.ref a,.int 0 0] } }):wpAny (model prog w) A (pyIter (.ref a)) Q E s:=by
 cases b with
 |true=>exact wpAny_pyIter_list h k
 |false=>exact Qo h k
abbrev zp1(h:Heap)(b:Bool)(a:Addr):Heap:=h.push { cls:=.type (CN b),data:=.fields #[.ref a,.int 0 0] }
abbrev zp2(h:Heap)(b c:Bool)(a d:Addr):Heap:=zp1 (zp1 h b a) c d
abbrev zp3(h:Heap)(b c:Bool)(a d:Addr):Heap:=(zp2 h b c a d).push { cls:=.type "tuple",data:=.seq #[.ref h.objs.size,.ref (zp1 h b a).objs.size] }
abbrev zp4(h:Heap)(b c:Bool)(a d:Addr):Heap:=(zp3 h b c a d).push { cls:=.type "tuple",data:=.seq #[.none,.none] }
abbrev zp5(h:Heap)(b c:Bool)(a d:Addr):Heap:=(zp4 h b c a d).push { cls:=.type "zip",data:=.fields #[.none,.bool false,.bool false,.ref (zp2 h b c a d).objs.size,.ref (zp3 h b c a d).objs.size] }
def Bn(b c:Bool)(a d:Addr)(xs ys:Array Value):Meets (Builtin.«zip.__new__» ⟨[.type "zip",.ref a,.ref d],[]⟩) (λ_ R s=>LsB b s.heap a xs/\LsB c s.heap d ys/\R (.ok (.ret (.ref (zp4 s.heap b c a d).objs.size))) { s with heap:=zp5 s.heap b c a d }):=
 .of_wp λprog w A R s h=>by
  obtain⟨hp,g,dr,tk,os⟩:=s;obtain⟨la,ld,h⟩:=h;have f_:=sub_zip;have L1:LsB b (Shared.heap ⟨hp,g,dr,tk,os⟩) a xs:=la;have L2':LsB c (Shared.heap ⟨hp.push { cls:=.type (CN b),data:=.fields #[.ref a,.int 0 0] },g,dr,tk,os⟩) d ys:=ld.keep λo e=>D_ _ e
  wp_walk using wz L1,wz L2'
  exact⟨_,rfl,h⟩
def zA(la:LsB b s.heap a xs)(ld:LsB c s.heap d ys)
 (k:∀h',IsZip h' (s.heap.objs.size+4) (s.heap.objs.size+2) (s.heap.objs.size+3) .none->IsPair h' (s.heap.objs.size+2) (.ref s.heap.objs.size) (.ref (s.heap.objs.size+1))->IsPair h' (s.heap.objs.size+3) .none .none->
  ItB b h' s.heap.objs.size a 0->ItB c h' (s.heap.objs.size+1) d 0->(∀c o,s.heap.get? c=some o->h'.get? c=some o)->Q (.ref (s.heap.objs.size+4)) { s with heap:=h' }):wpAny (model prog w) A (call (.type "zip") [.ref a,.ref d]) Q E s:=by
 refine callType_new F.called_zip (by decide) (F.typeCall_zip_2 _ _) (F.newCall_zip_2 _ _) (λobj=>F.args_object_init_3 obj _ _) F.entry_zip_new (Bn b c a d xs ys) ⟨la,ld,?_⟩;have n1:(zp1 s.heap b a).objs.size=s.heap.objs.size+1:=PV ..;have n2:(zp2 s.heap b c a d).objs.size=s.heap.objs.size+2:=by rw[PV,n1]
 have n3:(zp3 s.heap b c a d).objs.size=s.heap.objs.size+3:=by rw[PV,n2]
 have n4:(zp4 s.heap b c a d).objs.size=s.heap.objs.size+4:=by rw[PV,n3]
 have up:=λ{h:Heap}{x:Addr}{o:Obj} (o':Obj) (e:h.get? x=some o)=>D_ o' e;have e5:(zp5 s.heap b c a d).get? (zp4 s.heap b c a d).objs.size=some _:=M_ _ rfl;have e4:(zp5 s.heap b c a d).get? (zp3 s.heap b c a d).objs.size=some _:=up _ (M_ _ rfl);have e3:(zp5 s.heap b c a d).get? (zp2 s.heap b c a d).objs.size=some _:=up _ (up _ (M_ _ rfl));have e2:(zp5 s.heap b c a d).get? (zp1 s.heap b a).objs.size=some _:=up _ (up _ (up _ (M_ _ rfl)));have e1:(zp5 s.heap b c a d).get? s.heap.objs.size=some _:=up _ (up _ (up _ (up _ (M_ _ rfl))));show _/\_;rw[n2,n3,n4] at e5;rw[n1,n2] at e3;rw[n3] at e4;rw[n1] at e2;rw[n4];have i1:ItB b (zp5 s.heap b c a d) s.heap.objs.size a 0:=by cases b <;> exact⟨_,e1,rfl,rfl⟩
 have i2:ItB c (zp5 s.heap b c a d) (s.heap.objs.size+1) d 0:=by cases c <;> exact⟨_,e2,rfl,rfl⟩
 exact⟨⟨_,e5,rfl⟩,k _ e5 e3 e4 i1 i2 λx o e=>up _ (up _ (up _ (up _ (up _ e))))⟩
noncomputable def ItZ(K:W.Frag)(b c:Bool)(a d:Addr):It:=
 ⟨λi H=>∃xs ys x y,SqB K b H a xs/\SqB K c H d ys/\xs[i]?=some x/\ys[i]?=some y,
  λi H x H'=>∃p u v,x=.ref p/\H p=none/\H'=upd H p (.tup [u,v])/\(∀xs,SqB K b H a xs->xs[i]?=some u)/\∀ys,SqB K c H d ys->ys[i]?=some v,
  λi H=>∃xs ys,SqB K b H a xs/\SqB K c H d ys/\(xs[i]?=none\/ys[i]?=none)⟩
def kF(I:Inv X pins σ H s)(hq:SqB X.K b H a xs):∃its:List Value,Vals xs its/\LsB b s.heap a its.toArray:=by
 cases b with
 |true=>obtain⟨its,rv,p,_⟩:=I.list hq;exact⟨its,rv,p.isList⟩
 |false=>obtain⟨its,rv,p,_⟩:=I.tuple hq;exact⟨its,rv,p⟩
def BA{P:Program}{w:World}{K:W.Frag}{elts:List Expr}{x1:Nat}{tp:Pos}(b c:Bool)(a d z p q j1 j2:Addr)(D:ZipApart z p q j1 j2 a d):
 Turn P w K (.Tuple elts x1 tp) (ItZ K b c a d) [z,p,q,j1,j2] z (λi h=>IsZip h z p q .none/\IsPair h p (.ref j1) (.ref j2)/\(∃u v,IsPair h q u v)/\ItB b h j1 a i/\ItB c h j2 d i) where
 mem:=by simp
 obj:=λi h st e he=>by
  obtain⟨s1,s2,⟨u,v,s3⟩,s4,s5⟩:=st;obtain⟨o4,k4,l4,_⟩:=jb s4;obtain⟨o5,k5,l5,_⟩:=jb s5;simp only[OP,List.not_mem_nil,or_false] at he;rcases he with rfl |rfl |rfl |rfl |rfl
  .exact⟨_,s1,λv y=>by cases y⟩
  .exact⟨_,s2,λv y=>by cases y⟩
  .exact⟨_,s3,λv y=>by cases y⟩
  .exact⟨o4,k4,l4⟩
  .exact⟨o5,k5,l5⟩
 keep:=λi h h' st k=>by obtain⟨s1,s2,⟨u,v,s3⟩,s4,s5⟩:=st;exact⟨k z (by simp) _ s1,k p (by simp) _ s2,⟨u,v,k q (by simp) _ s3⟩,cN s4 λo e=>k j1 (by simp) o e,cN s5 λo e=>k j2 (by simp) o e⟩
 item:=
  by
  intro X hP hw hK hc i pins s σ H E I hf st hg;subst hP hw hK;obtain⟨xs,ys,x,y,qx,qy,ex,ey⟩:=hg;obtain⟨s1,s2,⟨u,v,s3⟩,s4,s5⟩:=st;obtain⟨ix,rx,lx⟩:=kF I qx;obtain⟨iy,ry,ly⟩:=kF I qy;obtain⟨ux,hux,rux⟩:=rx.get ex;obtain⟨uy,huy,ruy⟩:=ry.get ey;have hTy:s.TypeIs (.ref z) "zip":=⟨_,s1,rfl⟩;have zl:=Em s1;have pl:=Em s2;have ql:=Em s3;obtain⟨o4,k4,_,_⟩:=jb s4;obtain⟨o5,k5,_,_⟩:=jb s5;have j1l:=Em k4;have j2l:=Em k5;unfold pyNext;refine v_ (QV (PB (name:=Str.ofString "__next__") hTy QC (Qc QC hTy F.entry_zip_next (zipN D s1 s2 s3 s4 s5 lx ly (by simpa using hux) (by simpa using huy) λh' y1 y3 y4 y5 yT hk=>E_ ?_) (F.args_zip_next_1 _))));refine⟨_,rfl,wpAny_letOwnedTupleGo_zip (s:={ s with heap:=h' }) y1 λh2 z2 sb=>?_⟩;have sb':Heap.SameBut z h' h2:=sb;have hT:H s.heap.objs.size=none:=I.hok.fresh (y_ _);have I1:Inv X pins σ (upd H s.heap.objs.size (.tup [x,y])) { s with heap:=s.heap.push { cls:=.type "tuple",data:=.seq #[ux,uy] },toks:=s.toks }:=
   I.laid (t':=s.toks) (λc o q=>D_ _ q) (y_ _) ⟨by show 2<=sizeLine;decide,[ux,uy],.cons rux (.cons ruy .nil),⟨_,M_ _ rfl,rfl,_,rfl⟩⟩
  have fp':∀e∈[z,p,q,j1,j2],FpOk X pins (upd H s.heap.objs.size (.tup [x,y])) e:=λe he=>by
   have:=hf e he
   simp only[OP,List.not_mem_nil,or_false] at he;rcases he with rfl |rfl |rfl |rfl |rfl
   .exact this.up (OU zl)
   .exact this.up (OU pl)
   .exact this.up (OU ql)
   .exact this.up (OU j1l)
   .exact this.up (OU j2l)
  have I2:Inv X pins σ (upd H s.heap.objs.size (.tup [x,y])) { s with heap:=h2,toks:=s.toks }:=
   Inv.turnedL (s:={ s with heap:=s.heap.push { cls:=.type "tuple",data:=.seq #[ux,uy] },toks:=s.toks }) (ch:=[z,p,q,j1,j2]) (t':=s.toks) I1 (λe o he qe=>by
    have c1:e≠z:=λw=>he (by simp [w]);have c2:e≠q:=λw=>he (by simp [w]);have c3:e≠j1:=λw=>he (by simp [w]);have c4:e≠j2:=λw=>he (by simp [w]);rw[sb'.2 e c1];have q':(s.heap.push { cls:=.type "tuple",data:=.seq #[ux,uy] }).get? e=some o:=qe;by_cases w:e=s.heap.objs.size
    .subst w;rw[M_ _ rfl] at q';cases q';exact yT
    .rw[Heap.get?_push_ne _ _ _ w] at q';exact hk e o c1 c2 c3 c4 q') fp'
  refine⟨.ref s.heap.objs.size,_,I2,rfl,⟨_,x,y,rfl,hT,rfl,λzs hz=>by rw[SqB.inj I hz qx];exact ex,λzs hz=>by rw[SqB.inj I hz qy];exact ey⟩,⟨z2,?_,⟨ux,uy,?_⟩,cN y4 λo e=>(sb'.2 j1 D.i1z).trans e,cN y5 λo e=>(sb'.2 j2 D.i2z).trans e⟩,λe he=>(fp' e he).1⟩
  .exact (sb'.2 p D.TIz).trans (hk p _ D.TIz D.TITO D.TIi1 D.TIi2 s2)
  .exact (sb'.2 q D.TOz).trans y3
 done:=by
  intro X hP hw hK hc i pins s σ H E I hf st hg;subst hP hw hK;obtain⟨xs,ys,qx,qy,en⟩:=hg;obtain⟨s1,s2,⟨u,v,s3⟩,s4,s5⟩:=st;obtain⟨ix,rx,lx⟩:=kF I qx;obtain⟨iy,ry,ly⟩:=kF I qy;have hTy:s.TypeIs (.ref z) "zip":=⟨_,s1,rfl⟩;have en':ix.toArray[i]?=none\/iy.toArray[i]?=none:=by
   rcases en with e |e
   .left;rw[Pu] at e;simp;rw[<- rx.length];exact e
   .right;rw[Pu] at e;simp;rw[<- ry.length];exact e
  unfold pyNext;refine v_ (QV (PB (name:=Str.ofString "__next__") hTy QC (Qc QC hTy F.entry_zip_next (Dw (I.ok.hd hc) D s1 s2 s3 s4 s5 lx ly en' λh' e hk ⟨o,ho,co⟩=>?_) (F.args_zip_next_1 _))));refine v_ (wpAny_isInstance (T:="StopIteration") (b:=true) ⟨o,ho,co⟩ isSubtype_stop (E_ ⟨rfl,?_⟩));exact Inv.turnedL (ch:=[z,p,q,j1,j2]) (t':=s.toks) I (λe o he qe=>hk e o (λw=>he (by simp [w])) (λw=>he (by simp [w])) (λw=>he (by simp [w])) (λw=>he (by simp [w])) qe) hf
 self:=λ_ _ _ _ _ st h=>wpAny_pyIter_zip st.1 h
def Ao:bootBuiltins "zip"=some (.type "zip"):=by decide
def LB(hg:Gl X "zip")(hm:X.mg "zip"=none)(ha:PA X [l,m] tl)(hs:starEach [l,m] X.env=[(false,eval l X.env),(false,eval m X.env)])(hs2:starEach [m] X.env=[(false,eval m X.env)]):
 PI X (.Tuple elts x1 tp) (.Call (.Name "zip" p) [l,m] [] pos) (λσ H R=>tl σ H λvs H1=>∃(b c:Bool) (a d:Addr) (xs ys:List V),vs=[.ref a,.ref d]/\SqB X.K b H1 a xs/\SqB X.K c H1 d ys/\R (ItZ X.K b c a d) H1):=by
 intro pins s σ H R I h;refine Call_ (gR I hg hm Ao (O8 (thn (ha pos pins s σ H _ I h) λus s1 ⟨vs,H1,I1,r1,q1⟩=>?_) (by rw[hs,hs2]) (by rw[hs2];rfl)));obtain⟨b,c,a,d,xs,ys,e,qx,qy,q⟩:=q1;subst e;cases r1 with
 |
  cons r rr=>
  cases rr with
  |
   cons r' rr=>
   cases rr;cases r;cases r';obtain⟨ix,rx,lx⟩:=kF I1 qx;obtain⟨iy,ry,ly⟩:=kF I1 qy;have la:a<s1.heap.objs.size:=by cases b <;> (obtain⟨o,e,_⟩:=lx;exact Em e)
   have ld:d<s1.heap.objs.size:=by cases c <;> (obtain⟨o,e,_⟩:=ly;exact Em e)
   refine zA lx ly λh' y1 y2 y3 y4 y5 hk=>wpAny_pyIter_zip y1 ⟨s1.heap.objs.size+4,[s1.heap.objs.size+4,s1.heap.objs.size+2,s1.heap.objs.size+3,s1.heap.objs.size,s1.heap.objs.size+1],_,_,H1,rfl,I1.kept (t':=s1.toks) λc o z=>hk c o z,BA b c a d _ _ _ _ _ (W.ktu_apart _ _ _ la ld),⟨y1,y2,⟨_,_,y3⟩,y4,y5⟩,λe he=>?_,q⟩;have hge:s1.heap.objs.size<=e:=by
    simp only[OP,List.not_mem_nil,or_false] at he;rcases he with rfl |rfl |rfl |rfl |rfl
    .exact Qx _ _
    .exact Qx _ _
    .exact Qx _ _
    .exact y_ _
    .exact Qx _ _
   exact I1.fpOk hge (I1.hok.fresh hge)
inductive D where
 |non |bl (b:Bool) |int (i:Int) |str (x:Str) |ty (n:String) |glb (x:Str) |exc (x:Str) |tup (xs:List D) |ref (n:Nat) |kl (xs:List D)
 deriving Inhabited
inductive Ob where
 |lst (xs:List D) |fz (xs:List D) |set (xs:List Int) |dct (kvs:List (Key×D)) |any
 deriving Inhabited
abbrev AH:=List Ob
abbrev AE:=List (Option D)
inductive R(α:Type) where
 |ok (a:α) (h:AH) |exc (c:Str) (h:AH) |stuck
inductive SR where
 |nx (ae:AE) (h:AH) |rt (d:D) (h:AH) |bk (ae:AE) (h:AH) |ct (ae:AE) (h:AH) |exc (c:Str) (ae:AE) (h:AH) |stuck
abbrev ME:=AE->AH->R D
abbrev MT:=AE->AH->R Bool
abbrev MA:=AE->AH->R (List D)
abbrev MS:=AE->AH->SR
abbrev Fn:=List D->AH->R D
noncomputable def R.bind{α β:Type}(r:R α)(f:α->AH->R β):R β:=match r with
 |.ok a h=>f a h
 |.exc c h=>.exc c h
 |.stuck=>.stuck
section
variable(K:W.Frag)(mg:Ra)
mutual
inductive RelD(ρ:List Addr)(H:Hp):D->V->Prop where
 |non:RelD ρ H .non .non
 |bl (b:Bool):RelD ρ H (.bl b) (.bl b)
 |int (i:Int):RelD ρ H (.int i) (.int i)
 |str (x:Str):RelD ρ H (.str x) (.str x)
 |ty (n:String):RelD ρ H (.ty n) (.ty n)
 |glb {x:Str}{a:Addr} (m:mg x=some (.ref a)):RelD ρ H (.glb x) (.ref a)
 |exc {x:Str}{a C:Addr} (m:mg x=some (.ref C)) (e:H a=some (.ext (C7 a C))):RelD ρ H (.exc x) (.ref a)
 |tup {p:Addr}{vs:List V}{ds:List D} (h:SqT K H p vs) (r:RelDs ρ H ds vs):RelD ρ H (.tup ds) (.ref p)
 |ref {n:Nat}{a:Addr} (e:ρ[n]?=some a):RelD ρ H (.ref n) (.ref a)
 |kl {a:Addr}{vs:List V}{ds:List D} (h:∃(o:Obj) (its:Array Value) (n:Nat),K.lookup a=some o/\o.cls=.type "list" /\ o.dict=none/\o.data=.seq its n/\its.size<=sizeLine/\Vals vs its.toList) (r:RelDs ρ H ds vs):RelD ρ H (.kl ds) (.ref a)
inductive RelDs(ρ:List Addr)(H:Hp):List D->List V->Prop where
 |nil:RelDs ρ H [] []
 |cons {d:D}{v:V}{ds:List D}{vs:List V} (r:RelD ρ H d v) (rr:RelDs ρ H ds vs):RelDs ρ H (d::ds) (v::vs)
end
structure Le(ρ:List Addr)(H:Hp)(ρ':List Addr)(H':Hp):Prop where
 pre:∀(n:Nat) (a:Addr),ρ[n]?=some a->ρ'[n]?=some a
 tup:∀b xs,H b=some (.tup xs)->H' b=some (.tup xs)
 frz:∀b o u,H b=some (.frz o u)->H' b=some (.frz o u)
 ext:∀b φ,H b=some (.ext φ)->H' b=some (.ext φ)
def ObR(ρ:List Addr)(H:Hp)(a:Addr):Ob->Prop
 |.lst ds=>∃vs,H a=some (.lst vs)/\RelDs K mg ρ H ds vs
 |.fz ds=>∃o vs,H a=some (.frz o (.lst vs))/\RelDs K mg ρ H ds vs
 |.set xs=>xs.Nodup/\H a=some (.set (λi=>decide (i∈xs)) xs.length)
 |.dct kvs=>∃ws,H a=some (.dK ws)/\ws.map (·.1)=kvs.map (·.1)/\RelDs K mg ρ H (kvs.map (·.2)) (ws.map (·.2))
 |.any=>∃o,H a=some o
def codO(c:Addr)(q:Str):Heap->Prop:=λh=>h.CodeRec (.ref c) q
noncomputable def DJ:List Str:=["by_falling_weights", "least_around"]
def BL(P:Addr)(q:Str):Prop:=∃(x:Str) (f:Addr) (oc:Value) (od:Option Addr) (fd:FuncData) (sl:Array (Option Value)) (c:Addr),x∈DJ/\(∀y∈DJ,y≠x->mg y=none)/\mg x=some (.ref f)/\K.lookup f=some ⟨oc,od,.func fd,sl⟩/\fd.code=.ref c/\W.codeHdIn K c P=true/\q=fd.qualname ++ ".<locals>." ++ "<lambda>"
def TbP(ρ:List Addr)(H:Hp)(P:Addr)(q:Str):Prop:=P∉ρ/\∃ps:Array Value,H P=some (.tbl ps)/\TriplesOk ps.toList/\∀pos cv,codeAmong pos ps.toList=some cv->∃c,cv=.ref c/\H c=some (.ext (codO c q))
def bmP(o:Obj):Prop:=o.cls=.type "module" /\ o.dict=some builtinsNs/\o.data=.plain
def BMok(H:Hp):Prop:=∃b o,mg "__builtins__"=some (.ref b)/\b≠builtinsNs/\b≠mainGlobals/\bmP o/\(K.lookup b=some o\/∃u,H b=some (.frz o u))
structure Wd(ρ:List Addr)(h:AH)(H:Hp):Prop where
 len:ρ.length=h.length
 nd:ρ.Nodup
 tb:∀P q,BL K mg P q->TbP ρ H P q/\BMok K mg H
 ob:∀(n:Nat) (a:Addr) (o:Ob),ρ[n]?=some a->h[n]?=some o->ObR K mg ρ H a o
structure RelE(ρ:List Addr)(H:Hp)(ae:AE)(σ:St):Prop where
 len:ae.length=σ.length
 at_:∀(i:Nat) (d:D),ae[i]?=some (some d)->∃v,σ[i]?=some (some v)/\RelD K mg ρ H d v
def PostG{α:Type}(ρ:List Addr)(H:Hp)(E:XK)(k:α->AH->List Addr->Hp->Prop):R α->Prop
 |.ok a h=>∀ρ' H',Le ρ H ρ' H'->Wd K mg ρ' h H'->k a h ρ' H'
 |.exc c h=>∀ρ' H' C,Le ρ H ρ' H'->Wd K mg ρ' h H'->mg c=some (.ref C)->E (.ref C) none H'
 |.stuck=>False
abbrev fB(ρ:List Addr)(H:Hp)(Q:VK)(E:XK)(r:R D):Prop:=PostG K mg ρ H E (λd _ ρ' H'=>∀v,RelD K mg ρ' H' d v->Q v H') r
abbrev xK(ρ:List Addr)(H:Hp)(Q:Bool->Hp->Prop)(E:XK)(r:R Bool):Prop:=PostG K mg ρ H E (λb _ ρ' H'=>Q b H') r
abbrev Ez(ρ:List Addr)(H:Hp)(Q:List V->Hp->Prop)(E:XK)(r:R (List D)):Prop:=PostG K mg ρ H E (λd _ ρ' H'=>∀vs,RelDs K mg ρ' H' d vs->Q vs H') r
def PostS(ρ:List Addr)(H:Hp)(D:Ends)(ES:St->XK):SR->Prop
 |.nx ae h=>∀ρ' H' σ',Le ρ H ρ' H'->Wd K mg ρ' h H'->RelE K mg ρ' H' ae σ'->D.nx σ' H'
 |.bk ae h=>∀ρ' H' σ',Le ρ H ρ' H'->Wd K mg ρ' h H'->RelE K mg ρ' H' ae σ'->D.bk σ' H'
 |.ct ae h=>∀ρ' H' σ',Le ρ H ρ' H'->Wd K mg ρ' h H'->RelE K mg ρ' H' ae σ'->D.ct σ' H'
 |.rt d h=>∀ρ' H' v,Le ρ H ρ' H'->Wd K mg ρ' h H'->RelD K mg ρ' H' d v->D.rt v H'
 |.exc c ae h=>∀ρ' H' σ' C,Le ρ H ρ' H'->Wd K mg ρ' h H'->RelE K mg ρ' H' ae σ'->mg c=some (.ref C)->ES σ' (.ref C) none H'
 |.stuck=>False
def rdE(ES:St->XK)(F:ME):TE:=λσ H Q=>∃ρ h ae,Wd K mg ρ h H/\RelE K mg ρ H ae σ/\fB K mg ρ H Q (ES σ) (F ae h)
def rdT(ES:St->XK)(F:MT):TT:=λσ H Q=>∃ρ h ae,Wd K mg ρ h H/\RelE K mg ρ H ae σ/\xK K mg ρ H Q (ES σ) (F ae h)
def rdA(ES:St->XK)(F:MA):TA:=λσ H Q=>∃ρ h ae,Wd K mg ρ h H/\RelE K mg ρ H ae σ/\Ez K mg ρ H Q (ES σ) (F ae h)
def rdS(ES:St->XK)(F:MS):TS:=λD σ H=>∃ρ h ae,Wd K mg ρ h H/\RelE K mg ρ H ae σ/\PostS K mg ρ H D ES (F ae h)
def spD(n:Nat)(S:Fn):Sp:=λvs H Q E=>∃ρ h ds,Wd K mg ρ h H/\RelDs K mg ρ H ds vs/\ds.length=n/\fB K mg ρ H Q E (S ds h)
end
def rdE.el{K:W.Frag}{mg:Ra}{ES:St->XK}{F:ME}{σ:St}{H:Hp}{Q:VK}{C:Prop}(q:rdE K mg ES F σ H Q)(k:∀ρ h ae,Wd K mg ρ h H->RelE K mg ρ H ae σ->fB K mg ρ H Q (ES σ) (F ae h)->C):C:=by obtain⟨ρ,h,ae,w,re,p⟩:=q;exact k ρ h ae w re p
def rdT.el{K:W.Frag}{mg:Ra}{ES:St->XK}{F:MT}{σ:St}{H:Hp}{Q:Bool->Hp->Prop}{C:Prop}(q:rdT K mg ES F σ H Q)(k:∀ρ h ae,Wd K mg ρ h H->RelE K mg ρ H ae σ->xK K mg ρ H Q (ES σ) (F ae h)->C):C:=by obtain⟨ρ,h,ae,w,re,p⟩:=q;exact k ρ h ae w re p
def rdA.el{K:W.Frag}{mg:Ra}{ES:St->XK}{F:MA}{σ:St}{H:Hp}{Q:List V->Hp->Prop}{C:Prop}(q:rdA K mg ES F σ H Q)(k:∀ρ h ae,Wd K mg ρ h H->RelE K mg ρ H ae σ->Ez K mg ρ H Q (ES σ) (F ae h)->C):C:=by obtain⟨ρ,h,ae,w,re,p⟩:=q;exact k ρ h ae w re p
def rdS.el{K:W.Frag}{mg:Ra}{ES:St->XK}{F:MS}{σ:St}{H:Hp}{De:Ends}{C:Prop}(q:rdS K mg ES F De σ H)(k:∀ρ h ae,Wd K mg ρ h H->RelE K mg ρ H ae σ->PostS K mg ρ H De ES (F ae h)->C):C:=by obtain⟨ρ,h,ae,w,re,p⟩:=q;exact k ρ h ae w re p
section
variable{K:W.Frag}{mg:Ra}{ρ ρ' ρ1:List Addr}{H H' H1:Hp}{h:AH}{ae:AE}{σ:St}
def Le.refl:Le ρ H ρ H:=⟨λ_ _ e=>e,λ_ _ e=>e,λ_ _ _ e=>e,λ_ _ e=>e⟩
def Le.trans(a:Le ρ H ρ1 H1)(b:Le ρ1 H1 ρ' H'):Le ρ H ρ' H':=
 ⟨λn x e=>b.pre n x (a.pre n x e),λx y e=>b.tup x y (a.tup x y e),λx y z e=>b.frz x y z (a.frz x y z e),λx y e=>b.ext x y (a.ext x y e)⟩
def Le.sqT(l:Le ρ H ρ' H')(q:SqT K H a xs):SqT K H' a xs:=by
 rcases q with (q |⟨o,q⟩) |q
 .exact .inl (.inl (l.tup _ _ q))
 .exact .inl (.inr ⟨o,l.frz _ _ _ q⟩)
 .exact .inr q
def RelD.mono(l:Le ρ H ρ' H')(r:RelD K mg ρ H d v):RelD K mg ρ' H' d v:=
 RelD.rec (motive_1:=λd v _=>RelD K mg ρ' H' d v) (motive_2:=λds vs _=>RelDs K mg ρ' H' ds vs) .non (λb=>.bl b) (λi=>.int i) (λx=>.str x) (λn=>.ty n) (λm=>.glb m) (λm e=>.exc m (l.ext _ _ e)) (λh _ ih=>.tup (l.sqT h) ih) (λe=>.ref (l.pre _ _ e)) (λh _ ih=>.kl h ih) .nil (λ_ _ a b=>.cons a b) r
def RelDs.ind{M:List D->List V->Prop}(h0:M [] [])(h1:∀{d v ds vs},RelD K mg ρ H d v->RelDs K mg ρ H ds vs->M ds vs->M (d::ds) (v::vs)){ds:List D}{vs:List V}(r:RelDs K mg ρ H ds vs):M ds vs:=by
 induction ds generalizing vs with
 |nil=>cases r;exact h0
 |
  cons d ds ih=>
  cases r with
  |cons r rr=>exact h1 r rr (ih rr)
def RelDs.mono(l:Le ρ H ρ' H'){ds:List D}{vs:List V}(r:RelDs K mg ρ H ds vs):RelDs K mg ρ' H' ds vs:=r.ind .nil λr _ ih=>.cons (r.mono l) ih
def RelDs.len{ds:List D}{vs:List V}(r:RelDs K mg ρ H ds vs):ds.length=vs.length:=r.ind (M:=λds vs=>ds.length=vs.length) rfl λ_ _ ih=>O4 (· + 1) ih
def RelDs.getD{ds:List D}{vs:List V}{i:Nat}{d:D}(r:RelDs K mg ρ H ds vs)(e:ds[i]?=some d):∃v,vs[i]?=some v/\RelD K mg ρ H d v:=
 r.ind (M:=λds vs=>∀i,ds[i]?=some d->∃v,vs[i]?=some v/\RelD K mg ρ H d v) (λ_ e=>by rw[List.getElem?_nil] at e;cases e) (λr _ ih i e=>match i,e with
  |0,e=>by cases e;exact⟨_,rfl,r⟩
  |i+1,e=>ih i e) i e
def RelDs.append{ds es:List D}{vs ws:List V}(r:RelDs K mg ρ H ds vs)(q:RelDs K mg ρ H es ws):RelDs K mg ρ H (ds++es) (vs++ws):=r.ind (M:=λds vs=>RelDs K mg ρ H (ds++es) (vs++ws)) q λr _ ih=>.cons r ih
def RelDs.take{ds:List D}{vs:List V}(n:Nat)(r:RelDs K mg ρ H ds vs):RelDs K mg ρ H (ds.take n) (vs.take n):=
 r.ind (M:=λds vs=>∀n:Nat,RelDs K mg ρ H (ds.take n) (vs.take n)) (λn=>by rw[P2,P2];exact .nil) (λr _ ih n=>by cases n with |zero=>exact .nil |succ n=>exact .cons r (ih n)) n
def RelDs.drop{ds:List D}{vs:List V}(n:Nat)(r:RelDs K mg ρ H ds vs):RelDs K mg ρ H (ds.drop n) (vs.drop n):=
 r.ind (M:=λds vs=>∀n:Nat,RelDs K mg ρ H (ds.drop n) (vs.drop n)) (λn=>by rw[Qe,Qe];exact .nil) (λr rr ih n=>by cases n with |zero=>exact .cons r rr |succ n=>exact ih n) n
def RelDs.set{d:D}{v:V}(r:RelD K mg ρ H d v){ds:List D}{vs:List V}(i:Nat)(q:RelDs K mg ρ H ds vs):RelDs K mg ρ H (ds.set i d) (vs.set i v):=
 q.ind (M:=λds vs=>∀i:Nat,RelDs K mg ρ H (ds.set i d) (vs.set i v)) (λ_=>.nil) (λq qq ih i=>by cases i with |zero=>exact .cons r qq |succ i=>exact .cons q (ih i)) i
def RelDs.erase{ds:List D}{vs:List V}(i:Nat)(q:RelDs K mg ρ H ds vs):RelDs K mg ρ H (ds.eraseIdx i) (vs.eraseIdx i):=
 q.ind (M:=λds vs=>∀i:Nat,RelDs K mg ρ H (ds.eraseIdx i) (vs.eraseIdx i)) (λ_=>.nil) (λq qq ih i=>by cases i with |zero=>exact qq |succ i=>exact .cons q (ih i)) i
def RelDs.reverse(r:RelDs K mg ρ H ds vs):RelDs K mg ρ H ds.reverse vs.reverse:=by
 induction ds generalizing vs with
 |nil=>cases r;exact .nil
 |
  cons d ds ih=>
  cases r with
  |cons q rr=>rw[PR,PR];exact (ih rr).append (.cons q .nil)
def RelDs.ints:∀{ns:List Int}{vs:List V},RelDs K mg ρ H (ns.map D.int) vs->vs=ns.map V.int:=by
 intro ns;induction ns with
 |nil=>intro vs r;cases r;rfl
 |
  cons n ns ih=>
  intro vs r;cases r with
  |cons r rr=>cases r;rw[ih rr];rfl
def RelDs.bls:∀{ns:List Bool}{vs:List V},RelDs K mg ρ H (ns.map D.bl) vs->vs=ns.map V.bl:=by
 intro ns;induction ns with
 |nil=>intro vs r;cases r;rfl
 |
  cons n ns ih=>
  intro vs r;cases r with
  |cons r rr=>cases r;rw[ih rr];rfl
def RelE.mono(l:Le ρ H ρ' H')(r:RelE K mg ρ H ae σ):RelE K mg ρ' H' ae σ:=⟨r.len,λi d e=>by obtain⟨v,h1,h2⟩:=r.at_ i d e;exact⟨v,h1,h2.mono l⟩⟩
def RelE.set(i:Nat)(r:RelE K mg ρ H ae σ)(q:RelD K mg ρ H d v):RelE K mg ρ H (ae.set i (some d)) (σ.set i (some v)):=⟨by rw[N_,N_];exact r.len,λj d' e=>by
 rw[Qr] at e ⊢;by_cases hij:i=j
 .rw[if_pos hij] at e ⊢;by_cases hi:i<ae.length
  .rw[if_pos hi] at e;cases e;rw[if_pos (by rw[<- r.len];exact hi)];exact⟨v,rfl,q⟩
  .rw[if_neg hi] at e;cases e
 .rw[if_neg hij] at e ⊢;exact r.at_ j d' e⟩
def ObR.mono(l:Le ρ H ρ' H')(e:H' a=H a)(q:ObR K mg ρ H a o):ObR K mg ρ' H' a o:=by
 cases o with
 |lst ds=>obtain⟨vs,h1,h2⟩:=q;exact⟨vs,e.trans h1,h2.mono l⟩
 |fz ds=>obtain⟨o,vs,h1,h2⟩:=q;exact⟨o,vs,e.trans h1,h2.mono l⟩
 |set xs=>exact⟨q.1,e.trans q.2⟩
 |dct kvs=>obtain⟨ws,h1,h2,h3⟩:=q;exact⟨ws,e.trans h1,h2,h3.mono l⟩
 |any=>obtain⟨o,h1⟩:=q;exact⟨o,e.trans h1⟩
def ObR.there(q:ObR K mg ρ H a o):∃u,H a=some u:=by
 cases o with
 |lst ds=>obtain⟨vs,h1,_⟩:=q;exact⟨_,h1⟩
 |fz ds=>obtain⟨o,vs,h1,_⟩:=q;exact⟨_,h1⟩
 |set xs=>exact⟨_,q.2⟩
 |dct kvs=>obtain⟨ws,h1,_⟩:=q;exact⟨_,h1⟩
 |any=>exact q
def Wd.fresh(w:Wd K mg ρ h H)(hp:H p=none):p∉ρ:=λhm=>by
 obtain⟨n,hn⟩:=List.getElem?_of_mem hm;have hl:n<h.length:=by rw[<- w.len];exact (x_.mp hn).1
 obtain⟨u,hu⟩:=(w.ob n p h[n] hn (OT hl)).there;rw[hp] at hu;cases hu
def TbP.up{P:Addr}{q:Str}(t:TbP ρ H P q)(hp:H p=none):TbP ρ (upd H p u) P q:=by obtain⟨a,ps,b,c,d⟩:=t;refine⟨a,ps,by rw[bO (cL b hp)];exact b,c,λpos cv e=>?_⟩;obtain⟨x,e1,e2⟩:=d pos cv e;exact⟨x,e1,by rw[bO (cL e2 hp)];exact e2⟩
def TbP.rho{P:Addr}{q:Str}(t:TbP ρ H P q)(h:P∉ρ'):TbP ρ' H P q:=⟨h,t.2⟩
def TbP.more{P:Addr}{q:Str}(t:TbP ρ H P q)(hp:H p=none):TbP (ρ++[p]) (upd H p u) P q:=by
 obtain⟨ps,b,_⟩:=t.2;refine (t.up hp).rho λz=>?_;rcases Pw.mp z with z |z
 .exact t.1 z
 .rw[Pk] at z;subst z;rw[hp] at b;cases b
def TbP.wr{P:Addr}{q:Str}{a:Addr}{o u:HO}(t:TbP ρ H P q)(ha:a∈ρ)(e:H a=some u)(hu:∀φ,u ≠ .ext φ):TbP ρ (upd H a o) P q:=by
 obtain⟨z,ps,b,c,d⟩:=t;refine⟨z,ps,by rw[bO (λw=>z (by rw[w];exact ha))];exact b,c,λpos cv y=>?_⟩;obtain⟨x,e1,e2⟩:=d pos cv y;refine⟨x,e1,?_⟩;rw[bO]
 .exact e2
 .intro w;subst w;rw[e] at e2;exact hu _ (OQ e2)
def eX(hp:H p=none):Le ρ H ρ (upd H p o):=
 ⟨λ_ _ e=>e,λb xs e=>by rw[bO (cL e hp)];exact e,λb xs u e=>by rw[bO (cL e hp)];exact e,λb xs e=>by rw[bO (cL e hp)];exact e⟩
def BMok.le(b:BMok K mg H)(l:Le ρ H ρ' H'):BMok K mg H':=by
 obtain⟨x,o,h1,h2,h3,h4,h5⟩:=b;refine⟨x,o,h1,h2,h3,h4,?_⟩;rcases h5 with z |⟨u,z⟩
 .exact .inl z
 .exact .inr ⟨u,l.frz _ _ _ z⟩
def qM:Le ρ H (ρ++m) H:=
 ⟨λn a e=>by rw[OR (x_.mp e).1];exact e,λ_ _ e=>e,λ_ _ _ e=>e,λ_ _ e=>e⟩
def Wd.alloc(w:Wd K mg ρ h H)(hp:H p=none)(hn:ObR K mg (ρ++[p]) (upd H p u) p o):Wd K mg (ρ++[p]) (h++[o]) (upd H p u):=by
 refine⟨by rw[F_,F_,w.len];rfl,?_,λP q l=>⟨(w.tb P q l).1.more hp,(w.tb P q l).2.le (ρ:=ρ) (eX hp)⟩,λn a ob e1 e2=>?_⟩
 .rw[List.nodup_append];exact⟨w.nd,by simp,λa ha b hb=>by rw[Pk] at hb;subst hb;intro z;subst z;exact w.fresh hp ha⟩
 .by_cases hl:n<ρ.length
  .rw[OR hl] at e1;rw[OR (by rw[<- w.len];exact hl)] at e2;have q:=w.ob n a ob e1 e2;obtain⟨v,hv⟩:=q.there;exact q.mono ((eX hp).trans qM) (bO (cL hv hp))
  .have h1:n=ρ.length:=by
    have:=(x_.mp e1).1
    rw[F_] at this;simp at this;omega
   subst h1;rw[O0 (y_ _),QJ] at e1;rw[w.len,O0 (y_ _),QJ] at e2;simp at e1 e2;subst e1 e2;exact hn
def Wd.tuple(w:Wd K mg ρ h H)(hp:H p=none):Wd K mg ρ h (upd H p u):=
 ⟨w.len,w.nd,λP q l=>⟨(w.tb P q l).1.up hp,(w.tb P q l).2.le (ρ:=ρ) (eX hp)⟩,λn a ob e1 e2=>by have q:=w.ob n a ob e1 e2;obtain⟨v,hv⟩:=q.there;exact q.mono (eX hp) (bO (cL hv hp))⟩
def mP(e:H a=some u)(hu:(∀xs,u ≠ .tup xs)/\(∀x y,u ≠ .frz x y)/\∀φ,u ≠ .ext φ):Le ρ H ρ (upd H a o):=by refine⟨λ_ _ e=>e,λb xs q=>?_,λb x y q=>?_,λb φ q=>?_⟩ <;> rw[bO] <;> (try exact q) <;> (intro z;subst z;rw[e] at q;have:=OQ q;first |exact hu.1 _ this |exact hu.2.1 _ _ this |exact hu.2.2 _ this)
def Wd.write{n:Nat}{a:Addr}{o u:HO}{ob:Ob}(w:Wd K mg ρ h H)(ea:ρ[n]?=some a)(e:H a=some u)(hu:(∀xs,u ≠ .tup xs)/\(∀x y,u ≠ .frz x y)/\∀φ,u ≠ .ext φ)
 (hn:ObR K mg ρ (upd H a o) a ob):Wd K mg ρ (h.set n ob) (upd H a o):=by
 refine⟨by rw[N_];exact w.len,w.nd,λP q l=>⟨(w.tb P q l).1.wr (PU ea) e hu.2.2,(w.tb P q l).2.le (ρ:=ρ) (mP e hu)⟩,λm b ob' e1 e2=>?_⟩;rw[Qr] at e2;by_cases hm:n=m
 .subst hm;rw[ea] at e1;cases e1;rw[if_pos rfl] at e2;split at e2
  .cases e2;exact hn
  .cases e2
 .rw[if_neg hm] at e2;have q:=w.ob m b ob' e1 e2;refine q.mono (mP e hu) (bO λz=>hm ?_);subst z;have h1:=(x_.mp e1);have h2:=(x_.mp ea);exact (List.getElem_inj (h₀:=h2.1) (h₁:=h1.1) w.nd).mp (h2.2.trans h1.2.symm)
def tD:(∀xs,HO.lst vs ≠ .tup xs)/\(∀x y,HO.lst vs ≠ .frz x y)/\∀φ,HO.lst vs ≠ .ext φ:=⟨λ_ z=>(nomatch z),λ_ _ z=>(nomatch z),λ_ z=>(nomatch z)⟩
def yC:(∀xs,HO.dK ws ≠ .tup xs)/\(∀x y,HO.dK ws ≠ .frz x y)/\∀φ,HO.dK ws ≠ .ext φ:=⟨λ_ z=>(nomatch z),λ_ _ z=>(nomatch z),λ_ z=>(nomatch z)⟩
def PostG.mono(l:Le ρ H ρ' H')(p:PostG K mg ρ H E k r):PostG K mg ρ' H' E k r:=by
 cases r with
 |ok d h=>exact λρ2 H2 l2=>p ρ2 H2 (l.trans l2)
 |exc c h=>exact λρ2 H2 C l2=>p ρ2 H2 C (l.trans l2)
 |stuck=>exact p
def PostG.imp(p:PostG K mg ρ H E k r)(i:∀a h1 ρ' H',Le ρ H ρ' H'->Wd K mg ρ' h1 H'->k a h1 ρ' H'->k' a h1 ρ' H'):PostG K mg ρ H E k' r:=by
 cases r with
 |ok d h=>exact λρ2 H2 l2 w2=>i _ _ _ _ l2 w2 (p ρ2 H2 l2 w2)
 |exc c h=>exact p
 |stuck=>exact p
def PostG.bind(p:PostG K mg ρ H E k (r.bind f)):PostG K mg ρ H E (λa h1 ρ' H'=>PostG K mg ρ' H' E k (f a h1)) r:=by
 cases r with
 |ok d h=>exact λρ2 H2 l2 w2=>PostG.mono l2 p
 |exc c h=>exact p
 |stuck=>exact p
def PostS.mono(l:Le ρ H ρ' H')(p:PostS K mg ρ H De ES r):PostS K mg ρ' H' De ES r:=by
 cases r with
 |nx ae h=>exact λρ2 H2 σ l2=>p ρ2 H2 σ (l.trans l2)
 |bk ae h=>exact λρ2 H2 σ l2=>p ρ2 H2 σ (l.trans l2)
 |ct ae h=>exact λρ2 H2 σ l2=>p ρ2 H2 σ (l.trans l2)
 |rt d h=>exact λρ2 H2 v l2=>p ρ2 H2 v (l.trans l2)
 |exc c ae h=>exact λρ2 H2 σ C l2=>p ρ2 H2 σ C (l.trans l2)
 |stuck=>exact p
end
section
variable{X:Cx}{e:Expr}{es:List Expr}{st:Stmt}{sts:List Stmt}
def PE.imp(h:PE X e t)(k:∀σ H Q,t' σ H Q->t σ H Q):PE X e t':=λpins s σ H Q I w=>h pins s σ H Q I (k σ H Q w)
def PT.imp(h:PT X e t)(k:∀σ H Q,t' σ H Q->t σ H Q):PT X e t':=λpins s σ H Q I w=>h pins s σ H Q I (k σ H Q w)
def PW.imp(h:PW X e t)(k:∀σ H Q,t' σ H Q->t σ H Q):PW X e t':=λwh pins s σ H Q I w=>h wh pins s σ H Q I (k σ H Q w)
def PA.imp(h:PA X es t)(k:∀σ H Q,t' σ H Q->t σ H Q):PA X es t':=λpos pins s σ H Q I w=>h pos pins s σ H Q I (k σ H Q w)
def PS.imp(h:PS X st t)(k:∀D σ H,t' D σ H->t D σ H):PS X st t':=λpins s σ H D I w=>h pins s σ H D I (k D σ H w)
def PSs.imp(h:PSs X sts t)(k:∀D σ H,t' D σ H->t D σ H):PSs X sts t':=λpins s σ H D I w=>h pins s σ H D I (k D σ H w)
def PG.imp(h:PG X e t)(k:∀v σ H Q,t' v σ H Q->t v σ H Q):PG X e t':=λpins s σ H v u Q I r w=>h pins s σ H v u Q I r (k v σ H Q w)
def PGs.imp(h:PGs X es t)(k:∀v σ H Q,t' v σ H Q->t v σ H Q):PGs X es t':=λpins s σ H v u Q I r w=>h pins s σ H v u Q I r (k v σ H Q w)
def PO.imp(h:PO X o t)(k:∀σ H Q,t' σ H Q->t σ H Q):PO X o t':=λpins s σ H Q I w=>h pins s σ H Q I (k σ H Q w)
end
section
variable(K:W.Frag)(mg:Ra)(X:Cx)(ES:St->XK)
def DE(e:Expr)(F:ME):Prop:=PE X e (rdE K mg ES F)
def DT(e:Expr)(F:MT):Prop:=PT X e (rdT K mg ES F)
def DW(e:Expr)(F:MT):Prop:=PW X e (rdT K mg ES F)
def DA(es:List Expr)(F:MA):Prop:=PA X es (rdA K mg ES F)
def DS(st:Stmt)(F:MS):Prop:=PS X st (rdS K mg ES F)
def DSs(st:List Stmt)(F:MS):Prop:=PSs X st (rdS K mg ES F)
end
def OpD(K:W.Frag)(mg:Ra)(r:R2)(g:D->D->AH->R D):Prop:=∀ρ h H dx dy x y Q E,Wd K mg ρ h H->RelD K mg ρ H dx x->RelD K mg ρ H dy y->fB K mg ρ H Q E (g dx dy h)->r x y H Q
def UnD(K:W.Frag)(mg:Ra)(r:V->Hp->VK->Prop)(g:D->AH->R D):Prop:=∀ρ h H dx x Q E,Wd K mg ρ h H->RelD K mg ρ H dx x->fB K mg ρ H Q E (g dx h)->r x H Q
def dN(K:W.Frag)(mg:Ra)(r:List V->Hp->VK->Prop)(g:Fn):Prop:=∀ρ h H ds vs Q E,Wd K mg ρ h H->RelDs K mg ρ H ds vs->fB K mg ρ H Q E (g ds h)->r vs H Q
noncomputable def cH(i:Nat):ME:=λae h=>match ae[i]? with
 |some (some d)=>.ok d h
 |_=>.stuck
noncomputable def eC(d:D):ME:=λ_ h=>.ok d h
noncomputable def eOp(g:D->D->AH->R D)(F G:ME):ME:=λae h=>(F ae h).bind λx h1=>(G ae h1).bind λy h2=>g x y h2
noncomputable def eUn(g:D->AH->R D)(F:ME):ME:=λae h=>(F ae h).bind g
noncomputable def lz:MA:=λ_ h=>.ok [] h
noncomputable def mz(F:ME)(G:MA):MA:=λae h=>(F ae h).bind λx h1=>(G ae h1).bind λxs h2=>.ok (x::xs) h2
noncomputable def eFn(g:Fn)(A:MA):ME:=λae h=>(A ae h).bind g
noncomputable def jI(ds:List D)(h:AH):R D:=if ds.length<=16777216 then .ok (.tup ds) h else .stuck
noncomputable def fN(ds:List D)(h:AH):R D:=if ds.length<=16777216 then .ok (.ref h.length) (h++[.lst ds]) else .stuck
noncomputable def asB(d:D)(h:AH):R Bool:=match d with
 |.bl b=>.ok b h
 |_=>.stuck
noncomputable def qK(F G:ME):ME:=λae h=>(F ae h).bind λx h1=>(asB x h1).bind λb h2=>if b=true then G ae h2 else .ok (.bl false) h2
noncomputable def Ds(F:ME):ME:=λae h=>(F ae h).bind λx h1=>(asB x h1).bind λb h2=>.ok (.bl (!b)) h2
def eIf(c:MT)(F G:ME):ME:=λae h=>(c ae h).bind λb h1=>if b=true then F ae h1 else G ae h1
noncomputable def tOf(F:ME):MT:=λae h=>(F ae h).bind asB
noncomputable def tAn(c d:MT):MT:=λae h=>(c ae h).bind λb h1=>if b=true then d ae h1 else .ok false h1
noncomputable def tO(c d:MT):MT:=λae h=>(c ae h).bind λb h1=>if b=true then .ok true h1 else d ae h1
noncomputable def tNo(c:MT):MT:=λae h=>(c ae h).bind λb h1=>.ok (!b) h1
section
variable{K:W.Frag}{mg:Ra}{ρ:List Addr}{H:Hp}{h:AH}
def gp(w:Wd K mg ρ h H)(rs:RelDs K mg ρ H ds vs)(hp:H p=none)(q:fB K mg ρ H Q E (.ok (.ref h.length) (h++[.lst ds]))):Q (.ref p) (upd H p (.lst vs)):=by have l:Le ρ H (ρ++[p]) (upd H p (.lst vs)):=(eX hp).trans qM;refine q (ρ++[p]) _ l (w.alloc hp ⟨vs,dS,rs.mono l⟩) _ (.ref ?_);rw[<- w.len,O0 (y_ _),QJ];rfl
def lA(w:Wd K mg ρ h H)(rs:RelDs K mg ρ H ds vs)(hp:H p=none)(q:fB K mg ρ H Q E (.ok (.tup ds) h)):Q (.ref p) (upd H p (.tup vs)):=
 q ρ _ (eX hp) (w.tuple hp) _ (.tup (SqT.of dS) (rs.mono (eX hp)))
def bK(w:Wd K mg ρ h H)(r:RelD K mg ρ H d v)(q:fB K mg ρ H Q E (.ok d h)):Q v H:=q ρ H Le.refl w v r
end
section
variable{K:W.Frag}{mg:Ra}{X:Cx}{ES:St->XK}{e a b c:Expr}{es:List Expr}{F G:ME}{A:MA}{cf cg:MT}{pos:Pos}
def Kh(i:Nat)(hN:X.N[i]?=some x)(hv:Vis X.env.scope x)(hd:(x==("__debug__" : Str))=false)
 (t_:(x==("__classdict__" : Str))=false):DE K mg X ES (.Name x pos) (cH i):=PE.imp (AR hN hv hd t_) λσ H Q q_=>q_.el λρ h ae w re p=>by
 unfold cH at p;split at p
 .rename_i d ed;obtain⟨v,e1,r⟩:=re.at_ i d ed;exact⟨v,e1,bK w r p⟩
 .exact p.elim
def oo(hp:PE X e (tC v))(r:∀ρ H,RelD K mg ρ H d v):DE K mg X ES e (eC d):=PE.imp hp λσ H Q q_=>q_.el λρ h ae w re p=>bK w (r ρ H) p
def JQ:DE K mg X ES (.Constant (.int i) j pos) (eC (.int i)):=oo HN λ_ _=>.int i
def MH:DE K mg X ES (.Constant (.bool i) j pos) (eC (.bl i)):=oo ML λ_ _=>.bl i
def LN:DE K mg X ES (.Constant .none j pos) (eC .non):=oo Je λ_ _=>.non
def LP:DE K mg X ES (.Constant (.str x) j pos) (eC (.str x)):=oo Ay λ_ _=>.str x
def Ia(hg:Gl X x)(ha:∃a,mg x=some (.ref a))(hm:X.mg=mg)(hd:(x==("__debug__" : Str))=false):DE K mg X ES (.Name x pos) (eC (.glb x)):=by subst hm;obtain⟨a,ha⟩:=ha;exact oo (xf hg ha (v:=.ref a) rfl hd) λ_ _=>.glb ha
structure GC(K:W.Frag)(mg:Ra)(x:Str)(d:D):Prop where
 ex:∃u v,mg x=some u/\RelV v u/\∀ρ H,RelD K mg ρ H d v
def MY(hg:Gl X x)(ha:GC K mg x d)(hm:X.mg=mg)(hd:(x==("__debug__" : Str))=false):DE K mg X ES (.Name x pos) (eC d):=by subst hm;obtain⟨u,v,h1,h2,h3⟩:=ha.ex;exact oo (xf hg h1 h2 hd) h3
def Nr(hg:Gl X x)(hm:mg x=none)(hv:bootBuiltins x=some (.type n))(he:X.mg=mg)(hn:x ≠ "__name__")(hd:(x==("__debug__" : Str))=false):DE K mg X ES (.Name x pos) (eC (.ty n)):=by subst he;exact oo (F1 hg hm hv (v:=.ty n) rfl hn hd) λ_ _=>.ty n
def tj(hd:OpD K mg r g)(σ:St)(H:Hp)(Q:VK)(q:rdE K mg ES (eOp g F G) σ H Q):tOp r (rdE K mg ES F) (rdE K mg ES G) σ H Q:=by obtain⟨ρ,h,ae,w,re,p⟩:=q;exact⟨ρ,h,ae,w,re,p.bind.imp λdx h1 ρ1 H1 l1 w1 p1 x rx=>⟨ρ1,h1,ae,w1,re.mono l1,p1.bind.imp λdy h2 ρ2 H2 l2 w2 p2 y ry=>hd ρ2 h2 H2 dx dy x y Q _ w2 (rx.mono l2) ry p2⟩⟩
def MV(ho:OpR X (binaryOp op) r)(hd:OpD K mg r g)(ha:DE K mg X ES a F)(hb:DE K mg X ES b G):DE K mg X ES (.BinOp a op b pos) (eOp g F G):=PE.imp (Oz ho ha hb) (tj hd)
def NF(hr:IxR X r)(hd:OpD K mg r g)(ha:DE K mg X ES a F)(hb:DE K mg X ES b G)(hs:rB b):DE K mg X ES (.Subscript a b pos) (eOp g F G):=PE.imp (OF hr ha hb hs) (tj hd)
def HQ(ho:OpR X (compareOp op) r)(hd:OpD K mg r g)(ha:DE K mg X ES a F)(hb:DE K mg X ES b G)(hm:behindInMarks op b=false):DE K mg X ES (.Compare a [op] [b] pos) (eOp g F G):=PE.imp (GV ho ha hb hm) (tj hd)
def xy(σ:St)(H:Hp)(Q:Bool->Hp->Prop)(q:rdT K mg ES (tOf F) σ H Q):rdE K mg ES F σ H λx H'=>∃k,x=.bl k/\Q k H':=by
 obtain⟨ρ,h,ae,w,re,p⟩:=q;refine⟨ρ,h,ae,w,re,p.bind.imp λd h1 ρ1 H1 l1 w1 p1 x rx=>?_⟩;unfold asB at p1;split at p1
 .cases rx;exact⟨_,rfl,p1 ρ1 H1 Le.refl w1⟩
 .exact p1.elim
def Lq(ho:OpR X (compareOp op) r)(hd:OpD K mg r g)(ha:DE K mg X ES a F)(hb:DE K mg X ES b G)(hm:behindInMarks op b=false):DT K mg X ES (.Compare a [op] [b] pos) (tOf (eOp g F G)):=
 PT.imp (Gk ho ha hb hm) λσ H Q q=>tj hd σ H _ (xy σ H Q q)
def JW(ha:DE K mg X ES a F)(he:∀s_,isTrue a X.env s_=(do let v <- s_;standAt a.pos;holding [v] (truthy v))):DT K mg X ES a (tOf F):=
 PT.imp (Lk ha he) λσ H Q q=>xy σ H Q q
def KO(ha:DT K mg X ES a cf):DT K mg X ES (.UnaryOp .Not a pos) (tNo cf):=PT.imp (KS ha) λσ H Q q_=>q_.el λρ h ae w re p=>
 ⟨ρ,h,ae,w,re,p.bind.imp λb h1 ρ1 H1 l1 w1 p1=>p1 ρ1 H1 Le.refl w1⟩
def FC(ha:DT K mg X ES a cf):DW K mg X ES (.BoolOp .And [a] pos) cf:=Fo ha
def Jf(ha:DT K mg X ES a cf):DW K mg X ES (.BoolOp .Or [a] pos) cf:=Kc ha
def KJ(ha:DT K mg X ES a cf)(hb:DW K mg X ES (.BoolOp .And (b::es) pos) cg):DW K mg X ES (.BoolOp .And (a::b::es) pos) (tAn cf cg):=PW.imp (LR ha hb) λσ H Q q_=>q_.el λρ h ae w re p=>
 ⟨ρ,h,ae,w,re,p.bind.imp λb h1 ρ1 H1 l1 w1 p1=>by
  cases b with
  |true=>exact⟨ρ1,h1,ae,w1,re.mono l1,p1⟩
  |false=>exact p1 ρ1 H1 Le.refl w1⟩
def LX(ha:DT K mg X ES a cf)(hb:DW K mg X ES (.BoolOp .Or (b::es) pos) cg):DW K mg X ES (.BoolOp .Or (a::b::es) pos) (tO cf cg):=PW.imp (Ng ha hb) λσ H Q q_=>q_.el λρ h ae w re p=>
 ⟨ρ,h,ae,w,re,p.bind.imp λb h1 ρ1 H1 l1 w1 p1=>by
  cases b with
  |true=>exact p1 ρ1 H1 Le.refl w1
  |false=>exact⟨ρ1,h1,ae,w1,re.mono l1,p1⟩⟩
def DW.dt(h:DW K mg X ES a cf):DT K mg X ES a cf:=PW.pt h
def Lu{op}(h:DE K mg X ES a F):DE K mg X ES (.BoolOp op [a] pos) F:=LA h
def HJ(ha:DE K mg X ES a F)(hb:DE K mg X ES (.BoolOp .And (b::es) pos) G):DE K mg X ES (.BoolOp .And (a::b::es) pos) (qK F G):=PE.imp (Hs ha hb) λσ H Q q_=>q_.el λρ h ae w re p=>by
 refine⟨ρ,h,ae,w,re,p.bind.imp λd h1 ρ1 H1 l1 w1 p1 x rx=>?_⟩;unfold asB at p1;split at p1
 .rename_i b';cases rx;refine⟨b',rfl,?_⟩;cases b' with
  |true=>exact⟨ρ1,h1,ae,w1,re.mono l1,p1⟩
  |false=>exact p1 ρ1 H1 Le.refl w1 _ (.bl false)
 .exact p1.elim
def JS(ha:DE K mg X ES a F):DE K mg X ES (.UnaryOp .Not a pos) (Ds F):=PE.imp (LU ha) λσ H Q q_=>q_.el λρ h ae w re p=>by
 refine⟨ρ,h,ae,w,re,p.bind.imp λd h1 ρ1 H1 l1 w1 p1 x rx=>?_⟩;unfold asB at p1;split at p1
 .cases rx;exact⟨_,rfl,p1 ρ1 H1 Le.refl w1 _ (.bl _)⟩
 .exact p1.elim
def Oe(hc:DT K mg X ES c cf)(ha:DE K mg X ES a F)(hb:DE K mg X ES b G):DE K mg X ES (.IfExp c a b pos) (eIf cf F G):=PE.imp (CH hc ha hb) λσ H Q q_=>q_.el λρ h ae w re p=>
 ⟨ρ,h,ae,w,re,p.bind.imp λb h1 ρ1 H1 l1 w1 p1=>by
  cases b with
  |true=>exact⟨ρ1,h1,ae,w1,re.mono l1,p1⟩
  |false=>exact⟨ρ1,h1,ae,w1,re.mono l1,p1⟩⟩
def Nl(ho:UnR X (unaryOp op) r)(hd:UnD K mg r g)(ha:DE K mg X ES a F):DE K mg X ES (.UnaryOp op a pos) (eUn g F):=PE.imp (NZ ho ha) λσ H Q q_=>q_.el λρ h ae w re p=>
 ⟨ρ,h,ae,w,re,p.bind.imp λd h1 ρ1 H1 l1 w1 p1 x rx=>hd ρ1 h1 H1 d x Q _ w1 rx p1⟩
def JI:DA K mg X ES [] lz:=PA.imp Ls λσ H Q q_=>q_.el λρ h ae w re p=>p ρ H Le.refl w _ .nil
def EM(ha:DE K mg X ES e F)(hr:DA K mg X ES es A)(hs:starEach (e::es) X.env=(false,eval e X.env)::starEach es X.env):DA K mg X ES (e::es) (mz F A):=PA.imp (ET ha hr hs) λσ H Q q_=>q_.el λρ h ae w re p=>
 ⟨ρ,h,ae,w,re,p.bind.imp λd h1 ρ1 H1 l1 w1 p1 x rx=>⟨ρ1,h1,ae,w1,re.mono l1,p1.bind.imp λds h2 ρ2 H2 l2 w2 p2 vs rs=>p2 ρ2 H2 Le.refl w2 _ (.cons (rx.mono l2) rs)⟩⟩
def KN{x1}(h:DA K mg X ES es A):DE K mg X ES (.Tuple es x1 pos) (eFn jI A):=PE.imp (Ig h) λσ H Q q_=>q_.el λρ h ae w re p=>
 ⟨ρ,
  h,ae,w,re,p.bind.imp λds h1 ρ1 H1 l1 w1 p1 vs rs=>by
  unfold jI at p1;split at p1
  .rename_i hl;exact⟨by rw[<- rs.len];exact hl,λq hq=>lA w1 rs hq p1⟩
  .exact p1.elim⟩
def Iy(h:DA K mg X ES es A):DE K mg X ES (.List es pos) (eFn fN A):=PE.imp (HM h) λσ H Q q_=>q_.el λρ h ae w re p=>
 ⟨ρ,
  h,ae,w,re,p.bind.imp λds h1 ρ1 H1 l1 w1 p1 vs rs=>by
  unfold fN at p1;split at p1
  .rename_i hl;exact⟨by rw[<- rs.len];exact hl,λq hq=>gp w1 rs hq p1⟩
  .exact p1.elim⟩
def yN(hd:dN K mg r g)(σ:St)(H:Hp)(Q:VK)(q:rdE K mg ES (eFn g A) σ H Q):tCB r (rdA K mg ES A) σ H Q:=by obtain⟨ρ,h,ae,w,re,p⟩:=q;exact⟨ρ,h,ae,w,re,p.bind.imp λds h1 ρ1 H1 l1 w1 p1 vs rs=>hd ρ1 h1 H1 ds vs Q _ w1 rs p1⟩
def Cz{id:String}{r:List V->Hp->VK->Prop}{g:Fn}{x:Str}{p:Pos}(hc:CallR X (.builtin id) r)(hd:dN K mg r g)(hg:Gl X x)(hm:mg x=none)(hv:bootBuiltins x=some (.builtin id))(ha:DA K mg X ES (e::es) A)(hk:X.mg=mg)(hn:x ≠ "__name__")(hdb:(x==("__debug__" : Str))=false)
 (he:starEach (e::es) X.env=(false,eval e X.env)::starEach es X.env) (hpl:(backTo pos (starEach es X.env)).any (·.1)=false):DE K mg X ES (.Call (.Name x p) (e::es) [] pos) (eFn g A):=by
 subst hk;exact PE.imp (Dh hc hg hm hv ha hn hdb he hpl) (yN hd)
def zW(hc:CallR X (.type T) r)(hd:dN K mg r g)(hg:Gl X x)(hm:mg x=none)(hv:bootBuiltins x=some (.type T))(ha:DA K mg X ES (e::es) A)(hk:X.mg=mg)(hn:x ≠ "__name__")(hdb:(x==("__debug__" : Str))=false)
 (he:starEach (e::es) X.env=(false,eval e X.env)::starEach es X.env) (hpl:(backTo pos (starEach es X.env)).any (·.1)=false):DE K mg X ES (.Call (.Name x p) (e::es) [] pos) (eFn g A):=by
 subst hk;exact PE.imp (zy hc hg hm hv ha hn hdb he hpl) (yN hd)
end
noncomputable def SR.then(r:SR)(f:AE->AH->SR):SR:=match r with
 |.nx ae h=>f ae h
 |.rt d h=>.rt d h
 |.bk ae h=>.bk ae h
 |.ct ae h=>.ct ae h
 |.exc c ae h=>.exc c ae h
 |.stuck=>.stuck
noncomputable def R.toS{α:Type}(r:R α)(ae:AE)(f:α->AH->SR):SR:=match r with
 |.ok a h=>f a h
 |.exc c h=>.exc c ae h
 |.stuck=>.stuck
noncomputable def sNx:MS:=λae h=>.nx ae h
def sCt:MS:=λae h=>.ct ae h
noncomputable def Dk(F G:MS):MS:=λae h=>(F ae h).then G
noncomputable def yi(F:ME):MS:=λae h=>(F ae h).toS ae λd h1=>.rt d h1
noncomputable def yn(F:ME):MS:=λae h=>(F ae h).toS ae λ_ h1=>.nx ae h1
noncomputable def sIf(c:MT)(F G:MS):MS:=λae h=>(c ae h).toS ae λb h1=>if b=true then F ae h1 else G ae h1
abbrev MG:=D->AE->AH->R AE
abbrev MGs:=List D->AE->AH->R AE
noncomputable def jm(F:ME)(g:MG):MS:=λae h=>(F ae h).toS ae λd h1=>(g d ae h1).toS ae λd_ h2=>.nx d_ h2
noncomputable def gN(i:Nat):MG:=λd ae h=>.ok (ae.set i (some d)) h
noncomputable def gsN:MGs:=λds ae h=>match ds with
 | []=>.ok ae h
 |_=>.stuck
noncomputable def gsC(g:MG)(u:MGs):MGs:=λds ae h=>match ds with
 |d::r=>(g d ae h).bind λd_ h'=>u r d_ h'
 | []=>.stuck
noncomputable def gT(u:MGs):MG:=λd ae h=>match d with
 |.tup ds=>u ds ae h
 |_=>.stuck
noncomputable def gS(F G:ME)(w:D->D->D->AH->R Unit):MG:=λv ae h=>(F ae h).bind λo h1=>(G ae h1).bind λi h2=>(w o i v h2).bind λ_ h3=>.ok ae h3
noncomputable def BD(i j:Nat)(A:MA):MS:=λae h=>(A ae h).toS ae λds h1=>match ds with
 | [d,e]=>.nx ((ae.set i (some d)).set j (some e)) h1
 |_=>.stuck
noncomputable def uv(i:Nat)(g:D->D->AH->R D)(F:ME):MS:=λae h=>match ae[i]? with
 |some (some x)=>(F ae h).toS ae λy h1=>(g x y h1).toS ae λz h2=>.nx (ae.set i (some z)) h2
 |_=>.stuck
noncomputable def vI(c:Str)(A:MA):MS:=λae h=>(A ae h).toS ae λds h1=>if ds.length<=16777216 then .exc c ae h1 else .stuck
section
variable(K:W.Frag)(mg:Ra)
def rdG(ES:St->XK)(g:MG):TG:=λv σ H Q=>∃ρ h ae d,Wd K mg ρ h H/\RelE K mg ρ H ae σ/\RelD K mg ρ H d v/\PostG K mg ρ H (ES σ) (λd_ _ ρ' H'=>∀σ',RelE K mg ρ' H' d_ σ'->Q σ' H') (g d ae h)
def rdGs(ES:St->XK)(g:MGs):TGs:=λvs σ H Q=>∃ρ h ae ds,Wd K mg ρ h H/\RelE K mg ρ H ae σ/\RelDs K mg ρ H ds vs/\PostG K mg ρ H (ES σ) (λd_ _ ρ' H'=>∀σ',RelE K mg ρ' H' d_ σ'->Q σ' H') (g ds ae h)
def DG(X:Cx)(ES:St->XK)(e:Expr)(g:MG):Prop:=PG X e (rdG K mg ES g)
def DGs(X:Cx)(ES:St->XK)(es:List Expr)(g:MGs):Prop:=PGs X es (rdGs K mg ES g)
def mY(X:Cx)(ES:St->XK):Prop:=∀(pins:Rb) (σ:St) (H:Hp) (s:Shared) (e:Value) (s':Shared),Inv X pins σ H s->CX1 X.prog X.w X.stack H s (ES σ) e s'->X.xe e s'
end
def rdG.el{K:W.Frag}{mg:Ra}{ES:St->XK}{g:MG}{v:V}{σ:St}{H:Hp}{Q:St->Hp->Prop}{C:Prop}(q:rdG K mg ES g v σ H Q)(k:∀ρ h ae d,Wd K mg ρ h H->RelE K mg ρ H ae σ->RelD K mg ρ H d v->PostG K mg ρ H (ES σ) (λd_ _ ρ' H'=>∀σ',RelE K mg ρ' H' d_ σ'->Q σ' H') (g d ae h)->C):C:=by obtain⟨ρ,h,ae,d,w,re,rd,p⟩:=q;exact k ρ h ae d w re rd p
def rdGs.el{K:W.Frag}{mg:Ra}{ES:St->XK}{g:MGs}{v:List V}{σ:St}{H:Hp}{Q:St->Hp->Prop}{C:Prop}(q:rdGs K mg ES g v σ H Q)(k:∀ρ h ae d,Wd K mg ρ h H->RelE K mg ρ H ae σ->RelDs K mg ρ H d v->PostG K mg ρ H (ES σ) (λd_ _ ρ' H'=>∀σ',RelE K mg ρ' H' d_ σ'->Q σ' H') (g d ae h)->C):C:=by obtain⟨ρ,h,ae,d,w,re,rd,p⟩:=q;exact k ρ h ae d w re rd p
section
variable{K:W.Frag}{mg:Ra}{ES:St->XK}{ρ:List Addr}{H:Hp}{h:AH}{ae:AE}{σ:St}{De:Ends}
def dO(p:PostS K mg ρ H De ES (r.toS ae f))(re:RelE K mg ρ H ae σ)
 (i:∀a h1 ρ1 H1,Le ρ H ρ1 H1->Wd K mg ρ1 h1 H1->RelE K mg ρ1 H1 ae σ->PostS K mg ρ1 H1 De ES (f a h1)->k a h1 ρ1 H1):PostG K mg ρ H (ES σ) k r:=by
 cases r with
 |ok a h1=>exact λρ1 H1 l1 w1=>i a h1 ρ1 H1 l1 w1 (re.mono l1) (PostS.mono l1 p)
 |exc c h1=>exact λρ1 H1 C l1 w1 m=>p ρ1 H1 σ C l1 w1 (re.mono l1) m
 |stuck=>exact p
def i8(p:PostS K mg ρ H De ES (.nx d_ h))(w:Wd K mg ρ h H)(re:RelE K mg ρ H d_ σ):De.nx σ H:=p ρ H σ Le.refl w re
def DM(p:PostS K mg ρ H De ES (r.then f))(i:∀h_ h1 ρ1 H1 σ1,Le ρ H ρ1 H1->Wd K mg ρ1 h1 H1->RelE K mg ρ1 H1 h_ σ1->PostS K mg ρ1 H1 De ES (f h_ h1)->N σ1 H1):PostS K mg ρ H { De with nx:=N } ES r:=by
 cases r with
 |nx h_ h1=>exact λρ1 H1 σ1 l1 w1 re1=>i h_ h1 ρ1 H1 σ1 l1 w1 re1 (PostS.mono l1 p)
 |rt d h1=>exact p
 |bk h_ h1=>exact p
 |ct h_ h1=>exact p
 |exc c h_ h1=>exact p
 |stuck=>exact p
end
section
variable{K:W.Frag}{mg:Ra}{X:Cx}{ES:St->XK}{e a b c o i:Expr}{es:List Expr}{st:Stmt}{sts sts':List Stmt}{F:ME}{A:MA}{cf:MT}{U V':MS}{g:MG}{gs:MGs}{pos:Pos}
def GZ:DSs K mg X ES [] sNx:=PSs.imp FX λD σ H q_=>q_.el λρ h ae w re p=>i8 p w re
def FR(h1:DS K mg X ES st U):DSs K mg X ES [st] U:=Fe h1
def C8(h1:DS K mg X ES st U)(h2:DSs K mg X ES sts V'):DSs K mg X ES (st::sts) (Dk U V'):=PSs.imp (CK h1 h2) λD σ H q_=>q_.el λρ h ae w re p=>
 ⟨ρ,h,ae,w,re,DM p λh_ h1 ρ1 H1 σ1 l1 w1 re1 p1=>⟨ρ1,h1,h_,w1,re1,p1⟩⟩
def vX:DS K mg X ES (.Continue pos) sCt:=PS.imp wj λD σ H q_=>q_.el λρ h ae w re p=>p ρ H σ Le.refl w re
def KW(he:DE K mg X ES e F):DS K mg X ES (.Return (some e) pos) (yi F):=PS.imp (HD he) λD σ H q_=>q_.el λρ h ae w re p=>
 ⟨ρ,h,ae,w,re,dO p re λd h1 ρ1 H1 l1 w1 re1 p1 v rv=>p1 ρ1 H1 v Le.refl w1 rv⟩
def EX(he:DE K mg X ES e F)(hs:swapsWith e none pos.line X.env=pure false):DS K mg X ES (.Expr e pos) (yn F):=PS.imp (E2 he hs) λD σ H q_=>q_.el λρ h ae w re p=>
 ⟨ρ,h,ae,w,re,dO p re λd h1 ρ1 H1 l1 w1 re1 p1 v rv=>i8 p1 w1 re1⟩
def ND(hc:DT K mg X ES c cf)(ha:DSs K mg X ES sts U)(hb:DSs K mg X ES sts' V'):DS K mg X ES (.If c sts sts' pos) (sIf cf U V'):=PS.imp (Ov hc ha hb) λD σ H q_=>q_.el λρ h ae w re p=>
 ⟨ρ,h,ae,w,re,dO p re λb h1 ρ1 H1 l1 w1 re1 p1=>by
  cases b with
  |true=>exact⟨ρ1,h1,ae,w1,re1,p1⟩
  |false=>exact⟨ρ1,h1,ae,w1,re1,p1⟩⟩
def GI{i:Nat}{x:Str}(hN:X.N.Nodup)(hi:X.N[i]?=some x)(hx:Loc X.env.scope x)(hf:X.fn x=true\/X.env.scope.names.lookup x=some .local):DG K mg X ES (.Name x pos) (gN i):=
 PG.imp (EL hN hi hx hf) λv σ H Q q_=>q_.el λρ h ae d w re rd p=>p ρ H Le.refl w _ (re.set i rd)
def Hf:DGs K mg X ES [] gsN:=PGs.imp Gn λvs σ H Q q_=>q_.el λρ h ae ds w re rd p=>by
 cases rd with
 |nil=>exact⟨rfl,p ρ H Le.refl w _ re⟩
 |cons r rr=>exact p.elim
def Bs(h1:DG K mg X (λ_=>E0) e g)(h2:DGs K mg X (λ_=>E0) es gs)
 (hs:(assignEach (e::es) X.env).map (·.2)=assign e X.env::(assignEach es X.env).map (·.2)):DGs K mg X (λ_=>E0) (e::es) (gsC g gs):=PGs.imp (Dc h1 h2 hs) λvs σ H Q q_=>q_.el λρ h ae ds w re rd p=>by
 cases rd with
 |nil=>exact p.elim
 |cons r rr=>exact⟨_,_,rfl,ρ,h,ae,_,w,re,r,p.bind.imp λh_ h1 ρ1 H1 l1 w1 p1 σ1 re1=>⟨ρ1,h1,h_,_,w1,re1,rr.mono l1,p1⟩⟩
def KY{k n:Nat}(hK:X.K=K)(hc:X.calm=true)(h:DGs K mg X (λ_=>E0) es gs)
 (hn:(assignEach es X.env).length=n) (hst:(assignEach es X.env).findIdx? (·.1)=none):DG K mg X (λ_=>E0) (.Tuple es k pos) (gT λds ae h=>if ds.length=n then gs ds ae h else .stuck):=by
 subst hK;refine PG.imp (zU hc h hn hst) λv σ H Q q_=>q_.el λρ h ae d w re rd p=>?_;unfold gT at p;cases rd with
 |
  tup q rs=>
  dsimp only at p;split at p
  .rename_i hl;exact⟨_,_,rfl,q,by rw[<- rs.len];exact hl,ρ,h,ae,_,w,re,rs,p⟩
  .exact p.elim
 |_=>exact p.elim
noncomputable def noX{α:Type}(r:R α):R α:=match r with
 |.exc _ _=>.stuck
 |.ok a h=>.ok a h
 |.stuck=>.stuck
def DG.weak(hg:DG K mg X (λ_=>E0) e g):DG K mg X ES e (λd ae h=>noX (g d ae h)):=PG.imp hg λv σ H Q q_=>q_.el λρ h ae d w re rd p=>by
 refine⟨ρ,h,ae,d,w,re,rd,?_⟩;try dsimp only at p
 cases q:g d ae h with
 |ok a h1=>rw[q] at p;exact p
 |exc c h1=>rw[q] at p;exact p.elim
 |stuck=>rw[q] at p;exact p.elim
def p7(K:W.Frag)(mg:Ra)(r:zq)(f:D->D->D->AH->R Unit):Prop:=∀ρ h H do_ di dv o i v (Q:Hp->Prop) E,Wd K mg ρ h H->RelD K mg ρ H do_ o->RelD K mg ρ H di i->RelD K mg ρ H dv v->PostG K mg ρ H E (λ_ _ _ H'=>Q H') (f do_ di dv h)->r o i v H Q
def zM(he:DE K mg X ES e F)(hg:DG K mg X ES a g)(hs:swapsWithSole [a] e pos.line X.env=pure false)(hw:swappedStores [a] e X.env=pure none)
 (h1:(assignEach [a] X.env).map (·.2)=[assign a X.env]):DS K mg X ES (.Assign [a] e pos) (jm F g):=PS.imp (Kv he hg hs hw h1) λD σ H q_=>q_.el λρ h ae w re p=>
 ⟨ρ,h,ae,w,re,dO p re λd h1 ρ1 H1 l1 w1 re1 p1 v rv=>⟨ρ1,h1,ae,d,w1,re1,rv,dO p1 re1 λae2 h2 ρ2 H2 l2 w2 re2 p2 σ' re'=>i8 p2 w2 re'⟩⟩
def Km{i:Nat}{x:Str}{p_:Pos}(hN:X.N.Nodup)(hi:X.N[i]?=some x)(hx:Loc X.env.scope x)(he:DE K mg X ES e F)(hs:swapsWith e (some (.Name x p_)) pos.line X.env=pure false)(hf:X.fn x=true\/X.env.scope.names.lookup x=some .local):
 DS K mg X ES (.Assign [.Name x p_] e pos) (jm F (gN i)):=PS.imp (HK hN hi hx he hs hf) λD σ H q_=>q_.el λρ h ae w re p=>
 ⟨ρ,h,ae,w,re,dO p re λd h1 ρ1 H1 l1 w1 re1 p1 v rv=>i8 p1 w1 (re1.set i rv)⟩
def Ln{i j:Nat}{x y:Str}{px py pt:Pos}{kt k2 pt2}(hc:X.calm=true)(hN:X.N.Nodup)(hi:X.N[i]?=some x)(hj:X.N[j]?=some y)(hij:i≠j)
 (hx:X.env.scope.names.lookup x=some .local) (hy:X.env.scope.names.lookup y=some .local) (ha:DA K mg X ES [a,b] A)
 (hw:swappedStores [.Tuple [.Name x px,.Name y py] kt pt] (.Tuple [a,b] k2 pt2) X.env=pure (some [x,y]))
 (hs:swapsWithSole [.Tuple [.Name x px,.Name y py] kt pt] (.Tuple [a,b] k2 pt2) pos.line X.env=pure false):
 DS K mg X ES (.Assign [.Tuple [.Name x px,.Name y py] kt pt] (.Tuple [a,b] k2 pt2) pos) (BD i j A):=PS.imp (Hv hc hN hi hj hij hx hy ha hw hs) λD σ H q_=>q_.el λρ h ae w re p=>
 ⟨ρ,h,ae,w,re,dO p re λds h1 ρ1 H1 l1 w1 re1 p1 vs rs=>by
  split at p1
  .cases rs with
   |
    cons r1 rs=>
    cases rs with
    |cons r2 rs=>cases rs;exact⟨_,_,rfl,i8 p1 w1 ((re1.set i r1).set j r2)⟩
  .exact p1.elim⟩
def IpD(K:W.Frag)(mg:Ra)(r:TIp)(g:D->D->AH->R D):Prop:=∀ρ h H dx dy x y Q E,Wd K mg ρ h H->RelD K mg ρ H dx x->RelD K mg ρ H dy y->fB K mg ρ H Q E (g dx dy h)->r x y H Q
def Ki{i:Nat}{x:Str}{op:Operator}{ti:TIp}{p_:Pos}{gg:D->D->AH->R D}(hN:X.N.Nodup)(hi:X.N[i]?=some x)(hx:Loc X.env.scope x)(he:DE K mg X ES e F)(ho:PIp X op ti)(hd:IpD K mg ti gg)(hf:X.fn x=true\/X.env.scope.names.lookup x=some .local):
 DS K mg X ES (.AugAssign (.Name x p_) op e pos) (uv i gg F):=PS.imp (KD hN hi hx he ho hf) λD σ H q_=>q_.el λρ h ae w re p=>by
 unfold uv at p;split at p
 .rename_i d ed;obtain⟨v,e1,r⟩:=re.at_ i d ed;exact⟨v,e1,ρ,h,ae,w,re,dO p re λdy h1 ρ1 H1 l1 w1 re1 p1 y ry=>hd ρ1 h1 H1 d dy v y _ _ w1 (r.mono l1) ry (dO p1 re1 λdz h2 ρ2 H2 l2 w2 re2 p2 z rz=>i8 p2 w2 (re2.set i rz))⟩
 .exact p.elim
def BV(hc:X.calm=true)(hR:Rz X E)(hg:Gl X x)(hm:mg x=some (.ref C))(hq:W.excIn X.K C oq "ValueError.__new__"=true)(ha:DA K mg X (λ_=>E) (e::es) A)(hk:X.mg=mg)
 (he:starEach (e::es) X.env=(false,eval e X.env)::starEach es X.env) (j':(backTo cpos (starEach es X.env)).any (·.1)=false) (hd:(x==("__debug__" : Str))=false):
 DS K mg X (λ_=>E) (.Raise (some (.Call (.Name x np) (e::es) [] cpos)) none pos) (vI x A):=by
 subst hk;exact
  PS.imp (CT hc hR hg hm hq ha he j' hd) λD σ H q_=>q_.el λρ h ae w re p=>
  ⟨ρ,
   h,ae,w,re,dO p re λds h1 ρ1 H1 l1 w1 re1 p1 vs rs=>by
   split at p1
   .rename_i hl;exact⟨by rw[<- rs.len];exact hl,p1 ρ1 H1 σ C Le.refl w1 re1 hm⟩
   .exact p1.elim⟩
def Gm(C:Callee X.prog X.w X.K X.mg X.base x k ps (spD K mg n S))(hr:Room k X.A)(hg:Gl X x)(hx:mY X ES)(ha:DA K mg X ES (e::es) A)
 (hdb:(x==("__debug__" : Str))=false) (he:starEach (e::es) X.env=(false,eval e X.env)::starEach es X.env) (hpl:(backTo pos (starEach es X.env)).any (·.1)=false):
 DE K mg X ES (.Call (.Name x p) (e::es) [] pos) (eFn (λds h=>if ds.length=n then S ds h else .stuck) A):=by
 obtain⟨f,fd,F',m,kp,bb,_⟩:=C.ex;intro pins s σ H Q I hh;refine P7 (pR I hg m ?_ hdb);have rd:rdA K mg ES A σ H (λvs H1=>spD K mg n S vs H1 Q (ES σ)):=by
  obtain⟨ρ,h,ae,w,re,p⟩:=hh;refine⟨ρ,h,ae,w,re,p.bind.imp λds h1 ρ1 H1 l1 w1 p1 vs rs=>?_⟩;split at p1
  .rename_i hl;exact⟨ρ1,h1,ds,w1,rs,hl,p1⟩
  .exact p1.elim
 refine W.callWith_K (h₀:=X.base) I.ok.mod.kin kp (O5 (ha pos pins s σ H _ I rd) (λus s1 ⟨vs,H1,I1,r,q⟩=>⟨I1.kIn,?_⟩) λ_ _ z=>z) he hpl;have hl:(us++[]).length=ps.length:=by rw[Pp,<- r.length];exact F'.len _ _ _ _ q
 refine wpAny_call (codeAny_mono (F'.run X.A X.stack s1 H1 ⟨us,[]⟩ us vs Q (ES σ) hr I1.env0 (by simpa using bb s1 us I1.kIn hl) r q) λr s' hq=>?_);cases r with
 |error ex=>exact hx pins σ H1 s1 ex s' I1 hq
 |
  ok fl=>
  cases fl with
  |ret u=>exact I1.after hq
  |next=>exact False.elim hq
  |brk=>exact False.elim hq
  |cont=>exact False.elim hq
noncomputable def fnD(n:Nat)(F:MS):Fn:=λds h=>match F (ds.map some++List.replicate (n-ds.length) none) h with
 |.nx _ h'=>.ok .non h'
 |.rt d h'=>.ok d h'
 |.exc c _ h'=>.exc c h'
 |_=>.stuck
def vV(hp:uc (CX1 X.prog X.w) X E):mY X (λ_=>E):=λpins σ H s e s' I h=>hp pins σ H s e s' I h
def DB:mY X (λ_=>E0):=λpins σ H s e s' I h=>Mu pins σ H s e s' I h
end
section
variable{P:Program}{w:World}{K:W.Frag}{mg:Ra}{base:Heap}{x:Str}{st:Stmt}{k:Nat}{ps N:List Str}{F:MS}
def xW(rs:RelDs K mg ρ H ds vs):RelE K mg ρ H (ds.map some++List.replicate (N.length-ds.length) none) (hX N vs):=by
 unfold hX;refine⟨by rw[F_,F_,u_,u_,Pj,Pj,rs.len],λi d e=>?_⟩;by_cases hi:i<ds.length
 .rw[OR (by rw[u_];exact hi),OW] at e;have e':ds[i]?=some d:=by
   cases q:ds[i]? with
   |none=>rw[q] at e;cases e
   |some z=>rw[q] at e;cases e;rfl
  obtain⟨v,h1,h2⟩:=rs.getD e';refine⟨v,?_,h2⟩;rw[OR (by rw[u_,<- rs.len];exact hi),OW,h1];rfl
 .rw[O0 (by rw[u_];omega),Pe] at e;split at e <;> cases e
def Def.okD(D:Def K mg x st)(S:FnScope N ps (bF st))
 (hb:∀(kV doc pm:Value) (an:Option Addr) (cdv ct:Value) (us:List Value),us.length=ps.length->bindArgs (W.fnOf x x (eh st) (cA st) (bF st) .none kV doc pm an cdv ct) ⟨us,[]⟩=pure (ps.zip us))
 (j_:∀(f:Addr) (cdv:Value) (A:Around) (outer:List Env) (s:Shared) (H:Hp) (E:XK),Room k (A.deeper (envOfC x (bF st) s.heap.objs.size f cdv))->
  DSs K mg (fJ (CX1 P w) P w K mg base N x (bF st) f cdv A outer s H E) (λ_=>E) (cA st) F):Callee P w K mg base x (k+1) ps (spD K mg ps.length (fnD N.length F)):=by
 refine D.okR S hb (λvs H Q E ⟨ρ,h,ds,w,rs,hl,p⟩=>by rw[<- rs.len];exact hl) λf cdv A outer s H vs Q E hr ⟨ρ,h,ds,w',rs,hl,p⟩=>?_;refine⟨_,j_ f cdv A outer s H E hr,ρ,h,_,w',xW rs,?_⟩;unfold fnD at p;split at p
 .rename_i e;rw[e];exact λρ1 H1 σ1 l1 w1 re1=>p ρ1 H1 l1 w1 _ .non
 .rename_i e;rw[e];exact λρ1 H1 v l1 w1 rv=>p ρ1 H1 l1 w1 v rv
 .rename_i e;rw[e];exact λρ1 H1 σ1 C l1 w1 re1 m=>p ρ1 H1 C l1 w1 m
 .exact p.elim
end
noncomputable def cB(h:AH)(n:Nat):Option (List D):=match h[n]? with
 |some (.lst xs)=>some xs
 |some (.fz xs)=>some xs
 |_=>none
noncomputable def ie(h:AH):D->Option (List D)
 |.tup xs=>some xs
 |.ref n=>cB h n
 |.kl xs=>some xs
 |_=>none
section
variable{K:W.Frag}{mg:Ra}{ρ:List Addr}{H:Hp}{h:AH}
def dJ(w:Wd K mg ρ h H)(ea:ρ[n]?=some a)(e:cB h n=some xs):∃vs,SqL K H a vs/\RelDs K mg ρ H xs vs:=by
 unfold cB at e;split at e
 .rename_i ys eo;cases e;obtain⟨vs,h1,h2⟩:=w.ob n a _ ea eo;exact⟨vs,SqL.of h1,h2⟩
 .rename_i ys eo;cases e;obtain⟨o,vs,h1,h2⟩:=w.ob n a _ ea eo;exact⟨vs,.inl (.inr ⟨o,h1⟩),h2⟩
 .cases e
def f9(w:Wd K mg ρ h H)(r:RelD K mg ρ H d v)(e:ie h d=some xs):∃p vs,v=.ref p/\(SqL K H p vs\/SqT K H p vs)/\RelDs K mg ρ H xs vs:=by
 cases r with
 |tup q rs=>have e':some _=some xs:=e;cases e';exact⟨_,_,rfl,.inr q,rs⟩
 |ref ea=>obtain⟨vs,h1,h2⟩:=dJ w ea e;exact⟨_,vs,rfl,.inl h1,h2⟩
 |kl q rs=>have e':some _=some xs:=e;cases e';exact⟨_,_,rfl,.inl (.inr q),rs⟩
 |_=>cases e
end
noncomputable def g2(f:Int->Int->R D)(x y:D):R D:=match x,y with
 |.int i,.int j=>f i j
 |_,_=>.stuck
noncomputable def gI(f:Int->Int->D):D->D->AH->R D:=λx y h=>match x,y with
 |.int i,.int j=>.ok (f i j) h
 |_,_=>.stuck
open Classical in
def gIc(C:Int->Int->Prop)(f:Int->Int->D):D->D->AH->R D:=λx y h=>match x,y with
 |.int i,.int j=>if C i j then .ok (f i j) h else .stuck
 |_,_=>.stuck
section
variable{K:W.Frag}{mg:Ra}
def kx(hr:∀i j ρ H,RelD K mg ρ H (g i j) (f i j)):OpD K mg (rI0 f) (gI g):=λρ h H dx dy x y Q E w rx ry p=>by
 unfold gI at p;split at p
 .cases rx;cases ry;exact⟨_,_,rfl,rfl,bK w (hr _ _ ρ H) p⟩
 .exact p.elim
def oD(hr:∀i j ρ H,RelD K mg ρ H (g i j) (f i j)):OpD K mg (rI C f) (gIc C g):=λρ h H dx dy x y Q E w rx ry p=>by
 unfold gIc at p;split at p
 .cases rx;cases ry;split at p
  .rename_i hc;exact⟨_,_,rfl,rfl,hc,bK w (hr _ _ ρ H) p⟩
  .exact p.elim
 .exact p.elim
noncomputable def gOr(g g':D->D->AH->R D):D->D->AH->R D:=λx y h=>match g x y h with
 |.stuck=>g' x y h
 |r=>r
def OpD.or(a:OpD K mg r g)(b:OpD K mg r' g'):OpD K mg (λx y H Q=>r x y H Q\/r' x y H Q) (gOr g g'):=λρ h H dx dy x y Q E w rx ry p=>by
 unfold gOr at p;split at p
 .exact .inr (b ρ h H dx dy x y Q E w rx ry p)
 .exact .inl (a ρ h H dx dy x y Q E w rx ry p)
end
noncomputable def nT:D->D->AH->R D:=λx y h=>match x,y with
 |.ref n,.ref m=>match h[n]?,h[m]? with
  |some (.lst xs),some (.lst ys)=>if xs.length+ys.length<=16777216 then .ok (.ref h.length) (h++[.lst (xs++ys)]) else .stuck
  |_,_=>.stuck
 |.tup xs,.tup ys=>if xs.length+ys.length<=16777216 then .ok (.tup (xs++ys)) h else .stuck
 |_,_=>.stuck
noncomputable def gIx:D->D->AH->R D:=λx y h=>match ie h x,y with
 |some xs,.int i=>match atI xs i with
  |some d=>.ok d h
  |none=>.stuck
 |_,_=>.stuck
section
variable{K:W.Frag}{mg:Ra}{X:Cx}
def mG(K:W.Frag):R2:=λx y H Q=>∃a b ys,x=.ref a/\y=.ref b/\SqT K H a []/\SqT K H b ys/\Q (.ref b) H
def Fy:OpR X (binaryOp .Add) (mG X.K):=by
 intro pins s σ H x y v u Q I rx ry h;obtain⟨a,b,ys,rfl,rfl,ha,hb,q⟩:=h;cases rx;cases ry;obtain⟨its,r1,p1,_⟩:=I.tuple ha;obtain⟨its2,r2,p2,_⟩:=I.tuple hb;have e:its=[]:=r1.nil_iff.mpr rfl;subst e;obtain⟨⟨cls,dd,data,sl⟩,ho,hc,n,hd⟩:=id p1;obtain⟨⟨cls2,dd2,data2,sl2⟩,ho2,hc2,n2,hd2⟩:=id p2;simp only at hc hd hc2 hd2;subst hc hd hc2 hd2;exact concat_meets ⟨_,ho,rfl⟩ ⟨_,ho2,rfl⟩ noFill_tuple_add seq_tuple_add Qu Qp (Qn _ _)
  (tuple_addW0 _ _ _ _ n n2 dd dd2 sl sl2 rfl) ⟨ho,ho2,⟨.ref b,H,I,rfl,q⟩⟩
def E5:OpD K mg (λx y H Q=>rA x y H Q\/(mV K x y H Q\/mG K x y H Q)) nT:=λρ h H dx dy x y Q E w rx ry p=>by
 unfold nT at p;split at p
 .cases
   rx with
  |
   ref ea=>
   cases ry with
   |
    ref eb=>
    split at p
    .rename_i xs ys e1 e2;split at p
     .rename_i hl;obtain⟨vs,q1,r1⟩:=w.ob _ _ _ ea e1;obtain⟨ws,q2,r2⟩:=w.ob _ _ _ eb e2;exact .inl ⟨_,_,vs,ws,rfl,rfl,q1,q2,by rw[<- r1.len,<- r2.len];exact hl,λp' hp=>gp w (r1.append r2) hp p⟩
     .exact p.elim
    .exact p.elim
 .cases
   rx with
  |
   tup q1 r1=>
   cases ry with
   |
    tup q2 r2=>
    split at p
    .rename_i hl;cases r1 with
     |nil=>exact .inr (.inr ⟨_,_,_,rfl,rfl,q1,q2,bK w (.tup q2 r2) p⟩)
     |cons r0 r1=>refine .inr (.inl ⟨_,_,_,_,rfl,rfl,q1,q2,(λz=>nomatch z),by rw[<- (RelDs.cons r0 r1).len,<- r2.len];exact hl,λz=>?_,λ_ p' hp=>lA w ((RelDs.cons r0 r1).append r2) hp p⟩);subst z;cases r2;rw[Pp] at p;exact bK w (.tup q1 (.cons r0 r1)) p
    .exact p.elim
 .exact p.elim
def G9(r:RelDs K mg ρ H xs vs)(e:atI xs i=some d):∃v,atI vs i=some v/\RelD K mg ρ H d v:=by
 unfold atI at e ⊢;rw[<- r.len];cases q:ixN xs.length i with
 |none=>rw[q] at e;cases e
 |some j=>rw[q] at e;exact r.getD e
def Kp:OpD K mg (λx y H Q=>zt K x y H Q\/yb K x y H Q) gIx:=λρ h H dx dy x y Q E w rx ry p=>by
 unfold gIx at p;split at p
 .rename_i xs i e1;split at p
  .rename_i d e2;cases ry;obtain⟨pa,vs,rfl,hq,rs⟩:=f9 w rx e1;obtain⟨v,e3,rv⟩:=G9 rs e2;rcases hq with hq |hq
   .exact .inl ⟨_,_,_,_,rfl,rfl,hq,e3,bK w rv p⟩
   .exact .inr ⟨_,_,_,_,rfl,rfl,hq,e3,bK w rv p⟩
  .exact p.elim
 .exact p.elim
def ixK(h:X.K=K):IxR X (λx y H Q=>zt K x y H Q\/yb K x y H Q):=by subst h;exact FF.or JD
def catK(h:X.K=K):OpR X (binaryOp .Add) (λx y H Q=>rA x y H Q\/(mV K x y H Q\/mG K x y H Q)):=by subst h;exact K4.or (Gq.or Fy)
end
noncomputable def fM:Nat->AH->D->Option PyData
 |0,_,_=>none
 |_+1,_,.non=>some .none
 |_+1,_,.bl b=>some (.bool b)
 |_+1,_,.int i=>some (.int i)
 |_+1,_,.str x=>some (.str x)
 |k+1,h,.tup xs=>(xs.mapM (fM k h)).map .tuple
 |k+1,h,.ref n=>match cB h n with
  |some xs=>(xs.mapM (fM k h)).map .list
  |none=>none
 |_+1,_,_=>none
def sk{K:W.Frag}{mg:Ra}{ρ:List Addr}{H:Hp}{f:D->Option PyData}(hf:∀d v pd,RelD K mg ρ H d v->f d=some pd->Rep K H v pd):∀{xs:List D}{vs:List V}{ps:List PyData},RelDs K mg ρ H xs vs->xs.mapM f=some ps->Reps K H vs ps:=by
 intro xs;induction xs with
 |nil=>intro vs ps r e;cases r;have e':some []=some _:=e;cases e';exact .nil
 |
  cons x xs ih=>
  intro vs ps r e;cases r with
  |
   cons r rr=>
   rw[P_] at e;cases q:f x with
   |none=>rw[q] at e;cases e
   |
    some pd=>
    rw[q] at e;cases q2:xs.mapM f with
    |none=>rw[q2] at e;cases e
    |some pds=>rw[q2] at e;have e':some (pd::pds)=some ps:=e;cases e';exact .cons (hf _ _ _ r q) (ih rr q2)
theorem iu{K:W.Frag}{mg:Ra}{ρ:List Addr}{H:Hp}{h:AH}(w:Wd K mg ρ h H):∀(k:Nat) {d:D}{v:V}{pd:PyData},RelD K mg ρ H d v->fM k h d=some pd->Rep K H v pd
 |0,_,_,_,_,e=>by cases e
 |
  k+1,d,v,pd,r,e=>by
  cases r with
  |non=>have e':some _=some pd:=e;cases e';exact .non
  |bl b=>have e':some _=some pd:=e;cases e';exact .bl b
  |int b=>have e':some _=some pd:=e;cases e';exact .int b
  |str b=>have e':some _=some pd:=e;cases e';exact .str b
  |
   tup q rs=>
   rename_i ds;have e':(ds.mapM (fM k h)).map PyData.tuple=some pd:=e;cases q2:ds.mapM (fM k h) with
   |none=>rw[q2] at e';cases e'
   |some ps=>rw[q2] at e';cases e';exact .tup q (sk (λd v pd r e=>iu w k r e) rs q2)
  |
   ref ea=>
   rename_i n a;unfold fM at e;split at e
   .rename_i xs e1;obtain⟨vs,h1,h2⟩:=dJ w ea e1;cases q2:xs.mapM (fM k h) with
    |none=>rw[q2] at e;cases e
    |some ps=>rw[q2] at e;cases e;exact .lst h1 (sk (λd v pd r e=>iu w k r e) h2 q2)
   .cases e
  |_=>cases e
noncomputable def vU(h:AH)(x y:D):Option Bool:=match fM 164 h x,fM 164 h y with
 |some a,some b=>if shp a=true/\shp b=true then some (PyData.eqv a b) else none
 |_,_=>none
def gEq(g_:Bool):D->D->AH->R D:=λx y h=>match vU h x y with
 |some b=>.ok (.bl (if g_ then !b else b)) h
 |none=>.stuck
section
variable{K:W.Frag}{mg:Ra}
def xi(w:Wd K mg ρ h H)(rx:RelD K mg ρ H dx x)(ry:RelD K mg ρ H dy y)(e:vU h dx dy=some b):
 ∃a c,Rep K H x a/\Rep K H y c/\shp a=true/\shp c=true/\PyData.eqv a c=b:=by
 unfold vU at e;split at e
 .rename_i a c e1 e2;split at e
  .rename_i hs;cases e;exact⟨a,c,iu w 164 rx e1,iu w 164 ry e2,hs.1,hs.2,rfl⟩
  .cases e
 .cases e
def Jl:OpD K mg (xJ K) (gEq false):=λρ h H dx dy x y Q E w rx ry p=>by
 unfold gEq at p;split at p
 .rename_i b e;obtain⟨a,c,h1,h2,h3,h4,rfl⟩:=xi w rx ry e;exact⟨a,c,h1,h2,h3,h4,bK w (.bl _) p⟩
 .exact p.elim
def J9:OpD K mg (xY K) (gEq true):=λρ h H dx dy x y Q E w rx ry p=>by
 unfold gEq at p;split at p
 .rename_i b e;obtain⟨a,c,h1,h2,h3,h4,rfl⟩:=xi w rx ry e;exact⟨a,c,h1,h2,h3,h4,bK w (.bl _) p⟩
 .exact p.elim
end
noncomputable def mJ:D->Bool
 |.non=>true
 |.bl _=>true
 |.int _=>true
 |.str _=>true
 |_=>false
noncomputable def toV:D->V
 |.bl b=>.bl b
 |.int i=>.int i
 |.str x=>.str x
 |_=>.non
noncomputable def eqF(x y:D):Bool:=eqV (toV x) (toV y)
def gIn(g_:Bool):D->D->AH->R D:=λx y h=>match ie h y with
 |some xs=>if mJ x=true/\xs.all mJ=true then .ok (.bl (if g_ then !(xs.any λd=>eqF d x) else xs.any λd=>eqF d x)) h else .stuck
 |none=>.stuck
section
variable{K:W.Frag}{mg:Ra}{ρ:List Addr}{H:Hp}
def vo(r:RelD K mg ρ H d v)(f:mJ d=true):v=toV d/\flatV v=true:=by
 cases r with
 |non=>exact⟨rfl,rfl⟩
 |bl=>exact⟨rfl,rfl⟩
 |int=>exact⟨rfl,rfl⟩
 |str=>exact⟨rfl,rfl⟩
 |_=>cases f
def Bh:∀{ds:List D}{vs:List V},RelDs K mg ρ H ds vs->ds.all mJ=true->vs=ds.map toV/\vs.all flatV=true:=by
 intro ds;induction ds with
 |nil=>intro vs r f;cases r;exact⟨rfl,rfl⟩
 |
  cons d0 ds ih=>
  intro vs r f;cases r with
  |cons r rr=>rw[Pm,B_] at f;obtain⟨rfl,h1⟩:=vo r f.1;obtain⟨rfl,h2⟩:=ih rr f.2;exact⟨rfl,by rw[Pm,h1,h2];rfl⟩
def AS(g_:Bool):OpD K mg (rIn K g_) (gIn g_):=λρ h H dx dy x y Q E w rx ry p=>by
 unfold gIn at p;split at p
 .rename_i xs e;split at p
  .rename_i hf;obtain⟨pa,vs,rfl,hq,rs⟩:=f9 w ry e;obtain⟨rfl,f1⟩:=vo rx hf.1;obtain⟨rfl,f2⟩:=Bh rs hf.2;refine⟨pa,_,rfl,hq,f1,f2,?_⟩;have e2:inV (toV dx) (xs.map toV)=xs.any λd=>eqF d dx:=by unfold inV eqF;rw[List.any_map];rfl
   rw[e2];exact bK w (.bl _) p
  .exact p.elim
 .exact p.elim
def l8(g_:Bool):D->D->AH->R D:=λx y h=>match x,y with
 |.non,.non=>.ok (.bl (!g_)) h
 |_,.non=>.ok (.bl g_) h
 |_,_=>.stuck
def GA:OpD K mg (λx y H Q=>y=.non/\Q (.bl (decide (x=.non))) H) (l8 false):=λρ h H dx dy x y Q E w rx ry p=>by
 unfold l8 at p;split at p
 .cases rx;cases ry;exact⟨rfl,bK w (.bl _) p⟩
 .rename_i hne;cases ry;refine⟨rfl,?_⟩;have e:decide (x=V.non)=false:=by rw[decide_eq_false_iff_not];rintro rfl;cases rx;exact hne rfl
  rw[e];exact bK w (.bl _) p
 .exact p.elim
def BZ:OpD K mg (λx y H Q=>y=.non/\Q (.bl (!decide (x=.non))) H) (l8 true):=λρ h H dx dy x y Q E w rx ry p=>by
 unfold l8 at p;split at p
 .cases rx;cases ry;exact⟨rfl,bK w (.bl _) p⟩
 .rename_i hne;cases ry;refine⟨rfl,?_⟩;have e:decide (x=V.non)=false:=by rw[decide_eq_false_iff_not];rintro rfl;cases rx;exact hne rfl
  rw[e];exact bK w (.bl _) p
 .exact p.elim
end
noncomputable def Itd(lo:Int)(n:Nat):It:=⟨λj _=>j<n,λj G v G'=>G'=G/\v=.int (lo-j),λj _=>n<=j⟩
inductive AIt where
 |lst (n:Nat) (xs:List D) |tup (xs:List D) |rng (lo:Int) (k:Nat) |rgd (lo:Int) (k:Nat) |enm (s:AIt) |zip (s t:AIt)
noncomputable def iX:Nat->List D->List D
 |_,[]=>[]
 |i,d::ds=>.tup [.int (i:Nat),d]::iX (i+1) ds
noncomputable def AIt.items:AIt->List D
 |.lst _ xs=>xs
 |.tup xs=>xs
 |.rng lo k=>(List.range k).map λi=>D.int (lo+(i:Nat))
 |.rgd lo k=>(List.range k).map λi=>D.int (lo-(i:Nat))
 |.enm s=>iX 0 s.items
 |.zip s t=>List.zipWith (λx y=>.tup [x,y]) s.items t.items
def AIt.guard:AIt->AH->Prop
 |.lst n xs,h=>cB h n=some xs
 |.enm s,h=>s.guard h
 |.zip s t,h=>s.guard h/\t.guard h
 |_,_=>True
def SrcR(K:W.Frag)(mg:Ra)(ρ:List Addr)(H:Hp):AIt->Bool->Addr->Prop
 |.lst n _,true,a=>ρ[n]?=some a
 |.tup xs,false,p=>∃vs,SqT K H p vs/\RelDs K mg ρ H xs vs
 |_,_,_=>False
def ItR(K:W.Frag)(mg:Ra)(ρ:List Addr)(H:Hp):AIt->It->Prop
 |.lst n _,J=>∃a,ρ[n]?=some a/\J=Itl K a
 |.tup xs,J=>∃p vs,SqT K H p vs/\RelDs K mg ρ H xs vs/\J=Itt K p
 |.rng lo k,J=>J=Itr lo k
 |.rgd lo k,J=>J=Itd lo k
 |.enm s,J=>∃b a,SrcR K mg ρ H s b a/\J=CZ K b a
 |.zip s t,J=>∃b c a d,SrcR K mg ρ H s b a/\SrcR K mg ρ H t c d/\J=ItZ K b c a d
theorem vG:∀{ds:List D}{k i:Nat}{e:D},(iX k ds)[i]?=some e->∃d,ds[i]?=some d/\e=.tup [.int ((k+i:Nat):Int),d]
 | [],_,_,_,q=>by simp [iX] at q
 |d::ds,k,0,e,q=>⟨d,rfl,by simpa [iX] using q.symm⟩
 |
  d::ds,k,i+1,e,q=>by
  obtain⟨d',q1,q2⟩:=vG (ds:=ds) (k:=k+1) (i:=i) (e:=e) (by simpa [iX] using q);refine⟨d',by simpa using q1,?_⟩;rw[q2];congr 4;omega
theorem vS:∀(ds:List D) (k:Nat),(iX k ds).length=ds.length
 | [],_=>rfl
 |_::ds,k=>by show (iX (k+1) ds).length+1=ds.length+1;rw[vS ds]
section
variable{K:W.Frag}{mg:Ra}{ρ ρ1:List Addr}{H H1:Hp}{h1:AH}
def SrcR.at_(r:SrcR K mg ρ H s b a)(l:Le ρ H ρ1 H1)(w:Wd K mg ρ1 h1 H1)(g:s.guard h1):∃vs,SqB K b H1 a vs/\RelDs K mg ρ1 H1 s.items vs:=by
 cases s with
 |
  lst n xs=>
  cases b with
  |true=>exact dJ w (l.pre _ _ r) g
  |false=>exact r.elim
 |
  tup xs=>
  cases b with
  |true=>exact r.elim
  |false=>obtain⟨vs,q,rs⟩:=r;exact⟨vs,l.sqT q,rs.mono l⟩
 |rng _ _=>cases b <;> exact r.elim
 |rgd _ _=>cases b <;> exact r.elim
 |enm _=>cases b <;> exact r.elim
 |zip _ _=>cases b <;> exact r.elim
def ItR.nums{f:Nat->Int}{k:Nat}(w:Wd K mg ρ1 h1 H1):(∀(i:Nat) (d:D),((List.range k).map λi=>D.int (f i))[i]?=some d->i<k/\∀x H',(H'=H1/\x=V.int (f i))->Le ρ1 H1 ρ1 H'/\Wd K mg ρ1 h1 H'/\RelD K mg ρ1 H' d x)/\k<=((List.range k).map λi=>D.int (f i)).length:=by
 refine⟨λi d e=>?_,by simp⟩;rw[OW] at e;cases q:(List.range k)[i]? with
 |none=>rw[q] at e;cases e
 |some j=>rw[q] at e;have hj:=x_.mp q;have e2:=hj.2;rw[List.getElem_range] at e2;subst e2;cases e;refine⟨by simpa using hj.1,λx H' ⟨e1,e2⟩=>?_⟩;subst e1 e2;exact⟨Le.refl,w,.int _⟩
def ItR.step(hJ:ItR K mg ρ H it J)(l:Le ρ H ρ1 H1)(w:Wd K mg ρ1 h1 H1)(g:it.guard h1):
 (∀(i:Nat) (d:D),it.items[i]?=some d->J.go i H1/\∀x H',J.yld i H1 x H'->Le ρ1 H1 ρ1 H'/\Wd K mg ρ1 h1 H'/\RelD K mg ρ1 H' d x)/\J.stop it.items.length H1:=by
 cases it with
 |
  lst n xs=>
  obtain⟨a,ea,rfl⟩:=hJ;obtain⟨vs,q,rs⟩:=dJ w (l.pre _ _ ea) g;refine⟨λi d e=>?_,vs,q,by rw[<- rs.len];exact y_ _⟩;obtain⟨v,ev,rv⟩:=rs.getD e;refine⟨⟨vs,v,q,ev⟩,λx H' ⟨e1,y⟩=>?_⟩;subst e1
  have:=(y vs q).symm.trans ev
  cases this;exact⟨Le.refl,w,rv⟩
 |
  tup xs=>
  obtain⟨p,vs,q,rs,rfl⟩:=hJ;have q1:=l.sqT q;have rs1:=rs.mono l;refine⟨λi d e=>?_,vs,q1,by rw[<- rs1.len];exact y_ _⟩;obtain⟨v,ev,rv⟩:=rs1.getD e;refine⟨⟨vs,v,q1,ev⟩,λx H' ⟨e1,y⟩=>?_⟩;subst e1
  have:=(y vs q1).symm.trans ev
  cases this;exact⟨Le.refl,w,rv⟩
 |rng lo k=>cases hJ;exact ItR.nums w
 |rgd lo k=>cases hJ;exact ItR.nums w
 |
  enm s=>
  obtain⟨b,a,r,rfl⟩:=hJ;obtain⟨vs,q,rs⟩:=r.at_ l w g;refine⟨λi d e=>?_,vs,q,by show vs.length=(iX 0 s.items).length;rw[vS,rs.len]⟩;obtain⟨d',q1,rfl⟩:=vG (show (iX 0 s.items)[i]?=some d from e);obtain⟨v,ev,rv⟩:=rs.getD q1;refine⟨⟨vs,v,q,ev⟩,λx H' ⟨p,u,e1,hp,e2,hu⟩=>?_⟩;subst e1 e2
  have:=(hu vs q).symm.trans ev
  cases this;rw[Nat.zero_add];exact⟨eX hp,w.tuple hp,.tup (SqT.of dS) (.cons (.int _) (.cons (rv.mono (eX hp)) .nil))⟩
 |
  zip s t=>
  obtain⟨b,c,a,d,r1,r2,rfl⟩:=hJ;obtain⟨vs,q,rs⟩:=r1.at_ l w g.1;obtain⟨us,q',rs'⟩:=r2.at_ l w g.2;refine⟨λi e ei=>?_,vs,us,q,q',?_⟩
  .have ei':(List.zipWith (λx y=>D.tup [x,y]) s.items t.items)[i]?=some e:=ei;rw[PL] at ei';cases k1:s.items[i]? with
   |none=>rw[k1] at ei';cases ei'
   |
    some d1=>
    cases k2:t.items[i]? with
    |none=>rw[k1,k2] at ei';cases ei'
    |
     some d2=>
     rw[k1,k2] at ei';cases ei';obtain⟨v,ev,rv⟩:=rs.getD k1;obtain⟨v',ev',rv'⟩:=rs'.getD k2;refine⟨⟨vs,us,v,v',q,q',ev,ev'⟩,λx H' ⟨p,u,u',e1,hp,e2,hu,hu'⟩=>?_⟩;subst e1 e2
     have:=(hu vs q).symm.trans ev
     cases this
     have:=(hu' us q').symm.trans ev'
     cases this;exact⟨eX hp,w.tuple hp,.tup (SqT.of dS) (.cons (rv.mono (eX hp)) (.cons (rv'.mono (eX hp)) .nil))⟩
  .have hl:(AIt.zip s t).items.length=min s.items.length t.items.length:=P0 ..;rw[hl,rs.len,rs'.len];rcases Nat.le_total vs.length us.length with z |z
   .left;rw[Nat.min_eq_left z];exact List.getElem?_eq_none (y_ _)
   .right;rw[Nat.min_eq_right z];exact List.getElem?_eq_none (y_ _)
end
noncomputable def SR.loop(r:SR)(f:AE->AH->SR):SR:=match r with
 |.nx ae h=>f ae h
 |.ct ae h=>f ae h
 |.bk ae h=>.nx ae h
 |.rt d h=>.rt d h
 |.exc c ae h=>.exc c ae h
 |.stuck=>.stuck
open Classical in
def kQ(G:AH->Prop)(g:MG)(B:MS):List D->MS
 | [],ae,h=>if G h then .nx ae h else .stuck
 |d::ds,ae,h=>if G h then (g d ae h).toS ae λh_ h1=>(B h_ h1).loop (kQ G g B ds) else .stuck
abbrev MI:=AE->AH->R AIt
def BE(I:MI)(g:MG)(B:MS):MS:=λae h=>(I ae h).toS ae λit h1=>kQ it.guard g B it.items ae h1
open Classical in
def lcL(G:AH->Prop)(g:MG)(c:MT)(F:ME):List D->List D->AE->AH->R (List D)
 | [],acc,_,h=>if G h then .ok acc h else .stuck
 |d::ds,acc,ae,h=>if G h/\acc.length<16777216 then (g d ae h).bind λh_ h1=>(c h_ h1).bind λb h2=>if b=true then (F h_ h2).bind λy h3=>lcL G g c F ds (acc++[y]) h_ h3 else lcL G g c F ds acc h_ h2 else .stuck
noncomputable def kI(sub:Rg)(ae:AE):AE:=sub.map λo=>o.bind λi=>(ae[i]?).bind id
def eLC(I:MI)(sub:Rg)(g:MG)(c:MT)(F:ME):ME:=λae h=>(I ae h).bind λit h1=>(noX (lcL it.guard g c F it.items [] (kI sub ae) h1)).bind fN
noncomputable def tY:MT:=λ_ h=>.ok true h
section
variable(K:W.Frag)(mg:Ra)
def rdI(ES:St->XK)(F:MI):TI:=λσ H R'=>∃ρ h ae,Wd K mg ρ h H/\RelE K mg ρ H ae σ/\PostG K mg ρ H (ES σ) (λit _ ρ' H'=>∀J,ItR K mg ρ' H' it J->R' J H') (F ae h)
def DI(X:Cx)(ES:St->XK)(tg a_:Expr)(F:MI):Prop:=PI X tg a_ (rdI K mg ES F)
end
noncomputable def BW(F:ME):MI:=λae h=>(F ae h).bind λd h1=>match d with
 |.tup xs=>.ok (.tup xs) h1
 |.ref n=>match cB h1 n with
  |some xs=>.ok (.lst n xs) h1
  |none=>.stuck
 |_=>.stuck
noncomputable def Co(A:MA):MI:=λae h=>(A ae h).bind λds h1=>match ds with
 | [.int j]=>if -(2^62)<=j/\j<2^62 then .ok (.rng 0 j.toNat) h1 else .stuck
 |_=>.stuck
noncomputable def Cy(A:MA):MI:=λae h=>(A ae h).bind λds h1=>match ds with
 | [.int i,.int j]=>if -(2^62)<=i/\i<2^62/\-(2^62)<=j/\j<2^62 then .ok (.rng i (j-i).toNat) h1 else .stuck
 |_=>.stuck
noncomputable def iI(d:D)(h:AH):Option AIt:=match d with
 |.tup xs=>some (.tup xs)
 |.ref n=>(cB h n).map (.lst n)
 |_=>none
def Bq(A:MA):MI:=λae h=>(A ae h).bind λds h1=>match ds with
 | [d]=>(match iI d h1 with
  |some s=>.ok (.enm s) h1
  |none=>.stuck)
 |_=>.stuck
noncomputable def CD(A:MA):MI:=λae h=>(A ae h).bind λds h1=>match ds with
 | [d,e]=>(match iI d h1,iI e h1 with
  |some s,some t=>.ok (.zip s t) h1
  |_,_=>.stuck)
 |_=>.stuck
section
variable{K:W.Frag}{mg:Ra}{X:Cx}{ES:St->XK}{tg a_ e a b c k_:Expr}{F:ME}{A:MA}{I:MI}{g:MG}{cf:MT}{U:MS}{sts:List Stmt}{pos:Pos}
def PI.imp(h:PI X tg a_ t)(k:∀σ H Q,t' σ H Q->t σ H Q):PI X tg a_ t':=λpins s σ H Q I w=>h pins s σ H Q I (k σ H Q w)
def HB(hl:PE X l tl):PI X tg l (λσ H R=>tl σ H λx H1=>(∃a,x=.ref a/\(∃xs,SqL X.K H1 a xs)/\R (Itl X.K a) H1)\/(∃a,x=.ref a/\(∃xs,SqT X.K H1 a xs)/\R (Itt X.K a) H1)):=by
 intro pins s σ H R I h;refine thn (hl pins s σ H _ I h) λv s1 ⟨x,H1,I1,r1,q1⟩=>?_;rcases q1 with ⟨a,e,⟨xs,hq⟩,q⟩ |⟨a,e,⟨xs,hq⟩,q⟩
 .subst e;cases r1;obtain⟨its,rv,p,hz⟩:=I1.list hq;refine wpAny_pyIter_list p.isList ?_;refine⟨s1.heap.objs.size,[s1.heap.objs.size],_,_,H1,rfl,I1.kept (t':=s1.toks) λb o e=>D_ _ e,As a _,⟨_,M_ _ rfl,rfl,rfl⟩,λb hb=>?_,q⟩;have e:b=s1.heap.objs.size:=by simpa using hb
  subst e;exact I1.fpOk (y_ _) (I1.hok.fresh (y_ _))
 .subst e;cases r1;obtain⟨its,rv,p,hz⟩:=I1.tuple hq;refine Qo (show s1.heap.IsTuple a its.toArray from p) ?_;refine⟨s1.heap.objs.size,[s1.heap.objs.size],_,_,H1,rfl,I1.kept (t':=s1.toks) λb o e=>D_ _ e,y9 a _,⟨_,M_ _ rfl,rfl,rfl⟩,λb hb=>?_,q⟩;have e:b=s1.heap.objs.size:=by simpa using hb
  subst e;exact I1.fpOk (y_ _) (I1.hok.fresh (y_ _))
def J6(hK:X.K=K)(he:DE K mg X ES e F):DI K mg X ES tg e (BW F):=by
 subst hK;refine PI.imp (HB he) λσ H R ⟨ρ,h,ae,w,re,p⟩=>⟨ρ,h,ae,w,re,p.bind.imp λd h1 ρ1 H1 l1 w1 p1 v rv=>?_⟩;cases rv with
 |tup q rs=>exact .inr ⟨_,rfl,⟨_,q⟩,p1 ρ1 H1 Le.refl w1 _ ⟨_,_,q,rs,rfl⟩⟩
 |
  ref ea=>
  dsimp only at p1;split at p1
  .rename_i xs e1;obtain⟨vs,q,rs⟩:=dJ w1 ea e1;exact .inl ⟨_,rfl,⟨_,q⟩,p1 ρ1 H1 Le.refl w1 _ ⟨_,ea,rfl⟩⟩
  .exact p1.elim
 |_=>exact p1.elim
def Ak(hg:Gl X "range")(hm:mg "range"=none)(ha:DA K mg X ES [a] A)(hk:X.mg=mg)(hs:starEach [a] X.env=[(false,eval a X.env)]):DI K mg X ES tg (.Call (.Name "range" p) [a] [] pos) (Co A):=by
 subst hk;refine PI.imp (AI hg hm ha hs) λσ H R ⟨ρ,h,ae,w,re,p⟩=>⟨ρ,h,ae,w,re,p.bind.imp λds h1 ρ1 H1 l1 w1 p1 vs rs=>?_⟩;split at p1
 .cases rs with
  |
   cons r rs=>
   cases r;cases rs;split at p1
   .rename_i hb;exact⟨_,rfl,hb.1,hb.2,p1 ρ1 H1 Le.refl w1 _ rfl⟩
   .exact p1.elim
 .exact p1.elim
def Ah(hg:Gl X "range")(hm:mg "range"=none)(ha:DA K mg X ES [a,b] A)(hk:X.mg=mg)(hs:starEach [a,b] X.env=[(false,eval a X.env),(false,eval b X.env)])(hs2:starEach [b] X.env=[(false,eval b X.env)]):DI K mg X ES tg (.Call (.Name "range" p) [a,b] [] pos) (Cy A):=by
 subst hk;refine PI.imp (zO hg hm ha hs hs2) λσ H R ⟨ρ,h,ae,w,re,p⟩=>⟨ρ,h,ae,w,re,p.bind.imp λds h1 ρ1 H1 l1 w1 p1 vs rs=>?_⟩;split at p1
 .cases
   rs with
  |
   cons r rs=>
   cases rs with
   |
    cons r2 rs=>
    cases r;cases r2;cases rs;split at p1
    .rename_i hb;exact⟨_,_,rfl,hb,p1 ρ1 H1 Le.refl w1 _ rfl⟩
    .exact p1.elim
 .exact p1.elim
def ml(w:Wd K mg ρ h H)(r:RelD K mg ρ H d v)(q:iI d h=some s):∃b p,v=.ref p/\SrcR K mg ρ H s b p/\∃vs,SqB K b H p vs:=by
 cases r with
 |tup hq rs=>cases q;exact⟨false,_,rfl,⟨_,hq,rs⟩,_,hq⟩
 |ref ea=>obtain⟨xs,q1,rfl⟩:=OV.mp q;obtain⟨vs,h1,h2⟩:=dJ w ea q1;exact⟨true,_,rfl,ea,vs,h1⟩
 |_=>cases q
def He(hK:X.K=K)(hg:Gl X "enumerate")(hm:mg "enumerate"=none)(ha:DA K mg X ES [a] A)(hk:X.mg=mg)(hs:starEach [a] X.env=[(false,eval a X.env)]):DI K mg X ES (.Tuple elts x1 tp) (.Call (.Name "enumerate" p) [a] [] pos) (Bq A):=by
 subst hk hK;refine PI.imp (FV hg hm ha hs) λσ H R ⟨ρ,h,ae,w,re,p⟩=>⟨ρ,h,ae,w,re,p.bind.imp λds h1 ρ1 H1 l1 w1 p1 vs rs=>?_⟩;split at p1
 .cases rs with
  |
   cons r rs=>
   cases rs;split at p1
   .rename_i s q;obtain⟨b,pa,rfl,sr,xs,hx⟩:=ml w1 r q;exact⟨b,pa,xs,rfl,hx,p1 ρ1 H1 Le.refl w1 _ ⟨b,pa,sr,rfl⟩⟩
   .exact p1.elim
 .exact p1.elim
def JG(hK:X.K=K)(hg:Gl X "zip")(hm:mg "zip"=none)(ha:DA K mg X ES [a,b] A)(hk:X.mg=mg)(hs:starEach [a,b] X.env=[(false,eval a X.env),(false,eval b X.env)])(hs2:starEach [b] X.env=[(false,eval b X.env)]):DI K mg X ES (.Tuple elts x1 tp) (.Call (.Name "zip" p) [a,b] [] pos) (CD A):=by
 subst hk hK;refine PI.imp (LB hg hm ha hs hs2) λσ H R ⟨ρ,h,ae,w,re,p⟩=>⟨ρ,h,ae,w,re,p.bind.imp λds h1 ρ1 H1 l1 w1 p1 vs rs=>?_⟩;split at p1
 .cases
   rs with
  |
   cons r rs=>
   cases rs with
   |
    cons r' rs=>
    cases rs;split at p1
    .rename_i s t q q';obtain⟨b,pa,rfl,sr,xs,hx⟩:=ml w1 r q;obtain⟨c,pd,rfl,sr',ys,hy⟩:=ml w1 r' q';exact⟨b,c,pa,pd,xs,ys,rfl,hx,hy,p1 ρ1 H1 Le.refl w1 _ ⟨b,c,pa,pd,sr,sr',rfl⟩⟩
    .exact p1.elim
 .exact p1.elim
def uE(p:PostS K mg ρ H De ES (r.loop f))(i:∀h_ h1 ρ1 H1 σ1,Le ρ H ρ1 H1->Wd K mg ρ1 h1 H1->RelE K mg ρ1 H1 h_ σ1->PostS K mg ρ1 H1 De ES (f h_ h1)->N σ1 H1):
 PostS K mg ρ H { De with nx:=N,ct:=N,bk:=De.nx } ES r:=by
 cases r with
 |nx h_ h1=>exact λρ1 H1 σ1 l1 w1 re1=>i h_ h1 ρ1 H1 σ1 l1 w1 re1 (PostS.mono l1 p)
 |rt d h1=>exact p
 |bk h_ h1=>exact p
 |ct h_ h1=>exact λρ1 H1 σ1 l1 w1 re1=>i h_ h1 ρ1 H1 σ1 l1 w1 re1 (PostS.mono l1 p)
 |exc c h_ h1=>exact p
 |stuck=>exact p
def KG(hp:PassesOwn (model X.prog X.w) X.A X.env X.xe)(hc:X.calm=true)(hi:DI K mg X ES tg a_ I)(hg:DG K mg X ES tg g)(hb:DSs K mg X ES sts U)
 (hs:∀x,foldedSetIterable a_ X.env x=pure x):DS K mg X ES (.For tg a_ sts [] pos) (BE I g U):=by
 refine PS.imp (Lr hp hc hi hg hb hs) λDe σ H q_=>q_.el λρ h ae w re p=>⟨ρ,h,ae,w,re,dO p re λit h1 ρ1 H1 l1 w1 re1 p1 J hJ=>?_⟩;refine⟨λi m σ2 H2=>m=it.items.length-i/\i<=it.items.length/\∃ρ2 h2 ae2,Le ρ1 H1 ρ2 H2/\Wd K mg ρ2 h2 H2/\RelE K mg ρ2 H2 ae2 σ2/\PostS K mg ρ2 H2 De ES (kQ it.guard g U (it.items.drop i) ae2 h2),⟨_,rfl,O2 _,ρ1,h1,ae,Le.refl,w1,re1,p1⟩,?_⟩;rintro i m σ2 H2 ⟨rfl,hi',ρ2,h2,ae2,l2,w2,re2,p2⟩;by_cases hlt:i<it.items.length
 .have hd:it.items.drop i=it.items[i]::it.items.drop (i+1):=List.drop_eq_getElem_cons hlt;rw[hd] at p2;unfold kQ at p2;split at p2
  .rename_i hG;obtain⟨st,_⟩:=hJ.step l2 w2 hG;obtain⟨go,yl⟩:=st i it.items[i] (OT hlt);refine .inr ⟨go,λσ' H'=>∃ρ3 h3 ae3,Le ρ1 H1 ρ3 H'/\Wd K mg ρ3 h3 H'/\RelE K mg ρ3 H' ae3 σ'/\PostS K mg ρ3 H' De ES (kQ it.guard g U (it.items.drop (i+1)) ae3 h3),
    λσ' H' ⟨ρ3,h3,ae3,q⟩=>⟨_,by omega,rfl,hlt,ρ3,h3,ae3,q⟩,λx H' hy=>?_⟩
   obtain⟨ly,wy,rx⟩:=yl x H' hy;refine⟨ρ2,h2,ae2,_,wy,re2.mono ly,rx,dO (PostS.mono ly p2) (re2.mono ly) λae3 h3 ρ3 H3 l3 w3 re3 p3 σ' re'=>⟨ρ3,h3,ae3,w3,re',uE p3 λae4 h4 ρ4 H4 σ4 l4 w4 re4 p4=>⟨ρ4,h4,ae4,((l2.trans ly).trans l3).trans l4,w4,re4,p4⟩⟩⟩
  .exact p2.elim
 .have hi2:i=it.items.length:=by omega
  subst hi2;rw[List.drop_length] at p2;unfold kQ at p2;split at p2
  .rename_i hG;exact .inl ⟨(hJ.step l2 w2 hG).2,i8 p2 w2 re2⟩
  .exact p2.elim
def Cf(re:RelE K mg ρ H ae σ)(sub:Rg):RelE K mg ρ H (kI sub ae) (iK sub σ):=by
 unfold kI iK;refine⟨by rw[u_,u_],λj d e=>?_⟩;rw[OW] at e ⊢;cases q:sub[j]? with
 |none=>rw[q] at e;cases e
 |
  some o=>
  rw[q] at e;cases o with
  |none=>cases e
  |
   some i=>
   have e':(ae[i]?).bind id=some d:=OQ e;cases q2:ae[i]? with
   |none=>rw[q2] at e';cases e'
   |some z=>rw[q2] at e';have e3:z=some d:=e';subst e3;obtain⟨v,h1,h2⟩:=re.at_ i d q2;refine⟨v,?_,h2⟩;show some ((σ[i]?).bind id)=some (some v);rw[h1];rfl
def nF(p:PostG K mg ρ H E k ((noX (r.bind f)).bind m)):
 PostG K mg ρ H E0 (λa h1 ρ' H'=>PostG K mg ρ' H' E k ((noX (f a h1)).bind m)) r:=by
 cases r with
 |ok a h1=>exact λρ1 H1 l1 w1=>PostG.mono l1 p
 |exc c h1=>exact p.elim
 |stuck=>exact p.elim
def xS(σ:St)(H:Hp)(Q:VK)(q:rdE K mg ES (eLC I sub g cf F) σ H Q):mF (rdI K mg ES I) sub (rdG K mg (λ_=>E0) g) (rdT K mg (λ_=>E0) cf) (rdE K mg (λ_=>E0) F) σ H Q:=by
 obtain⟨ρ,h,ae,w,re,p⟩:=q;refine⟨ρ,h,ae,w,re,p.bind.imp λit h1 ρ1 H1 l1 w1 p1 J hJ=>?_⟩;have re1:=Cf (re.mono l1) sub;refine⟨λi m ys σ2 H2=>m=it.items.length-i/\i<=it.items.length/\∃ρ2 h2 ae2 acc,Le ρ1 H1 ρ2 H2/\Wd K mg ρ2 h2 H2/\RelE K mg ρ2 H2 ae2 σ2/\RelDs K mg ρ2 H2 acc ys/\
  PostG K mg ρ2 H2 (ES σ) (λd _ ρ' H'=>∀v,RelD K mg ρ' H' d v->Q v H') ((noX (lcL it.guard g cf F (it.items.drop i) acc ae2 h2)).bind fN),
  ⟨_,rfl,O2 _,ρ1,h1,kI sub ae,[],Le.refl,w1,re1,.nil,p1⟩,?_⟩
 rintro i m ys σ2 H2 ⟨rfl,hi',ρ2,h2,ae2,acc,l2,w2,re2,rs,p2⟩;by_cases hlt:i<it.items.length
 .have hd:it.items.drop i=it.items[i]::it.items.drop (i+1):=List.drop_eq_getElem_cons hlt;rw[hd] at p2;unfold lcL at p2;split at p2
  .rename_i hG;obtain⟨st,_⟩:=hJ.step l2 w2 hG.1;obtain⟨go,yl⟩:=st i it.items[i] (OT hlt);refine .inr ⟨go,by rw[<- rs.len];exact hG.2,λys' σ' H'=>∃ρ3 h3 ae3 acc3,Le ρ1 H1 ρ3 H'/\Wd K mg ρ3 h3 H'/\RelE K mg ρ3 H' ae3 σ'/\RelDs K mg ρ3 H' acc3 ys'/\
    PostG K mg ρ3 H' (ES σ) (λd _ ρ' H'=>∀v,RelD K mg ρ' H' d v->Q v H') ((noX (lcL it.guard g cf F (it.items.drop (i+1)) acc3 ae3 h3)).bind fN),
    λys' σ' H' ⟨ρ3,h3,ae3,acc3,q⟩=>⟨_,by omega,rfl,hlt,ρ3,h3,ae3,acc3,q⟩,λx H' hy=>?_⟩
   obtain⟨ly,wy,rx⟩:=yl x H' hy;refine⟨ρ2,h2,ae2,_,wy,re2.mono ly,rx,(nF (PostG.mono ly p2)).imp λae3 h3 ρ3 H3 l3 w3 p3 σ3 re3=>⟨ρ3,h3,ae3,w3,re3,(nF p3).imp λb h4 ρ4 H4 l4 w4 p4=>?_⟩⟩;cases b with
   |true=>exact⟨ρ4,h4,ae3,w4,re3.mono l4,(nF p4).imp λy h5 ρ5 H5 l5 w5 p5 v rv=>⟨ρ5,h5,ae3,acc++[y],(((l2.trans ly).trans l3).trans l4).trans l5,w5,(re3.mono l4).mono l5,((((rs.mono ly).mono l3).mono l4).mono l5).append (.cons rv .nil),p5⟩⟩
   |false=>exact⟨ρ4,h4,ae3,acc,((l2.trans ly).trans l3).trans l4,w4,re3.mono l4,((rs.mono ly).mono l3).mono l4,p4⟩
  .exact p2.elim
 .have hi2:i=it.items.length:=by omega
  subst hi2;rw[List.drop_length] at p2;unfold lcL at p2;split at p2
  .rename_i hG;refine .inl ⟨(hJ.step l2 w2 hG).2,?_⟩;have p3:PostG K mg ρ2 H2 (ES σ) (λd _ ρ' H'=>∀v,RelD K mg ρ' H' d v->Q v H') (fN acc h2):=p2;unfold fN at p3;split at p3
   .rename_i hl;exact⟨by rw[<- rs.len];exact hl,λq hq=>gp w2 rs hq p3⟩
   .exact p3.elim
  .exact p2.elim
def NP(M:List Str)(kn:List (Str×NameKind))(N:List Str)(sub:Rg)
 (hc:X.calm=true) (hi:DI K mg X ES tg a_ I)
 (hg:∀cl C s₂ H fp,DG K mg (bL X N scope cl C s₂ H fp) (λ_=>E0) tg g) (he:∀cl C s₂ H fp,DE K mg (bL X N scope cl C s₂ H fp) (λ_=>E0) k_ F)
 (hM:X.N=M) (hkn:X.env.scope.names=kn) (f_:fU M scope.names sub N=true)
 (hk:scope.kind=.function) (hnc:∀x∈scope.names,x.2 ≠ .cell) (b_:∀x∈scope.names,x.2=.local->scope.names.lookup x.1=some .local)
 (r_:iC kn scope.names=true)
 (hsl:sub.length=N.length) (hs:∀x,foldedSetIterable a_ X.env x=pure x):
 DE K mg X ES (.ListComp k_ [⟨tg,a_,[],0⟩] scope pos) (eLC I sub g tY F):=
 PE.imp (OM M kn N sub hc hi hg he hM hkn f_ hk hnc b_ r_ hsl hs) λσ H Q q=>by
  have:=xS (cf:=tY) σ H Q q
  obtain⟨ρ,h,ae,w,re,p⟩:=this;refine⟨ρ,h,ae,w,re,p.imp λit h1 ρ1 H1 l1 w1 k J hJ=>?_⟩;obtain⟨W,w0,tn⟩:=k J hJ;refine⟨W,w0,λi m ys σ2 H2 hW=>?_⟩;rcases tn i m ys σ2 H2 hW with z |⟨go,hl,Nx,hN,st⟩
  .exact .inl z
  .refine .inr ⟨go,hl,Nx,hN,λx H' hy=>?_⟩;obtain⟨ρ3,h3,ae3,d3,w3,re3,rd3,p3⟩:=st x H' hy;refine⟨ρ3,h3,ae3,d3,w3,re3,rd3,p3.imp λae4 h4 ρ4 H4 l4 w4 k4 σ4 re4=>?_⟩;obtain⟨ρ5,h5,ae5,w5,re5,p5⟩:=k4 σ4 re4;exact p5 ρ5 _ Le.refl w5
def F8(M:List Str)(kn:List (Str×NameKind))(N:List Str)(sub:Rg)
 (hc:X.calm=true) (hi:DI K mg X ES tg a_ I)
 (hg:∀cl C s₂ H fp,DG K mg (bL X N scope cl C s₂ H fp) (λ_=>E0) tg g) (ht:∀cl C s₂ H fp,DT K mg (bL X N scope cl C s₂ H fp) (λ_=>E0) c cf) (he:∀cl C s₂ H fp,DE K mg (bL X N scope cl C s₂ H fp) (λ_=>E0) k_ F)
 (hM:X.N=M) (hkn:X.env.scope.names=kn) (f_:fU M scope.names sub N=true)
 (hk:scope.kind=.function) (hnc:∀x∈scope.names,x.2 ≠ .cell) (b_:∀x∈scope.names,x.2=.local->scope.names.lookup x.1=some .local)
 (r_:iC kn scope.names=true)
 (hsl:sub.length=N.length) (hs:∀x,foldedSetIterable a_ X.env x=pure x):
 DE K mg X ES (.ListComp k_ [⟨tg,a_,[c],0⟩] scope pos) (eLC I sub g cf F):=
 PE.imp (F9 M kn N sub hc hi hg ht he hM hkn f_ hk hnc b_ r_ hsl hs) λσ H Q q=>xS σ H Q q
def FZ(ht:∀σ H Q,rdE K mg ES F σ H Q->t σ H Q)(De:Ends)(σ:St)(H:Hp)(q:rdS K mg ES (jm F (gN i)) De σ H):xN t (sZ i) De σ H:=by obtain⟨ρ,h,ae,w,re,p⟩:=q;exact ht σ H _ ⟨ρ,h,ae,w,re,dO p re λd h1 ρ1 H1 l1 w1 re1 p1 v rv=>i8 p1 w1 (re1.set i rv)⟩
def GQ(M:List Str)(kn:List (Str×NameKind))(N:List Str)(sub:Rg)
 (hc:X.calm=true) (hN:X.N.Nodup) (hix:X.N[iT]?=some xT) (hxl:Loc X.env.scope xT) (hi:DI K mg X ES tg a_ I)
 (hg:∀cl C s₂ H fp,DG K mg (bL X N scope cl C s₂ H fp) (λ_=>E0) tg g) (ht:∀cl C s₂ H fp,DT K mg (bL X N scope cl C s₂ H fp) (λ_=>E0) c cf) (he:∀cl C s₂ H fp,DE K mg (bL X N scope cl C s₂ H fp) (λ_=>E0) k_ F)
 (hsw:swapsWith (.ListComp k_ [⟨tg,a_,[c],0⟩] scope pos) (some (.Name xT px)) spos.line X.env=pure true)
 (hM:X.N=M) (hkn:X.env.scope.names=kn) (f_:fU M scope.names sub N=true)
 (hk:scope.kind=.function) (hnc:∀x∈scope.names,x.2 ≠ .cell) (b_:∀x∈scope.names,x.2=.local->scope.names.lookup x.1=some .local)
 (r_:iC kn scope.names=true)
 (hsl:sub.length=N.length) (hs:∀x,foldedSetIterable a_ X.env x=pure x) (hf:X.fn xT=true\/X.env.scope.names.lookup xT=some .local):
 DS K mg X ES (.Assign [.Name xT px] (.ListComp k_ [⟨tg,a_,[c],0⟩] scope pos) spos) (jm (eLC I sub g cf F) (gN iT)):=
 PS.imp (JK hc hN hix hxl hi hk hnc b_ (by subst hkn;exact rh r_) hsl (by subst hM;exact nB f_) hg (λcl C s₂ H fp=>xo (ht cl C s₂ H fp)) he hsw hs hf) (FZ xS)
end
noncomputable def whN(c:MT)(B:MS):Nat->MS
 |0,_,_=>.stuck
 |k+1,ae,h=>(c ae h).toS ae λb h1=>if b=true then (B ae h1).loop (whN c B k) else .nx ae h1
open Classical in
def sWh(c:MT)(B:MS):MS:=λae h=>if q:∃k,whN c B k ae h ≠ .stuck then whN c B q.choose ae h else .stuck
theorem nD:∀{k:Nat}{ae:AE}{h:AH},whN c B k ae h ≠ .stuck->whN c B (k+1) ae h=whN c B k ae h
 |0,_,_,q=>absurd rfl q
 |
  k+1,ae,h,q=>by
  have e1:whN c B (k+2) ae h=(c ae h).toS ae λb h1=>if b=true then (B ae h1).loop (whN c B (k+1)) else .nx ae h1:=rfl
  have e2:whN c B (k+1) ae h=(c ae h).toS ae λb h1=>if b=true then (B ae h1).loop (whN c B k) else .nx ae h1:=rfl
  rw[e2] at q;rw[e1,e2];cases r:c ae h with
  |exc _ _=>rfl
  |stuck=>rfl
  |
   ok b h1=>
   rw[r] at q;cases b with
   |false=>rfl
   |
    true=>
    have q':(B ae h1).loop (whN c B k) ≠ .stuck:=q;show (B ae h1).loop (whN c B (k+1))=(B ae h1).loop (whN c B k);cases s:B ae h1 with
    |nx a2 h2=>rw[s] at q';exact nD q'
    |ct a2 h2=>rw[s] at q';exact nD q'
    |_=>rfl
def zI(q:whN c B k ae h ≠ .stuck)(hj:k<=j):whN c B j ae h=whN c B k ae h:=by
 induction hj with
 |refl=>rfl
 |step _ ih=>rw[nD (by rw[ih];exact q),ih]
def AU(q:whN c B k ae h ≠ .stuck):sWh c B ae h=whN c B k ae h:=by
 have hq:∃k,whN c B k ae h ≠ .stuck:=⟨k,q⟩;unfold sWh;rw[dif_pos hq];rcases Nat.le_total hq.choose k with z |z
 .exact (zI hq.choose_spec z).symm
 .exact zI q z
section
variable{K:W.Frag}{mg:Ra}{X:Cx}{ES:St->XK}{c:Expr}{cf:MT}{U:MS}{sts:List Stmt}{pos:Pos}
def B6(hp:PassesOwn (model X.prog X.w) X.A X.env X.xe)(hc:DT K mg X ES c cf)(hb:DSs K mg X ES sts U):DS K mg X ES (.While c sts [] pos) (sWh cf U):=by
 refine PS.imp (Cw hp hc hb) λDe σ H q_=>q_.el λρ h ae w re p=>?_;have hx:∃k,whN cf U k ae h ≠ .stuck:=Qg λz=>by unfold sWh at p;rw[dif_neg z] at p;exact p.elim
 obtain⟨k,hk⟩:=hx;rw[AU hk] at p;refine⟨λm σ2 H2=>∃ρ2 h2 ae2,Wd K mg ρ2 h2 H2/\RelE K mg ρ2 H2 ae2 σ2/\PostS K mg ρ2 H2 De ES (whN cf U m ae2 h2),⟨k,ρ,h,ae,w,re,p⟩,?_⟩;rintro m σ2 H2 ⟨ρ2,h2,ae2,w2,re2,p2⟩;cases m with
 |zero=>exact p2.elim
 |
  succ m=>
  refine⟨ρ2,h2,ae2,w2,re2,dO p2 re2 λb h3 ρ3 H3 l3 w3 re3 p3=>?_⟩;cases b with
  |true=>exact⟨λσ' H'=>∃ρ4 h4 ae4,Wd K mg ρ4 h4 H'/\RelE K mg ρ4 H' ae4 σ'/\PostS K mg ρ4 H' De ES (whN cf U m ae4 h4),λσ' H' q=>⟨m,Nat.lt_succ_self _,q⟩,ρ3,h3,ae2,w3,re3,uE p3 λae4 h4 ρ4 H4 σ4 l4 w4 re4 p4=>⟨ρ4,h4,ae4,w4,re4,p4⟩⟩
  |false=>exact i8 p3 w3 re3
end
noncomputable def vc:Fn:=λds h=>match ds with
 | [d]=>match ie h d with
  |some xs=>.ok (.int xs.length) h
  |none=>match d with
   |.str z=>if z.length<=16777216 then .ok (.int z.length) h else .stuck
   |_=>.stuck
 |_=>.stuck
noncomputable def yG:Fn:=λds h=>match ds with
 | [.int i]=>.ok (.int (if i<0 then -i else i)) h
 |_=>.stuck
noncomputable def jG:List D->Option (List Bool)
 | []=>some []
 |.bl b::r=>(jG r).map (b :: ·)
 |_=>none
noncomputable def iQ:List D->Option (List Int)
 | []=>some []
 |.int b::r=>(iQ r).map (b :: ·)
 |_=>none
theorem uT:∀{ds:List D}{bs:List Bool},jG ds=some bs->ds=bs.map D.bl
 | [],bs,e=>by cases e;rfl
 |
  .bl b::r,bs,e=>by
  have e':(jG r).map (b :: ·)=some bs:=e;cases q:jG r with
  |none=>rw[q] at e';cases e'
  |some z=>rw[q] at e';cases e';rw[uT q];rfl
theorem rK:∀{ds:List D}{bs:List Int},iQ ds=some bs->ds=bs.map D.int
 | [],bs,e=>by cases e;rfl
 |
  .int b::r,bs,e=>by
  have e':(iQ r).map (b :: ·)=some bs:=e;cases q:iQ r with
  |none=>rw[q] at e';cases e'
  |some z=>rw[q] at e';cases e';rw[rK q];rfl
noncomputable def tV:Fn:=λds h=>match ds with
 | [.ref n]=>match (cB h n).bind jG with
  |some bs=>.ok (.bl (bs.all id)) h
  |none=>.stuck
 |_=>.stuck
noncomputable def vP:Fn:=λds h=>match ds with
 | [.ref n]=>match (cB h n).bind iQ with
  |some ns=>.ok (.int ns.sum) h
  |none=>.stuck
 |_=>.stuck
noncomputable def pH:Fn:=λds h=>match ds with
 | [d]=>match ie h d with
  |some xs=>.ok (.ref h.length) (h++[.lst xs])
  |none=>.stuck
 |_=>.stuck
def mm:Fn:=λds h=>match ds with
 | [d]=>match ie h d with
  |some xs=>.ok (.tup xs) h
  |none=>.stuck
 |_=>.stuck
section
variable{K:W.Frag}{mg:Ra}{X:Cx}
def La:dN K mg (λxs H Q=>(∃p ys,xs=[.ref p]/\(SqL K H p ys\/SqT K H p ys)/\Q (.int ys.length) H)\/(∃z,xs=[.str z]/\z.length<=sizeLine/\Q (.int z.length) H)) vc:=λρ h H ds vs Q E w rs p=>by
 unfold vc at p;split at p
 .cases
   rs with
  |
   cons r rs=>
   cases rs;split at p
   .rename_i xs e;obtain⟨pa,vs,rfl,hq,rs⟩:=f9 w r e;exact .inl ⟨_,_,rfl,hq,by rw[<- rs.len];exact bK w (.int _) p⟩
   .split at p
    .cases r;split at p
     .rename_i hl;exact .inr ⟨_,rfl,hl,bK w (.int _) p⟩
     .exact p.elim
    .exact p.elim
 .exact p.elim
def LZ(h:X.K=K):CallR X (.builtin "len") (λxs H Q=>(∃p ys,xs=[.ref p]/\(SqL K H p ys\/SqT K H p ys)/\Q (.int ys.length) H)\/(∃z,xs=[.str z]/\z.length<=sizeLine/\Q (.int z.length) H)):=by subst h;exact uW.or uC
def J1:dN K mg (λxs H Q=>∃i,xs=[.int i]/\Q (.int (if i<0 then -i else i)) H) yG:=λρ h H ds vs Q E w rs p=>by
 unfold yG at p;split at p
 .cases rs with
  |cons r rs=>cases r;cases rs;exact⟨_,rfl,bK w (.int _) p⟩
 .exact p.elim
def Jv:dN K mg (λxs H Q=>∃(a:Addr) (bs:List Bool),xs=[.ref a]/\SqL K H a (bs.map V.bl)/\Q (.bl (bs.all id)) H) tV:=λρ h H ds vs Q E w rs p=>by
 unfold tV at p;split at p
 .cases
   rs with
  |
   cons r rs=>
   cases r with
   |
    ref ea=>
    cases rs;split at p
    .rename_i bs e;obtain⟨xs,q,e2⟩:=O9.mp e
     .obtain⟨vs,h1,h2⟩:=dJ w ea q;rw[uT e2] at h2;rw[h2.bls] at h1;exact⟨_,bs,rfl,h1,bK w (.bl _) p⟩
    .exact p.elim
 .exact p.elim
def JX:dN K mg (λxs H Q=>∃(a:Addr) (ns:List Int),xs=[.ref a]/\SqL K H a (ns.map V.int)/\Q (.int ns.sum) H) vP:=λρ h H ds vs Q E w rs p=>by
 unfold vP at p;split at p
 .cases
   rs with
  |
   cons r rs=>
   cases r with
   |
    ref ea=>
    cases rs;split at p
    .rename_i bs e;obtain⟨xs,q,e2⟩:=O9.mp e
     .obtain⟨vs,h1,h2⟩:=dJ w ea q;rw[rK e2] at h2;rw[h2.ints] at h1;exact⟨_,bs,rfl,h1,bK w (.int _) p⟩
    .exact p.elim
 .exact p.elim
def FN:dN K mg (λxs H Q=>∃p ys,xs=[.ref p]/\(SqL K H p ys\/SqT K H p ys)/\∀l,H l=none->Q (.ref l) (upd H l (.lst ys))) pH:=λρ h H ds vs Q E w rs p=>by
 unfold pH at p;split at p
 .cases rs with
  |
   cons r rs=>
   cases rs;split at p
   .rename_i xs e;obtain⟨pa,vs,rfl,hq,rs⟩:=f9 w r e;exact⟨_,_,rfl,hq,λl hl=>gp w rs hl p⟩
   .exact p.elim
 .exact p.elim
def BR:dN K mg (λxs H Q=>∃p ys,xs=[.ref p]/\((SqL K H p ys/\∀l,H l=none->Q (.ref l) (upd H l (.tup ys)))\/(SqT K H p ys/\Q (.ref p) H))) mm:=λρ h H ds vs Q E w rs p=>by
 unfold mm at p;split at p
 .cases rs with
  |
   cons r rs=>
   cases rs;split at p
   .rename_i xs e;obtain⟨pa,vs,rfl,hq,rs⟩:=f9 w r e;rcases hq with hq |hq
    .exact⟨_,_,rfl,.inl ⟨hq,λl hl=>lA w rs hl p⟩⟩
    .exact⟨_,_,rfl,.inr ⟨hq,bK w (.tup hq rs) p⟩⟩
   .exact p.elim
 .exact p.elim
def Ab(h:X.K=K):CallR X (.type "list") (λxs H Q=>∃p ys,xs=[.ref p]/\(SqL K H p ys\/SqT K H p ys)/\∀l,H l=none->Q (.ref l) (upd H l (.lst ys))):=by subst h;exact vA
def GF(h:X.K=K):CallR X (.type "tuple") (λxs H Q=>∃p ys,xs=[.ref p]/\((SqL K H p ys/\∀l,H l=none->Q (.ref l) (upd H l (.tup ys)))\/(SqT K H p ys/\Q (.ref p) H))):=by subst h;exact sV
end
inductive Cl where
 |b (n:String) |o (x:Str)
 deriving DecidableEq
noncomputable def tyD(h:AH):D->Option Cl
 |.non=>some (.b "NoneType")
 |.bl _=>some (.b "bool")
 |.int _=>some (.b "int")
 |.str _=>some (.b "str")
 |.tup _=>some (.b "tuple")
 |.exc x=>some (.o x)
 |.ref n=>match h[n]? with
  |some (.lst _)=>some (.b "list")
  |some (.fz _)=>some (.b "list")
  |some (.dct _)=>some (.b "dict")
  |_=>none
 |_=>none
noncomputable def clD:D->Option Cl
 |.ty n=>some (.b n)
 |.glb x=>some (.o x)
 |_=>none
def ClV(mg:Ra):Cl->Value->Prop
 |.b n,v=>v=.type n
 |.o x,v=>∃a,v=.ref a/\mg x=some (.ref a)
abbrev kZ:=List (Cl×Cl×Bool)
structure KitsOk(K:W.Frag)(mg:Ra)(kt:kZ):Prop where
 one:∀p∈kt,∀t v,ClV mg p.1 t->ClV mg p.2.1 v->W.kitOne K t v=some p.2.2
 xc:∀p∈kt,∀x C,p.1=.o x->mg x=some (.ref C)->XCls K C
noncomputable def kit(kt:kZ)(t c:Cl):Option Bool:=(kt.find? λp=>decide (p.1=t)&&decide (p.2.1=c)).map (·.2.2)
noncomputable def iA(kt:kZ)(t:Cl):List Cl->Option Bool
 | []=>some false
 |c::r=>match kit kt t c with
  |some true=>some true
  |some false=>iA kt t r
  |none=>none
noncomputable def uN(kt:kZ):Fn:=λds h=>match ds with
 | [d,c]=>match tyD h d with
  |some t=>match c with
   |.tup cs=>match cs.mapM clD with
    |some (c0::cr)=>match iA kt t (c0::cr),kit kt t c0 with
     |some b,some _=>.ok (.bl b) h
     |_,_=>.stuck
    |_=>.stuck
   |c=>match clD c with
    |some cl=>match kit kt t cl with
     |some b=>.ok (.bl b) h
     |none=>.stuck
    |none=>.stuck
  |none=>.stuck
 |_=>.stuck
def qV(e:kit kt t c=some b):(t,c,b)∈kt:=by
 unfold kit at e;cases q:kt.find? (λp=>decide (p.1=t)&&decide (p.2.1=c)) with
 |none=>rw[q] at e;cases e
 |some p=>rw[q] at e;have h1:=List.find?_some q;have h2:=Qh q;simp only[B_,P9] at h1;obtain⟨p1,p2,p3⟩:=p;have e3:p3=b:=OQ e;obtain⟨rfl,rfl⟩:=h1;subst e3;exact h2
section
variable{K:W.Frag}{mg:Ra}{X:Cx}{ρ:List Addr}{H:Hp}{h:AH}
def wZ(ok:KitsOk K mg kt)(w:Wd K mg ρ h H)(r:RelD K mg ρ H d v)(e:tyD h d=some t)(k:kit kt t c=some b):∃tv,TyX K H v tv/\ClV mg t tv:=by
 cases r with
 |non=>cases e;exact⟨_,.of .non,rfl⟩
 |bl=>cases e;exact⟨_,.of (.bl _),rfl⟩
 |int=>cases e;exact⟨_,.of (.int _),rfl⟩
 |str=>cases e;exact⟨_,.of (.str _),rfl⟩
 |tup q rs=>cases e;exact⟨_,.sqT q,rfl⟩
 |exc m ex=>cases e;exact⟨_,.exc ex (ok.xc _ (qV k) _ _ rfl m),_,rfl,m⟩
 |
  ref ea=>
  unfold tyD at e;dsimp only at e;split at e
  .rename_i e1;cases e;obtain⟨vs,h1,h2⟩:=w.ob _ _ _ ea e1;exact⟨_,.of (.lst h1),rfl⟩
  .rename_i e1;cases e;obtain⟨o,vs,h1,h2⟩:=w.ob _ _ _ ea e1;exact⟨_,.of (.frz h1),rfl⟩
  .rename_i e1;cases e;obtain⟨ws,h1,_⟩:=w.ob _ _ _ ea e1;exact⟨_,.of (.dK h1),rfl⟩
  .cases e
 |_=>cases e
def xb(r:RelD K mg ρ H d v)(e:clD d=some c):∃cv,gQ v=some cv/\ClV mg c cv:=by
 cases r with
 |ty n=>cases e;exact⟨_,rfl,rfl⟩
 |glb m=>cases e;exact⟨_,rfl,_,rfl,m⟩
 |_=>cases e
def Dn:∀{ds:List D}{vs:List V}{cs:List Cl},RelDs K mg ρ H ds vs->ds.mapM clD=some cs->∃cvs,vs.mapM gQ=some cvs/\Paired (ClV mg) cs cvs:=by
 intro ds;induction ds with
 |nil=>intro vs cs r e;cases r;have e':some ([]:List Cl)=some cs:=e;cases e';exact⟨[],rfl,.nil⟩
 |
  cons d ds ih=>
  intro vs cs r e;cases r with
  |
   cons r rr=>
   rw[P_] at e;cases q:clD d with
   |none=>rw[q] at e;cases e
   |
    some c=>
    rw[q] at e;cases q2:ds.mapM clD with
    |none=>rw[q2] at e;cases e
    |some cs'=>rw[q2] at e;have e':some (c::cs')=some cs:=e;cases e';obtain⟨cv,h1,h2⟩:=xb r q;obtain⟨cvs,h3,h4⟩:=ih rr q2;refine⟨cv::cvs,?_,.cons h2 h4⟩;rw[P_,h1,h3];rfl
def zP(ok:KitsOk K mg kt)(ht:ClV mg t tv):∀{cs:List Cl}{cvs:List Value}{b:Bool},Paired (ClV mg) cs cvs->iA kt t cs=some b->W.kitAny K tv cvs=some b:=by
 intro cs;induction cs with
 |nil=>intro cvs b r e;cases r;cases e;rfl
 |
  cons c cs ih=>
  intro cvs b r e;cases r with
  |
   cons r rr=>
   unfold iA at e;unfold W.kitAny;cases q:kit kt t c with
   |none=>rw[q] at e;cases e
   |
    some z=>
    rw[q] at e;rw[ok.one _ (qV q) _ _ ht r];cases z with
    |true=>exact e
    |false=>exact ih rr e
def Bj:CallR X (.builtin "isinstance") (λxs H Q=>∃x tp cs t vs b,xs=[x,.ref tp]/\SqT X.K H tp cs/\TyX X.K H x t/\cs.mapM gQ=some vs/\W.kitAny X.K t vs=some b/\Q (.bl b) H):=by intro pins s σ H xs us Q I r h;obtain⟨x,tp,cs,t,vs,b,rfl,ht,ty,hc,hk,q⟩:=h;obtain⟨u,w',rfl,rx,rc⟩:=DV r;cases rc;obtain⟨its,rv,⟨o,e,c,n,d⟩,_⟩:=I.tuple ht;obtain rfl:=se hc rv;obtain⟨Hh,Z,p,hne⟩:=xa I rx ty;obtain⟨oc,od,odt,osl⟩:=o;have c':oc=.type "tuple":=c;have d':odt=.seq its.toArray n:=d;subst c' d';exact W.kia_tup Z I.kIn p e hk hne λtk=>⟨.bl b,H,I.tok _,rfl,q⟩
def Mj(hK:X.K=K):CallR X (.builtin "isinstance") (λxs H Q=>(∃x c t v b,xs=[x,c]/\TyX K H x t/\gQ c=some v/\W.kitOne K t v=some b/\Q (.bl b) H)\/
 (∃x tp cs t vs b,xs=[x,.ref tp]/\SqT K H tp cs/\TyX K H x t/\cs.mapM gQ=some vs/\W.kitAny K t vs=some b/\Q (.bl b) H)):=by subst hK;exact Du.or Bj
def Jw(ok:KitsOk K mg kt):dN K mg (λxs H Q=>(∃x c t v b,xs=[x,c]/\TyX K H x t/\gQ c=some v/\W.kitOne K t v=some b/\Q (.bl b) H)\/
 (∃x tp cs t vs b,xs=[x,.ref tp]/\SqT K H tp cs/\TyX K H x t/\cs.mapM gQ=some vs/\W.kitAny K t vs=some b/\Q (.bl b) H)) (uN kt):=λρ h H ds vs Q E w rs p=>by
 unfold uN at p;split at p
 .cases
   rs with
  |
   cons r rs=>
   cases rs with
   |
    cons r2 rs=>
    cases rs;split at p
    .rename_i t e1;split at p
     .split
       at p
      .rename_i cs c0 cr e2;split at p
       .rename_i b b' e3 e4;cases r2 with
        |tup q rs2=>obtain⟨tv,h1,h2⟩:=wZ ok w r e1 e4;obtain⟨cvs,h3,h4⟩:=Dn rs2 e2;exact .inr ⟨_,_,_,tv,cvs,b,rfl,q,h1,h3,zP ok h2 h4 e3,bK w (.bl _) p⟩
       .exact p.elim
      .exact p.elim
     .split at p
      .rename_i cl e2;split at p
       .rename_i b e3;obtain⟨tv,h1,h2⟩:=wZ ok w r e1 e3;obtain⟨cv,h3,h4⟩:=xb r2 e2;exact .inl ⟨_,_,tv,cv,b,rfl,h1,h3,ok.one _ (qV e3) _ _ h2 h4,bK w (.bl _) p⟩
       .exact p.elim
      .exact p.elim
    .exact p.elim
 .exact p.elim
end
def MtD(K:W.Frag)(mg:Ra)(r:V->List V->Hp->VK->Prop)(g:D->List D->AH->R D):Prop:=∀ρ h H dx ds x vs Q E,Wd K mg ρ h H->RelD K mg ρ H dx x->RelDs K mg ρ H ds vs->fB K mg ρ H Q E (g dx ds h)->r x vs H Q
noncomputable def mT(h:AH):D->Bool
 |.ref n=>(cB h n).isSome
 |_=>false
noncomputable def eM(g:D->List D->AH->R D)(F:ME)(A:MA):ME:=λae h=>(F ae h).bind λx h1=>if mT h1 x=true then (A ae h1).bind λds h2=>g x ds h2 else .stuck
def eM0(g:D->List D->AH->R D)(F:ME):ME:=λae h=>(F ae h).bind λx h1=>if mT h1 x=true then g x [] h1 else .stuck
section
variable{K:W.Frag}{mg:Ra}{X:Cx}{ES:St->XK}{o e:Expr}{es:List Expr}{F:ME}{A:MA}
def rT(w:Wd K mg ρ h H)(r:RelD K mg ρ H d v)(q:mT h d=true):tyV K "list" v H:=by
 cases r with
 |ref ea=>obtain⟨xs,e⟩:=Pl.mp q;obtain⟨vs,h1,_⟩:=dJ w ea e;exact .inl ⟨rfl,vs,h1⟩
 |_=>cases q
def de_m{name:Str}{id:String}{apos cpos:Pos}{r:V->List V->Hp->VK->Prop}{g:D->List D->AH->R D}(hK:X.K=K)(slot:Slot "list" name id)(hty:typeOf (.builtin id)=pure (.type "method_descriptor"))(hm:MtM X id r)(hd:MtD K mg r g)(ho:DE K mg X ES o F)(ha:DA K mg X ES (e::es) A)
 (n_:attributeBase o name X.env (eval o X.env)=eval o X.env)
 (hfew:((backTo cpos (starEach (e::es) X.env)).all (λx=>!x.1)&&(backToKw cpos (keywordEach [] X.env)).all (λx=>x.1.isSome)
  && decide ((e::es).length+([]:List Keyword).length+(if ([]:List Keyword).isEmpty then 0 else 1)<30))=true)
 (o_:(apos.endLine==cpos.line)=true) (hs:starEach (e::es) X.env=(false,eval e X.env)::starEach es X.env) (j':(backTo cpos (starEach es X.env)).any (·.1)=false):
 DE K mg X ES (.Call (.Attribute o name apos) (e::es) [] cpos) (eM g F A):=by
 subst hK;refine PE.imp (N3 PySem.F.plainAttrs_list slot hty hm ho ha n_ hfew o_ hs j') λσ H Q q_=>q_.el λρ h ae w re p=>⟨ρ,h,ae,w,re,p.bind.imp λdx h1 ρ1 H1 l1 w1 p1 x rx=>?_⟩;split at p1
 .rename_i hl;exact⟨rT w1 rx hl,ρ1,h1,ae,w1,re.mono l1,p1.bind.imp λds h2 ρ2 H2 l2 w2 p2 vs rs=>hd ρ2 h2 H2 dx ds x vs Q _ w2 (rx.mono l2) rs p2⟩
 .exact p1.elim
def Nz{name:Str}{id:String}{apos cpos:Pos}{r:V->List V->Hp->VK->Prop}{g:D->List D->AH->R D}(hK:X.K=K)(slot:Slot "list" name id)(hty:typeOf (.builtin id)=pure (.type "method_descriptor"))(hm:MtM X id r)(hd:MtD K mg r g)(ho:DE K mg X ES o F)
 (n_:attributeBase o name X.env (eval o X.env)=eval o X.env) (o_:(apos.endLine==cpos.line)=true):DE K mg X ES (.Call (.Attribute o name apos) [] [] cpos) (eM0 g F):=by
 subst hK;refine PE.imp (JO PySem.F.plainAttrs_list slot hty hm ho n_ o_) λσ H Q q_=>q_.el λρ h ae w re p=>⟨ρ,h,ae,w,re,p.bind.imp λdx h1 ρ1 H1 l1 w1 p1 x rx=>?_⟩;split at p1
 .rename_i hl;exact⟨rT w1 rx hl,hd ρ1 h1 H1 dx [] x [] Q _ w1 rx .nil p1⟩
 .exact p1.elim
end
noncomputable def kM(h:AH)(d:D)(f:Nat->List D->R D):R D:=match d with
 |.ref n=>match h[n]? with
  |some (.lst xs)=>f n xs
  |_=>.stuck
 |_=>.stuck
noncomputable def mO:D->List D->AH->R D:=λx ds h=>kM h x λn xs=>match ds with
 | [d]=>if xs.length<16777216 then .ok .non (h.set n (.lst (xs++[d]))) else .stuck
 |_=>.stuck
def oB:D->List D->AH->R D:=λx ds h=>kM h x λn xs=>match ds with
 |
  [.int i]=>if -(2^63)<=i/\i<2^63 then match seqIndex? i xs.length with
   |some k=>match xs[k]? with
    |some d=>.ok d (h.set n (.lst (xs.eraseIdx k)))
    |none=>.stuck
   |none=>.stuck
  else .stuck
 |_=>.stuck
def lu:D->List D->AH->R D:=λx ds h=>kM h x λn xs=>match ds with
 | []=>.ok .non (h.set n (.lst xs.reverse))
 |_=>.stuck
section
variable{K:W.Frag}{mg:Ra}{ρ:List Addr}{H:Hp}{h:AH}
def mh(w:Wd K mg ρ h H)(r:RelD K mg ρ H d v)(p:fB K mg ρ H Q E (kM h d f)):
 ∃n xs a vs,d=.ref n/\h[n]?=some (.lst xs)/\ρ[n]?=some a/\v=.ref a/\H a=some (.lst vs)/\RelDs K mg ρ H xs vs/\fB K mg ρ H Q E (f n xs):=by
 unfold kM at p;split at p
 .cases r with
  |
   ref ea=>
   split at p
   .rename_i n xs e;obtain⟨vs,h1,h2⟩:=w.ob _ _ _ ea e;exact⟨_,_,_,vs,rfl,e,ea,rfl,h1,h2,p⟩
   .exact p.elim
 .exact p.elim
def nN(w:Wd K mg ρ h H)(ea:ρ[n]?=some a)(e:H a=some (.lst vs))(rs:RelDs K mg ρ H ys ws)(rd:RelD K mg ρ H d v)(p:fB K mg ρ H Q E (.ok d (h.set n (.lst ys)))):Q v (upd H a (.lst ws)):=by have l:Le ρ H ρ (upd H a (.lst ws)):=mP e tD;exact p ρ _ l (w.write ea e tD ⟨ws,dS,rs.mono l⟩) v (rd.mono l)
def A1:MtD K mg qU mO:=λρ h H dx ds x vs Q E w rx rs p=>by
 obtain⟨n,xs,a,us,rfl,e,ea,rfl,h1,h2,p⟩:=mh w rx p;split at p
 .cases rs with
  |
   cons r rs=>
   cases rs;split at p
   .rename_i hl;exact⟨a,us,_,rfl,rfl,h1,by rw[<- h2.len];exact hl,nN w ea h1 (h2.append (.cons r .nil)) .non p⟩
   .exact p.elim
 .exact p.elim
def B8:MtD K mg uI oB:=λρ h H dx ds x vs Q E w rx rs p=>by
 obtain⟨n,xs,a,us,rfl,e,ea,rfl,h1,h2,p⟩:=mh w rx p;split at p
 .cases
   rs with
  |
   cons r rs=>
   cases rs;cases r;split at p
   .rename_i hb;split at p
    .rename_i k ek;split at p
     .rename_i d ed;obtain⟨v,ev,rv⟩:=h2.getD ed;rw[h2.len] at ek;exact⟨a,us,_,k,v,rfl,rfl,h1,hb.1,hb.2,ek,ev,nN w ea h1 (h2.erase k) rv p⟩
     .exact p.elim
    .exact p.elim
   .exact p.elim
 .exact p.elim
def yE:MtD K mg nK lu:=λρ h H dx ds x vs Q E w rx rs p=>by
 obtain⟨n,xs,a,us,rfl,e,ea,rfl,h1,h2,p⟩:=mh w rx p;split at p
 .cases rs;exact⟨a,us,rfl,rfl,h1,nN w ea h1 h2.reverse .non p⟩
 .exact p.elim
def Room.u100(r:Room k A):A.units+190<cLine:=by have:=r.un;omega
end
noncomputable def wL(o i v:D)(h:AH):R Unit:=match o,i with
 |.ref n,.int k=>match h[n]? with
  |some (.lst xs)=>match ixN xs.length k with
   |some j=>.ok () (h.set n (.lst (xs.set j v)))
   |none=>.stuck
  |_=>.stuck
 |_,_=>.stuck
section
variable{K:W.Frag}{mg:Ra}{X:Cx}{ES:St->XK}{o i:Expr}{F G:ME}{pos:Pos}
def FW:p7 K mg x9 wL:=λρ h H do_ di dv o i v Q E w ro ri rv p=>by
 unfold wL at p;split at p
 .cases
   ro with
  |
   ref ea=>
   cases ri;split at p
   .rename_i n k xs e;split at p
    .rename_i j ej;obtain⟨vs,h1,h2⟩:=w.ob _ _ _ ea e;have l:Le ρ H ρ (upd H _ (.lst (vs.set j v))):=mP h1 tD;exact⟨_,vs,_,j,rfl,rfl,h1,by rw[<- h2.len];exact ej,p ρ _ l (w.write ea h1 tD ⟨_,dS,(h2.set rv j).mono l⟩)⟩
    .exact p.elim
   .exact p.elim
 .exact p.elim
def Ky(ho:DE K mg X ES o F)(hi:DE K mg X ES i G)(hs:uA X t)(hd:p7 K mg t f)
 (ha:∀v,assign (.Subscript o i pos) X.env v=(do
  let ov <- holding [v] (eval o X.env)
  let iv <- holding [v,ov] (eval i X.env)
  standAt pos
  holding [v,ov,iv] (setItem ov iv v)
  release [v,ov,iv] [])):DG K mg X ES (.Subscript o i pos) (gS F G f):=
 PG.imp (HR ho hi hs ha) λv σ H Q q_=>q_.el λρ h ae d w re rd p=>
  ⟨ρ,h,ae,w,re,p.bind.imp λdo_ h1 ρ1 H1 l1 w1 p1 o' ro=>⟨ρ1,h1,ae,w1,re.mono l1,p1.bind.imp λdi h2 ρ2 H2 l2 w2 p2 i' ri=>
   hd ρ2 h2 H2 do_ di d o' i' v _ _ w2 (ro.mono l2) ri ((rd.mono l1).mono l2) (p2.bind.imp λ_ h3 ρ3 H3 l3 w3 p3=>p3 ρ3 H3 Le.refl w3 σ (((re.mono l1).mono l2).mono l3))⟩⟩
end
noncomputable def cutD(xs:List D)(lo hi:Option Int):List D:=(xs.drop (HT.sIx xs.length 0 lo)).take (HT.sIx xs.length xs.length hi-HT.sIx xs.length 0 lo)
abbrev MO:=AE->AH->R (Option Int)
noncomputable def yF:MO:=λ_ h=>.ok none h
noncomputable def yw(F:ME):MO:=λae h=>(F ae h).bind λd h1=>match d with
 |.int i=>.ok (some i) h1
 |_=>.stuck
noncomputable def gSl(x:D)(lo hi:Option Int)(h:AH):R D:=match x with
 |.tup xs=>if HT.sIx xs.length 0 lo=0/\HT.sIx xs.length xs.length hi=xs.length then .stuck else .ok (.tup (cutD xs lo hi)) h
 |.ref n=>match cB h n with
  |some xs=>.ok (.ref h.length) (h++[.lst (cutD xs lo hi)])
  |none=>.stuck
 |.kl xs=>.ok (.ref h.length) (h++[.lst (cutD xs lo hi)])
 |_=>.stuck
noncomputable def eSl(F:ME)(L U:MO):ME:=λae h=>(F ae h).bind λx h1=>(L ae h1).bind λlo h2=>(U ae h2).bind λhi h3=>gSl x lo hi h3
section
variable{K:W.Frag}{mg:Ra}{X:Cx}{ES:St->XK}{e:Expr}{F:ME}{L U:MO}{lo hi:Option Expr}{pos p2:Pos}
def rdO(K:W.Frag)(mg:Ra)(ES:St->XK)(F:MO):TO:=λσ H Q=>∃ρ h ae,Wd K mg ρ h H/\RelE K mg ρ H ae σ/\PostG K mg ρ H (ES σ) (λo _ ρ' H'=>Q o H') (F ae h)
def DO(K:W.Frag)(mg:Ra)(X:Cx)(ES:St->XK)(e:Option Expr)(F:MO):Prop:=PO X e (rdO K mg ES F)
def GN:DO K mg X ES none yF:=PO.imp Gy λσ H Q ⟨ρ,h,ae,w,re,p⟩=>p ρ H Le.refl w
def Gf(he:DE K mg X ES e F):DO K mg X ES (some e) (yw F):=PO.imp (E8 he) λσ H Q ⟨ρ,h,ae,w,re,p⟩=>⟨ρ,h,ae,w,re,p.bind.imp λd h1 ρ1 H1 l1 w1 p1 v rv=>by
 split at p1
 .cases rv;exact⟨_,rfl,p1 ρ1 H1 Le.refl w1⟩
 .exact p1.elim⟩
def rn(r:RelDs K mg ρ H xs vs)(lo hi:Option Int):RelDs K mg ρ H (cutD xs lo hi) (ma vs lo hi):=by unfold cutD ma;rw[<- r.len];exact (r.drop _).take _
def slK(h:X.K=K):SlR X (λx lo hi H Q=>rSlL K x lo hi H Q\/rSlT K x lo hi H Q):=by subst h;exact Hc.or LD
def Br(hK:X.K=K)(he:DE K mg X ES e F)(hl:DO K mg X ES lo L)(hu:DO K mg X ES hi U):DE K mg X ES (.Subscript e (.Slice lo hi none p2) pos) (eSl F L U):=
 PE.imp (
  Bm (slK hK) he hl hu) λσ H Q q_=>q_.el λρ h ae w re p=>⟨ρ,h,ae,w,re,p.bind.imp λd h1 ρ1 H1 l1 w1 p1 x rx=>⟨ρ1,h1,ae,w1,re.mono l1,p1.bind.imp λlo h2 ρ2 H2 l2 w2 p2=>⟨ρ2,h2,ae,w2,(re.mono l1).mono l2,p2.bind.imp λhi h3 ρ3 H3 l3 w3 p3=>by
  have rx3:=(rx.mono l2).mono l3;unfold gSl at p3;split at p3
  .split at p3
   .exact p3.elim
   .rename_i hn;cases rx3 with
    |tup q rs=>exact .inr ⟨_,_,rfl,q,by rw[<- rs.len];exact hn,λl hl=>lA w3 (rn rs lo hi) hl p3⟩
  .split at p3
   .rename_i xs e1;cases rx3 with
    |ref ea=>obtain⟨vs,q,rs⟩:=dJ w3 ea e1;exact .inl ⟨_,_,rfl,q,λl hl=>gp w3 (rn rs lo hi) hl p3⟩
   .exact p3.elim
  .cases rx3 with
   |kl q rs=>exact .inl ⟨_,_,rfl,.inr q,λl hl=>gp w3 (rn rs lo hi) hl p3⟩
  .exact p3.elim⟩⟩⟩
end
structure Script(h:AH)(d:D)(ns:List Int):Prop where
 form:(∃n,d=.ref n/\h[n]?=some (.fz (ns.map D.int)))\/d=.kl (ns.map D.int)
theorem lg{K:W.Frag}{mg:Ra}{ρ:List Addr}{H:Hp}:∀(ns:List Int),RelDs K mg ρ H (ns.map D.int) (ns.map V.int)
 | []=>.nil
 |_::r=>.cons (.int _) (lg r)
def B0{P:Program}{w:World}{K:W.Frag}{mg:Ra}{base:Heap}{x y:Str}{k:Nat}{S:Fn}(C:Callee P w K mg base x k [y] (spD K mg 1 S))(hT:∀P q,¬ BL K mg P q)
 (hS:∀(d:D) (h:AH) (ns:List Int),ns.length<=63->Script h d ns->∃h',S [d] h=.ok (.bl true) h'):Callee P w K mg base x k [y] (λvs H Q _=>∃(a:Addr) (ns:List Int),vs=[.ref a]/\rf H/\SqL K H a (ns.map V.int)/\ns.length<=63/\∀H',Q (.bl true) H'):=by
 refine C.imp λvs H Q E ⟨a,ns,e,hO,hq,hl,q⟩=>?_;subst e;rcases hq with (hq |⟨o,hq⟩) |hq
 .rcases hO a with z |⟨o,xs,z⟩ <;> rw[hq] at z <;> cases z
 .obtain⟨h',e⟩:=hS (.ref 0) [.fz (ns.map D.int)] ns hl ⟨.inl ⟨0,rfl,rfl⟩⟩;refine⟨[a],[.fz (ns.map D.int)],[.ref 0],⟨rfl,by simp,λP q l=>(hT P q l).elim,λn b ob e1 e2=>?_⟩,.cons (.ref rfl) .nil,rfl,?_⟩
  .cases n with
   |zero=>cases e1;cases e2;exact⟨o,_,hq,lg ns⟩
   |succ n=>simp at e1
  .rw[e];exact λρ' H' l' w' v rv=>by cases rv;exact q H'
 .obtain⟨h',e⟩:=hS (.kl (ns.map D.int)) [] ns hl ⟨.inr rfl⟩;refine⟨[],[],[.kl (ns.map D.int)],⟨rfl,by simp,λP q l=>(hT P q l).elim,λn b ob e1 e2=>by simp at e1⟩,.cons (.kl hq (lg ns)) .nil,rfl,?_⟩;rw[e];exact λρ' H' l' w' v rv=>by cases rv;exact q H'
def walk_lawD{l:W.OpenLaw}{q:Program}{loose:List Str}{XP:(Str->Option Value)->Heap->Prop}{YP:World->Heap->Prop}{d:DefRec}{K:Params->W.Frag}{x:Str}{k:Nat}(hn:l.most=some 63)(hdf:d.params.defaults=[])(hr:Room k callerA)
 (hY:∀(w:World) (h:Heap),YP w h->(K w.params).In h)
 (F:∀(w:World) (mg:Ra) (h:Heap),(K w.params).In h->h.Ns mainGlobals mg->∀base:Heap,(K w.params).In base->base.Ns mainGlobals mg->Callee l.prog w (K w.params) mg base d.name k [x] (λvs H Q _=>∃(a:Addr) (ns:List Int),vs=[.ref a]/\rf H/\SqL (K w.params) H a (ns.map V.int)/\ns.length<=63/\∀H',Q (.bl true) H'))
 (D:∀(w:World) (mg:Ra) (h:Heap),(K w.params).In h->h.Ns mainGlobals mg->∃st,Def (K w.params) mg d.name st/\∀(kV doc pm:Value) (an:Option Addr) (cdv ct:Value) (us:List Value),us.length=1->bindArgs (W.fnOf d.name d.name (eh st) (cA st) (bF st) .none kV doc pm an cdv ct) ⟨us,[]⟩=pure ([x].zip us)):
 W.WalkO q loose XP YP l.row.toRowW d [] (λf vs=>PySem.call f vs):=by
 refine L2.walk_of (n:=63) (k:=k) (x:=x) (CX:=λw=>CX1 l.prog w) (sp:=λw=>λvs H Q _=>∃(a:Addr) (ns:List Int),vs=[.ref a]/\rf H/\SqL (K w.params) H a (ns.map V.int)/\ns.length<=63/\∀H',Q (.bl true) H') hn (by decide) hdf hr hY (λw mg fa h KX G hmg=>?_) (λ_ _ a ns hl hO hS=>⟨a,ns,rfl,hO,hS,hl,λ_=>rfl⟩) λ_ _ _ _ _ ⟨_,_,_,_,_,_,_,_,_,z⟩=>z;obtain⟨st,Dd,hbind⟩:=D w mg h KX G;obtain⟨f,fd,Ff,m⟩:=Dd.ex;have e:=hmg.symm.trans m;cases e;obtain⟨oc,od,kV,doc,pm,an,cdv,ct,osl,rfl,lk,t_⟩:=Ff.ex;refine⟨_,λs u=>.of_eq (hbind kV doc pm an cdv ct [u] rfl),λbase kb nb=>?_⟩;obtain⟨f',fd',F',m',kp',b',oc',od',osl',lk'⟩:=(F w mg h KX G base kb nb).ex;rw[m] at m';cases m';rw[lk] at lk';cases lk';exact F'
noncomputable def zw:D->D->AH->R D:=gOr (gI λi j=>.int (i+j)) nT
noncomputable def DQ:D->D->AH->R D:=gI λi j=>.int (i-j)
def CMulA(i j:Int):Prop:=Ed i j\/CMul i j
def B5:D->D->AH->R D:=gIc CMulA λi j=>.int (i*j)
def CM:D->D->AH->R D:=gIc CDivB λi j=>.int (i.fdiv j)
def DK:D->D->AH->R D:=gIc (λ_ j=>j≠0) λi j=>.int (i.fmod j)
def CC:D->D->AH->R D:=gIc i0 λi j=>.int (i^j.toNat)
def Dm:D->D->AH->R D:=gIc i0 λi j=>.int (i*2^j.toNat)
noncomputable def gLt:D->D->AH->R D:=gI λi j=>.bl (decide (i<j))
def gLe:D->D->AH->R D:=gI λi j=>.bl (decide (i<=j))
noncomputable def gGt:D->D->AH->R D:=gI λi j=>.bl (decide (j<i))
noncomputable def gGe:D->D->AH->R D:=gI λi j=>.bl (decide (j<=i))
noncomputable def yr:D->AH->R D:=λx h=>match x with
 |.int i=>.ok (.int (-i)) h
 |_=>.stuck
noncomputable def tq(n:Nat)(S:Fn)(A:MA):ME:=eFn (λds h=>if ds.length=n then S ds h else .stuck) A
section
variable{K:W.Frag}{mg:Ra}{X:Cx}
def ve(h:X.K=K):OpR X (binaryOp .Add) (λx y H Q=>rI0 (λi j=>.int (i+j)) x y H Q\/(rA x y H Q\/(mV K x y H Q\/mG K x y H Q))):=Hq.or (catK h)
def IA:OpD K mg (λx y H Q=>rI0 (λi j=>.int (i+j)) x y H Q\/(rA x y H Q\/(mV K x y H Q\/mG K x y H Q))) zw:=(kx λ_ _ _ _=>.int _).or E5
def IE:OpD K mg (rI0 λi j=>.int (i-j)) DQ:=kx λ_ _ _ _=>.int _
def HA:OpR X (binaryOp .Mult) (rI CMulA λi j=>.int (i*j)):=by
 intro pins s σ H x y v u Q I rx ry h;obtain⟨i,j,e1,e2,hc,q⟩:=h;rcases hc with hc |hc
 .exact F7 pins s σ H x y v u Q I rx ry ⟨i,j,e1,e2,hc,q⟩
 .exact HH pins s σ H x y v u Q I rx ry ⟨i,j,e1,e2,hc,q⟩
def IX:OpD K mg (rI CMulA λi j=>.int (i*j)) B5:=oD λ_ _ _ _=>.int _
def I0:OpD K mg (rI CDivB λi j=>.int (i.fdiv j)) CM:=oD λ_ _ _ _=>.int _
def J2:OpD K mg (rI (λ_ j=>j≠0) λi j=>.int (i.fmod j)) DK:=oD λ_ _ _ _=>.int _
def KC:OpD K mg (rI i0 λi j=>.int (i^j.toNat)) CC:=oD λ_ _ _ _=>.int _
def JE:OpD K mg (rI i0 λi j=>.int (i*2^j.toNat)) Dm:=oD λ_ _ _ _=>.int _
def L5:OpD K mg (rI0 λi j=>.bl (decide (i<j))) gLt:=kx λ_ _ _ _=>.bl _
def Oh:OpD K mg (rI0 λi j=>.bl (decide (i<=j))) gLe:=kx λ_ _ _ _=>.bl _
def NB:OpD K mg (rI0 λi j=>.bl (decide (j<i))) gGt:=kx λ_ _ _ _=>.bl _
def MZ:OpD K mg (rI0 λi j=>.bl (decide (j<=i))) gGe:=kx λ_ _ _ _=>.bl _
def LH:UnD K mg (rU λi=>.int (-i)) yr:=λρ h H dx x Q E w rx p=>by
 unfold yr at p;split at p
 .cases rx;exact⟨_,rfl,bK w (.int _) p⟩
 .exact p.elim
def Gx:IpD K mg (ipI λi j=>i+j) (gI λi j=>.int (i+j)):=λρ h H dx dy x y Q E w rx ry p=>by
 unfold gI at p;split at p
 .cases rx;cases ry;exact⟨_,_,rfl,rfl,bK w (.int _) p⟩
 .exact p.elim
variable{ES:St->XK}{e:Expr}{es:List Expr}{A:MA}{pos:Pos}
def CO(C:Callee X.prog X.w X.K X.mg X.base x k ps (spD K mg n S))(hr:Room k X.A)(hg:Gl X x)(hx:mY X ES)(ha:DA K mg X ES (e::es) A)
 (hdb:(x==("__debug__" : Str))=false) (he:starEach (e::es) X.env=(false,eval e X.env)::starEach es X.env) (hpl:(backTo pos (starEach es X.env)).any (·.1)=false):
 DE K mg X ES (.Call (.Name x p) (e::es) [] pos) (tq n S A):=Gm C hr hg hx ha hdb he hpl
end
section
variable{h:AH}
@[simp] theorem ja(a:α)(h:AH)(f:α->AH->R β):(R.ok a h).bind f=f a h:=rfl
end
def jC(h1:pd.canLay0=true)(h2:pd.depth<=160):shp pd=true:=by unfold shp;rw[h1,J_ h2];rfl
def ng(h1:pd.canLay0=true)(h2:pd.depth<=64):SeqAt.shaped pd=true:=by unfold SeqAt.shaped;rw[h1,J_ h2];rfl
def Sm(n:Nat)(x:Int):Prop:=x.natAbs<2^n
def Sm.mono(h:Sm n x)(l:n<=m):Sm m x:=K_ h (Pb (by omega) l)
def Sm.mul(h:Sm n x)(k:Sm m y):Sm (n+m) (x*y):=by unfold Sm at *;rw[PX,Nat.pow_add];exact Nat.mul_lt_mul'' h k
def Sm.add'(h:Sm n x)(k:Sm n y):Sm (n+1) (x+y):=by
 unfold Sm at *;have h3:2^(n+1)=2^n+2^n:=by rw[Nat.pow_succ];omega
 have h4:(x+y).natAbs<=x.natAbs+y.natAbs:=Int.natAbs_add_le x y;omega
def Sm.bits(h:Sm n x):Builtin.Int.intBits x<=n:=intBits_le_iff.mpr h
def Sm.of_le(h:Sm n y)(l:x.natAbs<=y.natAbs):Sm n x:=Nat.lt_of_le_of_lt l h
def CMulA.of(h:Sm n x)(k:Sm m y)(hn:n<=100000)(hm:m<=100000):CMulA x y:=.inl ⟨G_ h.bits hn,G_ k.bits hm⟩
def CMulA.left(h:-(2^64)<x)(k:x<2^64):CMulA x y:=.inr (.inl ⟨h,k⟩)
def CMulA.right(h:-(2^64)<y)(k:y<2^64):CMulA x y:=.inr (.inr ⟨h,k⟩)
def CDivB.of(h0:y≠0)(h:Sm 8000 y):CDivB x y:=⟨h0,h.bits⟩
structure Sz(n:Nat)(q:Rat):Prop where
 top:Sm n q.num
 bot:Sm n (q.den:Int)
def Sz.mono(h:Sz n q)(l:n<=m):Sz m q:=⟨h.top.mono l,h.bot.mono l⟩
def Ac{a b:Int}(hb:b≠0):((a:Rat)/(b:Rat)).num*b=a*((a:Rat)/(b:Rat)).den:=by
 have h2:=Rat.num_divInt_den ((a:Rat)/(b:Rat));have h3:Rat.divInt ((a:Rat)/(b:Rat)).num (((a:Rat)/(b:Rat)).den:Int)=Rat.divInt a b:=by rw[h2,Rat.divInt_eq_div]
 exact (Rat.divInt_eq_divInt_iff (by have:=((a:Rat)/(b:Rat)).den_nz;omega) hb).mp h3
def xq(q:Rat):Int.gcd q.num q.den=1:=by
 have:=q.reduced
 exact this
def o7(hb:b≠0):Fr.T a b=((a:Rat)/(b:Rat)).num/\Fr.B a b=(((a:Rat)/(b:Rat)).den:Int):=by
 refine Fr.uniq (Fr.B_pos hb) (by have:=((a:Rat)/(b:Rat)).den_pos;omega) (Fr.low hb) (xq _) ?_;have h1:=Fr.cross (a:=a) hb;have h2:=Ac (a:=a) hb;generalize ((a:Rat)/(b:Rat)).num=n at *;generalize (((a:Rat)/(b:Rat)).den:Int)=d at *;generalize Fr.T a b=x at *;generalize Fr.B a b=y at *;have h3:(x*d)*b=(n*y)*b:=by
  calc x*d*b=(x*b)*d:=by rw[Ql]
   _=a*y*d:=by rw[h1]
   _=(a*d)*y:=by rw[Ql]
   _=n*b*y:=by rw[h2]
   _=n*y*b:=by rw[Ql]
 exact Qd hb h3
def yq{a b:Int}(hb:b≠0):((a:Rat)/(b:Rat)).num.natAbs<=a.natAbs:=by
 have h:=(o7 (a:=a) hb).1;rw[<- h];have h1:=Fr.T_mul (a:=a) hb;have h2:=Fr.dv_ne (a:=a) hb;have h3:(Fr.T a b).natAbs*(Fr.dv a b).natAbs=a.natAbs:=by rw[<- PX,h1]
 have h4:1<=(Fr.dv a b).natAbs:=by omega
 calc (Fr.T a b).natAbs=(Fr.T a b).natAbs*1:=by omega
  _<=(Fr.T a b).natAbs*(Fr.dv a b).natAbs:=Qf _ h4
  _=a.natAbs:=h3
def yc{a b:Int}(hb:b≠0):((((a:Rat)/(b:Rat)).den:Int)).natAbs<=b.natAbs:=by
 have h:=(o7 (a:=a) hb).2;rw[<- h];have h1:=Fr.B_mul (a:=a) hb;have h2:=Fr.dv_ne (a:=a) hb;have h3:(Fr.B a b).natAbs*(Fr.dv a b).natAbs=b.natAbs:=by rw[<- PX,h1]
 have h4:1<=(Fr.dv a b).natAbs:=by omega
 calc (Fr.B a b).natAbs=(Fr.B a b).natAbs*1:=by omega
  _<=(Fr.B a b).natAbs*(Fr.dv a b).natAbs:=Qf _ h4
  _=b.natAbs:=h3
def Sz.div(hb:b≠0)(ha:Sm n a)(hb':Sm m b)(k:Nat)(h1:n<=k)(h2:m<=k):Sz k ((a:Rat)/(b:Rat)):=
 ⟨(ha.of_le (yq hb)).mono h1,(hb'.of_le (yc hb)).mono h2⟩
def dX(q:Rat):(q.den:Int)≠0:=by have:=q.den_nz;omega
def jc(q:Rat):q=(q.num:Rat)/((q.den:Int):Rat):=by
 have:=Rat.num_divInt_den q
 rw[Rat.divInt_eq_div] at this;exact this.symm
def jq{b:Int}(h:b≠0):(b:Rat)≠0:=by intro z;exact h (by exact_mod_cast z)
def qg(p q:Rat):p+q=((p.num*q.den+q.num*p.den:Int):Rat)/((p.den*q.den:Int):Rat):=by
 have h1:=jq (dX p);have h2:=jq (dX q)
 conv=>lhs;rw[jc p,jc q]
 simp only[Rat.intCast_add,QK];grind
def qN(p q:Rat):p*q=((p.num*q.num:Int):Rat)/((p.den*q.den:Int):Rat):=by
 have h1:=jq (dX p);have h2:=jq (dX q)
 conv=>lhs;rw[jc p,jc q]
 simp only[QK];grind
def Sz.add(hp:Sz n p)(hq:Sz m q):Sz (n+m+1) (p+q):=by rw[qg];have h1:=(hp.top.mul hq.bot);have h2:=(hq.top.mul hp.bot);exact Sz.div (by have:=dX p;have:=dX q;exact PK ‹_› ‹_›) (h1.add' (by rw[Nat.add_comm n m];exact h2)) (hp.bot.mul hq.bot) _ (by omega) (by omega)
def Sz.mul(hp:Sz n p)(hq:Sz m q):Sz (n+m) (p*q):=by rw[qN];exact Sz.div (by have:=dX p;have:=dX q;exact PK ‹_› ‹_›) (hp.top.mul hq.top) (hp.bot.mul hq.bot) _ (by omega) (by omega)
def w6{q:Rat}:0<q.num ↔ 0<q:=by
 have h1:=Rat.num_nonneg (q:=q);have h2:=QL (q:=q);constructor
 .intro h;refine Rat.lt_of_le_of_ne (h1.mp (by omega)) λz=>?_
  have:=h2.mpr z.symm
  omega
 .intro h;have h3:=h1.mpr (Rat.le_of_lt h);have h4:q.num≠0:=λz=>(Rat.ne_of_lt h) (h2.mp z).symm;omega
def zR(p q:Rat):p<q ↔ p.num*q.den<q.num*p.den:=Rat.lt_iff p q
theorem iR:∀{ws:List Int},(∀w∈ws,0<=w)->0<=ws.sum
 | [],_=>Int.le_refl _
 |
  w::ws,h=>by
  have:=h w (C_ ..)
  have:=iR (ws:=ws) λv hv=>h v (w_ _ hv)
  rw[O1];omega
def Lv{K:W.Frag}{h:Heap}{mg:Ra}{x:Str}{a:Addr}{dd:Option Addr}{its:Array Value}{n:Nat}{sl:Array (Option Value)}{vs:List V}{ds:List D}(X:K.In h)(G:h.Ns mainGlobals mg)(e:W.nsIn K mainGlobals x=some (some (.ref a)))
 (l:K.lookup a=some ⟨.type "tuple",dd,.seq its n,sl⟩) (hs:its.size<=sizeLine) (hv:Vals vs its.toList) (hr:∀ρ H,RelDs K mg ρ H ds vs):GC K mg x (.tup ds):=
 ⟨_,.ref a,W.mg_of X G e,rfl,λρ H=>.tup (.inr ⟨_,its,n,l,rfl,rfl,hs,hv⟩) (hr ρ H)⟩
def Cm{P:Program}{w:World}{H:Hp}(h:Heap)(hb:sysModules<h.objs.size):ObjOk P w H (h.push { cls:=.type "dict",data:=.dict #[] }) h.objs.size (.dK []):=
 ⟨O2 _,OS.mpr (Ne.symm (OU hb)),[],.nil,Heap.DictOf.new h⟩
def Inv.big{X:Cx}{pins:Rb}{σ:St}{H:Hp}{s:Shared}(I:Inv X pins σ H s):sysModules<s.heap.objs.size:=by have h:mainGlobals<s.heap.objs.size:=(I.mod.glob.keeps I.bk).lt;exact QH (by decide) h
variable{K:W.Frag}{mg:Ra}
section
variable{K:W.Frag}{mg:Ra}{X:Cx}{ES:St->XK}{a b c:Expr}{F G:ME}{pos p2:Pos}{ρ:List Addr}{H:Hp}{h:AH}{ae:AE}
def vN{β:Type}{i:Nat}{E:XK}{k:β->AH->List Addr->Hp->Prop}{f:D->AH->R β}(p:PostG K mg ρ H E k ((cH i ae h).bind f)):∃d,ae[i]?=some (some d)/\PostG K mg ρ H E k (f d h):=by
 unfold cH at p;split at p
 .exact⟨_,by assumption,p⟩
 .exact p.elim
def Bo{i:Nat}{r r':R2}{g g':D->D->AH->R D}(hd:OpD K mg r g)(hd':OpD K mg r' g')(σ:St)(H:Hp)(Q:VK)(q:rdE K mg ES (qK (eOp g F (cH i)) (eOp g' (cH i) G)) σ H Q):zK r r' (rdE K mg ES F) (tVar i) (rdE K mg ES G) σ H Q:=by
 obtain⟨ρ,h,ae,w,re,p⟩:=q;refine⟨ρ,h,ae,w,re,(PostG.bind (PostG.bind p)).imp λdx h1 ρ1 H1 l1 w1 p1 x rx=>?_⟩;obtain⟨d,ed,p2⟩:=vN p1;obtain⟨v,ev,rv⟩:=re.at_ i d ed;refine⟨v,ev,hd ρ1 h1 H1 dx d x v _ (ES σ) w1 rx (rv.mono l1) (p2.imp λz h3 ρ3 H3 l3 w3 p3 vz rz=>?_)⟩;unfold asB at p3;split at p3
 .rename_i b';cases rz;refine⟨b',rfl,?_⟩;cases b' with
  |true=>obtain⟨d',ed',p4⟩:=vN p3;rw[ed] at ed';cases ed';exact⟨ρ3,h3,ae,w3,(re.mono l1).mono l3,(PostG.bind p4).imp λdw h5 ρ5 H5 l5 w5 p5 w' rw'=>hd' ρ5 h5 H5 d dw v w' Q _ w5 (((rv.mono l1).mono l3).mono l5) rw' p5⟩
  |false=>exact p3 ρ3 H3 Le.refl w3 _ (.bl false)
 .exact p3.elim
def Fl{Q:Bool->Hp->Prop}{E:XK}{A B:ME}(p:xK K mg ρ H Q E (tAn (tOf A) (tOf B) ae h)):fB K mg ρ H (λx H'=>∃k,x=.bl k/\Q k H') E (qK A B ae h):=by
 unfold tAn tOf at p;unfold qK;cases qa:A ae h with
 |stuck=>rw[qa] at p;exact p
 |exc c h1=>rw[qa] at p;exact p
 |
  ok x h1=>
  rw[qa] at p;cases x with
  |
   bl b=>
   cases b with
   |
    true=>
    change PostG K mg ρ H E _ ((B ae h1).bind asB) at p;show PostG K mg ρ H E _ (B ae h1);cases qb:B ae h1 with
    |stuck=>rw[qb] at p;exact p
    |exc c h2=>rw[qb] at p;exact p
    |
     ok y h2=>
     rw[qb] at p;cases y with
     |bl b2=>exact λρ' H' l w v rv=>by cases rv;exact⟨b2,rfl,p ρ' H' l w⟩
     |_=>exact p.elim
   |false=>exact λρ' H' l w v rv=>by cases rv;exact⟨false,rfl,p ρ' H' l w⟩
  |_=>exact p.elim
def DD(i:Nat){x:Str}{px:Pos}{op op':CmpOp}{r r':R2}{g g':D->D->AH->R D}(ho:OpR X (compareOp op) r)(hd:OpD K mg r g)(ho':OpR X (compareOp op') r')(hd':OpD K mg r' g')(ha:DE K mg X ES a F)(hc:DE K mg X ES c G)(hN:X.N[i]?=some x)(hv:Vis X.env.scope x)(hx:(x==("__debug__" : Str))=false)
 (t_:(x==("__classdict__" : Str))=false) (hm:lastMarks [op,op'] [.Name x px,c]=false):DT K mg X ES (.Compare a [op,op'] [.Name x px,c] pos) (tAn (tOf (eOp g F (cH i))) (tOf (eOp g' (cH i) G))):=
 PT.imp (BX ho ho' ha (AR hN hv hx t_) hc hm) λσ H Q q_=>q_.el λρ h ae w re p=>Bo hd hd' σ H _ ⟨ρ,h,ae,w,re,Fl p⟩
end
section
variable{κ:Type}[DecidableEq κ]
noncomputable def fY(kvs:List (κ×V))(k:κ):Option V:=(kvs.find? λkv=>decide (kv.1=k)).map (·.2)
noncomputable def eF(kvs:List (κ×V))(k:κ)(v:V):List (κ×V):=
 if (kvs.any λkv=>decide (kv.1=k))=true then kvs.map (λkv=>if kv.1=k then (kv.1,v) else kv) else kvs++[(k,v)]
def nE{p:κ×V}{r:List (κ×V)}{k:κ}(e:p.1=k):fY (p::r) k=some p.2:=by simp [fY,Pq,e]
def nX{p:κ×V}{r:List (κ×V)}{k:κ}(e:¬ p.1=k):fY (p::r) k=fY r k:=by simp [fY,Pq,e]
theorem nL(k:κ):∀kvs:List (κ×V),(kvs.any λkv=>decide (kv.1=k))=(fY kvs k).isSome
 | []=>rfl
 |
  p::r=>by
  rw[Pt];by_cases e:p.1=k
  .simp only[nE e,J_ e,Bool.true_or,Option.isSome_some]
  .rw[nX e,I_ e,Bool.false_or];exact nL k r
def jL(kvs:List (κ×V))(k:κ)(v:V):(eF kvs k v).length<=kvs.length+1:=by
 unfold eF;split
 .rw[u_];omega
 .rw[F_,OO,O6];omega
def BQ{kvs:List (κ×V)}{k:κ}(v:V)(h:fY kvs k=none):eF kvs k v=kvs++[(k,v)]:=by unfold eF;rw[nL,h];exact if_neg (by decide)
def RelO.isSome_eq(r:RelO o u):o.isSome=u.isSome:=by
 cases o with
 |none=>cases u with
  |none=>rfl
  |some _=>exact (show False from r).elim
 |some _=>cases u with
  |none=>exact (show False from r).elim
  |some _=>rfl
def KV.val(r:KV kvs vs)(k:κ):RelO (fY kvs k) (valueAt vs k):=by
 unfold KV at r;induction r with
 |nil=>exact True.intro
 |
  @cons p q ps qs h t ih=>
  obtain⟨h1,h2⟩:=h;by_cases e:p.1=k
  .have e':q.1=k:=h1.symm.trans e;have b:valueAt (q::qs) k=some q.2:=by simp [valueAt,Pq,e']
   rw[nE e,b];exact h2
  .have e':¬ q.1=k:=λz=>e (h1.trans z);have b:valueAt (q::qs) k=valueAt qs k:=by simp [valueAt,Pq,e']
   rw[nX e,b];exact ih
def KV.any(r:KV kvs vs)(k:κ):(kvs.any λkv=>decide (kv.1=k))=vs.any λkv=>decide (kv.1=k):=by
 unfold KV at r;induction r with
 |nil=>rfl
 |cons h t ih=>rw[Pt,Pt,ih,h.1]
def KV.repl(r:KV kvs vs)(k:κ)(ry:RelV y u):
 KV (kvs.map λkv=>if kv.1=k then (kv.1,y) else kv) (vs.map λkv=>if kv.1=k then (kv.1,u) else kv):=by
 unfold KV at r ⊢;induction r with
 |nil=>exact .nil
 |
  @cons p q ps qs h t ih=>
  rw[A_,A_];refine .cons ?_ ih;obtain⟨h1,h2⟩:=h;by_cases e:p.1=k
  .rw[if_pos e,if_pos (h1.symm.trans e)];exact⟨h1,ry⟩
  .rw[if_neg e,if_neg (λz=>e (h1.trans z))];exact⟨h1,h2⟩
def KV.put(r:KV kvs vs)(k:κ)(ry:RelV y u):KV (eF kvs k y) (stored vs k u):=by
 unfold eF stored;rw[r.any k];by_cases e:(vs.any λkv=>decide (kv.1=k))=true
 .rw[if_pos e,if_pos e];exact r.repl k ry
 .rw[if_neg e,if_neg e];exact Paired.snoc r ⟨rfl,ry⟩
def KV.length(r:KV kvs vs):kvs.length=vs.length:=Paired.length r
end
def mL(r:RelV (kV k) u):(cz P w).is k u=true:=by
 cases k with
 |inl i=>obtain⟨t,e⟩:=(show ∃t,u=Value.int i t from r);subst e;exact vW P w i t
 |inr x=>obtain⟨t,e⟩:=(show ∃t,u=Value.str x t from r);subst e;exact nq P w x t
theorem sH:∀{ks:List Key}{us:List Value},Vals (ks.map kV) us->ItemsAre (cz P w) ks us
 | [],_,r=>by rw[O3] at r;cases r;exact .nil
 |
  k::ks,_,r=>by
  rw[A_] at r;cases r with
  |cons h t=>exact .cons (mL h) (sH t)
abbrev KT(H:Hp):List (List Key×V)->List (List Key×Addr×Value)->Prop:=Paired λp q=>p.1=q.1/\H q.2.1=some (.tup (p.1.map kV))/\RelV p.2 q.2.2
def KT.val(r:KT H kvs xs)(k:List Key):RelO (fY kvs k) ((atKey xs k).map (·.2)):=by
 induction r with
 |nil=>exact True.intro
 |
  @cons p q ps qs h t ih=>
  obtain⟨h1,_,h2⟩:=h;by_cases e:p.1=k
  .have e':q.1=k:=h1.symm.trans e;have b:atKey (q::qs) k=some q.2:=by simp [atKey,Pq,e']
   rw[nE e,b];exact h2
  .have e':¬ q.1=k:=λz=>e (h1.trans z);have b:atKey (q::qs) k=atKey qs k:=by simp [atKey,Pq,e']
   rw[nX e,b];exact ih
def KT.repl(r:KT H kvs xs)(k:List Key)(ry:RelV y u):
 KT H (kvs.map λkv=>if kv.1=k then (kv.1,y) else kv) (xs.map (putAt k u)):=by
 induction r with
 |nil=>exact .nil
 |
  @cons p q ps qs h t ih=>
  rw[A_,A_];refine .cons ?_ ih;obtain⟨h1,h2,h3⟩:=h;unfold putAt;by_cases e:p.1=k
  .rw[if_pos e,if_pos (h1.symm.trans e)];exact⟨h1,h2,ry⟩
  .rw[if_neg e,if_neg (λz=>e (h1.trans z))];exact⟨h1,h2,h3⟩
def KT.put(r:KT H kvs xs)(k:List Key)(hb:H b=some (.tup (k.map kV)))(ry:RelV y u):
 KT H (eF kvs k y) (storedH xs k b u):=by
 have e:(kvs.any λkv=>decide (kv.1=k))=(atKey xs k).isSome:=by rw[nL,(r.val k).isSome_eq,Option.isSome_map]
 unfold eF storedH;rw[e];by_cases q:(atKey xs k).isSome=true
 .rw[if_pos q,if_pos q];exact r.repl k ry
 .rw[if_neg q,if_neg q];exact Paired.snoc r ⟨rfl,hb,ry⟩
def KT.keeps(r:KT H kvs xs)(ht:∀b ys,H b=some (.tup ys)->H' b=some (.tup ys)):KT H' kvs xs:=
 Paired.mapP r λ_ _ z=>⟨z.1,ht _ _ z.2.1,z.2.2⟩
section
variable{P:Program}{w:World}{H:Hp}{h:Heap}{a:Addr}
def D2(ok:HOk P w H h)(e:Rd H a u):ObjOk P w H h a u:=e.ok ok
def zh(ok:HOk P w H h)(e:Rd H a (.dK kvs)):kvs.length<=sizeLine/\(a==sysModules)=false/\∃vs,KV kvs vs/\h.DictOf (cz P w) a vs:=
 show ObjOk P w H h a (.dK kvs) from D2 ok e
def EE(ok:HOk P w H h)(e:H a=some (.dK kvs)):kvs.length<=sizeLine/\(a==sysModules)=false/\∃vs,KV kvs vs/\h.DictOf (cz P w) a vs:=zh ok (.inl e)
def ug(ok:HOk P w H h)(e:H a=some (.tup (ks.map kV))):(tupleKind (cz P w)).is h ks a:=by obtain⟨_,its,r,o,h1,h2,n,h3⟩:=(show ObjOk P w H h a (.tup (ks.map kV)) from ok a _ e);exact⟨o,its.toArray,n,h1,h2,h3,by simpa using sH r⟩
def yW(ok:HOk P w H h)(e:Rd H a (.dT kvs)):kvs.length<=sizeLine/\(a==sysModules)=false/\
 ∃xs,KT H kvs xs/\h.DictOfH (tupleKind (cz P w)) a xs:=by
 obtain⟨z,y,xs,r,o,es,ep,h1,h2,h3,h4,h5⟩:=(show ObjOk P w H h a (.dT kvs) from D2 ok e);refine⟨z,y,xs,r,o,es,ep,h1,h2,h3,h4,λx hx=>?_,h5⟩;have all:∀{l:List (List Key×V)}{m:List (List Key×Addr×Value)},KT H l m->∀x∈m,(tupleKind (cz P w)).is h x.1 x.2.1:=by
  intro l m q;induction q with
  |nil=>intro x hx;exact nomatch hx
  |
   @cons p q ps qs hq t ih=>
   intro x hx;rcases OP.mp hx with e |hx
   .subst e;exact ug ok (by rw[<- hq.1];exact hq.2.1)
   .exact ih x hx
 exact all r x hx
def Oy(ok:HOk P w H h)(e:H a=some (.dT kvs)):kvs.length<=sizeLine/\(a==sysModules)=false/\
 ∃xs,KT H kvs xs/\h.DictOfH (tupleKind (cz P w)) a xs:=yW ok (.inl e)
end
def DGet(H:Hp)(a:Addr)(y:V)(r:Option V):Prop:=
 (∃kvs k,Rd H a (.dK kvs)/\y=kV k/\r=fY kvs k)\/∃kvs k b,Rd H a (.dT kvs)/\y=.ref b/\H b=some (.tup (k.map kV))/\r=fY kvs k
def DPut(H:Hp)(a:Addr)(y v:V)(H':Hp):Prop:=
 (∃kvs k,H a=some (.dK kvs)/\y=kV k/\kvs.length<sizeLine/\H'=upd H a (.dK (eF kvs k v)))\/
 ∃kvs k b,H a=some (.dT kvs)/\y=.ref b/\H b=some (.tup (k.map kV))/\kvs.length<sizeLine/\H'=upd H a (.dT (eF kvs k v))
def DGet.k{H:Hp}{a:Addr}{kvs:List (Key×V)}{k:Key}(e:H a=some (.dK kvs)):DGet H a (kV k) (fY kvs k):=.inl ⟨kvs,k,.inl e,rfl,rfl⟩
def DPut.k{H:Hp}{a:Addr}{kvs:List (Key×V)}{k:Key}{v:V}(e:H a=some (.dK kvs))(hl:kvs.length<sizeLine):DPut H a (kV k) v (upd H a (.dK (eF kvs k v))):=.inl ⟨kvs,k,e,rfl,hl,rfl⟩
section
variable{X:Cx}{pins:Rb}{σ:St}{H:Hp}{s:Shared}{a:Addr}{y v:V}{u r:Value}{o:Option V}{A:Around}{E:Rf}
def AX(hu:A.units+1<cLine)(I:Inv X pins σ H s)(g:DGet H a y (some v))(ry:RelV y u)(h:∀w' s',Inv X pins σ H s'->RelV v w'->Q w' s'):
 wpAny (model X.prog X.w) A (getItem (.ref a) u) Q E s:=by
 rcases g with ⟨kvs,k,e,ey,l⟩ |⟨kvs,k,b,e,ey,eb,l⟩
 .subst ey;obtain⟨z,hd,vs,rel,dd⟩:=zh I.hok e;obtain⟨w',hw,rw'⟩:=RelO.some_of (v:=v) (o:=valueAt vs k) (by rw[l];exact rel.val k);exact wpAny_getItem_of (mL ry) dd.mapOf hw (h w' _ (I.tok _) rw')
 .subst ey;cases (show u=Value.ref b from ry);obtain⟨z,hd,xs,rel,dd⟩:=yW I.hok e;obtain⟨w',hw,rw'⟩:=RelO.some_of (v:=v) (o:=(atKey xs k).map (·.2)) (by rw[l];exact rel.val k);obtain⟨p,hp,hp2⟩:=OV.mp hw;refine wpAny_getItem_heap (tupleKind_room_in1 hu) (ug I.hok eb) dd hp ?_;rw[hp2];exact h w' _ (I.tok _) rw'
def qL(I:Inv X pins σ H s)(mu:Mut (H a))(hs:Heap.SameBut a s.heap h')(he:∃q,h'.get? a=some q)(new:ObjOk X.prog X.w (upd H a ob) h' a ob):
 Inv X pins σ (upd H a ob) { s with heap:=h',toks:=t' }:=
 I.write (x:=a) (e:=a) mu (.inl rfl) (λb q hb z=>(hs.2 b hb).trans z) he new
def zN(z:kvs.length<=sizeLine)(hd:(a==sysModules)=false)(rel:KV kvs vs)(dd:h'.DictOf (cz P w) a vs):
 ObjOk P w H' h' a (.dK kvs):=⟨z,hd,vs,rel,dd⟩
def Aq(hu:A.units+1<cLine)(I:Inv X pins σ H s)(g:DPut H a y v H')(ry:RelV y u)(rv:RelV v r)(h:∀s',Inv X pins σ H' s'->Q () s'):
 wpAny (model X.prog X.w) A (setItem (.ref a) u r) Q E s:=by
 rcases g with ⟨kvs,k,e,ey,l,eH⟩ |⟨kvs,k,b,e,ey,eb,l,eH⟩
 .subst ey eH;obtain⟨z,hd,vs,rel,dd⟩:=EE I.hok e;have hz:vs.length<=sizeLine:=by rw[<- rel.length];exact z
  have hl:(eF kvs k v).length<=sizeLine:=by have:=jL kvs k v;omega
  refine wpAny_setItem_pairs (hsz:=hz) (mL ry) dd λh' dd' hs=>h _ ?_;have he:∃q,h'.get? a=some q:=let ⟨q,_,_,hq,_⟩:=dd';⟨q,hq⟩;exact qL I (by rw[e];exact True.intro) hs he (zN hl hd (rel.put k rv) dd')
 .subst ey eH;cases (show u=Value.ref b from ry);obtain⟨z,hd,xs,rel,dd⟩:=Oy I.hok e;have hz:xs.length<=sizeLine:=by rw[<- Paired.length rel];exact z
  have hl:(eF kvs k v).length<=sizeLine:=by have:=jL kvs k v;omega
  refine wpAny_setItem_heap (hsz:=hz) (tupleKind_room_in1 hu) (ug I.hok eb) dd λh' dd' hs=>h _ ?_;obtain⟨q,es,ep,hq,h2,h3,h4,_,h5⟩:=dd';refine qL I (by rw[e];exact True.intro) hs ⟨q,hq⟩ ⟨hl,hd,_,(rel.put k eb rv).keeps λc ys ec=>?_,q,es,ep,hq,h2,h3,h4,h5⟩;rw[bO (Nd ec e (λz=>nomatch z))];exact ec
end
def xQ(i:Expr):Prop:=∀ov iv,subscripted i false ov iv=operate [ov,iv] (getItem ov iv)
def EJ{prog:Program}{w:World}{A:Around}{E:Rf}{s:Shared}{env:Env}{value l_:Expr}{pos:Pos}{T id:String}{Q:Rf}
 (hl:typeLookup (.type T) "__getitem__"=pure (some (.builtin id))) (hs:xQ l_)
 (h:wpAny (model prog w) A (eval value env) (λo s₁=>wpAny (model prog w) A (eval l_ env) (λi s₂=>s₂.TypeIs o T/\wpAny (model prog w) A (getItem o i) Q E s₂) E s₁) E s):
 wpAny (model prog w) A (eval (.Subscript value l_ pos) env) Q E s:=by
 refine Subscript_ (O5 h (λo s₁ h₁=>O5 h₁ (λi s₂ h₂=>?_) λ_ _ x=>x) λ_ _ x=>x);obtain⟨hT,h₂⟩:=h₂;unfold subscriptTail;refine v_ ?_;rw[getitemInPython_of_ne hT.not_modules];refine v_ (wpAny_specialOf hT hl ?_);have i_:wpAny (model prog w) A (subscripted l_ false o i) (λr s₃=>wpAny (model prog w) A (letTemporaryGo value o r >>= λ_=>pure r) Q E s₃) E s₂:=by rw[hs o i];exact wpAny_operating (O5 h₂ (λr s₃ h₃=>v_ (wpAny_letTemporaryGo (E_ h₃))) λ_ _ x=>x)
 first
  |exact E_ (v_ i_)
  |exact v_ (E_ (v_ i_))
  |exact v_ i_
def wg(I:Inv X pins σ H s)(g:DGet H a y o):s.TypeIs (.ref a) "dict":=by
 rcases g with ⟨kvs,k,e,_,_⟩ |⟨kvs,k,b,e,_,_,_⟩
 .obtain⟨_,_,vs,_,dd⟩:=zh I.hok e;exact dd.typeIs
 .obtain⟨_,_,xs,_,dd⟩:=yW I.hok e;exact dd.typeIs
def N2(td ty:TE):TE:=λσ H Q=>td σ H λx H1=>ty σ H1 λy H2=>∃a v,x=.ref a/\DGet H2 a y (some v)/\Q v H2
section
variable{X:Cx}{o i:Expr}{pos:Pos}{td ty:TE}
def Ga(hu:X.A.units+1<cLine)(ho:PE X o td)(hi:PE X i ty)(hs:xQ i):PE X (.Subscript o i pos) (N2 td ty):=by intro pins s σ H Q I h;refine EJ PySem.F.slot_dict_getitem.lookup hs (thn (ho pins s σ H _ I h) λu s1 ⟨x,H1,I1,rx,q1⟩=>thn (hi pins s1 σ H1 _ I1 q1) λiv s2 ⟨y,H2,I2,ry,a,v,ex,g,q2⟩=>?_);subst ex;obtain rfl:u=Value.ref a:=rx;exact⟨wg I2 g,AX hu I2 g ry λw' s3 I3 rw'=>⟨v,H2,I3,rw',q2⟩⟩
end
def oH:List (TE×TE)->St->Hp->(List (V×V)->Hp->Prop)->Prop
 | [],_,H,Q=>Q [] H
 |(tk,tv)::r,σ,H,Q=>tk σ H λx H1=>tv σ H1 λy H2=>oH r σ H2 λps H3=>Q ((x,y)::ps) H3
abbrev VV:List (V×V)->List (Value×Value)->Prop:=Paired λp q=>RelV p.1 q.1/\RelV p.2 q.2
def PPs(X:Cx)(pos:Pos)(keys:List (Option Expr))(values:List Expr)(trs:List (TE×TE)):Prop:=
 ∀
  (pins:Rb) (s:Shared) (σ:St) (H:Hp) (Q:List (V×V)->Hp->Prop),Inv X pins σ H s->oH trs σ H Q->
  wpAny (model X.prog X.w) X.A (evalPairs (pairTrees keys values X.env pos)) (λvs s'=>∃ps H',Inv X pins σ H' s'/\VV ps vs/\Q ps H') X.xe s
def Gr:PPs X pos [] [] []:=λpins s σ H Q I h=>pairTrees_nil_walk ⟨[],H,I,.nil,h⟩
def CF(hk:PE X k tk)(hv:PE X v tv)(hr:PPs X pos ks vs trs):
 PPs X pos (some k::ks) (v::vs) ((tk,tv)::trs):=λpins s σ H Q I h=>
 pairTrees_cons_walk (thn (hk pins s σ H _ I h) λu s1 ⟨x,H1,I1,rx,q1⟩=>thn (hv pins s1 σ H1 _ I1 q1) λw2 s2 ⟨y,H2,I2,ry,q2⟩=>
  thn (hr pins s2 σ H2 _ I2 q2) λws s3 ⟨ps,H3,I3,rel,q3⟩=>⟨(x,y)::ps,H3,I3,.cons ⟨rx,ry⟩ rel,q3⟩)
def jd(kvs more:List (Key×V)):List (Key×V):=more.foldl (λacc kv=>eF acc kv.1 kv.2) kvs
def KV.merge:∀{more:List (Key×V)}{rs:List (Key×Value)}{kvs:List (Key×V)}{vs:List (Key×Value)},KV more rs->KV kvs vs->KV (jd kvs more) (merged vs rs):=by
 intro more rs kvs vs r;unfold KV at r;induction r generalizing kvs vs with
 |nil=>intro q;exact q
 |
  @cons p q ps qs h t ih=>
  intro r0;have e:KV (eF kvs p.1 p.2) (stored vs q.1 q.2):=by
   have:=r0.put p.1 h.2
   rw[<- h.1];exact this
  exact ih e
theorem lM:∀(more kvs:List (Key×V)),(jd kvs more).length<=kvs.length+more.length
 | [],kvs=>by show kvs.length<=kvs.length+0;omega
 |
  p::r,kvs=>by
  have h1:=lM r (eF kvs p.1 p.2);have h2:=jL kvs p.1 p.2;show (jd (eF kvs p.1 p.2) r).length<=_;rw[OO];omega
theorem oC:∀{kvs:List (Key×V)}{ws:List (Value×Value)},VV (kvs.map λkv=>(kV kv.1,kv.2)) ws->∃rs,Carries (cz P w) ws rs/\KV kvs rs
 | [],_,r=>by rw[O3] at r;cases r;exact⟨[],True.intro,.nil⟩
 |
  p::kvs,_,r=>by
  rw[A_] at r;cases r with
  |@cons a b as bs h t=>obtain⟨rs,c,q⟩:=oC (P:=P) (w:=w) t;obtain⟨b1,b2⟩:=b;exact⟨(p.1,b2)::rs,⟨mL h.1,rfl,c⟩,.cons ⟨rfl,h.2⟩ q⟩
def Oj(trs:List (TE×TE)):TE:=λσ H Q=>∀p,H p=none->oH trs σ (upd H p (.dK [])) λps H2=>H2 p=some (.dK [])/\∃kvs:List (Key×V),ps=kvs.map (λkv=>(kV kv.1,kv.2))/\kvs.length<=15/\Q (.ref p) (upd H2 p (.dK (jd [] kvs)))
def GJ(h:PPs X pos keys values trs)(hall:keys.all (·.isSome)=true)(hl:keys.length=values.length)(h0:keys≠[])
 (h15:keys.length<=15):PE X (.Dict keys values pos) (Oj trs):=by
 intro pins s σ H Q I q;have hn:=I.hok.fresh (y_ s.heap.objs.size);have I1:=I.laid (a:=s.heap.objs.size) (o:=.dK []) (h':=s.heap.push { cls:=.type "dict",data:=.dict #[] }) (t':=s.toks) (λ_ _ q=>D_ _ q) (y_ _) (Cm s.heap I.big);refine wpAny_Dict_walk (knd:=cz X.prog X.w) hall hl h0 h15 (thn (h pins _ σ _ _ I1 (q _ hn)) λws s2 ⟨ps,H2,I2,rel,e,kvs,ep,lk,q2⟩=>?_);subst ep;obtain⟨rs,c,rk⟩:=oC (P:=X.prog) (w:=X.w) rel;obtain⟨z,hd,vs0,r0,dd⟩:=EE I2.hok e;cases r0;refine⟨rs,c,dd,λh' dd' hs=>⟨.ref s.heap.objs.size,_,?_,rfl,q2⟩⟩;have hz:(jd [] kvs).length<=sizeLine:=by have h1:=lM kvs [];rw[O6] at h1;rw[sizeLine_eq];omega
 have he:∃q,h'.get? s.heap.objs.size=some q:=let ⟨q,_,_,hq,_⟩:=dd';⟨q,hq⟩;exact qL I2 (by rw[e];exact True.intro) hs he (zN hz hd (rk.merge .nil) dd')
section
variable[DecidableEq κ]
noncomputable def lkD(kvs:List (κ×α))(k:κ):Option α:=(kvs.find? λkv=>decide (kv.1=k)).map (·.2)
noncomputable def kO(kvs:List (κ×α))(k:κ)(v:α):List (κ×α):=if (kvs.any λkv=>decide (kv.1=k))=true then kvs.map λkv=>if kv.1=k then (kv.1,v) else kv else kvs++[(k,v)]
end
section
variable{K:W.Frag}{mg:Ra}{ρ:List Addr}{H:Hp}
def E7:∀{kvs:List (Key×D)}{ws:List (Key×V)},ws.map (·.1)=kvs.map (·.1)->RelDs K mg ρ H (kvs.map (·.2)) (ws.map (·.2))->lkD kvs k=some d->∃v,fY ws k=some v/\RelD K mg ρ H d v:=by
 intro kvs;induction kvs with
 |nil=>intro ws e r q;cases q
 |
  cons p kvs ih=>
  intro ws e r q;cases ws with
  |nil=>cases e
  |
   cons w ws=>
   obtain⟨k1,d1⟩:=p;obtain⟨k2,v2⟩:=w;rw[A_,A_] at e;injection e with e1 e2;dsimp only at e1;subst e1;cases r with
   |
    cons r rr=>
    unfold lkD at q;unfold fY;rw[Pq] at q ⊢;dsimp only at q ⊢;by_cases hk:k2=k
    .rw[J_ hk] at q ⊢;cases q;exact⟨v2,rfl,r⟩
    .rw[I_ hk] at q ⊢;exact ih e2 rr q
def vF[DecidableEq κ]:∀{kvs:List (κ×α)}{ws:List (κ×β)},ws.map (·.1)=kvs.map (·.1)->(ws.any λkv=>decide (kv.1=k))=kvs.any λkv=>decide (kv.1=k):=by
 intro kvs;induction kvs with
 |
  nil=>
  intro ws e;cases ws with
  |nil=>rfl
  |cons _ _=>cases e
 |
  cons p kvs ih=>
  intro ws e;cases ws with
  |nil=>cases e
  |cons w ws=>rw[A_,A_] at e;injection e with e1 e2;rw[Pt,Pt,ih e2,e1]
def B7{k:Key}{d:D}{v:V}(rd:RelD K mg ρ H d v){kvs:List (Key×D)}{ws:List (Key×V)}(e:ws.map (·.1)=kvs.map (·.1))(r:RelDs K mg ρ H (kvs.map (·.2)) (ws.map (·.2))):(eF ws k v).map (·.1)=(kO kvs k d).map (·.1)/\RelDs K mg ρ H ((kO kvs k d).map (·.2)) ((eF ws k v).map (·.2)):=by
 unfold eF kO;rw[vF e];by_cases hc:(kvs.any λkv=>decide (kv.1=k))=true
 .rw[if_pos hc,if_pos hc];clear hc;induction kvs generalizing ws with
  |
   nil=>
   cases ws with
   |nil=>exact⟨rfl,.nil⟩
   |cons _ _=>cases e
  |
   cons p kvs ih=>
   cases ws with
   |nil=>cases e
   |
    cons w ws=>
    obtain⟨k1,d1⟩:=p;obtain⟨k2,v2⟩:=w;rw[A_,A_] at e;injection e with e1 e2;dsimp only at e1;subst e1;cases r with
    |
     cons r rr=>
     obtain⟨h1,h2⟩:=ih e2 rr;simp only[A_];by_cases hk:k2=k
     .rw[if_pos hk,if_pos hk];exact⟨by rw[h1],.cons rd h2⟩
     .rw[if_neg hk,if_neg hk];exact⟨by rw[h1],.cons r h2⟩
 .rw[if_neg hc,if_neg hc,O_,O_,O_,O_,e];exact⟨rfl,r.append (.cons rd .nil)⟩
def vQ:D->D->AH->R D:=λx y h=>match x with
 |.ref n=>(match y with
  |.str k=>(match h[n]? with
   |some (.dct kvs)=>(match lkD kvs (.inr k) with
    |some d=>.ok d h
    |none=>.stuck)
   |_=>.stuck)
  |_=>.stuck)
 |_=>.stuck
def wD(o i v:D)(h:AH):R Unit:=match o with
 |.ref n=>(match i with
  |.str k=>(match h[n]? with
   |some (.dct kvs)=>if kvs.length<16777216 then .ok () (h.set n (.dct (kO kvs (.inr k) v))) else .stuck
   |_=>.stuck)
  |_=>.stuck)
 |_=>.stuck
def zf:zq:=λo i v H Q=>∃a H4,o=.ref a/\DPut H a i v H4/\Q H4
variable{X:Cx}{ES:St->XK}{a b:Expr}{F G:ME}{pos:Pos}
def DH(hu:X.A.units+1<cLine):uA X zf:=λpins s σ H o i v ov iv u Q I ro ri rv ⟨a,H4,eo,g,q⟩=>by subst eo;obtain rfl:ov=Value.ref a:=ro;exact Aq hu I g ri rv λs4 I4=>⟨H4,I4,q⟩
def Fi:p7 K mg zf wD:=λρ h H do_ di dv o i v Q E w ro ri rv p=>by
 unfold wD at p;split at p
 .split
   at p
  .split
    at p
   .rename_i n k _ kvs e;split at p
    .rename_i hl;cases ro with
     |
      ref ea=>
      cases ri;obtain⟨ws,h1,h2,h3⟩:=w.ob _ _ _ ea e;have c_:ws.length=kvs.length:=by have:=O4 List.length h2;simpa using this
      have l:Le ρ H ρ (upd H _ (.dK (eF ws (.inr k) v))):=mP h1 yC;obtain⟨k1,k2⟩:=B7 (k:=.inr k) rv h2 h3;exact⟨_,_,rfl,DPut.k (k:=.inr k) h1 (by rw[c_];exact hl),p ρ _ l (w.write ea h1 yC ⟨_,dS,k1,k2.mono l⟩)⟩
    .exact p.elim
   .exact p.elim
  .exact p.elim
 .exact p.elim
def GX(hu:X.A.units+1<cLine)(ha:DE K mg X ES a F)(hb:DE K mg X ES b G)(hs:xQ b):DE K mg X ES (.Subscript a b pos) (eOp vQ F G):=PE.imp (Ga hu ha hb hs) λσ H Q q_=>q_.el λρ h ae w re p=>⟨ρ,h,ae,w,re,p.bind.imp λdx h1 ρ1 H1 l1 w1 p1 x rx=>⟨ρ1,h1,ae,w1,re.mono l1,p1.bind.imp λdy h2 ρ2 H2 l2 w2 p2 y ry=>by
 have rx2:=rx.mono l2;unfold vQ at p2;split at p2
 .split
   at p2
  .split
    at p2
   .rename_i n k _ kvs e;split at p2
    .rename_i d q;cases rx2 with
     |ref ea=>cases ry;obtain⟨ws,k1,k2,k3⟩:=w2.ob _ _ _ ea e;obtain⟨v,q1,rv⟩:=E7 k2 k3 q;refine⟨_,v,rfl,?_,bK w2 rv p2⟩;rw[<- q1];exact DGet.k (k:=.inr k) k1
    .exact p2.elim
   .exact p2.elim
  .exact p2.elim
 .exact p2.elim⟩⟩
def oz(ks:List Str)(A:MA):ME:=λae h=>(A ae (h++[.dct []])).bind λds h2=>match h2[h.length]? with
 |some (.dct [])=>if ks.length=ds.length then .ok (.ref h.length) (h2.set h.length (.dct ((ks.map Sum.inr).zip ds))) else .stuck
 |_=>.stuck
def aL:List (Str×ME)->MA
 | []=>lz
 |p::r=>mz p.2 (aL r)
def tps(K:W.Frag)(mg:Ra)(ES:St->XK)(prs:List (Str×ME)):List (TE×TE):=prs.map λp=>(tC (.str p.1),rdE K mg ES p.2)
theorem uo:∀(prs:List (Str×ME)) {ρ:List Addr}{h:AH}{ae:AE}{H:Hp}{Q:List (V×V)->Hp->Prop},Wd K mg ρ h H->RelE K mg ρ H ae σ->PostG K mg ρ H (ES σ) (λds _ ρ' H'=>∀vs,RelDs K mg ρ' H' ds vs->Q ((prs.map λp=>V.str p.1).zip vs) H') (aL prs ae h)->oH (tps K mg ES prs) σ H Q
 | [],ρ,h,ae,H,Q,w,re,p=>p ρ H Le.refl w [] .nil
 |pr::r,ρ,h,ae,H,Q,w,re,p=>⟨ρ,h,ae,w,re,(PostG.bind p).imp λd h1 ρ1 H1 l1 w1 p1 y ry=>uo r w1 (re.mono l1) ((PostG.bind p1).imp λds h2 ρ2 H2 l2 w2 p2 vs rs=>p2 ρ2 H2 Le.refl w2 (y::vs) (.cons (ry.mono l2) rs))⟩
theorem vd:∀(more acc:List (Key×V)),((acc++more).map (·.1)).Nodup->jd acc more=acc++more
 | [],acc,_=>(Pp _).symm
 |
  (k,v)::more,acc,h=>by
  show jd (eF acc k v) more=_;have hk:fY acc k=none:=by unfold fY;rw[Option.map_eq_none_iff,List.find?_eq_none];intro p hp z;have z:=of_decide_eq_true z;rw[O_,List.nodup_append] at h;exact h.2.2 p.1 (QP hp) k (C_ ..) z
  rw[BQ v hk,vd more (acc++[(k,v)]) (by rw[Ph];exact h),Ph];rfl
def xE:PPs X pos [] [] (tps K mg ES []):=Gr
def Di(hv:DE K mg X ES v F)(hr:PPs X pos ks vs (tps K mg ES prs)):PPs X pos (some (.Constant (.str k) j kp)::ks) (v::vs) (tps K mg ES ((k,F)::prs)):=CF Ay hv hr
theorem uf:∀(ks:List Str) (vs:List V),(ks.map V.str).zip vs=((ks.map Sum.inr).zip vs).map λkv:Key×V=>(kV kv.1,kv.2)
 | [],_=>rfl
 |_::_,[]=>rfl
 |
  k::ks,v::vs=>by
  show (V.str k,v)::(ks.map V.str).zip vs=_;rw[uf ks vs];rfl
def EV(hp:PPs X pos keys values (tps K mg ES prs))(hall:keys.all (·.isSome)=true)(hl:keys.length=values.length)(h0:keys≠[])(h15:keys.length<=15)(hn:(prs.map (·.1)).Nodup)(hp15:prs.length<=15):DE K mg X ES (.Dict keys values pos) (oz (prs.map (·.1)) (aL prs)):=PE.imp (GJ hp hall hl h0 h15) λσ H Q q_=>q_.el λρ h ae w re p=>λpp hpp=>by
 have l:Le ρ H (ρ++[pp]) (upd H pp (.dK [])):=(eX hpp).trans qM;have w1:=w.alloc hpp (o:=.dct []) (u:=.dK []) ⟨[],dS,rfl,.nil⟩;refine uo prs w1 (re.mono l) ((PostG.mono l (PostG.bind p)).imp λds h2 ρ2 H2 l2 w2 p2 vs rs=>?_);split at p2
 .rename_i e;split at p2
  .rename_i c_;have ea:ρ2[h.length]?=some pp:=l2.pre _ _ (by rw[<- w.len,O0 (y_ _),QJ];rfl);obtain⟨ws,k1,k2,_⟩:=w2.ob _ _ _ ea e;have:ws=[]:=by cases ws with |nil=>rfl |cons _ _=>cases k2
   subst this;have hlv:vs.length=prs.length:=by rw[<- rs.len,<- c_,u_]
   refine⟨k1,((prs.map (·.1)).map Sum.inr).zip vs,?_,?_,?_⟩
   .rw[<- uf,PZ];rfl
   .rw[List.length_zip,u_,u_];omega
   .have hz:(((prs.map (·.1)).map Sum.inr).zip vs:List (Key×V)).map (·.1)=(prs.map (·.1)).map Sum.inr:=List.map_fst_zip (by rw[u_,u_];omega);rw[vd _ [] (by rw[OZ,hz];exact List.Pairwise.map _ (λa b hab z=>hab (Sum.inr.inj z)) hn),OZ];have l3:Le ρ2 H2 ρ2 (upd H2 pp (.dK (((prs.map (·.1)).map Sum.inr).zip vs))):=mP k1 yC;refine p2 ρ2 _ l3 (w2.write ea k1 yC ⟨_,dS,?_,?_⟩) _ (.ref ea)
    .rw[hz,List.map_fst_zip (by rw[u_];omega)]
    .rw[List.map_snd_zip (by rw[u_];omega),List.map_snd_zip (by rw[u_,u_];omega)];exact rs.mono l3
  .exact p2.elim
 .exact p2.elim
end
open PySem PySem.Spec PySem.Calls PyProof.Rows
section
variable{X:Cx}{K:W.Frag}{mg:Ra}{es:List Expr}{gs:MGs}{pos:Pos}
def gUnp(K:W.Frag)(n:Nat)(t:TGs):TG:=λv σ H Q=>∃a xs,v=.ref a/\(SqT K H a xs\/SqL K H a xs)/\xs.length=n/\t xs σ H Q
def Jq{k:Nat}{t:TGs}{n:Nat}(hc:X.calm=true)(h:PGs X es t)
 (hn:(assignEach es X.env).length=n) (hst:(assignEach es X.env).findIdx? (·.1)=none):PG X (.Tuple es k pos) (gUnp X.K n t):=by
 intro pins s σ H v u Q I r hw;obtain⟨a,xs,e1,hq,hl,hw⟩:=hw;rcases hq with hq |hq
 .exact zU hc h hn hst pins s σ H v u Q I r ⟨a,xs,e1,hq,hl,hw⟩
 .subst e1;cases r;obtain⟨its,rv,⟨o,m,ho,oc,od,os⟩,hz⟩:=I.list hq;have ht:s.heap.IsList a its.toArray:=⟨o,ho,oc,m,os⟩;rw[assign_Tuple];refine v_ (Qw ?_);unfold unpack;rw[hst,hn,show n=its.toArray.size by simp [<- hl,rv.length]];refine v_ (P4 (W.kun_itemsOf (I.ok.hd hc) ht λh' hx=>?_));have I1:Inv X pins σ H { s with heap:=h' }:=I.kept (t':=s.toks) λb o e=>hx b o (OU (Em e)) e;exact h pins _ σ H xs _ Q I1 (by simpa using rv) hw
noncomputable def gU(u:MGs):MG:=λd ae h=>match d with
 |.tup ds=>u ds ae h
 |.ref p=>match cB h p with
  |some ds=>u ds ae h
  |none=>.stuck
 |_=>.stuck
def K9{k n:Nat}(hK:X.K=K)(hc:X.calm=true)(h:DGs K mg X (λ_=>E0) es gs)
 (hn:(assignEach es X.env).length=n) (hst:(assignEach es X.env).findIdx? (·.1)=none):DG K mg X (λ_=>E0) (.Tuple es k pos) (gU λds ae h=>if ds.length=n then gs ds ae h else .stuck):=by
 subst hK;refine PG.imp (Jq hc h hn hst) λv σ H Q q_=>q_.el λρ h ae d w re rd p=>?_;unfold gU at p;cases rd with
 |
  tup q rs=>
  dsimp only at p;split at p
  .rename_i hl;exact⟨_,_,rfl,.inl q,by rw[<- rs.len];exact hl,ρ,h,ae,_,w,re,rs,p⟩
  .exact p.elim
 |
  ref ea=>
  dsimp only at p;split at p
  .rename_i ds q;obtain⟨vs,h1,h2⟩:=dJ w ea q;split at p
   .rename_i hl;exact⟨_,_,rfl,.inr h1,by rw[<- h2.len];exact hl,ρ,h,ae,_,w,re,h2,p⟩
   .exact p.elim
  .exact p.elim
 |_=>exact p.elim
end
section
variable{X:Cx}{K:W.Frag}{mg:Ra}{ES:St->XK}{a:Expr}{A:MA}{pos q2 p1 p2:Pos}
def vg(j:Int):List V:=(List.range j.toNat).map λi=>V.int ((i:Nat):Int)
def rLrg:List V->Hp->VK->Prop:=λxs H Q=>∃j:Int,xs=[.int j]/\-(2^62)<=j/\j<=16777216/\∀l,H l=none->Q (.ref l) (upd H l (.lst (vg j)))
theorem wX:∀(n:Nat) (f:Nat->Int) (is:List Nat) (ys:List Value),CarriedAll ys (is.map λi=>PyData.int (f i))->Vals (is.map λi=>V.int (f i)) ys
 |n,f,[],ys,h=>by cases h;exact .nil
 |
  n,f,i::is,ys,h=>by
  cases h with
  |cons c r=>cases c;exact .cons ⟨_,rfl⟩ (wX n f is _ r)
def Kk(hc:X.calm=true)(hl:Gl X "list")(hml:X.mg "list"=none)(hg:Gl X "range")(hm:X.mg "range"=none)(ha:PA X [a] ta)(hs:starEach [a] X.env=[(false,eval a X.env)])
 (hs1:starEach [.Call (.Name "range" p2) [a] [] q2] X.env=[(false,eval (.Call (.Name "range" p2) [a] [] q2) X.env)]):
 PE X (.Call (.Name "list" p1) [.Call (.Name "range" p2) [a] [] q2] [] pos) (tCB rLrg ta):=by
 intro pins s σ H Q I h;refine P7 (gR I hl hml (show bootBuiltins "list"=some (.type "list") from rfl) ?_ (by decide) (by decide));refine O8 ?_ hs1 rfl;rw[hs1];show wpAny _ _ (spliced ((false,eval (.Call (.Name "range" p2) [a] [] q2) X.env)::[])) _ _ s;refine Calls.spliced_cons ?_;refine P7 (gR I hg hm (show bootBuiltins "range"=some (.type "range") from rfl) ?_ (by decide) (by decide));refine O8 (thn (ha q2 pins s σ H _ I h) λus s1 ⟨vs,H1,I1,r1,q1⟩=>?_) hs rfl;obtain⟨j,e,h1,h2,q⟩:=q1;subst e;cases r1 with
 |
  cons r rr=>
  cases rr;obtain⟨t,rfl⟩:=r;refine call_range_1 (Calls.spliced_nil ?_);have I2:Inv X pins σ H1 { s1 with heap:=s1.heap.push { cls:=.type "range",data:=.fields #[.int 0 s1.toks,.int j t,.int 1 (s1.toks+1)] },toks:=s1.toks+1+1 }:=I1.kept λb o e=>D_ _ e;obtain⟨m,hns,_⟩:=I2.loc;refine list_rangeD (I.ok.hd hc) (Att.fr_all hns) (news:=[]) (λp hp=>nomatch hp) (IsRange.new ..) (small_one (by omega) (by omega) (by omega) (by omega)) (n:=j.toNat) (by rw[rangeSize_one];split <;> omega) (by omega) ?_;intro h' tk ys hf hn hk _ _ ⟨⟨c,hpl⟩,_⟩ hcar;have rv:Vals (vg j) ys:=wX 0 (λi=>((i:Nat):Int)) (List.range j.toNat) ys (by
   unfold rangeInts at hcar;rw[PZ] at hcar;have e:((λi=>PyData.int i) ∘ λ(i:Nat)=>(0:Int)+(i:Int)*1)=λi:Nat=>PyData.int (i:Int):=by funext i;simp
   rw[show (PyData.int ∘ λ(i:Nat)=>(0:Int)+(i:Int)*1)=λi:Nat=>PyData.int (i:Int) from e] at hcar;exact hcar)
  have hz:(vg j).length<=sizeLine:=by unfold vg;rw[u_,Qs];have:sizeLine=16777216:=rfl;omega
  exact⟨.ref _,_,I2.laid (t':=tk) hk (y_ _) (show ObjOk X.prog X.w _ h' _ (.lst (vg j)) from ⟨hz,ys,c,rv,hpl⟩),rfl,q _ (I2.hok.fresh (y_ _))⟩
def BH(j:Int):List D:=(List.range j.toNat).map λi=>D.int ((i:Nat):Int)
def qE:Fn:=λds h=>match ds with
 | [.int j]=>if -(2^62)<=j/\j<=16777216 then .ok (.ref h.length) (h++[.lst (BH j)]) else .stuck
 |_=>.stuck
theorem AZ(ρ:List Addr)(H:Hp):∀is:List Nat,RelDs K mg ρ H (is.map λi=>D.int ((i:Nat):Int)) (is.map λi=>V.int ((i:Nat):Int))
 | []=>.nil
 |i::is=>.cons (.int _) (AZ ρ H is)
def KU:dN K mg rLrg qE:=λρ h H ds vs Q E w rs p=>by
 unfold qE at p;split at p
 .split at p
  .rename_i hb;cases rs with
   |cons r rs=>cases r;cases rs;exact⟨_,rfl,hb.1,hb.2,λl hl=>gp w (AZ ρ H _) hl p⟩
  .exact p.elim
 .exact p.elim
def H9(hc:X.calm=true)(hl:Gl X "list")(hml:mg "list"=none)(hg:Gl X "range")(hm:mg "range"=none)(ha:DA K mg X ES [a] A)(hk:X.mg=mg)(hs:starEach [a] X.env=[(false,eval a X.env)])
 (hs1:starEach [.Call (.Name "range" p2) [a] [] q2] X.env=[(false,eval (.Call (.Name "range" p2) [a] [] q2) X.env)]):
 DE K mg X ES (.Call (.Name "list" p1) [.Call (.Name "range" p2) [a] [] q2] [] pos) (eFn qE A):=by
 subst hk;exact PE.imp (Kk hc hl hml hg hm ha hs hs1) (yN KU)
end
inductive EntOk(w:World):List DictEntry->List (Str×Int)->Prop
 |nil:EntOk w [] []
 |cons {e:DictEntry}{es:List DictEntry}{k:Str}{i:Int}{t t':Tok}{kvs:List (Str×Int)} (h:e.hash=hashStr w k) (hk:e.key=.str k t) (hv:e.val=.int i t') (r:EntOk w es kvs):EntOk w (e::es) ((k,i)::kvs)
def lkS(kvs:List (Str×Int))(k:Str):Option Int:=(kvs.find? λp=>decide (p.1=k)).map (·.2)
def KDict(w:World)(K:W.Frag)(mg:Ra)(n:Str)(kvs:List (Str×Int)):Prop:=
 ∃a o es ep,mg n=some (.ref a)/\(a==sysModules)=false/\List.lookup a K=some o/\o.ExactDict/\o.data=.dict es ep/\EntOk w es.toList kvs/\(kvs.map (·.1)).Nodup
theorem sd:∀{es:List DictEntry}{kvs:List (Str×Int)},EntOk w es kvs->(∀e∈es,∃k,(cz P w).is k e.key=true/\e.hash=(cz P w).hash k)/\∃vs:List (Key×Value),Pairs (cz P w) es vs/\vs.map (·.1)=kvs.map (λp=>.inr p.1)/\∀k:Str,(lkS kvs k=none/\valueAt vs (.inr k)=none)\/∃i t,lkS kvs k=some i/\valueAt vs (.inr k)=some (.int i t)
 |_,_,.nil=>⟨(λe h=>nomatch h),[],.nil,rfl,λk=>.inl ⟨rfl,rfl⟩⟩
 |
  _,_,.cons (e:=e) (es:=es) (k:=k) (i:=i) (t:=t) (t':=t') (kvs:=kvs) h hk hv r=>by
  obtain⟨h1,vs,h2,h3,h4⟩:=sd (P:=P) r;have is:(cz P w).is (.inr k) e.key=true:=by rw[hk];exact nq P w k t
  refine⟨λe' he=>?_,(.inr k,.int i t')::vs,.cons is hv h2,by simp [h3],λk'=>?_⟩
  .rcases OP.mp he with rfl |he
   .exact⟨.inr k,is,h⟩
   .exact h1 e' he
  .by_cases e:k=k'
   .subst e;exact .inr ⟨i,t',by simp [lkS],by simp [valueAt]⟩
   .have n1:¬ (Sum.inr k:Key)=.inr k':=λz=>e (Sum.inr.inj z);have a1:lkS ((k,i)::kvs) k'=lkS kvs k':=by simp [lkS,e]
    have a2:valueAt ((Sum.inr k,Value.int i t')::vs) (.inr k':Key)=valueAt vs (.inr k'):=by simp [valueAt,n1]
    rw[a1,a2];exact h4 k'
theorem so:∀{l:List (Str×Int)},(l.map (·.1)).Nodup->(l.map (λp=>(Sum.inr p.1:Key))).Nodup
 | [],_=>.nil
 |
  p::l,h=>by
  rw[A_,Px] at h;rw[A_,Px];refine⟨λz=>h.1 ?_,so h.2⟩;obtain⟨q,hq,e⟩:=Pa.mp z;exact Pa.mpr ⟨q,hq,Sum.inr.inj e⟩
section
variable{X:Cx}{K:W.Frag}{mg:Ra}{w:World}{n:Str}{kvs:List (Str×Int)}
def Ea(I:Inv X pins σ H s)(g:KDict X.w X.K X.mg n kvs):∃a vs,X.mg n=some (.ref a)/\(a==sysModules)=false/\s.heap.DictOf (cz X.prog X.w) a vs/\∀k:Str,(lkS kvs k=none/\valueAt vs (.inr k)=none)\/∃i t,lkS kvs k=some i/\valueAt vs (.inr k)=some (.int i t):=by obtain⟨a,o,es,ep,h1,h2,h3,h4,h5,h6,h7⟩:=g;obtain⟨q1,vs,q2,q3,q4⟩:=sd (P:=X.prog) h6;refine⟨a,vs,h1,h2,⟨o,es,ep,I.kIn a o h3,h4,h5,λe he=>q1 e (by simpa using he),q2,?_⟩,q4⟩;rw[q3];exact so h7
def Dt(g_:Bool)(mg:Ra)(n:Str)(kvs:List (Str×Int)):R2:=λx y H Q=>∃k a,x=.str k/\y=.ref a/\mg n=some (.ref a)/\Q (.bl (g_ ^^ (lkS kvs k).isSome)) H
def yV(mg:Ra)(n:Str)(kvs:List (Str×Int)):R2:=λx y H Q=>∃k a i,y=.str k/\x=.ref a/\mg n=some (.ref a)/\lkS kvs k=some i/\Q (.int i) H
def E4(hw:X.w=w)(hK:X.K=K)(hm:X.mg=mg)(g:KDict w K mg n kvs):OpR X (compareOp .NotIn) (Dt true mg n kvs):=by
 subst hw hK hm;intro pins s σ H x y v u Q I rx ry ⟨k,a,ex,ey,e1,q⟩;subst ex ey;cases ry;obtain⟨a',vs,h1,h2,dd,h4⟩:=Ea I g;have:a'=a:=by rw[h1] at e1;cases e1;rfl
 subst this;refine wpAny_notIn_of (mL (k:=.inr k) rx) h2 dd.mapOf ⟨.bl (!(valueAt vs (.inr k)).isSome),H,I.tok _,rfl,?_⟩;rcases h4 k with ⟨z1,z2⟩ |⟨i,t,z1,z2⟩
 .rw[z2];rw[z1] at q;exact q
 .rw[z2];rw[z1] at q;exact q
def FP(hw:X.w=w)(hK:X.K=K)(hm:X.mg=mg)(g:KDict w K mg n kvs):IxR X (yV mg n kvs):=by
 subst hw hK hm;intro value l_ pins s σ H x y v u Q I rx ry ⟨k,a,i,ey,ex,e1,e2,q⟩ hs;subst ex ey;cases rx;obtain⟨a',vs,h1,h2,dd,h4⟩:=Ea I g;have:a'=a:=by rw[h1] at e1;cases e1;rfl
 subst this;rcases h4 k with ⟨z1,z2⟩ |⟨i',t,z1,z2⟩
 .rw[e2] at z1;cases z1
 .rw[e2] at z1;cases z1;exact Qv (x:=.int i t) dd.typeIs PySem.F.slot_dict_getitem.lookup (wpAny_getItem_of (mL (k:=.inr k) ry) dd.mapOf z2 ⟨rfl,.int i,H,I.tok _,⟨t,rfl⟩,q⟩) hs
def uG(g_:Bool)(n:Str)(kvs:List (Str×Int)):D->D->AH->R D:=λx y h=>match x,y with
 |.str k,.glb m=>if m=n then .ok (.bl (g_ ^^ (lkS kvs k).isSome)) h else .stuck
 |_,_=>.stuck
def pf(n:Str)(kvs:List (Str×Int)):D->D->AH->R D:=λx y h=>match x,y with
 |.glb m,.str k=>(match lkS kvs k with
  |some i=>if m=n then .ok (.int i) h else .stuck
  |none=>.stuck)
 |_,_=>.stuck
def G7(g_:Bool):OpD K mg (Dt g_ mg n kvs) (uG g_ n kvs):=λρ h H dx dy x y Q E w rx ry p=>by
 unfold uG at p;split at p
 .split at p
  .rename_i hm;subst hm;cases rx;cases ry with
   |glb m=>exact⟨_,_,rfl,rfl,m,bK w (.bl _) p⟩
  .exact p.elim
 .exact p.elim
def Cc:OpD K mg (yV mg n kvs) (pf n kvs):=λρ h H dx dy x y Q E w rx ry p=>by
 unfold pf at p;split at p
 .split at p
  .rename_i i e;split at p
   .rename_i hm;subst hm;cases ry;cases rx with
    |glb m=>exact⟨_,_,_,rfl,rfl,m,e,bK w (.int _) p⟩
   .exact p.elim
  .exact p.elim
 .exact p.elim
end
def Dr{K:W.Frag}{h:Heap}{mg:Ra}{w:World}{n:Str}{kvs:List (Str×Int)}{a:Addr}{es:Array DictEntry}{ep:Nat}(X:K.In h)(G:h.Ns mainGlobals mg)(e1:W.nsIn K mainGlobals n=some (some (.ref a)))(e2:List.lookup a K=some { cls:=.type "dict",data:=.dict es ep })(hs:(a==sysModules)=false)(he:EntOk w es.toList kvs)(hn:(kvs.map (·.1)).Nodup):KDict w K mg n kvs:=
 ⟨a,_,es,ep,W.mg_of X G e1,hs,e2,⟨rfl,rfl,rfl⟩,rfl,he,hn⟩
def KDict.ex(g:KDict w K mg n kvs):∃a,mg n=some (.ref a):=let ⟨a,_,_,_,e,_⟩:=g;⟨a,e⟩
section
variable{X:Cx}{K:W.Frag}{mg:Ra}
def Cd(g_:Bool)(K:W.Frag):R2:=λx y H Q=>∃d ds,Rep K H x d/\Rep K H y (.list ds)/\SeqAt.shaped d=true/\SeqAt.shaped (.list ds)=true/\(ds.all λe=>SeqAt.noMix e d)=true/\Q (.bl (g_ ^^ decide (Spec.countIn d ds≠0))) H
def MU(h:X.K=K)(hu:X.A.units+190<cLine):OpR X (compareOp .NotIn) (Cd true K):=by subst h;intro pins s σ H x y v u Q I rx ry h;obtain⟨d,ds,r1,r2,h1,h2,h3,q⟩:=h;obtain⟨as,q1⟩:=r1.reads I rx;obtain⟨bs,q2⟩:=r2.reads I ry;rw[L_] at h3;rw[Bool.true_xor] at q;exact notIn_list_dataH q2 q1 h2 h1 (by omega) h3 (ky I q rfl)
def tf(h:AH)(x y:D):Option Bool:=match fM 64 h x,fM 64 h y with
 |some d,some (.list ds)=>if SeqAt.shaped d=true/\SeqAt.shaped (.list ds)=true/\(ds.all λe=>SeqAt.noMix e d)=true then some (decide (Spec.countIn d ds≠0)) else none
 |_,_=>none
def vj(g_:Bool):D->D->AH->R D:=λx y h=>match tf h x y with
 |some b=>.ok (.bl (g_ ^^ b)) h
 |none=>.stuck
def GY(g_:Bool):OpD K mg (Cd g_ K) (vj g_):=λρ h H dx dy x y Q E w rx ry p=>by
 unfold vj at p;split at p
 .rename_i b e;unfold tf at e;split at e
  .rename_i d ds e1 e2;split at e
   .rename_i hs;cases e;exact⟨d,ds,iu w 64 rx e1,iu w 64 ry e2,hs.1,hs.2.1,hs.2.2,bK w (.bl _) p⟩
   .cases e
  .cases e
 .exact p.elim
end
def CJ:R2:=λx y H Q=>∃a b,x=.bl a/\y=.bl b/\Q (.bl (a != b)) H
section
variable{K:W.Frag}{mg:Ra}{X:Cx}
def IF:OpR X (compareOp .IsNot) CJ:=by intro pins s σ H x y v u Q I rx ry ⟨a,b,e1,e2,q⟩;subst e1 e2;cases rx;cases ry;exact isnot_bool (ky I q rfl)
def yM:D->D->AH->R D:=λx y h=>match x,y with
 |.bl a,.bl b=>.ok (.bl (a != b)) h
 |_,_=>.stuck
def GB:OpD K mg CJ yM:=λρ h H dx dy x y Q E w rx ry p=>by
 unfold yM at p;split at p
 .cases rx;cases ry;exact⟨_,_,rfl,rfl,bK w (.bl _) p⟩
 .exact p.elim
end
open PySem PySem.W PyProof.Rows
abbrev Ask:=Nat->Nat->(Bool->Shared->Prop)->Shared->Prop
variable{lt:Nat->Nat->Bool}{N:Nat}{cmp:Ask}{s:Shared}
noncomputable def lexP(x y:Int×Int):Bool:=decide (x.1<y.1\/(x.1=y.1/\x.2<y.2))
def ltP(ks:List (Int×Int))(i j:Nat):Bool:=lexP (ks.getD i (0,0)) (ks.getD j (0,0))
set_option maxHeartbeats 4000000
end L2
namespace L3
open PySem PySem.Spec PyProof.Rows L2
set_option genInjectivity true in
inductive Val where
 |non |bl (b:Bool) |int (i:Int) |str (x:Str) |ty (n:String) |glb (x:Str) |exc (x:Str)
 |tup (xs:List Val) |lst (xs:List Val) |kl (xs:List Val) |dct (kvs:List (Key×Val)) |set (xs:List Int)
 deriving Inhabited
mutual
inductive Rd(P:Nat->Prop)(h:AH):D->Val->Prop where
 |non:Rd P h .non .non
 |bl (b:Bool):Rd P h (.bl b) (.bl b)
 |int (i:Int):Rd P h (.int i) (.int i)
 |str (x:Str):Rd P h (.str x) (.str x)
 |ty (n:String):Rd P h (.ty n) (.ty n)
 |glb (x:Str):Rd P h (.glb x) (.glb x)
 |exc (x:Str):Rd P h (.exc x) (.exc x)
 |tup {ds:List D}{vs:List Val} (r:Rds P h ds vs):Rd P h (.tup ds) (.tup vs)
 |kl {ds:List D}{vs:List Val} (r:Rds P h ds vs):Rd P h (.kl ds) (.kl vs)
 |cell {n:Nat}{o:Ob}{v:Val} (p:P n) (e:h[n]?=some o) (r:Rc P h o v):Rd P h (.ref n) v
inductive Rc(P:Nat->Prop)(h:AH):Ob->Val->Prop where
 |lst {ds:List D}{vs:List Val} (r:Rds P h ds vs):Rc P h (.lst ds) (.lst vs)
 |fz {ds:List D}{vs:List Val} (r:Rds P h ds vs):Rc P h (.fz ds) (.kl vs)
 |dct {ws:List (Key×D)}{us:List (Key×Val)} (r:Rk P h ws us):Rc P h (.dct ws) (.dct us)
 |set (xs:List Int):Rc P h (.set xs) (.set xs)
inductive Rds(P:Nat->Prop)(h:AH):List D->List Val->Prop where
 |nil:Rds P h [] []
 |cons {d:D}{v:Val}{ds:List D}{vs:List Val} (r:Rd P h d v) (rr:Rds P h ds vs):Rds P h (d::ds) (v::vs)
inductive Rk(P:Nat->Prop)(h:AH):List (Key×D)->List (Key×Val)->Prop where
 |nil:Rk P h [] []
 |cons {k:Key}{d:D}{v:Val}{ds:List (Key×D)}{vs:List (Key×Val)} (r:Rd P h d v) (rr:Rk P h ds vs):Rk P h ((k,d)::ds) ((k,v)::vs)
end
section
variable{P P':Nat->Prop}{h h':AH}
abbrev Mov(P P':Nat->Prop)(h h':AH):Prop:=∀n o,P n->h[n]?=some o->P' n/\h'[n]?=some o
def Rd.mono(m:Mov P P' h h')(r:Rd P h d v):Rd P' h' d v:=@Rd.rec P h (λd v _=>Rd P' h' d v) (λo v _=>Rc P' h' o v) (λds vs _=>Rds P' h' ds vs) (λws us _=>Rk P' h' ws us) .non (λb=>.bl b) (λi=>.int i) (λx=>.str x) (λn=>.ty n) (λx=>.glb x) (λx=>.exc x) (λ_ ih=>.tup ih) (λ_ ih=>.kl ih) (λp e _ ih=>.cell (m _ _ p e).1 (m _ _ p e).2 ih) (λ_ ih=>.lst ih) (λ_ ih=>.fz ih) (λ_ ih=>.dct ih) (λxs=>.set xs) .nil (λ_ _ a b=>.cons a b) .nil (λ_ _ a b=>.cons a b) d v r
def Rds.ind{M:List D->List Val->Prop}(h0:M [] [])(h1:∀{d v ds vs},Rd P h d v->Rds P h ds vs->M ds vs->M (d::ds) (v::vs)){ds:List D}{vs:List Val}(r:Rds P h ds vs):M ds vs:=by
 induction ds generalizing vs with
 |nil=>cases r;exact h0
 |
  cons d ds ih=>
  cases r with
  |cons r rr=>exact h1 r rr (ih rr)
def Rk.ind{M:List (Key×D)->List (Key×Val)->Prop}(h0:M [] [])(h1:∀{k d v ds vs},Rd P h d v->Rk P h ds vs->M ds vs->M ((k,d)::ds) ((k,v)::vs)){ds:List (Key×D)}{vs:List (Key×Val)}(r:Rk P h ds vs):M ds vs:=by
 induction ds generalizing vs with
 |nil=>cases r;exact h0
 |
  cons d ds ih=>
  cases r with
  |cons r rr=>exact h1 r rr (ih rr)
def Rds.mono(m:Mov P P' h h'){d:List D}{v:List Val}(r:Rds P h d v):Rds P' h' d v:=r.ind .nil λr _ ih=>.cons (r.mono m) ih
def Rk.mono(m:Mov P P' h h'){d:List (Key×D)}{v:List (Key×Val)}(r:Rk P h d v):Rk P' h' d v:=r.ind .nil λr _ ih=>.cons (r.mono m) ih
def Rc.mono(m:Mov P P' h h')(r:Rc P h d v):Rc P' h' d v:=by
 cases r with
 |lst r=>exact .lst (r.mono m)
 |fz r=>exact .fz (r.mono m)
 |dct r=>exact .dct (r.mono m)
 |set xs=>exact .set xs
def Rds.len{ds:List D}{vs:List Val}(r:Rds P h ds vs):ds.length=vs.length:=r.ind (M:=λds vs=>ds.length=vs.length) rfl λ_ _ ih=>O4 (· + 1) ih
def Rds.get{ds:List D}{vs:List Val}{i:Nat}{v:Val}(r:Rds P h ds vs)(e:vs[i]?=some v):∃d,ds[i]?=some d/\Rd P h d v:=
 r.ind (M:=λds vs=>∀i,vs[i]?=some v->∃d,ds[i]?=some d/\Rd P h d v) (λ_ e=>by rw[List.getElem?_nil] at e;cases e) (λr _ ih i e=>match i,e with
  |0,e=>by cases e;exact⟨_,rfl,r⟩
  |i+1,e=>ih i e) i e
def Rds.append{ds es:List D}{vs ws:List Val}(r:Rds P h ds vs)(q:Rds P h es ws):Rds P h (ds++es) (vs++ws):=r.ind (M:=λds vs=>Rds P h (ds++es) (vs++ws)) q λr _ ih=>.cons r ih
def Rds.take{ds:List D}{vs:List Val}(n:Nat)(r:Rds P h ds vs):Rds P h (ds.take n) (vs.take n):=
 r.ind (M:=λds vs=>∀n:Nat,Rds P h (ds.take n) (vs.take n)) (λn=>by rw[P2,P2];exact .nil) (λr _ ih n=>by cases n with |zero=>exact .nil |succ n=>exact .cons r (ih n)) n
def Rds.drop{ds:List D}{vs:List Val}(n:Nat)(r:Rds P h ds vs):Rds P h (ds.drop n) (vs.drop n):=
 r.ind (M:=λds vs=>∀n:Nat,Rds P h (ds.drop n) (vs.drop n)) (λn=>by rw[Qe,Qe];exact .nil) (λr rr ih n=>by cases n with |zero=>exact .cons r rr |succ n=>exact ih n) n
def Rds.set{d:D}{v:Val}(r:Rd P h d v){ds:List D}{vs:List Val}(i:Nat)(q:Rds P h ds vs):Rds P h (ds.set i d) (vs.set i v):=
 q.ind (M:=λds vs=>∀i:Nat,Rds P h (ds.set i d) (vs.set i v)) (λ_=>.nil) (λq qq ih i=>by cases i with |zero=>exact .cons r qq |succ i=>exact .cons q (ih i)) i
def Rds.erase{ds:List D}{vs:List Val}(i:Nat)(q:Rds P h ds vs):Rds P h (ds.eraseIdx i) (vs.eraseIdx i):=
 q.ind (M:=λds vs=>∀i:Nat,Rds P h (ds.eraseIdx i) (vs.eraseIdx i)) (λ_=>.nil) (λq qq ih i=>by cases i with |zero=>exact qq |succ i=>exact .cons q (ih i)) i
def Rds.reverse(r:Rds P h ds vs):Rds P h ds.reverse vs.reverse:=by
 induction ds generalizing vs with
 |nil=>cases r;exact .nil
 |
  cons d ds ih=>
  cases r with
  |cons q rr=>rw[PR,PR];exact (ih rr).append (.cons q .nil)
def ShR(P:Nat->Prop)(h:AH)(d:D)(v:Val):Prop:=Rd P h d v\/∃n o,d=.ref n/\h[n]?=some o/\Rc P h o v
inductive ShRs(P:Nat->Prop)(h:AH):List D->List Val->Prop where
 |nil:ShRs P h [] []
 |cons {d:D}{v:Val}{ds:List D}{vs:List Val} (r:ShR P h d v) (rr:ShRs P h ds vs):ShRs P h (d::ds) (v::vs)
noncomputable def Val.items:Val->Option (List Val)
 |.tup xs=>some xs
 |.lst xs=>some xs
 |.kl xs=>some xs
 |_=>none
def ShR.int(r:ShR P h d (.int i)):d=.int i:=by
 rcases r with r |⟨n,o,rfl,e,r⟩
 .cases r with
  |int=>rfl
  |cell p e r=>cases r
 .cases r
def ShR.str(r:ShR P h d (.str i)):d=.str i:=by
 rcases r with r |⟨n,o,rfl,e,r⟩
 .cases r with
  |str=>rfl
  |cell p e r=>cases r
 .cases r
def ShR.bl(r:ShR P h d (.bl i)):d=.bl i:=by
 rcases r with r |⟨n,o,rfl,e,r⟩
 .cases r with
  |bl=>rfl
  |cell p e r=>cases r
 .cases r
def ShR.non(r:ShR P h d .non):d=.non:=by
 rcases r with r |⟨n,o,rfl,e,r⟩
 .cases r with
  |non=>rfl
  |cell p e r=>cases r
 .cases r
def ShR.exc(r:ShR P h d (.exc x)):d=.exc x:=by
 rcases r with r |⟨n,o,rfl,e,r⟩
 .cases r with
  |exc=>rfl
  |cell p e r=>cases r
 .cases r
def ShR.ty(r:ShR P h d (.ty x)):d=.ty x:=by
 rcases r with r |⟨n,o,rfl,e,r⟩
 .cases r with
  |ty=>rfl
  |cell p e r=>cases r
 .cases r
def ShR.glb(r:ShR P h d (.glb x)):d=.glb x:=by
 rcases r with r |⟨n,o,rfl,e,r⟩
 .cases r with
  |glb=>rfl
  |cell p e r=>cases r
 .cases r
def ShR.tup(r:ShR P h d (.tup vs)):∃ds,d=.tup ds/\Rds P h ds vs:=by
 rcases r with r |⟨n,o,rfl,e,r⟩
 .cases r with
  |tup r=>exact⟨_,rfl,r⟩
  |cell p e r=>cases r
 .cases r
def Rc.seq(e:h[n]?=some o)(r:Rc P h o (.lst vs)):∃ds,h[n]?=some (.lst ds)/\cB h n=some ds/\Rds P h ds vs:=by
 cases r with
 |lst r=>exact⟨_,e,by unfold cB;rw[e],r⟩
def ShR.lst(r:ShR P h d (.lst vs)):∃n ds,d=.ref n/\h[n]?=some (.lst ds)/\cB h n=some ds/\Rds P h ds vs:=by
 rcases r with r |⟨n,o,rfl,e,r⟩
 .cases r with
  |cell p e r=>obtain⟨ds,q,r⟩:=Rc.seq e r;exact⟨_,ds,rfl,q,r⟩
 .obtain⟨ds,q,r⟩:=Rc.seq e r;exact⟨_,ds,rfl,q,r⟩
def ShR.kl(r:ShR P h d (.kl vs)):∃ds,Rds P h ds vs/\(d=.kl ds\/∃n,d=.ref n/\cB h n=some ds):=by
 rcases r with r |⟨n,o,rfl,e,r⟩
 .cases r with
  |kl r=>exact⟨_,r,.inl rfl⟩
  |cell p e r=>cases r with |fz r=>exact⟨_,r,.inr ⟨_,rfl,by unfold cB;rw[e]⟩⟩
 .cases r with |fz r=>exact⟨_,r,.inr ⟨_,rfl,by unfold cB;rw[e]⟩⟩
def ShR.dct(r:ShR P h d (.dct us)):∃n ws,d=.ref n/\h[n]?=some (.dct ws)/\Rk P h ws us:=by
 rcases r with r |⟨n,o,rfl,e,r⟩
 .cases r with
  |cell p e r=>cases r with |dct r=>exact⟨_,_,rfl,e,r⟩
 .cases r with |dct r=>exact⟨_,_,rfl,e,r⟩
def ShR.items(r:ShR P h d v)(e:v.items=some vs):∃ds,ie h d=some ds/\Rds P h ds vs:=by
 cases v with
 |tup xs=>cases e;obtain⟨ds,rfl,q⟩:=r.tup;exact⟨ds,rfl,q⟩
 |lst xs=>cases e;obtain⟨n,ds,rfl,_,e,q⟩:=r.lst;exact⟨ds,e,q⟩
 |
  kl xs=>
  cases e;obtain⟨ds,q,rfl |⟨n,rfl,e⟩⟩:=r.kl
  .exact⟨ds,rfl,q⟩
  .exact⟨ds,e,q⟩
 |_=>cases e
end
inductive Sl where
 |no |sh (v:Val) |ow (v:Val) |mu (v:Val) |lo (v:Val) |lm (v:Val)
 deriving Inhabited
abbrev E3:=List Sl
noncomputable def Sl.val:Sl->Option Val
 |.no=>none
 |.sh v=>some v
 |.ow v=>some v
 |.mu v=>some v
 |.lo v=>some v
 |.lm v=>some v
noncomputable def Sl.mt:Sl->Bool
 |.ow _=>true
 |.mu _=>true
 |_=>false
noncomputable def Sl.lk:Sl->Bool
 |.lo _=>true
 |.lm _=>true
 |_=>false
abbrev Ns:=List (Option Nat)
def Oc(X:Nat->Prop)(ns:Ns)(n:Nat):Prop:=¬ X n/\some n∉ns
def c7:Ob->Prop
 |.fz _=>False
 |.any=>False
 |_=>True
def SlR(P:Nat->Prop)(h0:Nat)(n:Option (Option Nat))(d:Option (Option D))(h:AH):Sl->Prop
 |.no=>n=some none
 |.sh v=>n=some none/\∃x,d=some (some x)/\Rd P h x v
 |.ow v=>∃m o,n=some (some m)/\d=some (some (.ref m))/\h0<=m/\h[m]?=some o/\c7 o/\Rc P h o v
 |.lo v=>∃m o,n=some (some m)/\d=some (some (.ref m))/\h0<=m/\h[m]?=some o/\c7 o/\Rc P h o v
 |.mu v=>∃m o,n=some (some m)/\d=some (some (.ref m))/\h[m]?=some o/\c7 o/\Rc P h o v
 |.lm v=>∃m o,n=some (some m)/\d=some (some (.ref m))/\h[m]?=some o/\c7 o/\Rc P h o v
structure Sat(X:Nat->Prop)(h0:Nat)(ns:Ns)(e:E3)(ae:AE)(h:AH):Prop where
 l1:ae.length=e.length
 l2:ns.length=e.length
 lh:h0<=h.length
 xl:∀(n:Nat),X n->n<h.length
 inj:∀(i j n:Nat),ns[i]?=some (some n)->ns[j]?=some (some n)->i=j
 nx:∀(i n:Nat),ns[i]?=some (some n)->¬ X n
 sl:∀(i:Nat) (s:Sl),e[i]?=some s->SlR (Oc X ns) h0 (ns[i]?) (ae[i]?) h s
def Mt(ns:Ns)(e:E3)(n:Nat):Prop:=∃(i:Nat) (s:Sl),ns[i]?=some (some n)/\e[i]?=some s/\s.mt=true
structure Stp(ns:Ns)(e:E3)(h:AH)(ns':Ns)(e':E3)(h':AH):Prop where
 len:h.length<=h'.length
 keep:∀(m:Nat) (o:Ob),h[m]?=some o->¬ Mt ns e m->h'[m]?=some o
 nw:∀(i n:Nat),ns'[i]?=some (some n)->ns[i]?=some (some n)\/h.length<=n
 lk:∀(i:Nat) (s:Sl),e[i]?=some s->s.lk=true->e'[i]?=some s/\ns'[i]?=ns[i]?
 lk':∀(i:Nat) (s:Sl),e'[i]?=some s->s.lk=true->e[i]?=some s/\ns'[i]?=ns[i]?
 mu:∀(i:Nat) (v:Val),e'[i]?=some (.mu v)->∃u,e[i]?=some (.mu u)/\ns'[i]?=ns[i]?
 mu':∀(i:Nat) (u:Val),e[i]?=some (.mu u)->∃v,e'[i]?=some (.mu v)/\ns'[i]?=ns[i]?
section
variable{X:Nat->Prop}{h0:Nat}{ns ns1 ns2:Ns}{e e1 e2:E3}{ae:AE}{h h' h1 h2:AH}
def cq:some n∈ns ↔ ∃i:Nat,ns[i]?=some (some n):=by
 constructor
 .intro m;exact List.getElem?_of_mem m
 .rintro⟨i,e⟩;exact PU e
def Sat.own(S:Sat X h0 ns e ae h){i n:Nat}(q:ns[i]?=some (some n)):∃s v o,e[i]?=some s/\(s.mt=true\/s.lk=true)/\s.val=some v/\ae[i]?=some (some (.ref n))/\h[n]?=some o/\c7 o/\Rc (Oc X ns) h o v:=by
 have hi:i<e.length:=by rw[<- S.l2];exact (x_.mp q).1
 have hs:=S.sl i e[i] (OT hi);refine⟨e[i],?_⟩;have he:=OT hi;generalize e[i]=s at *;rw[q] at hs;cases s with
 |no=>cases hs
 |sh v=>cases hs.1
 |ow v=>obtain⟨m,o,e1,e2,_,e3,e4,e5⟩:=hs;cases e1;exact⟨v,o,he,.inl rfl,rfl,e2,e3,e4,e5⟩
 |lo v=>obtain⟨m,o,e1,e2,_,e3,e4,e5⟩:=hs;cases e1;exact⟨v,o,he,.inr rfl,rfl,e2,e3,e4,e5⟩
 |mu v=>obtain⟨m,o,e1,e2,e3,e4,e5⟩:=hs;cases e1;exact⟨v,o,he,.inl rfl,rfl,e2,e3,e4,e5⟩
 |lm v=>obtain⟨m,o,e1,e2,e3,e4,e5⟩:=hs;cases e1;exact⟨v,o,he,.inr rfl,rfl,e2,e3,e4,e5⟩
def Stp.refl:Stp ns e h ns e h:=⟨y_ _,λ_ _ q _=>q,λ_ _ q=>.inl q,λ_ _ q _=>⟨q,rfl⟩,λ_ _ q _=>⟨q,rfl⟩,λ_ _ q=>⟨_,q,rfl⟩,λ_ _ q=>⟨_,q,rfl⟩⟩
def Stp.trans(S:Sat X h0 ns e ae h)(a:Stp ns e h ns1 e1 h1)(b:Stp ns1 e1 h1 ns2 e2 h2):Stp ns e h ns2 e2 h2:=by
 refine⟨G_ a.len b.len,λm o q hm=>?_,λi n q=>?_,λi s q hl=>?_,λi s q hl=>?_,λi v q=>?_,λi v q=>?_⟩
 .refine b.keep m o (a.keep m o q hm) λ⟨i,s,z1,z2,z3⟩=>hm ?_;have hlt:=(x_.mp q).1;rcases a.nw i m z1 with z |z
  .obtain⟨s0,v,o',q1,q2,_⟩:=S.own z;rcases q2 with q2 |q2
   .exact⟨i,s0,z,q1,q2⟩
   .have:=(a.lk i s0 q1 q2).1
    rw[z2] at this;cases this;exfalso;cases s <;> first |cases z3;done |cases q2;done
  .omega
 .rcases b.nw i n q with z |z
  .exact a.nw i n z
  .exact .inr (G_ a.len z)
 .obtain⟨q1,q2⟩:=a.lk i s q hl;obtain⟨q3,q4⟩:=b.lk i s q1 hl;exact⟨q3,q4.trans q2⟩
 .obtain⟨q1,q2⟩:=b.lk' i s q hl;obtain⟨q3,q4⟩:=a.lk' i s q1 hl;exact⟨q3,q2.trans q4⟩
 .obtain⟨u,q1,q2⟩:=b.mu i v q;obtain⟨u',q3,q4⟩:=a.mu i u q1;exact⟨u',q3,q2.trans q4⟩
 .obtain⟨u,q1,q2⟩:=a.mu' i v q;obtain⟨u',q3,q4⟩:=b.mu' i u q1;exact⟨u',q3,q4.trans q2⟩
def Stp.mov(S:Sat X h0 ns e ae h)(a:Stp ns e h ns1 e1 h1):Mov (Oc X ns) (Oc X ns1) h h1:=λn o p q=>by
 have hlt:=(x_.mp q).1;have hm:¬ Mt ns e n:=λ⟨i,s,z,_⟩=>p.2 (cq.mpr ⟨i,z⟩);refine⟨⟨p.1,λz=>?_⟩,a.keep n o q hm⟩;obtain⟨i,z⟩:=cq.mp z;rcases a.nw i n z with z |z
 .exact p.2 (cq.mpr ⟨i,z⟩)
 .omega
def dW(q:h[n]?=some o):n<h.length:=(x_.mp q).1
def mB{n:Nat}{o:Ob}{g:AH}(q:h[n]?=some o):(h++g)[n]?=some o:=by rw[OR (dW q)];exact q
def xt:(h++[o])[h.length]?=some o:=by rw[O0 (y_ _),QJ];rfl
def SlR.mono(m:Mov P P' h h')(k:∀j o,n=some (some j)->h[j]?=some o->h'[j]?=some o)(r:SlR P h0 n d h s):SlR P' h0 n d h' s:=by
 cases s with
 |no=>exact r
 |sh v=>obtain⟨q,x,q1,q2⟩:=r;exact⟨q,x,q1,q2.mono m⟩
 |ow v=>obtain⟨j,o,q1,q2,q3,q4,q5,q6⟩:=r;exact⟨j,o,q1,q2,q3,k j o q1 q4,q5,q6.mono m⟩
 |lo v=>obtain⟨j,o,q1,q2,q3,q4,q5,q6⟩:=r;exact⟨j,o,q1,q2,q3,k j o q1 q4,q5,q6.mono m⟩
 |mu v=>obtain⟨j,o,q1,q2,q4,q5,q6⟩:=r;exact⟨j,o,q1,q2,k j o q1 q4,q5,q6.mono m⟩
 |lm v=>obtain⟨j,o,q1,q2,q4,q5,q6⟩:=r;exact⟨j,o,q1,q2,k j o q1 q4,q5,q6.mono m⟩
def Xn(X:Nat->Prop)(n:Nat):Nat->Prop:=λm=>X m\/m=n
def Sat.grow(S:Sat X h0 ns e ae h)(o:Ob):Sat (Xn X h.length) h0 ns e ae (h++[o]):=by
 have mv:Mov (Oc X ns) (Oc (Xn X h.length) ns) h (h++[o]):=λn o' p q=>⟨⟨λz=>by
  rcases z with z |z
  .exact p.1 z
  .have:=dW q;omega,p.2⟩,mB q⟩
 refine⟨S.l1,S.l2,by rw[F_];have:=S.lh;omega,λn z=>?_,S.inj,λi n q z=>?_,λi s q=>(S.sl i s q).mono mv λj o' _ q'=>mB q'⟩
 .rw[F_];rcases z with z |z
  .have:=S.xl n z;omega
  .subst z;show h.length<h.length+1;omega
 .rcases z with z |z
  .exact S.nx i n q z
  .obtain⟨_,_,_,_,_,_,_,q',_⟩:=S.own q
   have:=dW q';omega
def Sat.weak(S:Sat Y h0 ns e ae h)(hx:∀n,X n->Y n):Sat X h0 ns e ae h:=
 ⟨S.l1,S.l2,S.lh,λn z=>S.xl n (hx n z),S.inj,λi n q z=>S.nx i n q (hx n z),λi s q=>(S.sl i s q).mono (λn o p q=>⟨⟨λz=>p.1 (hx n z),p.2⟩,q⟩) λ_ _ _ q=>q⟩
def Stp.grow(o:Ob):Stp ns e h ns e (h++[o]):=⟨by rw[F_];omega,λ_ _ q _=>mB q,λ_ _ q=>.inl q,λ_ _ q _=>⟨q,rfl⟩,λ_ _ q _=>⟨q,rfl⟩,λ_ _ q=>⟨_,q,rfl⟩,λ_ _ q=>⟨_,q,rfl⟩⟩
end
section
variable{X:Nat->Prop}{h0:Nat}{ns:Ns}{e:E3}{ae:AE}{h hs:AH}
def cF{α:Type}{l:List α}{i j:Nat}{a b:α}(hi:i<l.length)(q:(l.set i a)[j]?=some b):(j=i/\b=a)\/(j≠i/\l[j]?=some b):=by
 rw[Qr] at q;by_cases z:i=j
 .subst z;rw[if_pos rfl,if_pos hi] at q;exact .inl ⟨rfl,(OQ q).symm⟩
 .rw[if_neg z] at q;exact .inr ⟨λy=>z y.symm,q⟩
def cZ{α:Type}{l:List α}{i:Nat}{a:α}(hi:i<l.length):(l.set i a)[i]?=some a:=by rw[Qr,if_pos rfl,if_pos hi]
def cK{α:Type}{l:List α}{i j:Nat}{a:α}(hi:j≠i):(l.set i a)[j]?=l[j]?:=by rw[Qa (λy=>hi y.symm)]
def fE(p:Oc X ns n):Oc X (ns.set i none) n:=⟨p.1,λz=>by
 rcases Qi z with z |z
 .exact p.2 z
 .cases z⟩
def Sat.putN(S:Sat X h0 ns e ae h)(hi:i<e.length)(q:SlR (Oc X (ns.set i none)) h0 (some none) (some d) h s):Sat X h0 (ns.set i none) (e.set i s) (ae.set i d) h:=by
 have hn:i<ns.length:=by rw[S.l2];exact hi
 have ha:i<ae.length:=by rw[S.l1];exact hi
 refine⟨by rw[N_,N_];exact S.l1,by rw[N_,N_];exact S.l2,S.lh,S.xl,λj k n q1 q2=>?_,λj n q1=>?_,λj s' q1=>?_⟩
 .rcases cF hn q1 with ⟨_,z⟩ |⟨_,z⟩
  .cases z
  rcases cF hn q2 with ⟨_,y⟩ |⟨_,y⟩
  .cases y
  exact S.inj j k n z y
 .rcases cF hn q1 with ⟨_,z⟩ |⟨_,z⟩
  .cases z
  exact S.nx j n z
 .rcases cF hi q1 with ⟨rfl,rfl⟩ |⟨z,q2⟩
  .rw[cZ hn,cZ ha];exact q
  .rw[cK z,cK z];exact (S.sl j s' q2).mono (λn o p q=>⟨fE p,q⟩) λ_ _ _ q=>q
def Sat.putN'(S:Sat X h0 ns e ae h)(hi:i<e.length)(q:SlR (Oc X (ns.set i none)) h0 (some none) (ae[i]?) h s):Sat X h0 (ns.set i none) (e.set i s) ae h:=by
 have ha:i<ae.length:=by rw[S.l1];exact hi
 have:=S.putN hi (s:=s) (d:=ae[i]) (by rw[OT ha] at q;exact q)
 rw[List.set_getElem_self] at this;exact this
def Sat.putO(S:Sat (Xn X n) h0 ns e ae h)(hx:¬ X n)(hi:i<e.length)(hn0:h0<=n)(eo:h[n]?=some o)(hf:c7 o)(r:Rc (Oc (Xn X n) ns) h o v):Sat X h0 (ns.set i (some n)) (e.set i (.ow v)) (ae.set i (some (.ref n))) h:=by
 have hn:i<ns.length:=by rw[S.l2];exact hi
 have ha:i<ae.length:=by rw[S.l1];exact hi
 have nn:∀j:Nat,ns[j]?≠some (some n):=λj q=>S.nx j n q (.inr rfl);have mv:Mov (Oc (Xn X n) ns) (Oc X (ns.set i (some n))) h h:=λm o' p q=>⟨⟨λz=>p.1 (.inl z),λz=>by
  rcases Qi z with z |z
  .exact p.2 z
  .cases z;exact p.1 (.inr rfl)⟩,q⟩
 refine⟨by rw[N_,N_];exact S.l1,by rw[N_,N_];exact S.l2,S.lh,λm z=>S.xl m (.inl z),λj k m q1 q2=>?_,λj m q1 z=>?_,λj s' q1=>?_⟩
 .rcases cF hn q1 with ⟨z1,z⟩ |⟨z1,z⟩ <;> rcases cF hn q2 with ⟨y1,y⟩ |⟨y1,y⟩
  .rw[z1,y1]
  .cases z;exact absurd y (nn k)
  .cases y;exact absurd z (nn j)
  .exact S.inj j k m z y
 .rcases cF hn q1 with ⟨_,y⟩ |⟨_,y⟩
  .cases y;exact hx z
  .exact S.nx j m y (.inl z)
 .rcases cF hi q1 with ⟨rfl,rfl⟩ |⟨z,q2⟩
  .rw[cZ hn,cZ ha];exact⟨n,o,rfl,rfl,hn0,eo,hf,r.mono mv⟩
  .rw[cK z,cK z];exact (S.sl j s' q2).mono mv λ_ _ _ q=>q
noncomputable def Sl.pl:Sl->Bool
 |.no=>true
 |.sh _=>true
 |.ow _=>true
 |_=>false
def Stp.put(A:Stp ns0 e0 hs ns e h)(hi:i<e.length)(hx:∀n,x=some n->hs.length<=n)(q0:e[i]?=some s0)(p0:s0.pl=true)(p:s.pl=true)(l2:ns.length=e.length):Stp ns0 e0 hs (ns.set i x) (e.set i s) h:=by
 have hn:i<ns.length:=by rw[l2];exact hi
 refine⟨A.len,A.keep,λj n q=>?_,λj s' q hl=>?_,λj s' q hl=>?_,λj v q=>?_,λj v q=>?_⟩
 .rcases cF hn q with ⟨_,z⟩ |⟨_,z⟩
  .exact .inr (hx n z.symm)
  .exact A.nw j n z
 .obtain⟨q1,q2⟩:=A.lk j s' q hl;have z:j≠i:=λz=>by subst z;rw[q0] at q1;cases q1;cases s0 <;> first |cases p0;done |cases hl;done
  rw[cK z,cK z];exact⟨q1,q2⟩
 .rcases cF hi q with ⟨_,z⟩ |⟨z,q1⟩
  .subst z;cases s' <;> first |cases p;done |cases hl;done
  .rw[cK z];exact A.lk' j s' q1 hl
 .rcases cF hi q with ⟨_,z⟩ |⟨z,q1⟩
  .subst z;cases p
  .rw[cK z];exact A.mu j v q1
 .obtain⟨u,q1,q2⟩:=A.mu' j v q;have z:j≠i:=λz=>by subst z;rw[q0] at q1;cases q1;cases p0
  exact⟨u,by rw[cK z];exact q1,by rw[cK z];exact q2⟩
end
inductive Tm where
 |val (v:Val) |new (v:Val) |bor (i:Nat)
inductive R3(α:Type) where
 |ok (a:α) (e:E3) |exc (c:Str) (e:E3) |stuck
noncomputable def R3.bind{α β:Type}(r:R3 α)(f:α->E3->R3 β):R3 β:=match r with
 |.ok a e=>f a e
 |.exc c e=>.exc c e
 |.stuck=>.stuck
abbrev ME3:=E3->R3 Tm
abbrev MT3:=E3->R3 Bool
abbrev MA3:=E3->R3 (List Tm)
def Po{δ α:Type}(X:Nat->Prop)(h0:Nat)(ns:Ns)(e:E3)(ae:AE)(h:AH)(rel:Ns->E3->AH->δ->α->Prop)(r2:R δ):R3 α->Prop
 |.stuck=>True
 |.ok t e'=>∃d h' ns',r2=.ok d h'/\Stp ns e h ns' e' h'/\Sat X h0 ns' e' ae h'/\rel ns' e' h' d t
 |.exc c e'=>∃h' ns',r2=.exc c h'/\Stp ns e h ns' e' h'/\Sat X h0 ns' e' ae h'
def relE(X:Nat->Prop)(h0 L:Nat)(ae:AE)(ns:Ns)(e:E3)(h:AH)(d:D):Tm->Prop
 |.val v=>Rd (Oc X ns) h d v
 |.new v=>∃n o,d=.ref n/\L<=n/\¬ X n/\h[n]?=some o/\c7 o/\Sat (Xn X n) h0 ns e ae h/\Rc (Oc (Xn X n) ns) h o v
 |.bor i=>ae[i]?=some (some d)
def relT(_:Ns)(_:E3)(_:AH)(b c:Bool):Prop:=b=c
inductive TsR(X:Nat->Prop)(ns:Ns)(ae:AE)(h:AH):List D->List Tm->Prop where
 |nil:TsR X ns ae h [] []
 |val {d:D}{v:Val}{ds:List D}{ts:List Tm} (r:Rd (Oc X ns) h d v) (rr:TsR X ns ae h ds ts):TsR X ns ae h (d::ds) (.val v::ts)
 |bor {d:D}{i:Nat}{ds:List D}{ts:List Tm} (q:ae[i]?=some (some d)) (rr:TsR X ns ae h ds ts):TsR X ns ae h (d::ds) (.bor i::ts)
def relA(X:Nat->Prop)(ae:AE)(ns:Ns)(_:E3)(h:AH)(ds:List D)(ts:List Tm):Prop:=TsR X ns ae h ds ts
def RE(F:ME)(G:ME3):Prop:=∀X h0 L ns e ae h,Sat X h0 ns e ae h->L<=h.length->Po X h0 ns e ae h (relE X h0 L ae) (F ae h) (G e)
def RT(F:MT)(G:MT3):Prop:=∀X h0 ns e ae h,Sat X h0 ns e ae h->Po X h0 ns e ae h relT (F ae h) (G e)
def RA(F:MA)(G:MA3):Prop:=∀X h0 ns e ae h,Sat X h0 ns e ae h->Po X h0 ns e ae h (relA X ae) (F ae h) (G e)
section
variable{X:Nat->Prop}{h0 L:Nat}{ns ns':Ns}{e e':E3}{ae:AE}{h h':AH}
def Po.bind(S:Sat X h0 ns e ae h)(p:Po X h0 ns e ae h rel r2 r3)
 (k:∀d t h' ns' e',Stp ns e h ns' e' h'->Sat X h0 ns' e' ae h'->rel ns' e' h' d t->Po X h0 ns' e' ae h' rel' (f2 d h') (f3 t e')):Po X h0 ns e ae h rel' (r2.bind f2) (r3.bind f3):=by
 cases r3 with
 |stuck=>trivial
 |exc c e'=>obtain⟨h',ns',q,q1,q2⟩:=p;subst q;exact⟨h',ns',rfl,q1,q2⟩
 |
  ok t e'=>
  obtain⟨d,h',ns',q,q1,q2,q3⟩:=p;subst q
  have:=k d t h' ns' e' q1 q2 q3
  show Po X h0 ns e ae h rel' (f2 d h') (f3 t e');generalize f3 t e'=r at *;cases r with
  |stuck=>trivial
  |exc c e2=>obtain⟨h2,ns2,y,y1,y2⟩:=this;exact⟨h2,ns2,y,q1.trans S y1,y2⟩
  |ok t2 e2=>obtain⟨d2,h2,ns2,y,y1,y2,y3⟩:=this;exact⟨d2,h2,ns2,y,q1.trans S y1,y2,y3⟩
def Po.ret(S:Sat X h0 ns e ae h)(q:rel ns e h d t):Po X h0 ns e ae h rel (.ok d h) (.ok t e):=⟨d,h,ns,rfl,.refl,S,q⟩
def TsR.stp(S:Sat X h0 ns e ae h)(a:Stp ns e h ns' e' h')(r:TsR X ns ae h ds ts):TsR X ns' ae h' ds ts:=by
 induction r with
 |nil=>exact .nil
 |val r _ ih=>exact .val (r.mono (a.mov S)) ih
 |bor q _ ih=>exact .bor q ih
noncomputable def rs(e:E3):Tm->Option Val
 |.val v=>some v
 |.new v=>some v
 |.bor i=>(e[i]?).bind Sl.val
def Sat.bor(S:Sat X h0 ns e ae h){i:Nat}{d:D}{v:Val}(q:ae[i]?=some (some d))(r:(e[i]?).bind Sl.val=some v):ShR (Oc X ns) h d v:=by
 cases z:e[i]? with
 |none=>rw[z] at r;cases r
 |
  some s=>
  rw[z] at r;have y:=S.sl i s z;rw[q] at y;have r':s.val=some v:=r;cases s with
  |no=>cases r'
  |sh u=>cases r';obtain⟨_,x,e1,e2⟩:=y;cases e1;exact .inl e2
  |ow u=>cases r';obtain⟨m,o,_,e2,_,e3,_,e4⟩:=y;cases e2;exact .inr ⟨m,o,rfl,e3,e4⟩
  |lo u=>cases r';obtain⟨m,o,_,e2,_,e3,_,e4⟩:=y;cases e2;exact .inr ⟨m,o,rfl,e3,e4⟩
  |mu u=>cases r';obtain⟨m,o,_,e2,e3,_,e4⟩:=y;cases e2;exact .inr ⟨m,o,rfl,e3,e4⟩
  |lm u=>cases r';obtain⟨m,o,_,e2,e3,_,e4⟩:=y;cases e2;exact .inr ⟨m,o,rfl,e3,e4⟩
def relE.new(r:relE X h0 L ae ns e h d (.new v)):Rd (Oc X ns) h d v:=by obtain⟨n,o,rfl,_,hx,eo,_,S,rc⟩:=r;exact .cell ⟨hx,λz=>by obtain⟨i,z⟩:=cq.mp z;exact S.nx i n z (.inr rfl)⟩ eo (rc.mono λm o p q=>⟨⟨λz=>p.1 (.inl z),p.2⟩,q⟩)
def relE.sh{d:D}{t:Tm}{v:Val}(S:Sat X h0 ns e ae h)(r:relE X h0 L ae ns e h d t)(q:rs e t=some v):ShR (Oc X ns) h d v:=by
 cases t with
 |val u=>cases q;exact .inl r
 |new u=>cases q;exact .inl r.new
 |bor i=>exact S.bor r q
def relE.stp(S:Sat X h0 ns e ae h)(a:Stp ns e h ns' e' h')(r:relE X h0 L ae ns e h d t)(hn:∀v,t ≠ .new v):relE X h0 L ae ns' e' h' d t:=by
 cases t with
 |val u=>exact Rd.mono (a.mov S) r
 |new u=>exact absurd rfl (hn u)
 |bor i=>exact r
noncomputable def Tm.drop:Tm->Tm
 |.new v=>.val v
 |t=>t
def relE.drop(r:relE X h0 L ae ns e h d t):relE X h0 L ae ns e h d t.drop/\∀v,t.drop ≠ .new v:=by
 cases t with
 |val u=>exact⟨r,λ_ z=>nomatch z⟩
 |new u=>exact⟨r.new,λ_ z=>nomatch z⟩
 |bor i=>exact⟨r,λ_ z=>nomatch z⟩
noncomputable def rss(e:E3):List Tm->Option (List Val)
 | []=>some []
 |t::ts=>match rs e t,rss e ts with
  |some v,some vs=>some (v::vs)
  |_,_=>none
def TsR.sh{ds:List D}{ts:List Tm}{vs:List Val}(S:Sat X h0 ns e ae h)(r:TsR X ns ae h ds ts)(q:rss e ts=some vs):ShRs (Oc X ns) h ds vs:=by
 induction r generalizing vs with
 |nil=>cases q;exact .nil
 |
  val r _ ih=>
  unfold rss at q;split at q
  .rename_i e1 e2;cases q;cases e1;exact .cons (.inl r) (ih e2)
  .cases q
 |
  bor q' _ ih=>
  unfold rss at q;split at q
  .rename_i e1 e2;cases q;exact .cons (S.bor q' e1) (ih e2)
  .cases q
end
inductive Bv where
 |val (v:Val) |new (v:Val) |stuck
def BvR(P:Nat->Prop)(h:AH)(r:R D):Bv->Prop
 |.val v=>∃d,r=.ok d h/\Rd P h d v
 |.new v=>∃o,r=.ok (.ref h.length) (h++[o])/\c7 o/\Rc P h o v
 |.stuck=>True
noncomputable def Bv.at(b:Bv)(e:E3):R3 Tm:=match b with
 |.val v=>.ok (.val v) e
 |.new v=>.ok (.new v) e
 |.stuck=>.stuck
def BvR.po(S:Sat X h0 ns e ae h)(hl:L<=h.length)(q:BvR (Oc X ns) h r b):Po X h0 ns e ae h (relE X h0 L ae) r (b.at e):=by
 cases b with
 |stuck=>trivial
 |val v=>obtain⟨d,rfl,r⟩:=q;exact Po.ret S r
 |
  new v=>
  obtain⟨o,rfl,hf,r⟩:=q;have S':=S.grow o;refine⟨_,_,ns,rfl,.grow o,S'.weak λn z=>.inl z,h.length,o,rfl,hl,λz=>?_,xt,hf,S',r.mono λn o' p q=>⟨⟨λz=>?_,p.2⟩,mB q⟩⟩
  .have:=S.xl _ z;omega
  .rcases z with z |z
   .exact p.1 z
   .have:=dW q;omega
def RU(g2:D->AH->R D)(g3:Val->Bv):Prop:=∀P h d v,ShR P h d v->BvR P h (g2 d h) (g3 v)
def RO(g2:D->D->AH->R D)(g3:Val->Val->Bv):Prop:=∀P h d1 d2 v1 v2,ShR P h d1 v1->ShR P h d2 v2->BvR P h (g2 d1 d2 h) (g3 v1 v2)
def RFn(g2:Fn)(g3:List Val->Bv):Prop:=∀P h ds vs,ShRs P h ds vs->BvR P h (g2 ds h) (g3 vs)
noncomputable def Cn(i:Nat):ME3:=λe=>match e[i]? with
 |some (.sh v)=>.ok (.val v) e
 |some .no=>.stuck
 |some _=>.ok (.bor i) e
 |none=>.stuck
noncomputable def vC(v:Val):ME3:=λe=>.ok (.val v) e
noncomputable def vUn(g:Val->Bv)(F:ME3):ME3:=λe=>(F e).bind λt e1=>match rs e1 t with
 |some v=>(g v).at e1
 |none=>.stuck
noncomputable def vOp(g:Val->Val->Bv)(F G:ME3):ME3:=λe=>(F e).bind λt1 e1=>(G e1).bind λt2 e2=>match rs e2 t1.drop,rs e2 t2 with
 |some v1,some v2=>(g v1 v2).at e2
 |_,_=>.stuck
noncomputable def rm:MA3:=λe=>.ok [] e
noncomputable def D5(F:ME3)(A:MA3):MA3:=λe=>(F e).bind λt e1=>(A e1).bind λts e2=>.ok (t.drop::ts) e2
noncomputable def vFn(g:List Val->Bv)(A:MA3):ME3:=λe=>(A e).bind λts e1=>match rss e1 ts with
 |some vs=>(g vs).at e1
 |none=>.stuck
noncomputable def dk(e:E3):Tm->Option (E3×Val)
 |.val v=>some (e,v)
 |.new v=>some (e,v)
 |.bor i=>match e[i]? with
  |some (.sh v)=>some (e,v)
  |some (.ow v)=>some (e.set i (.sh v),v)
  |_=>none
noncomputable def dem(e:E3):List Tm->Option (E3×List Val)
 | []=>some (e,[])
 |t::ts=>match dk e t with
  |some (e1,v)=>match dem e1 ts with
   |some (e2,vs)=>some (e2,v::vs)
   |none=>none
  |none=>none
noncomputable def vTup(A:MA3):ME3:=λe=>(A e).bind λts e1=>match dem e1 ts with
 |some (e2,vs)=>if vs.length<=16777216 then .ok (.val (.tup vs)) e2 else .stuck
 |none=>.stuck
noncomputable def vLst(A:MA3):ME3:=λe=>(A e).bind λts e1=>match dem e1 ts with
 |some (e2,vs)=>if vs.length<=16777216 then .ok (.new (.lst vs)) e2 else .stuck
 |none=>.stuck
noncomputable def bOf:Option Val->Option Bool
 |some (.bl b)=>some b
 |_=>none
noncomputable def vAnd(F G:ME3):ME3:=λe=>(F e).bind λt e1=>match bOf (rs e1 t) with
 |some true=>G e1
 |some false=>.ok (.val (.bl false)) e1
 |none=>.stuck
noncomputable def vNot(F:ME3):ME3:=λe=>(F e).bind λt e1=>match bOf (rs e1 t) with
 |some b=>.ok (.val (.bl (!b))) e1
 |none=>.stuck
def vIf(c:MT3)(F G:ME3):ME3:=λe=>(c e).bind λb e1=>if b=true then F e1 else G e1
noncomputable def cOf(F:ME3):MT3:=λe=>(F e).bind λt e1=>match bOf (rs e1 t) with
 |some b=>.ok b e1
 |none=>.stuck
noncomputable def cAn(c d:MT3):MT3:=λe=>(c e).bind λb e1=>if b=true then d e1 else .ok false e1
noncomputable def cO(c d:MT3):MT3:=λe=>(c e).bind λb e1=>if b=true then .ok true e1 else d e1
noncomputable def cNo(c:MT3):MT3:=λe=>(c e).bind λb e1=>.ok (!b) e1
def cY:MT3:=λe=>.ok true e
section
variable{F G:ME}{F3 G3:ME3}{A:MA}{A3:MA3}{c d:MT}{c3 d3:MT3}
def Im(i:Nat):RE (cH i) (Cn i):=λX h0 L ns e ae h S hl=>by
 unfold Cn;cases q:e[i]? with
 |none=>trivial
 |
  some s=>
  have y:=S.sl i s q;cases s with
  |no=>trivial
  |sh v=>obtain⟨_,x,e1,e2⟩:=y;unfold cH;rw[e1];exact Po.ret S e2
  |ow v=>obtain⟨m,o,_,e2,_⟩:=y;unfold cH;rw[e2];exact Po.ret S e2
  |lo v=>obtain⟨m,o,_,e2,_⟩:=y;unfold cH;rw[e2];exact Po.ret S e2
  |mu v=>obtain⟨m,o,_,e2,_⟩:=y;unfold cH;rw[e2];exact Po.ret S e2
  |lm v=>obtain⟨m,o,_,e2,_⟩:=y;unfold cH;rw[e2];exact Po.ret S e2
def oh{d:D}{v:Val}(r:∀P h,Rd P h d v):RE (eC d) (vC v):=λX h0 L ns e ae h S hl=>Po.ret S (r _ _)
def Ox(hg:RU g g3)(hF:RE F F3):RE (eUn g F) (vUn g3 F3):=λX h0 L ns e ae h S hl=>
 Po.bind S (hF X h0 L ns e ae h S hl) λd t h1 ns1 e1 a1 S1 r1=>by
  try dsimp only
  split
  .rename_i v q;exact BvR.po S1 (G_ hl a1.len) (hg _ _ _ _ (r1.sh S1 q))
  .trivial
def N7(hg:RO g g3)(hF:RE F F3)(hG:RE G G3):RE (eOp g F G) (vOp g3 F3 G3):=λX h0 L ns e ae h S hl=>
 Po.bind S (hF X h0 L ns e ae h S hl) λd1 t1 h1 ns1 e1 a1 S1 r1=>Po.bind S1 (hG X h0 L ns1 e1 ae h1 S1 (G_ hl a1.len)) λd2 t2 h2 ns2 e2 a2 S2 r2=>by
  try dsimp only
  split
  .rename_i v1 v2 q1 q2;obtain⟨r1',hn⟩:=r1.drop;exact BvR.po S2 (G_ hl (G_ a1.len a2.len)) (hg _ _ _ _ _ _ ((r1'.stp S1 a2 hn).sh S2 q1) (r2.sh S2 q2))
  .trivial
def zD:RA lz rm:=λX h0 ns e ae h S=>Po.ret S .nil
def Ge(hF:RE F F3)(hA:RA A A3):RA (mz F A) (D5 F3 A3):=λX h0 ns e ae h S=>
 Po.bind S (hF X h0 0 ns e ae h S (O2 _)) λd1 t1 h1 ns1 e1 a1 S1 r1=>Po.bind S1 (hA X h0 ns1 e1 ae h1 S1) λds ts h2 ns2 e2 a2 S2 r2=>by
  obtain⟨r1',hn⟩:=r1.drop;have r3:=r1'.stp S1 a2 hn;refine Po.ret S2 ?_;show TsR X ns2 ae h2 (d1::ds) (t1.drop::ts);generalize t1.drop=t at *;cases t with
  |val v=>exact .val r3 r2
  |new v=>exact absurd rfl (hn v)
  |bor i=>exact .bor r3 r2
def MM(hg:RFn g g3)(hA:RA A A3):RE (eFn g A) (vFn g3 A3):=λX h0 L ns e ae h S hl=>
 Po.bind S (hA X h0 ns e ae h S) λds ts h1 ns1 e1 a1 S1 r1=>by
  try dsimp only
  split
  .rename_i vs q;exact BvR.po S1 (G_ hl a1.len) (hg _ _ _ _ (TsR.sh S1 r1 q))
  .trivial
def HL(S:Sat X h0 ns e ae h)(q:e[i]?=some (.ow v)):∃n,ae[i]?=some (some (.ref n))/\Sat X h0 (ns.set i none) (e.set i (.sh v)) ae h/\Stp ns e h (ns.set i none) (e.set i (.sh v)) h/\Rd (Oc X (ns.set i none)) h (.ref n) v:=by
 obtain⟨n,o,q1,q2,_,q3,_,q4⟩:=S.sl i _ q;have hi:=(x_.mp q).1;have hn:i<ns.length:=by rw[S.l2];exact hi
 have r:Rd (Oc X (ns.set i none)) h (.ref n) v:=.cell ⟨S.nx i n q1,λz=>by
  obtain⟨j,z⟩:=cq.mp z;rcases cF hn z with ⟨_,y⟩ |⟨y,z⟩
  .cases y
  .exact y (S.inj j i n z q1)⟩ q3 (q4.mono λm o p q=>⟨fE p,q⟩)
 exact⟨n,q2,S.putN' hi ⟨rfl,_,q2,r⟩,Stp.refl.put (x:=none) hi (λ_ z=>by cases z) q rfl rfl S.l2,r⟩
def gv{X:Nat->Prop}{h0 L:Nat}{ns:Ns}{e e':E3}{ae:AE}{h:AH}{d:D}{t:Tm}{v:Val}(S:Sat X h0 ns e ae h)(r:relE X h0 L ae ns e h d t)(q:dk e t=some (e',v)):∃ns',Sat X h0 ns' e' ae h/\Stp ns e h ns' e' h/\Rd (Oc X ns') h d v:=by
 cases t with
 |val u=>cases q;exact⟨ns,S,.refl,r⟩
 |new u=>cases q;exact⟨ns,S,.refl,r.new⟩
 |
  bor i=>
  unfold dk at q;dsimp only at q;have r':ae[i]?=some (some d):=r;split at q
  .rename_i u q1;cases q;obtain⟨_,x,e1,e2⟩:=S.sl i _ q1;rw[r'] at e1;cases e1;exact⟨ns,S,.refl,e2⟩
  .rename_i u q1;cases q;obtain⟨n,e1,S',a',e2⟩:=HL S q1;rw[r'] at e1;cases e1;exact⟨_,S',a',e2⟩
  .cases q
def kC:∀{ds:List D}{vs:List Val}{ns:Ns}{e e':E3},Sat X h0 ns e ae h->TsR X ns ae h ds ts->dem e ts=some (e',vs)->∃ns',Sat X h0 ns' e' ae h/\Stp ns e h ns' e' h/\Rds (Oc X ns') h ds vs:=by
 induction ts with
 |nil=>intro ds vs ns e e' S r q;cases r;cases q;exact⟨ns,S,.refl,.nil⟩
 |
  cons t ts ih=>
  intro ds vs ns e e' S r q;unfold dem at q;split at q
  .rename_i e1 v q1;split at q
   .rename_i e2 vs' q2;cases q;have hr:∃d ds',ds=d::ds'/\relE X h0 0 ae ns e h d t/\TsR X ns ae h ds' ts:=by
     cases r with
     |val r rr=>exact⟨_,_,rfl,r,rr⟩
     |bor r rr=>exact⟨_,_,rfl,r,rr⟩
    obtain⟨d,ds',rfl,hr⟩:=hr;obtain⟨ns1,S1,a1,r1⟩:=gv S hr.1 q1;obtain⟨ns2,S2,a2,r2⟩:=ih S1 (hr.2.stp S a1) q2;exact⟨ns2,S2,a1.trans S a2,.cons (r1.mono (a2.mov S1)) r2⟩
   .cases q
  .cases q
def Jg(hA:RA A A3):RE (eFn jI A) (vTup A3):=λX h0 L ns e ae h S hl=>
 Po.bind S (hA X h0 ns e ae h S) λds ts h1 ns1 e1 a1 S1 r1=>by
  try dsimp only
  split
  .rename_i e2 vs q;split
   .rename_i hv;obtain⟨ns2,S2,a2,r2⟩:=kC S1 r1 q;exact⟨.tup ds,h1,ns2,by unfold jI;rw[if_pos (by rw[r2.len];exact hv)],a2,S2,.tup r2⟩
   .trivial
  .trivial
def LG(hA:RA A A3):RE (eFn fN A) (vLst A3):=λX h0 L ns e ae h S hl=>
 Po.bind S (hA X h0 ns e ae h S) λds ts h1 ns1 e1 a1 S1 r1=>by
  try dsimp only
  split
  .rename_i e2 vs q;split
   .rename_i hv;obtain⟨ns2,S2,a2,r2⟩:=kC S1 r1 q;have p:=BvR.po (r:=fN ds h1) (b:=.new (.lst vs)) S2 (G_ hl a1.len) ⟨.lst ds,by unfold fN;rw[if_pos (by rw[r2.len];exact hv)],trivial,.lst r2⟩;obtain⟨d,h',ns',y,y1,y2,y3⟩:=p;exact⟨d,h',ns',y,a2.trans S1 y1,y2,y3⟩
   .trivial
  .trivial
def pB(S1:Sat X h0 ns1 e1 ae h1)(r1:relE X h0 L ae ns1 e1 h1 d1 t1)(q:bOf (rs e1 t1)=some b):d1=.bl b:=by
 unfold bOf at q;split at q
 .rename_i b' q';cases q;exact (r1.sh S1 q').bl
 .cases q
def Iu(hF:RE F F3)(hG:RE G G3):RE (qK F G) (vAnd F3 G3):=λX h0 L ns e ae h S hl=>
 Po.bind S (hF X h0 L ns e ae h S hl) λd1 t1 h1 ns1 e1 a1 S1 r1=>by
  try dsimp only
  split
  .rename_i q;rw[pB S1 r1 q];exact hG X h0 L ns1 e1 ae h1 S1 (G_ hl a1.len)
  .rename_i q;rw[pB S1 r1 q];exact Po.ret S1 (.bl false)
  .trivial
def Iq(hF:RE F F3):RE (Ds F) (vNot F3):=λX h0 L ns e ae h S hl=>
 Po.bind S (hF X h0 L ns e ae h S hl) λd1 t1 h1 ns1 e1 a1 S1 r1=>by
  try dsimp only
  split
  .rename_i q;rw[pB S1 r1 q];exact Po.ret S1 (.bl _)
  .trivial
def OI(hc:RT c c3)(hF:RE F F3)(hG:RE G G3):RE (eIf c F G) (vIf c3 F3 G3):=λX h0 L ns e ae h S hl=>
 Po.bind S (hc X h0 ns e ae h S) λb b' h1 ns1 e1 a1 S1 r1=>by
  cases r1;try dsimp only
  split
  .exact hF X h0 L ns1 e1 ae h1 S1 (G_ hl a1.len)
  .exact hG X h0 L ns1 e1 ae h1 S1 (G_ hl a1.len)
def Nj(hF:RE F F3):RT (tOf F) (cOf F3):=λX h0 ns e ae h S=>
 Po.bind S (hF X h0 0 ns e ae h S (O2 _)) λd1 t1 h1 ns1 e1 a1 S1 r1=>by
  try dsimp only
  split
  .rename_i q;rw[pB S1 r1 q];exact Po.ret S1 rfl
  .trivial
def MR(hc:RT c c3)(hd:RT d d3):RT (tAn c d) (cAn c3 d3):=λX h0 ns e ae h S=>
 Po.bind S (hc X h0 ns e ae h S) λb b' h1 ns1 e1 a1 S1 r1=>by
  cases r1;try dsimp only
  split
  .exact hd X h0 ns1 e1 ae h1 S1
  .exact Po.ret S1 rfl
def rt_o(hc:RT c c3)(hd:RT d d3):RT (tO c d) (cO c3 d3):=λX h0 ns e ae h S=>
 Po.bind S (hc X h0 ns e ae h S) λb b' h1 ns1 e1 a1 S1 r1=>by
  cases r1;try dsimp only
  split
  .exact Po.ret S1 rfl
  .exact hd X h0 ns1 e1 ae h1 S1
def Mb(hc:RT c c3):RT (tNo c) (cNo c3):=λX h0 ns e ae h S=>
 Po.bind S (hc X h0 ns e ae h S) λb b' h1 ns1 e1 a1 S1 r1=>by cases r1;exact Po.ret S1 rfl
def rt_y:RT tY cY:=λX h0 ns e ae h S=>Po.ret S rfl
end
inductive Rt where
 |val (v:Val) |new (v:Val) |par (i:Nat) |pr (v u:Val)
inductive SR3 where
 |nx (e:E3) |rt (r:Rt) (e:E3) |bk (e:E3) |ct (e:E3) |exc (c:Str) (e:E3) |stuck
abbrev MS3:=E3->SR3
def RtR(X:Nat->Prop)(h0:Nat)(ns:Ns)(e:E3)(ae:AE)(h:AH)(d:D):Rt->Prop
 |.val v=>Sat X h0 ns e ae h/\Rd (Oc X ns) h d v
 |.new v=>∃n o,d=.ref n/\h0<=n/\¬ X n/\h[n]?=some o/\c7 o/\Sat (Xn X n) h0 ns e ae h/\Rc (Oc (Xn X n) ns) h o v
 |.par i=>Sat X h0 ns e ae h/\ae[i]?=some (some d)/\∃v,e[i]?=some (.mu v)
 |.pr v u=>∃d1 n o,d=.tup [d1,.ref n]/\h0<=n/\¬ X n/\h[n]?=some o/\c7 o/\Sat (Xn X n) h0 ns e ae h/\Rd (Oc (Xn X n) ns) h d1 v/\Rc (Oc (Xn X n) ns) h o u
def PoS(X:Nat->Prop)(h0:Nat)(ns:Ns)(e:E3)(h:AH)(r2:SR):SR3->Prop
 |.stuck=>True
 |.nx e'=>∃d_ h' ns',r2=.nx d_ h'/\Stp ns e h ns' e' h'/\Sat X h0 ns' e' d_ h'
 |.bk e'=>∃d_ h' ns',r2=.bk d_ h'/\Stp ns e h ns' e' h'/\Sat X h0 ns' e' d_ h'
 |.ct e'=>∃d_ h' ns',r2=.ct d_ h'/\Stp ns e h ns' e' h'/\Sat X h0 ns' e' d_ h'
 |.exc c e'=>∃d_ h' ns',r2=.exc c d_ h'/\Stp ns e h ns' e' h'/\Sat X h0 ns' e' d_ h'
 |.rt r e'=>∃d d_ h' ns',r2=.rt d h'/\Stp ns e h ns' e' h'/\RtR X h0 ns' e' d_ h' d r
def RS(F:MS)(G:MS3):Prop:=∀X h0 ns e ae h,Sat X h0 ns e ae h->PoS X h0 ns e h (F ae h) (G e)
noncomputable def R3.toS{α:Type}(r:R3 α)(f:α->E3->SR3):SR3:=match r with
 |.ok a e=>f a e
 |.exc c e=>.exc c e
 |.stuck=>.stuck
def SR3.then(r:SR3)(f:E3->SR3):SR3:=match r with
 |.nx e=>f e
 |r=>r
section
variable{X:Nat->Prop}{h0:Nat}{ns ns1 ns':Ns}{e e1 e':E3}{ae:AE}{h h1 h':AH}
def PoS.after(S:Sat X h0 ns e ae h)(a:Stp ns e h ns1 e1 h1)(p:PoS X h0 ns1 e1 h1 r2 r3):PoS X h0 ns e h r2 r3:=by
 cases r3 with
 |stuck=>trivial
 |nx e'=>obtain⟨d_,h',ns',q,q1,q2⟩:=p;exact⟨d_,h',ns',q,a.trans S q1,q2⟩
 |bk e'=>obtain⟨d_,h',ns',q,q1,q2⟩:=p;exact⟨d_,h',ns',q,a.trans S q1,q2⟩
 |ct e'=>obtain⟨d_,h',ns',q,q1,q2⟩:=p;exact⟨d_,h',ns',q,a.trans S q1,q2⟩
 |exc c e'=>obtain⟨d_,h',ns',q,q1,q2⟩:=p;exact⟨d_,h',ns',q,a.trans S q1,q2⟩
 |rt r e'=>obtain⟨d,d_,h',ns',q,q1,q2⟩:=p;exact⟨d,d_,h',ns',q,a.trans S q1,q2⟩
def PoS.toS(p:Po X h0 ns e ae h rel r2 r3)
 (k:∀d t h' ns' e',Stp ns e h ns' e' h'->Sat X h0 ns' e' ae h'->rel ns' e' h' d t->PoS X h0 ns e h (f2 d h') (f3 t e')):PoS X h0 ns e h (r2.toS ae f2) (r3.toS f3):=by
 cases r3 with
 |stuck=>trivial
 |exc c e'=>obtain⟨h',ns',rfl,q1,q2⟩:=p;exact⟨ae,h',ns',rfl,q1,q2⟩
 |ok t e'=>obtain⟨d,h',ns',rfl,q1,q2,q3⟩:=p;exact k d t h' ns' e' q1 q2 q3
def PoS.nx(a:Stp ns e h ns' e' h')(S:Sat X h0 ns' e' d_ h'):PoS X h0 ns e h (.nx d_ h') (.nx e'):=⟨d_,h',ns',rfl,a,S⟩
end
noncomputable def wNx:MS3:=λe=>.nx e
def wCt:MS3:=λe=>.ct e
noncomputable def wSeq(F G:MS3):MS3:=λe=>(F e).then G
noncomputable def D6(F:ME3):MS3:=λe=>(F e).toS λ_ e1=>.nx e1
noncomputable def wIf(c:MT3)(F G:MS3):MS3:=λe=>(c e).toS λb e1=>if b=true then F e1 else G e1
noncomputable def qQ(t:Tm)(e:E3):SR3:=match t with
 |.val v=>.rt (.val v) e
 |.new v=>.rt (.new v) e
 |.bor i=>match e[i]? with
  |some (.sh v)=>.rt (.val v) e
  |some (.ow v)=>.rt (.new v) (e.set i .no)
  |some (.mu _)=>.rt (.par i) e
  |_=>.stuck
noncomputable def wRet(F:ME3):MS3:=λe=>(F e).toS qQ
noncomputable def jO(o:Bool)(i:Nat)(t:Tm)(e:E3):SR3:=match e[i]? with
 |some s0=>if s0.pl=true then (match t with
  |.val v=>.nx (e.set i (.sh v))
  |.new v=>.nx (e.set i (if o=true then .ow v else .sh v))
  |.bor j=>match dk e (.bor j) with
   |some (e2,v)=>.nx (e2.set i (.sh v))
   |none=>.stuck) else .stuck
 |none=>.stuck
noncomputable def wAsg(o:Bool)(i:Nat)(F:ME3):MS3:=λe=>(F e).toS (jO o i)
abbrev MG3:=Val->E3->Option E3
abbrev lp:=List Val->E3->Option E3
noncomputable def pN(i:Nat):MG3:=λv e=>match e[i]? with
 |some s=>if s.pl=true then some (e.set i (.sh v)) else none
 |none=>none
noncomputable def psN:lp:=λvs e=>match vs with
 | []=>some e
 |_=>none
noncomputable def psC(g:MG3)(u:lp):lp:=λvs e=>match vs with
 |v::r=>(g v e).bind λe1=>u r e1
 | []=>none
noncomputable def pT(n:Nat)(u:lp):MG3:=λv e=>match v with
 |.tup vs=>if vs.length=n then u vs e else none
 |_=>none
noncomputable def EA(F:ME3)(g:MG3):MS3:=λe=>(F e).toS λt e1=>match dk e1 t with
 |some (e2,v)=>match g v e2 with
  |some e3=>.nx e3
  |none=>.stuck
 |none=>.stuck
noncomputable def wPar(i j:Nat)(A:MA3):MS3:=λe=>(A e).toS λts e1=>match dem e1 ts with
 |some (e2,[v,u])=>match (pN i v e2).bind (pN j u) with
  |some e3=>.nx e3
  |none=>.stuck
 |_=>.stuck
noncomputable def C9(i:Nat)(g:Val->Val->Bv)(F:ME3):MS3:=λe=>match e[i]? with
 |some (.sh x)=>(F e).toS λt e1=>match rs e1 t with
  |some y=>match g x y with
   |.val z=>match pN i z e1 with
    |some e2=>.nx e2
    |none=>.stuck
   |_=>.stuck
  |none=>.stuck
 |_=>.stuck
noncomputable def zY(c:Str)(A:MA3):MS3:=λe=>(A e).toS λts e1=>if ts.length<=16777216 then .exc c e1 else .stuck
def RG(g2:MG)(g3:MG3):Prop:=∀X h0 ns e ae h d v e',Sat X h0 ns e ae h->Rd (Oc X ns) h d v->g3 v e=some e'->∃d_ ns',g2 d ae h=.ok d_ h/\Sat X h0 ns' e' d_ h/\Stp ns e h ns' e' h
def RGs(g2:MGs)(g3:lp):Prop:=∀X h0 ns e ae h ds vs e',Sat X h0 ns e ae h->Rds (Oc X ns) h ds vs->g3 vs e=some e'->∃d_ ns',g2 ds ae h=.ok d_ h/\Sat X h0 ns' e' d_ h/\Stp ns e h ns' e' h
section
variable{F:ME}{F3:ME3}{A:MA}{A3:MA3}{c d:MT}{c3:MT3}{U V:MS}{U3 V3:MS3}{g:MG}{g3:MG3}{gs:MGs}{gs3:lp}
def LY:RS sNx wNx:=λX h0 ns e ae h S=>.nx .refl S
def NL:RS sCt wCt:=λX h0 ns e ae h S=>⟨ae,h,ns,rfl,.refl,S⟩
def KH(hU:RS U U3)(hV:RS V V3):RS (Dk U V) (wSeq U3 V3):=λX h0 ns e ae h S=>by
 have p:=hU X h0 ns e ae h S;show PoS X h0 ns e h ((U ae h).then V) ((U3 e).then V3);generalize U3 e=r at *;cases r with
 |stuck=>trivial
 |nx e'=>obtain⟨d_,h',ns',q,q1,q2⟩:=p;rw[q];exact PoS.after S q1 (hV X h0 ns' e' d_ h' q2)
 |bk e'=>obtain⟨d_,h',ns',q,q1,q2⟩:=p;rw[q];exact⟨d_,h',ns',rfl,q1,q2⟩
 |ct e'=>obtain⟨d_,h',ns',q,q1,q2⟩:=p;rw[q];exact⟨d_,h',ns',rfl,q1,q2⟩
 |exc c e'=>obtain⟨d_,h',ns',q,q1,q2⟩:=p;rw[q];exact⟨d_,h',ns',rfl,q1,q2⟩
 |rt r e'=>obtain⟨d,d_,h',ns',q,q1,q2⟩:=p;rw[q];exact⟨d,d_,h',ns',rfl,q1,q2⟩
def G6(hF:RE F F3):RS (yn F) (D6 F3):=λX h0 ns e ae h S=>PoS.toS (hF X h0 0 ns e ae h S (O2 _)) λd t h1 ns1 e1 a1 S1 r1=>.nx a1 S1
def M0(hc:RT c c3)(hU:RS U U3)(hV:RS V V3):RS (sIf c U V) (wIf c3 U3 V3):=λX h0 ns e ae h S=>PoS.toS (hc X h0 ns e ae h S) λb b' h1 ns1 e1 a1 S1 r1=>by
 cases r1;try dsimp only
 split
 .exact PoS.after S a1 (hU X h0 ns1 e1 ae h1 S1)
 .exact PoS.after S a1 (hV X h0 ns1 e1 ae h1 S1)
def Lz(hF:RE F F3):RS (yi F) (wRet F3):=λX h0 ns e ae h S=>PoS.toS (hF X h0 h0 ns e ae h S S.lh) λd t h1 ns1 e1 a1 S1 r1=>by
 cases t with
 |val v=>exact⟨d,ae,h1,ns1,rfl,a1,S1,r1⟩
 |new v=>obtain⟨n,o,q⟩:=r1;exact⟨d,ae,h1,ns1,rfl,a1,n,o,q⟩
 |
  bor i=>
  unfold qQ;dsimp only;have r':ae[i]?=some (some d):=r1;split
  .rename_i v q;obtain⟨_,x,e1',e2⟩:=S1.sl i _ q;rw[r'] at e1';cases e1';exact⟨d,ae,h1,ns1,rfl,a1,S1,e2⟩
  .rename_i v q;obtain⟨n,o,q1,q2,q3,q4,q5,q6⟩:=S1.sl i _ q;rw[r'] at q2;cases q2;have hi:=(x_.mp q).1;have hn:i<ns1.length:=by rw[S1.l2];exact hi
   have mv:Mov (Oc X ns1) (Oc (Xn X n) (ns1.set i none)) h1 h1:=λm o' p q'=>⟨⟨λz=>by
    rcases z with z |rfl
    .exact p.1 z
    .exact p.2 (cq.mpr ⟨i,q1⟩),(fE p).2⟩,q'⟩
   have S2:=S1.putN' hi (s:=.no) rfl;refine⟨.ref n,ae,h1,ns1.set i none,rfl,a1.put (x:=none) hi (λ_ z=>by cases z) q rfl rfl S1.l2,n,o,rfl,q3,S1.nx i n q1,q4,q5,⟨S2.l1,S2.l2,S2.lh,λm z=>?_,S2.inj,λj m qj z=>?_,λj s qj=>?_⟩,q6.mono mv⟩
   .rcases z with z |rfl
    .exact S2.xl m z
    .exact dW q4
   .rcases z with z |rfl
    .exact S2.nx j m qj z
    .rcases cF hn qj with ⟨_,y⟩ |⟨y,z⟩
     .cases y
     .exact y (S1.inj j i _ z q1)
   .rcases cF hi qj with ⟨rfl,rfl⟩ |⟨z,qj'⟩
    .rw[cZ hn];rfl
    .rw[cK z];exact (S1.sl j s qj').mono mv λ_ _ _ q=>q
  .rename_i v q;exact⟨d,ae,h1,ns1,rfl,a1,S1,r',v,q⟩
  .trivial
def Lb(o:Bool)(i:Nat)(hF:RE F F3):RS (jm F (gN i)) (wAsg o i F3):=λX h0 ns e ae h S=>PoS.toS (hF X h0 h.length ns e ae h S (y_ _)) λd t h1 ns1 e1 a1 S1 r1=>by
 show PoS X h0 ns e h (.nx (ae.set i (some d)) h1) (jO o i t e1);unfold jO;split
 .rename_i s0 q0;split
  .rename_i p0;have hi:=(x_.mp q0).1;cases t with
   |val v=>exact .nx (a1.put (x:=none) (s:=.sh v) hi (λ_ z=>by cases z) q0 p0 rfl S1.l2) (S1.putN hi ⟨rfl,d,rfl,Rd.mono (λm o p q=>⟨fE p,q⟩) r1⟩)
   |
    new v=>
    try dsimp only
    split
    .obtain⟨n,ob,rfl,q1,q2,q3,q4,q5,q6⟩:=r1;exact .nx (a1.put (x:=some n) (s:=.ow v) hi (λm z=>by cases z;exact q1) q0 p0 rfl S1.l2) (Sat.putO q5 q2 hi (G_ S.lh q1) q3 q4 q6)
    .exact .nx (a1.put (x:=none) (s:=.sh v) hi (λ_ z=>by cases z) q0 p0 rfl S1.l2) (S1.putN hi ⟨rfl,d,rfl,Rd.mono (λm o p q=>⟨fE p,q⟩) r1.new⟩)
   |
    bor j=>
    try dsimp only
    split
    .rename_i e2 v q2;obtain⟨ns2,S2,a2,r2⟩:=gv S1 r1 q2;have hq:∃s2,e2[i]?=some s2/\s2.pl=true:=by
      unfold dk at q2;dsimp only at q2;split at q2
      .cases q2;exact⟨s0,q0,p0⟩
      .rename_i u q3;cases q2;by_cases z:i=j
       .subst z;exact⟨_,cZ hi,rfl⟩
       .exact⟨s0,by rw[cK z];exact q0,p0⟩
      .cases q2
     obtain⟨s2,hq1,hq2⟩:=hq;have hi2:=(x_.mp hq1).1;exact .nx ((a1.trans S a2).put (x:=none) (s:=.sh v) hi2 (λ_ z=>by cases z) hq1 hq2 rfl S2.l2) (S2.putN hi2 ⟨rfl,d,rfl,Rd.mono (λm o p q=>⟨fE p,q⟩) r2⟩)
    .trivial
  .trivial
 .trivial
def ze(i:Nat):RG (gN i) (pN i):=λX h0 ns e ae h d v e' S r q=>by
 unfold pN at q;split at q
 .rename_i s q0;split at q
  .rename_i p0;cases q;have hi:=(x_.mp q0).1;exact⟨_,ns.set i none,rfl,S.putN hi ⟨rfl,d,rfl,Rd.mono (λm o p q=>⟨fE p,q⟩) r⟩,Stp.refl.put (x:=none) (s:=.sh v) hi (λ_ z=>by cases z) q0 p0 rfl S.l2⟩
  .cases q
 .cases q
def OL:RGs gsN psN:=λX h0 ns e ae h ds vs e' S r q=>by
 cases r with
 |nil=>cases q;exact⟨ae,ns,rfl,S,.refl⟩
 |cons _ _=>cases q
def MQ(hg:RG g g3)(hs:RGs gs gs3):RGs (gsC g gs) (psC g3 gs3):=λX h0 ns e ae h ds vs e' S r q=>by
 cases r with
 |nil=>cases q
 |cons r rr=>obtain⟨e1,q1,q2⟩:=O9.mp q;obtain⟨h_,ns1,p1,S1,a1⟩:=hg _ _ _ _ _ _ _ _ _ S r q1;obtain⟨ae2,ns2,p2,S2,a2⟩:=hs _ _ _ _ _ _ _ _ _ S1 (rr.mono (a1.mov S)) q2;refine⟨ae2,ns2,?_,S2,a1.trans S a2⟩;unfold gsC;dsimp only;rw[p1];exact p2
def rg_t(n:Nat)(hs:RGs gs gs3):RG (gT λds ae h=>if ds.length=n then gs ds ae h else .stuck) (pT n gs3):=λX h0 ns e ae h d v e' S r q=>by
 unfold pT at q;split at q
 .split at q
  .rename_i hn;obtain⟨ds,rfl,r2⟩:=ShR.tup (.inl r);obtain⟨h_,ns1,p1,S1,a1⟩:=hs _ _ _ _ _ _ _ _ _ S r2 q;refine⟨h_,ns1,?_,S1,a1⟩;unfold gT;dsimp only;rw[if_pos (by rw[r2.len];exact hn)];exact p1
  .cases q
 .cases q
def Js(hg:RG g g3):RG (λd ae h=>noX (g d ae h)) g3:=λX h0 ns e ae h d v e' S r q=>by obtain⟨h_,ns1,p1,S1,a1⟩:=hg _ _ _ _ _ _ _ _ _ S r q;exact⟨h_,ns1,by dsimp only;rw[p1];rfl,S1,a1⟩
def Fm(hF:RE F F3)(hg:RG g g3):RS (jm F g) (EA F3 g3):=λX h0 ns e ae h S=>PoS.toS (hF X h0 0 ns e ae h S (O2 _)) λd t h1 ns1 e1 a1 S1 r1=>by
 try dsimp only
 split
 .rename_i e2 v q;obtain⟨ns2,S2,a2,r2⟩:=gv S1 r1 q;split
  .rename_i e3 q3;obtain⟨ae3,ns3,p3,S3,a3⟩:=hg _ _ _ _ _ _ _ _ _ S2 r2 q3;rw[p3];exact .nx ((a1.trans S a2).trans S a3) S3
  .trivial
 .trivial
def Lh(i j:Nat)(hA:RA A A3):RS (BD i j A) (wPar i j A3):=λX h0 ns e ae h S=>PoS.toS (hA X h0 ns e ae h S) λds ts h1 ns1 e1 a1 S1 r1=>by
 try dsimp only
 cases q:dem e1 ts with
 |none=>trivial
 |
  some w=>
  obtain⟨e2,vs⟩:=w;obtain⟨ns2,S2,a2,r2⟩:=kC S1 r1 q
  match vs,ds,r2 with
  | [],_,_=>trivial
  | [_],_,_=>trivial
  |_::_::_::_,_,_=>trivial
  |
   [v,u],[d,d'],r2=>
   dsimp only;split
   .rename_i e3 q3;obtain⟨e4,q4,q5⟩:=O9.mp q3;cases r2 with
    |
     cons r rr=>
     cases rr with
     |
      cons r' rr=>
      obtain⟨ae3,ns3,p3,S3,a3⟩:=ze i _ _ _ _ _ _ _ _ _ S2 r q4;obtain⟨ae4,ns4,p4,S4,a4⟩:=ze j _ _ _ _ _ _ _ _ _ S3 (r'.mono (a3.mov S2)) q5;have z3:ae3=ae.set i (some d):=by have:=p3;unfold gN at this;cases this;rfl
      have z4:ae4=ae3.set j (some d'):=by have:=p4;unfold gN at this;cases this;rfl
      subst z4 z3;exact .nx (((a1.trans S a2).trans S a3).trans S a4) S4
   .trivial
def HG(i:Nat)(hg:RO gg gg3)(hF:RE F F3):RS (uv i gg F) (C9 i gg3 F3):=λX h0 ns e ae h S=>by
 unfold C9;split
 .rename_i x q0;obtain⟨_,dx,e1,r0⟩:=S.sl i _ q0;unfold uv;rw[e1];refine PoS.toS (hF X h0 0 ns e ae h S (O2 _)) λd t h1 ns1 e1 a1 S1 r1=>?_;try dsimp only
  split
  .rename_i y q1;have b:=hg _ _ _ _ _ _ (.inl (r0.mono (a1.mov S))) (r1.sh S1 q1);split
   .rename_i z q2;rw[q2] at b;obtain⟨dz,p1,r2⟩:=b;split
    .rename_i e2 q3;rw[p1];obtain⟨ae3,ns3,p3,S3,a3⟩:=ze i _ _ _ _ _ _ _ _ _ S1 r2 q3;have z3:ae3=ae.set i (some dz):=by have:=p3;unfold gN at this;cases this;rfl
     subst z3;exact .nx (a1.trans S a3) S3
    .trivial
   .trivial
  .trivial
 .trivial
def TsR.len(r:TsR X ns ae h ds ts):ds.length=ts.length:=by
 induction r with
 |nil=>rfl
 |val _ _ ih=>rw[OO,OO,ih]
 |bor _ _ ih=>rw[OO,OO,ih]
def B2(x:Str)(hA:RA A A3):RS (vI x A) (zY x A3):=λX h0 ns e ae h S=>PoS.toS (hA X h0 ns e ae h S) λds ts h1 ns1 e1 a1 S1 r1=>by
 try dsimp only
 by_cases hl:ts.length<=16777216
 .rw[if_pos hl,if_pos (by rw[TsR.len r1];exact hl)];exact⟨ae,h1,ns1,rfl,a1,S1⟩
 .rw[if_neg hl];trivial
end
noncomputable def Sl.re(s:Sl)(u:Val):Sl:=match s with
 |.ow _=>.ow u
 |.mu _=>.mu u
 |s=>s
def Sl.mv:Sl->Option Val
 |.ow v=>some v
 |.mu v=>some v
 |_=>none
section
variable{X:Nat->Prop}{h0:Nat}{ns:Ns}{e:E3}{ae:AE}{h:AH}
def Sat.write(S:Sat X h0 ns e ae h)(q:e[i]?=some s)(hm:s.mv=some u):∃n o,ae[i]?=some (some (.ref n))/\h[n]?=some o/\c7 o/\Rc (Oc X ns) h o u/\
 ∀o' u',c7 o'->Rc (Oc X ns) h o' u'->Mov (Oc X ns) (Oc X ns) h (h.set n o')/\Sat X h0 ns (e.set i (s.re u')) ae (h.set n o')/\Stp ns e h ns (e.set i (s.re u')) (h.set n o'):=by
 have hi:=(x_.mp q).1;have key:∃n o,ns[i]?=some (some n)/\ae[i]?=some (some (.ref n))/\h[n]?=some o/\c7 o/\Rc (Oc X ns) h o u/\s.mt=true/\(∀o' u',c7 o'->Rc (Oc X ns) (h.set n o') o' u'->SlR (Oc X ns) h0 (some (some n)) (some (some (.ref n))) (h.set n o') (s.re u')):=by
  have y:=S.sl i s q;cases s with
  |ow v=>cases hm;obtain⟨n,o,q1,q2,q3,q4,q5,q6⟩:=y;exact⟨n,o,q1,q2,q4,q5,q6,rfl,λo' u' hf r=>⟨n,o',rfl,rfl,q3,cZ (dW q4),hf,r⟩⟩
  |mu v=>cases hm;obtain⟨n,o,q1,q2,q4,q5,q6⟩:=y;exact⟨n,o,q1,q2,q4,q5,q6,rfl,λo' u' hf r=>⟨n,o',rfl,rfl,cZ (dW q4),hf,r⟩⟩
  |_=>cases hm
 obtain⟨n,o,k1,k2,k3,k4,k5,k6,k7⟩:=key;refine⟨n,o,k2,k3,k4,k5,λo' u' hf r=>?_⟩;have mv:Mov (Oc X ns) (Oc X ns) h (h.set n o'):=λm ob p q'=>⟨p,by have:m≠n:=λz=>p.2 (cq.mpr ⟨i,by rw[z];exact k1⟩);rw[cK this];exact q'⟩;refine⟨mv,⟨by rw[N_];exact S.l1,by rw[N_];exact S.l2,by rw[N_];exact S.lh,λm z=>by rw[N_];exact S.xl m z,S.inj,S.nx,λj s' qj=>?_⟩,?_⟩
 .rcases cF hi qj with ⟨rfl,rfl⟩ |⟨z,qj'⟩
  .rw[k1,k2];exact k7 o' u' hf (r.mono mv)
  .refine (S.sl j s' qj').mono mv λm ob qm qo=>?_;have:m≠n:=λy=>by subst y;exact z (S.inj j i m qm k1)
   rw[cK this];exact qo
 .refine⟨by rw[N_];exact y_ _,λm ob qm hM=>?_,λ_ _ q=>.inl q,λj s' qj hl=>?_,λj s' qj hl=>?_,λj v qj=>?_,λj v qj=>?_⟩
  .have:m≠n:=λy=>by subst y;exact hM ⟨i,s,k1,q,k6⟩
   rw[cK this];exact qm
  .have z:j≠i:=λz=>by subst z;rw[q] at qj;cases qj;cases s <;> first |cases hl;done |cases k6;done
   rw[cK z];exact⟨qj,rfl⟩
  .rcases cF hi qj with ⟨_,y⟩ |⟨z,qj'⟩
   .subst y;cases s <;> first |cases hl;done |cases k6;done
   .exact⟨qj',rfl⟩
  .rcases cF hi qj with ⟨rfl,y⟩ |⟨z,qj'⟩
   .cases s with
    |mu w=>exact⟨w,q,rfl⟩
    |ow w=>cases y
    |_=>cases k6
   .exact⟨v,qj',rfl⟩
  .by_cases z:j=i
   .subst z;rw[q] at qj;cases qj;exact⟨u',cZ hi,rfl⟩
   .exact⟨v,by rw[cK z];exact qj,rfl⟩
end
def yj(w2:D->D->D->AH->R Unit)(w3:Val->Val->Val->Option Val):Prop:=∀P h n o u di vi d v u',¬ P n->h[n]?=some o->c7 o->Rc P h o u->ShR P h di vi->Rd P h d v->w3 u vi v=some u'->∃o',w2 (.ref n) di d h=.ok () (h.set n o')/\c7 o'/\Rc P h o' u'
noncomputable def wSet(i:Nat)(G:ME3)(F:ME3)(w:Val->Val->Val->Option Val):MS3:=λe=>(F e).toS λt e1=>match (e1[i]?).bind Sl.mv with
 |none=>.stuck
 |some _=>(G e1).toS λt2 e2=>match rs e2 t2 with
  |none=>.stuck
  |some vi=>match dk e2 t.drop with
   |none=>.stuck
   |some (e3,v)=>match e3[i]? with
    |none=>.stuck
    |some s=>match s.mv with
     |none=>.stuck
     |some u=>match w u vi v with
      |some u'=>.nx (e3.set i (s.re u'))
      |none=>.stuck
def RM(m2:D->List D->AH->R D)(m3:Val->List Val->Option (Val×Val)):Prop:=∀P h n o u ds vs u' v,h[n]?=some o->c7 o->Rc P h o u->Rds P h ds vs->m3 u vs=some (u',v)->mT h (.ref n)=true/\∃o' d,m2 (.ref n) ds h=.ok d (h.set n o')/\c7 o'/\Rc P h o' u'/\Rd P h d v
noncomputable def lU:Val->Bool
 |.lst _=>true
 |_=>false
noncomputable def nR(i:Nat)(m:Val->List Val->Option (Val×Val))(A:MA3):ME3:=λe=>match e[i]? with
 |some s=>if (s.mv.map lU)=some true then (A e).bind λts e1=>match dem e1 ts with
  |some (e2,vs)=>match e2[i]? with
   |some s2=>match s2.mv with
    |some u=>match m u vs with
     |some (u',v)=>.ok (.val v) (e2.set i (s2.re u'))
     |none=>.stuck
    |none=>.stuck
   |none=>.stuck
  |none=>.stuck else .stuck
 |none=>.stuck
section
variable{F G:ME}{F3 G3:ME3}{A:MA}{A3:MA3}
def G5{X:Nat->Prop}{h0:Nat}{ns:Ns}{e:E3}{ae:AE}{h:AH}(S:Sat X h0 ns e ae h){i:Nat}{u:Val}(q:(e[i]?).bind Sl.mv=some u):∃n o,ae[i]?=some (some (.ref n))/\h[n]?=some o/\c7 o/\Rc (Oc X ns) h o u:=by obtain⟨s,q1,q2⟩:=O9.mp q;obtain⟨n,o,k1,k2,k3,k4,_⟩:=S.write q1 q2;exact⟨n,o,k1,k2,k3,k4⟩
def HE(i:Nat)(hw:yj w2 w3)(hG:RE G G3)(hF:RE F F3):RS (jm F (gS (cH i) G w2)) (wSet i G3 F3 w3):=λX h0 ns e ae h S=>PoS.toS (hF X h0 0 ns e ae h S (O2 _)) λd t h1 ns1 e1 a1 S1 r1=>by
 try dsimp only
 cases qm:(e1[i]?).bind Sl.mv with
 |none=>trivial
 |
  some u0=>
  obtain⟨n0,o0,b1,b2,b3,b4⟩:=G5 S1 qm;have L2e:∀h',(gS (cH i) G w2 d ae h').toS ae (λd_ h2=>SR.nx d_ h2)=(G ae h').toS ae λdi h2=>(w2 (.ref n0) di d h2).toS ae λ_ h3=>.nx ae h3:=λh'=>by
   unfold gS cH;rw[b1];simp only[ja];cases G ae h' with
   |ok di h2=>simp only[ja];show _=(w2 (.ref n0) di d h2).toS ae λ_ h3=>.nx ae h3;cases w2 (.ref n0) di d h2 <;> rfl
   |exc c h2=>rfl
   |stuck=>rfl
  rw[L2e];refine PoS.after S a1 (PoS.toS (hG X h0 0 ns1 e1 ae h1 S1 (O2 _)) λdi t2 h2 ns2 e2 a2 S2 r2=>?_);try dsimp only
  cases qi:rs e2 t2 with
  |none=>trivial
  |
   some vi=>
   try dsimp only
   cases qd:dk e2 t.drop with
   |none=>trivial
   |
    some w=>
    obtain⟨e3,v⟩:=w;try dsimp only
    obtain⟨r1',hn⟩:=r1.drop;have r3:=r1'.stp S1 a2 hn;have si:=r2.sh S2 qi;obtain⟨ns3,S3,a3,r4⟩:=gv S2 r3 qd;have si3:ShR (Oc X ns3) h2 di vi:=by
     rcases si with z |⟨n,o,z1,z2,z3⟩
     .exact .inl (z.mono (a3.mov S2))
     .exact .inr ⟨n,o,z1,z2,z3.mono (a3.mov S2)⟩
    cases q3:e3[i]? with
    |none=>trivial
    |
     some s=>
     try dsimp only
     cases q4:s.mv with
     |none=>trivial
     |
      some u=>
      try dsimp only
      cases q5:w3 u vi v with
      |none=>trivial
      |
       some u'=>
       obtain⟨n,o,k1,k2,k3,k4,k5⟩:=S3.write q3 q4;rw[b1] at k1;cases k1;have nP:¬ Oc X ns3 n0:=λp=>by have z1:=((k5 (.lst []) (.lst []) trivial (.lst .nil)).1 _ _ p k2).2;have z2:=((k5 (.lst [.non]) (.lst [.non]) trivial (.lst (.cons .non .nil))).1 _ _ p k2).2;rw[cZ (dW k2)] at z1 z2;rw[<- z2] at z1;cases z1
       obtain⟨o',p1,p2,p3⟩:=hw _ _ _ _ _ _ _ _ _ _ nP k2 k3 k4 si3 r4 q5;obtain⟨mv,S4,a4⟩:=k5 o' u' p2 p3;rw[p1];exact .nx ((a2.trans S1 a3).trans S1 a4) S4
def A6(i:Nat)(hm:RM m2 m3)(hA:RA A A3):RE (eM m2 (cH i) A) (nR i m3 A3):=λX h0 L ns e ae h S hl=>by
 unfold nR;cases q0:e[i]? with
 |none=>trivial
 |
  some s0=>
  dsimp only;split
  .rename_i hz;obtain⟨u0,z1,z2⟩:=OV.mp hz;obtain⟨n0,o0,b1,b2,b3,b4,_⟩:=S.write q0 z1;have hL:mT h (.ref n0)=true:=by
    cases u0 with
    |lst xs=>obtain⟨ds,_,e1,_⟩:=Rc.seq b2 b4;show (cB h n0).isSome=true;rw[e1];rfl
    |_=>cases z2
   have L2e:eM m2 (cH i) A ae h=(A ae h).bind λds h2=>m2 (.ref n0) ds h2:=by unfold eM cH;rw[b1];simp only[ja,hL,PY]
   rw[L2e];refine Po.bind S (hA X h0 ns e ae h S) λds ts h1 ns1 e1 a1 S1 r1=>?_;try dsimp only
   cases q1:dem e1 ts with
   |none=>trivial
   |
    some w=>
    obtain⟨e2,vs⟩:=w;try dsimp only
    obtain⟨ns2,S2,a2,r2⟩:=kC S1 r1 q1;cases q2:e2[i]? with
    |none=>trivial
    |
     some s2=>
     try dsimp only
     cases q3:s2.mv with
     |none=>trivial
     |
      some u=>
      try dsimp only
      cases q4:m3 u vs with
      |none=>trivial
      |some w=>obtain⟨u',v⟩:=w;obtain⟨n,o,k1,k2,k3,k4,k5⟩:=S2.write q2 q3;rw[b1] at k1;cases k1;obtain⟨_,o',d,p1,p2,p3,p4⟩:=hm _ _ _ _ _ _ _ _ _ k2 k3 k4 r2 q4;obtain⟨mv,S4,a4⟩:=k5 o' u' p2 p3;exact⟨d,_,ns2,p1,a2.trans S1 a4,S4,p4.mono mv⟩
  .trivial
def Gz(i:Nat)(hm:RM m2 m3):RE (eM0 m2 (cH i)) (nR i m3 rm):=by
 have:=A6 i hm zD
 intro X h0 L ns e ae h S hl;have p:=this X h0 L ns e ae h S hl;have e1:eM m2 (cH i) lz ae h=eM0 m2 (cH i) ae h:=by unfold eM eM0 lz;rfl
 rw[e1] at p;exact p
end
noncomputable def kW:Sl->Sl
 |.ow v=>.lo v
 |.mu v=>.lm v
 |s=>s
noncomputable def mE:Sl->Sl
 |.lo v=>.ow v
 |.lm v=>.mu v
 |s=>s
noncomputable def lock(e:E3)(k:Nat):E3:=match e[k]? with
 |some s=>e.set k (kW s)
 |none=>e
noncomputable def unlock(e:E3)(k:Nat):E3:=match e[k]? with
 |some s=>e.set k (mE s)
 |none=>e
noncomputable def lockO(e:E3):Option Nat->E3
 |some k=>lock e k
 |none=>e
def gx(e:E3):Option Nat->E3
 |some k=>unlock e k
 |none=>e
section
variable{X:Nat->Prop}{h0:Nat}{ns ns':Ns}{e e':E3}{ae:AE}{h h':AH}
def SlR.lock(r:SlR P h0 n d h s):SlR P h0 n d h (kW s):=by cases s <;> exact r
def SlR.unlock(r:SlR P h0 n d h s):SlR P h0 n d h (mE s):=by cases s <;> exact r
def Sat.lock(S:Sat X h0 ns e ae h)(k:Nat):Sat X h0 ns (lock e k) ae h:=by
 unfold L3.lock;split
 .rename_i s q;have hi:=(x_.mp q).1;refine⟨by rw[N_];exact S.l1,by rw[N_];exact S.l2,S.lh,S.xl,S.inj,S.nx,λj s' qj=>?_⟩;rcases cF hi qj with ⟨rfl,rfl⟩ |⟨z,qj'⟩
  .exact (S.sl j s q).lock
  .exact S.sl j s' qj'
 .exact S
def Sat.unlock(S:Sat X h0 ns e ae h)(k:Nat):Sat X h0 ns (unlock e k) ae h:=by
 unfold L3.unlock;split
 .rename_i s q;have hi:=(x_.mp q).1;refine⟨by rw[N_];exact S.l1,by rw[N_];exact S.l2,S.lh,S.xl,S.inj,S.nx,λj s' qj=>?_⟩;rcases cF hi qj with ⟨rfl,rfl⟩ |⟨z,qj'⟩
  .exact (S.sl j s q).unlock
  .exact S.sl j s' qj'
 .exact S
def ku(z:j≠k):(lock e k)[j]?=e[j]?:=by
 unfold lock;split
 .rw[cK z]
 .rfl
def iP(z:j≠k):(unlock e k)[j]?=e[j]?:=by
 unfold unlock;split
 .rw[cK z]
 .rfl
def rp(q:e[k]?=some s):(lock e k)[k]?=some (kW s):=by unfold lock;rw[q];exact cZ (x_.mp q).1
def jB(q:e[k]?=some s):(unlock e k)[k]?=some (mE s):=by unfold unlock;rw[q];exact cZ (x_.mp q).1
def Stp.unlock(q:e[k]?=some s)(hs:s.mt=true)(a:Stp ns (L3.lock e k) h ns' e' h'):Stp ns e h ns' (L3.unlock e' k) h':=by
 have hl:(kW s).lk=true:=by cases s <;> first |rfl |cases hs
 have hu:mE (kW s)=s:=by cases s <;> first |rfl |cases hs
 obtain⟨qk,nk⟩:=a.lk k _ (rp q) hl;refine⟨a.len,λm o qm hM=>a.keep m o qm λ⟨j,s',z1,z2,z3⟩=>hM ?_,a.nw,λj s' qj hj=>?_,λj s' qj hj=>?_,λj v qj=>?_,λj v qj=>?_⟩
 .by_cases z:j=k
  .subst z;exact⟨j,s,z1,q,hs⟩
  .rw[ku z] at z2;exact⟨j,s',z1,z2,z3⟩
 .have z:j≠k:=λz=>by subst z;rw[q] at qj;cases qj;cases s <;> first |cases hs;done |cases hj;done
  rw[iP z];exact a.lk j s' (by rw[ku z];exact qj) hj
 .have z:j≠k:=λz=>by subst z;rw[jB qk,hu] at qj;cases qj;cases s <;> first |cases hs;done |cases hj;done
  rw[iP z] at qj;obtain⟨y1,y2⟩:=a.lk' j s' qj hj;rw[ku z] at y1;exact⟨y1,y2⟩
 .by_cases z:j=k
  .subst z;rw[jB qk,hu] at qj;cases qj;exact⟨v,q,nk⟩
  .rw[iP z] at qj;obtain⟨u,y1,y2⟩:=a.mu j v qj;rw[ku z] at y1;exact⟨u,y1,y2⟩
 .by_cases z:j=k
  .subst z;rw[q] at qj;cases qj;exact⟨v,by rw[jB qk,hu],nk⟩
  .obtain⟨u,y1,y2⟩:=a.mu' j v (by rw[ku z];exact qj);exact⟨u,by rw[iP z];exact y1,y2⟩
end
abbrev MI3:=E3->R3 (List Val×Option Nat)
def Stay(X:Nat->Prop)(ns:Ns)(k:Option Nat)(h h':AH):Prop:=∀(m:Nat) (o:Ob),h[m]?=some o->(Oc X ns m\/∃j:Nat,k=some j/\ns[j]?=some (some m))->h'[m]?=some o
def uL(X:Nat->Prop)(ns:Ns)(e:E3)(h:AH)(it:AIt)(p:List Val×Option Nat):Prop:=
 Rds (Oc X ns) h it.items p.1/\(∀h',Stay X ns p.2 h h'->it.guard h')/\∀k:Nat,p.2=some k->∃s,e[k]?=some s/\s.mt=true
def RI(I:MI)(J:MI3):Prop:=∀X h0 ns e ae h,Sat X h0 ns e ae h->Po X h0 ns e ae h (uL X) (I ae h) (J e)
noncomputable def iF:Val->Option (List Val)
 |.tup xs=>some xs
 |.lst xs=>some xs
 |_=>none
noncomputable def fL(t:Tm)(e:E3):Option (List Val×Option Nat):=match t with
 |.val v=>(iF v).map λxs=>(xs,none)
 |.new v=>(iF v).map λxs=>(xs,none)
 |.bor k=>match e[k]? with
  |some (.sh v)=>(iF v).map λxs=>(xs,none)
  |some (.ow (.lst xs))=>some (xs,some k)
  |some (.mu (.lst xs))=>some (xs,some k)
  |_=>none
noncomputable def Ef(F:ME3):MI3:=λe=>(F e).bind λt e1=>match fL t e1 with
 |some p=>.ok p e1
 |none=>.stuck
def qW:Nat->List Val->List Val
 |_,[]=>[]
 |i,d::ds=>.tup [.int (i:Nat),d]::qW (i+1) ds
def EF(A:MA3):MI3:=λe=>(A e).bind λts e1=>match ts with
 | [t]=>(match fL t e1 with
  |some p=>.ok (qW 0 p.1,p.2) e1
  |none=>.stuck)
 |_=>.stuck
noncomputable def El(A:MA3):MI3:=λe=>(A e).bind λts e1=>match ts with
 | [t,u]=>(match fL t e1,fL u e1 with
  |some (xs,k),some (ys,none)=>.ok (List.zipWith (λx y=>.tup [x,y]) xs ys,k) e1
  |_,_=>.stuck)
 |_=>.stuck
noncomputable def rq(lo:Int)(k:Nat):List Val:=(List.range k).map λi=>Val.int (lo+(i:Nat))
structure RgB(j:Int):Prop where
 lo:-(2^62)<=j
 hi:j<2^62
def jo:List Val->Option (List Val)
 | [.int j]=>@ite _ (RgB j) (Classical.propDecidable _) (some (rq 0 j.toNat)) none
 |_=>none
def qJ:List Val->Option (List Val)
 | [.int i,.int j]=>@ite _ (RgB i/\RgB j) (Classical.propDecidable _) (some (rq i (j-i).toNat)) none
 |_=>none
noncomputable def uS(f:List Val->Option (List Val))(A:MA3):MI3:=λe=>(A e).bind λts e1=>match (rss e1 ts).bind f with
 |some xs=>.ok (xs,none) e1
 |none=>.stuck
section
variable{F:ME}{F3:ME3}{A:MA}{A3:MA3}
def yd(S:Sat X h0 ns e ae h)(r:Rd (Oc X ns) h d v)(q:iF v=some xs):∃it,iI d h=some it/\uL X ns e h it (xs,none):=by
 cases v with
 |tup ys=>cases q;obtain⟨ds,rfl,r2⟩:=ShR.tup (.inl r);exact⟨_,rfl,r2,λ_ _=>trivial,λ_ z=>nomatch z⟩
 |
  lst ys=>
  cases q;cases r with
  |
   cell p eo rc=>
   rename_i n o;obtain⟨ds,_,e1,r1⟩:=Rc.seq eo rc;refine⟨.lst n ds,by unfold iI;dsimp only;rw[e1];rfl,r1,λh' st=>?_,λ_ z=>nomatch z⟩;show cB h' n=some ds
   have:=st n o eo (.inl p)
   unfold cB at e1 ⊢;rw[eo] at e1;rw[this];exact e1
 |_=>cases q
def oM(S:Sat X h0 ns e ae h)(r:relE X h0 L ae ns e h d t)(q:fL t e=some p):∃it,iI d h=some it/\uL X ns e h it p:=by
 cases t with
 |val v=>obtain⟨xs,q1,rfl⟩:=OV.mp q;exact yd S r q1
 |new v=>obtain⟨xs,q1,rfl⟩:=OV.mp q;exact yd S r.new q1
 |
  bor k=>
  have r':ae[k]?=some (some d):=r;have own:∀{s xs},e[k]?=some s->s.mv=some (.lst xs)->∃it,iI d h=some it/\uL X ns e h it (xs,some k):=λ{s xs} q qm=>by
   have hns:∃n,ns[k]?=some (some n)/\ae[k]?=some (some (.ref n)):=by
    have y:=S.sl k s q;cases s with
    |ow v=>obtain⟨n,o,y1,y2,_⟩:=y;exact⟨n,y1,y2⟩
    |mu v=>obtain⟨n,o,y1,y2,_⟩:=y;exact⟨n,y1,y2⟩
    |_=>cases qm
   obtain⟨n,y1,y2⟩:=hns;obtain⟨n',o,k1,k2,k3,k4,_⟩:=S.write q qm;rw[y2] at k1;cases k1;rw[r'] at y2;cases y2;obtain⟨ds,_,e2,r2⟩:=Rc.seq k2 k4;refine⟨.lst n ds,by unfold iI;dsimp only;rw[e2];rfl,r2,λh' st=>?_,λj z=>?_⟩
   .show cB h' n=some ds
    have:=st n o k2 (.inr ⟨k,rfl,y1⟩)
    unfold cB at e2 ⊢;rw[k2] at e2;rw[this];exact e2
   .cases z;exact⟨s,q,by cases s <;> first |rfl |cases qm⟩
  unfold fL at q;dsimp only at q;split at q
  .rename_i v qs;obtain⟨_,x,e2,r2⟩:=S.sl k _ qs;rw[r'] at e2;cases e2;obtain⟨xs,q1,rfl⟩:=OV.mp q;exact yd S r2 q1
  .rename_i xs qs;cases q;exact own qs rfl
  .rename_i xs qs;cases q;exact own qs rfl
  .cases q
noncomputable def BB(d:D)(h:AH):R AIt:=match d with
 |.tup xs=>.ok (.tup xs) h
 |.ref n=>match cB h n with
  |some xs=>.ok (.lst n xs) h
  |none=>.stuck
 |_=>.stuck
def E6(q:iI d h=some it):BB d h=.ok it h:=by
 cases d with
 |tup xs=>cases q;rfl
 |ref n=>obtain⟨xs,y1,rfl⟩:=OV.mp (show (cB h n).map (AIt.lst n)=some it from q);unfold BB;dsimp only;rw[y1]
 |_=>cases q
def JZ(hF:RE F F3):RI (BW F) (Ef F3):=λX h0 ns e ae h S=>
 Po.bind S (hF X h0 0 ns e ae h S (O2 _)) λd t h1 ns1 e1 a1 S1 r1=>by
  show Po X h0 ns1 e1 ae h1 (uL X) (BB d h1) _;cases q:fL t e1 with
  |none=>trivial
  |some p=>dsimp only;obtain⟨it,q1,q2⟩:=oM S1 r1 q;exact⟨it,h1,ns1,E6 q1,.refl,S1,q2⟩
def GW(k:Nat)(r:Rds P h ds vs):Rds P h (iX k ds) (qW k vs):=
 r.ind (M:=λds vs=>∀k,Rds P h (iX k ds) (qW k vs)) (λ_=>.nil) (λr _ ih k=>.cons (.tup (.cons (.int _) (.cons r .nil))) (ih (k+1))) k
def GP(r:Rds P h ds vs)(q:Rds P h es us):Rds P h (List.zipWith (λx y=>D.tup [x,y]) ds es) (List.zipWith (λx y=>Val.tup [x,y]) vs us):=
 r.ind (M:=λds vs=>∀{es:List D}{us:List Val},Rds P h es us->Rds P h (List.zipWith (λx y=>D.tup [x,y]) ds es) (List.zipWith (λx y=>Val.tup [x,y]) vs us)) (λ_=>.nil) (λr _ ih _ _ q=>by
  cases q with
  |nil=>exact .nil
  |cons q qq=>exact .cons (.tup (.cons r (.cons q .nil))) (ih qq)) q
def C4(r:TsR X ns ae h ds [t]):∃d,ds=[d]/\relE X h0 0 ae ns e h d t:=by
 cases r with
 |val r rr=>cases rr;exact⟨_,rfl,r⟩
 |bor r rr=>cases rr;exact⟨_,rfl,r⟩
def tsr2(r:TsR X ns ae h ds [t,u]):∃d d',ds=[d,d']/\relE X h0 0 ae ns e h d t/\relE X h0 0 ae ns e h d' u:=by
 cases r with
 |val r rr=>obtain⟨d',rfl,r'⟩:=C4 (h0:=h0) (e:=e) rr;exact⟨_,_,rfl,r,r'⟩
 |bor r rr=>obtain⟨d',rfl,r'⟩:=C4 (h0:=h0) (e:=e) rr;exact⟨_,_,rfl,r,r'⟩
def Iz(hA:RA A A3):RI (Bq A) (EF A3):=λX h0 ns e ae h S=>
 Po.bind S (hA X h0 ns e ae h S) λds ts h1 ns1 e1 a1 S1 r1=>by
  match ts,r1 with
  | [],_=>trivial
  |_::_::_,_=>trivial
  |
   [t],r1=>
   obtain⟨d,rfl,r2⟩:=C4 (h0:=h0) (e:=e1) r1;dsimp only;cases q:fL t e1 with
   |none=>trivial
   |some p=>obtain⟨it,q1,q2,q3,q4⟩:=oM S1 r2 q;rw[q1];exact⟨.enm it,h1,ns1,rfl,.refl,S1,GW 0 q2,q3,q4⟩
def JU(hA:RA A A3):RI (CD A) (El A3):=λX h0 ns e ae h S=>
 Po.bind
  S (hA X h0 ns e ae h S) λds ts h1 ns1 e1 a1 S1 r1=>by
  match ts,r1 with
  | [],_=>trivial
  | [_],_=>trivial
  |_::_::_::_,_=>trivial
  |
   [t,u],r1=>
   obtain⟨d,d',rfl,r2,r3⟩:=tsr2 (h0:=h0) (e:=e1) r1;dsimp only;cases q:fL t e1 with
   |none=>trivial
   |
    some p=>
    obtain⟨xs,k⟩:=p;cases q':fL u e1 with
    |none=>trivial
    |
     some p'=>
     obtain⟨ys,k'⟩:=p';cases k' with
     |some _=>trivial
     |none=>obtain⟨it,q1,q2,q3,q4⟩:=oM S1 r2 q;obtain⟨it',q1',q2',q3',q4'⟩:=oM S1 r3 q';rw[q1,q1'];exact⟨.zip it it',h1,ns1,rfl,.refl,S1,GP q2 q2',λh' st=>⟨q3 h' st,q3' h' λm o hm hc=>st m o hm (hc.elim .inl λ⟨_,z,_⟩=>nomatch z)⟩,q4⟩
def FD(lo:Int)(k:Nat):Rds P h (AIt.rng lo k).items (rq lo k):=by
 show Rds P h ((List.range k).map λi=>D.int (lo+(i:Nat))) ((List.range k).map λi=>Val.int (lo+(i:Nat)));generalize List.range k=l;induction l with
 |nil=>exact .nil
 |cons i l ih=>exact .cons (.int _) ih
def jy(r:ShRs P h ds [v]):∃d,ds=[d]/\ShR P h d v:=by cases r with |cons r rr=>cases rr;exact⟨_,rfl,r⟩
def Eh(r:ShRs P h ds [v,u]):∃d d',ds=[d,d']/\ShR P h d v/\ShR P h d' u:=by cases r with |cons r rr=>cases rr with |cons r' rr=>cases rr;exact⟨_,_,rfl,r,r'⟩
def D7(hf:∀P h ds vs xs,ShRs P h ds vs->f3 vs=some xs->∃lo k,f2 ds h=.ok (.rng lo k) h/\xs=rq lo k)(hA:RA A A3):RI (λae h=>(A ae h).bind f2) (uS f3 A3):=λX h0 ns e ae h S=>
 Po.bind S (hA X h0 ns e ae h S) λds ts h1 ns1 e1 a1 S1 r1=>by
  try dsimp only
  split
  .rename_i xs q;obtain⟨vs,q1,q2⟩:=O9.mp q;obtain⟨lo,k,p1,rfl⟩:=hf _ _ _ _ _ (TsR.sh S1 r1 q1) q2;rw[p1];exact Po.ret S1 ⟨FD _ _,λ_ _=>trivial,λ_ z=>nomatch z⟩
  .trivial
def IM(hA:RA A A3):RI (Co A) (uS jo A3):=D7 (f2:=λds h1=>match ds with
 | [.int j]=>if -(2^62)<=j/\j<2^62 then .ok (.rng 0 j.toNat) h1 else .stuck
 |
  _=>.stuck) (λP h ds vs xs r q=>by
  unfold jo at q;split at q
  .split at q
   .rename_i hb;cases q;obtain⟨d,rfl,r2⟩:=jy r;obtain rfl:=r2.int;exact⟨_,_,by dsimp only;rw[if_pos ⟨hb.lo,hb.hi⟩],rfl⟩
   .cases q
  .cases q) hA
def Kg(hA:RA A A3):RI (Cy A) (uS qJ A3):=D7 (f2:=λds h1=>match ds with
 | [.int i,.int j]=>if -(2^62)<=i/\i<2^62/\-(2^62)<=j/\j<2^62 then .ok (.rng i (j-i).toNat) h1 else .stuck
 |
  _=>.stuck) (λP h ds vs xs r q=>by
  unfold qJ at q;split at q
  .split at q
   .rename_i hb;cases q;obtain⟨d,d',rfl,r2,r3⟩:=Eh r;obtain rfl:=r2.int;obtain rfl:=r3.int;exact⟨_,_,by dsimp only;rw[if_pos ⟨hb.1.lo,hb.1.hi,hb.2.lo,hb.2.hi⟩],rfl⟩
   .cases q
  .cases q) hA
end
noncomputable def SR3.loop(r:SR3)(f:E3->SR3):SR3:=match r with
 |.nx e=>f e
 |.ct e=>f e
 |.bk e=>.nx e
 |.rt d e=>.rt d e
 |.exc c e=>.exc c e
 |.stuck=>.stuck
noncomputable def dU(g:MG3)(B:MS3):List Val->MS3
 | [],e=>.nx e
 |v::vs,e=>match g v e with
  |some e1=>(B e1).loop (dU g B vs)
  |none=>.stuck
noncomputable def SR3.unl(k:Option Nat)(r:SR3):SR3:=match r with
 |.nx e=>.nx (gx e k)
 |.ct e=>.ct (gx e k)
 |.bk e=>.bk (gx e k)
 |.rt d e=>.rt d (gx e k)
 |.exc c e=>.exc c (gx e k)
 |.stuck=>.stuck
def wFor(I:MI3)(g:MG3)(B:MS3):MS3:=λe=>(I e).toS λp e1=>(dU g B p.1 (lockO e1 p.2)).unl p.2
section
variable{I:MI}{I3:MI3}{g:MG}{g3:MG3}{B:MS}{B3:MS3}{c:MT}{c3:MT3}
def PoS.loop{X:Nat->Prop}{h0:Nat}{ns:Ns}{e:E3}{ae:AE}{h:AH}{r2:SR}{r3:SR3}{f2:AE->AH->SR}{f3:E3->SR3}(p:PoS X h0 ns e h r2 r3)
 (k:∀d_ h' ns' e',Stp ns e h ns' e' h'->Sat X h0 ns' e' d_ h'->PoS X h0 ns e h (f2 d_ h') (f3 e')):PoS X h0 ns e h (r2.loop f2) (r3.loop f3):=by
 cases r3 with
 |stuck=>trivial
 |nx e'=>obtain⟨d_,h',ns',q,q1,q2⟩:=p;rw[q];exact k d_ h' ns' e' q1 q2
 |ct e'=>obtain⟨d_,h',ns',q,q1,q2⟩:=p;rw[q];exact k d_ h' ns' e' q1 q2
 |bk e'=>obtain⟨d_,h',ns',q,q1,q2⟩:=p;rw[q];exact⟨d_,h',ns',rfl,q1,q2⟩
 |exc c e'=>obtain⟨d_,h',ns',q,q1,q2⟩:=p;rw[q];exact⟨d_,h',ns',rfl,q1,q2⟩
 |rt r e'=>obtain⟨d,d_,h',ns',q,q1,q2⟩:=p;rw[q];exact⟨d,d_,h',ns',rfl,q1,q2⟩
def EO(S:Sat X h0 ns e ae h)(hk:∀j:Nat,k=some j->∃s,e[j]?=some s/\s.mt=true)(a:Stp ns (lockO e k) h ns' e' h'):Stay X ns k h h':=λm o q hm=>by
 refine a.keep m o q λ⟨i,s,z1,z2,z3⟩=>?_;rcases hm with hm |⟨j,rfl,hj⟩
 .exact hm.2 (cq.mpr ⟨i,z1⟩)
 .have:i=j:=S.inj i j m z1 hj;subst this;obtain⟨s',y1,y2⟩:=hk i rfl;have:(lockO e (some i))[i]?=some (kW s'):=rp y1;rw[this] at z2;cases z2;cases s' <;> first |cases y2;done |cases z3;done
def PoS.unl(hk:∀j:Nat,k=some j->∃s,e[j]?=some s/\s.mt=true)(p:PoS X h0 ns (lockO e k) h r2 r3):PoS X h0 ns e h r2 (r3.unl k):=by
 cases k with
 |none=>cases r3 <;> exact p
 |
  some j=>
  obtain⟨s,y1,y2⟩:=hk j rfl;cases r3 with
  |stuck=>trivial
  |nx e'=>obtain⟨d_,h',ns',q,q1,q2⟩:=p;exact⟨d_,h',ns',q,q1.unlock y1 y2,q2.unlock j⟩
  |ct e'=>obtain⟨d_,h',ns',q,q1,q2⟩:=p;exact⟨d_,h',ns',q,q1.unlock y1 y2,q2.unlock j⟩
  |bk e'=>obtain⟨d_,h',ns',q,q1,q2⟩:=p;exact⟨d_,h',ns',q,q1.unlock y1 y2,q2.unlock j⟩
  |exc c e'=>obtain⟨d_,h',ns',q,q1,q2⟩:=p;exact⟨d_,h',ns',q,q1.unlock y1 y2,q2.unlock j⟩
  |
   rt r e'=>
   obtain⟨d,d_,h',ns',q,q1,q2⟩:=p;refine⟨d,d_,h',ns',q,q1.unlock y1 y2,?_⟩;cases r with
   |val v=>exact⟨q2.1.unlock j,q2.2⟩
   |new v=>obtain⟨n,o,z1,z2,z3,z4,z5,z6,z7⟩:=q2;exact⟨n,o,z1,z2,z3,z4,z5,z6.unlock j,z7⟩
   |
    par i=>
    obtain⟨z1,z2,v,z3⟩:=q2;refine⟨z1.unlock j,z2,v,?_⟩;by_cases z:i=j
    .subst z;exact jB z3
    .exact (iP z).trans z3
   |pr v u=>obtain⟨d1,n,o,z1,z2,z3,z4,z5,z6,z7⟩:=q2;exact⟨d1,n,o,z1,z2,z3,z4,z5,z6.unlock j,z7⟩
def Sat.lockO(S:Sat X h0 ns e ae h)(k:Option Nat):Sat X h0 ns (lockO e k) ae h:=by
 cases k with
 |none=>exact S
 |some k=>exact S.lock k
def EK{X:Nat->Prop}{h0:Nat}{ns:Ns}{e:E3}{ae:AE}{h:AH}{G:AH->Prop}(S:Sat X h0 ns e ae h)(hg:RG g g3)(hB:RS B B3)(hG:∀ns' e' h',Stp ns e h ns' e' h'->G h'):
 ∀{ds:List D}{vs:List Val},Rds (Oc X ns) h ds vs->∀{ns1:Ns}{e1:E3}{h_:AE}{h1:AH},Stp ns e h ns1 e1 h1->Sat X h0 ns1 e1 h_ h1->PoS X h0 ns e h (kQ G g B ds h_ h1) (dU g3 B3 vs e1):=by
 intro ds;induction ds with
 |nil=>intro vs r ns1 e1 h_ h1 a1 S1;cases r;unfold kQ;rw[if_pos (hG _ _ _ a1)];exact .nx a1 S1
 |
  cons d0 ds ih=>
  intro vs r ns1 e1 h_ h1 a1 S1;cases r with
  |
   cons r rr=>
   unfold kQ dU;rw[if_pos (hG _ _ _ a1)];split
   .rename_i e2 q;obtain⟨ae2,ns2,p2,S2,a2⟩:=hg _ _ _ _ _ _ _ _ _ S1 (r.mono (a1.mov S)) q;rw[p2];have a12:=a1.trans S a2;show PoS X h0 ns e h ((B ae2 h1).loop _) _;refine PoS.loop (ae:=ae) (PoS.after S a12 (hB X h0 ns2 e2 ae2 h1 S2)) λae3 h3 ns3 e3 a3 S3=>ih rr a3 S3
   .trivial
def JT(hI:RI I I3)(hg:RG g g3)(hB:RS B B3):RS (BE I g B) (wFor I3 g3 B3):=λX h0 ns e ae h S=>PoS.toS (hI X h0 ns e ae h S) λit p h1 ns1 e1 a1 S1 r1=>by obtain⟨r2,gd,hk⟩:=r1;refine PoS.after S a1 (PoS.unl hk ?_);have S2:=S1.lockO p.2;exact EK S2 hg hB (λns' e' h' a=>gd h' (EO S1 hk a)) r2 .refl S2
noncomputable def whV(c:MT3)(B:MS3):Nat->MS3
 |0,_=>.stuck
 |k+1,e=>(c e).toS λb e1=>if b=true then (B e1).loop (whV c B k) else .nx e1
open Classical in
def wWh(c:MT3)(B:MS3):MS3:=λe=>if q:∃k,whV c B k e ≠ .stuck then whV c B q.choose e else .stuck
theorem nO{c:MT3}{B:MS3}:∀{k:Nat}{e:E3},whV c B k e ≠ .stuck->whV c B (k+1) e=whV c B k e
 |0,_,q=>absurd rfl q
 |
  k+1,e,q=>by
  have e1:whV c B (k+2) e=(c e).toS λb e1=>if b=true then (B e1).loop (whV c B (k+1)) else .nx e1:=rfl
  have e2:whV c B (k+1) e=(c e).toS λb e1=>if b=true then (B e1).loop (whV c B k) else .nx e1:=rfl
  rw[e2] at q;rw[e1,e2];cases r:c e with
  |exc _ _=>rfl
  |stuck=>rfl
  |
   ok b h1=>
   rw[r] at q;cases b with
   |false=>rfl
   |
    true=>
    have q':(B h1).loop (whV c B k) ≠ .stuck:=q;show (B h1).loop (whV c B (k+1))=(B h1).loop (whV c B k);cases s:B h1 with
    |nx a2=>rw[s] at q';exact nO q'
    |ct a2=>rw[s] at q';exact nO q'
    |_=>rfl
def Bb{c:MT3}{B:MS3}{k j:Nat}{e:E3}(q:whV c B k e ≠ .stuck)(hj:k<=j):whV c B j e=whV c B k e:=by
 induction hj with
 |refl=>rfl
 |step _ ih=>rw[nO (by rw[ih];exact q),ih]
def pO{c:MT3}{B:MS3}{k:Nat}{e:E3}(q:whV c B k e ≠ .stuck):wWh c B e=whV c B k e:=by
 have hq:∃k,whV c B k e ≠ .stuck:=⟨k,q⟩;unfold wWh;rw[dif_pos hq];rcases Nat.le_total hq.choose k with z |z
 .exact (Bb hq.choose_spec z).symm
 .exact Bb q z
def BU(c:MT3)(B:MS3)(e:E3):wWh c B e=(c e).toS λb e1=>if b=true then (B e1).loop (wWh c B) else .nx e1:=by
 by_cases q:∃k,whV c B k e ≠ .stuck
 .obtain⟨k,q⟩:=q;rw[pO q];cases k with
  |zero=>exact absurd rfl q
  |
   succ k=>
   have e2:whV c B (k+1) e=(c e).toS λb e1=>if b=true then (B e1).loop (whV c B k) else .nx e1:=rfl
   rw[e2] at q ⊢;cases r:c e with
   |exc _ _=>rfl
   |stuck=>rfl
   |
    ok b h1=>
    rw[r] at q;cases b with
    |false=>rfl
    |
     true=>
     have q':(B h1).loop (whV c B k) ≠ .stuck:=q;show (B h1).loop (whV c B k)=(B h1).loop (wWh c B);cases s:B h1 with
     |nx a2=>rw[s] at q';exact (pO q').symm
     |ct a2=>rw[s] at q';exact (pO q').symm
     |_=>rfl
 .have e0:wWh c B e=.stuck:=by unfold wWh;rw[dif_neg q]
  rw[e0];have hs:∀k,whV c B (k+1) e=.stuck:=λk=>Qg λz=>q ⟨_,z⟩;cases r:c e with
  |stuck=>rfl
  |
   exc c' h'=>
   have:=hs 0
   unfold whV at this;rw[r] at this;cases this
  |
   ok b h1=>
   cases b with
   |
    false=>
    have:=hs 0
    unfold whV at this;rw[r] at this;cases this
   |
    true=>
    have h2:∀k,(B h1).loop (whV c B k)=.stuck:=λk=>by
     have:=hs k
     unfold whV at this;rw[r] at this;exact this
    show SR3.stuck=(B h1).loop (wWh c B);have lim:∀a2,(∀k,whV c B k a2=.stuck)->wWh c B a2=.stuck:=λa2 z=>by unfold wWh;rw[dif_neg (λ⟨k,y⟩=>y (z k))]
    cases s:B h1 with
    |nx a2=>rw[s] at h2;exact (lim a2 h2).symm
    |ct a2=>rw[s] at h2;exact (lim a2 h2).symm
    |stuck=>rfl
    |_=>have:=h2 0;rw[s] at this;cases this
def Io(p:PoS X h0 ns e h r2 r3)(q:r3 ≠ .stuck):r2 ≠ .stuck:=by
 cases r3 with
 |stuck=>exact absurd rfl q
 |nx e'=>obtain⟨d_,h',ns',z,_⟩:=p;rw[z];intro y;cases y
 |ct e'=>obtain⟨d_,h',ns',z,_⟩:=p;rw[z];intro y;cases y
 |bk e'=>obtain⟨d_,h',ns',z,_⟩:=p;rw[z];intro y;cases y
 |exc c e'=>obtain⟨d_,h',ns',z,_⟩:=p;rw[z];intro y;cases y
 |rt r e'=>obtain⟨d,d_,h',ns',z,_⟩:=p;rw[z];intro y;cases y
theorem AM(hc:RT c c3)(hB:RS B B3):∀(k:Nat) (X:Nat->Prop) (h0:Nat) (ns:Ns) (e:E3) (ae:AE) (h:AH),Sat X h0 ns e ae h->PoS X h0 ns e h (whN c B k ae h) (whV c3 B3 k e)
 |0,_,_,_,_,_,_,_=>trivial
 |
  k+1,X,h0,ns,e,ae,h,S=>by
  refine PoS.toS (hc X h0 ns e ae h S) λb b' h1 ns1 e1 a1 S1 r1=>?_;cases r1;try dsimp only
  split
  .exact PoS.after S a1 (PoS.loop (ae:=ae) (hB X h0 ns1 e1 ae h1 S1) λae2 h2 ns2 e2 a2 S2=>PoS.after S1 a2 (AM hc hB k X h0 ns2 e2 ae2 h2 S2))
  .exact .nx a1 S1
def Nw(hc:RT c c3)(hB:RS B B3):RS (sWh c B) (wWh c3 B3):=λX h0 ns e ae h S=>by
 by_cases q:∃k,whV c3 B3 k e ≠ .stuck
 .obtain⟨k,q⟩:=q;rw[pO q];have p:=AM hc hB k X h0 ns e ae h S;rw[AU (Io p q)];exact p
 .unfold wWh;rw[dif_neg q];trivial
end
noncomputable def ij(o:Option Nat)(s:Sl)(e:E3):E3:=match o,s with
 |some i,.mu v=>(match e[i]? with
  |some t=>e.set i (t.re v)
  |none=>e)
 |_,_=>e
noncomputable def bT:List (Option Nat)->E3->E3->E3
 |o::sub,s::inner,e=>bT sub inner (ij o s e)
 |_,_,e=>e
def xr(hn:∀v,o=some i->s=.mu v->False):(ij o s e)[i]?=e[i]?:=by
 unfold ij;split
 .rename_i i' v;split
  .rename_i t q;by_cases z:i=i'
   .subst z;exact (hn v rfl rfl).elim
   .rw[cK z]
  .rfl
 .rfl
theorem p8:∀{sub:Rg}{e2 e:E3}{i:Nat},(∀(j:Nat) v,sub[j]?=some (some i)->e2[j]?=some (.mu v)->False)->(bT sub e2 e)[i]?=e[i]?
 | [],_,_,_,_=>rfl
 |_::_,[],_,_,_=>rfl
 |
  o::sub,s::e2,e,i,hn=>by
  show (bT sub e2 (ij o s e))[i]?=_;rw[p8 (λj v q1 q2=>hn (j+1) v (by simpa using q1) (by simpa using q2))];exact xr λv z1 z2=>hn 0 v (by rw[z1];rfl) (by rw[z2];rfl)
theorem wq:∀{sub:Rg}{e2 e:E3}{i j:Nat}{v:Val},(∀(j k:Nat) i,sub[j]?=some (some i)->sub[k]?=some (some i)->j=k)->sub[j]?=some (some i)->e2[j]?=some (.mu v)->(bT sub e2 e)[i]?=(e[i]?).map (Sl.re · v)
 | [],_,_,_,j,_,_,q,_=>by simp at q
 |_::_,[],_,_,j,_,_,_,q=>by simp at q
 |
  o::sub,s::e2,e,i,0,v,hj,q1,q2=>by
  have z1:o=some i:=by simpa using q1
  have z2:s=.mu v:=by simpa using q2
  subst z1 z2;show (bT sub e2 (ij (some i) (.mu v) e))[i]?=_;rw[p8 (λk u y1 _=>by have:=hj 0 (k+1) i rfl (by simpa using y1);omega)];unfold ij;dsimp only;split
  .rename_i t q;rw[cZ (x_.mp q).1,q];rfl
  .rename_i q;rw[q];rfl
 |
  o::sub,s::e2,e,i,j+1,v,hj,q1,q2=>by
  show (bT sub e2 (ij o s e))[i]?=_;have q1':sub[j]?=some (some i):=by simpa using q1
  rw[wq (λa b c y1 y2=>by have:=hj (a+1) (b+1) c (by simpa using y1) (by simpa using y2);omega) q1' (by simpa using q2)];rw[xr λv z1 _=>by have:=hj 0 (j+1) i (by rw[z1];rfl) q1;omega]
noncomputable def cV(sub:Rg)(ns:Ns):Ns:=sub.map λo=>o.bind λi=>(ns[i]?).bind id
def eA{sub:Rg}{ns:Ns}{j n:Nat}(q:(cV sub ns)[j]?=some (some n)):∃i,sub[j]?=some (some i)/\ns[i]?=some (some n):=by
 unfold cV at q;rw[OW] at q;cases z:sub[j]? with
 |none=>rw[z] at q;cases q
 |
  some o=>
  rw[z] at q;cases o with
  |none=>cases q
  |
   some i=>
   refine⟨i,rfl,?_⟩;have q':(ns[i]?).bind id=some n:=OQ q;cases y:ns[i]? with
   |none=>rw[y] at q';cases q'
   |some w=>rw[y] at q';have:w=some n:=q';rw[this]
def Fh{sub:Rg}{ns:Ns}{j i:Nat}{w:Option Nat}(q:sub[j]?=some (some i))(q2:ns[i]?=some w):(cV sub ns)[j]?=some w:=by unfold cV;rw[OW,q];show some ((ns[i]?).bind id)=some w;rw[q2];rfl
structure Lnk(sub:Rg)(e ei:E3):Prop where
 inj:∀(j k:Nat) (i:Nat),sub[j]?=some (some i)->sub[k]?=some (some i)->j=k
 mu:∀(j:Nat) (v:Val),ei[j]?=some (.mu v)->∃(i:Nat) (s:Sl),sub[j]?=some (some i)/\e[i]?=some s/\s.mt=true
 mt:∀(j:Nat) (s:Sl),ei[j]?=some s->s.mt=true->∃v,s=.mu v
def Sat.back(S:Sat X h0 ns e ae h)(K:Lnk sub e ei)(a:Stp (cV sub ns) ei h ns2 e2 h2)
 (hY:∀n,Y n->n<h2.length/\(X n\/h.length<=n)) (hXY:∀n,X n->Y n)
 (hc:∀(j:Nat) v n,e2[j]?=some (.mu v)->ns2[j]?=some (some n)->∃o,h2[n]?=some o/\c7 o/\Rc (Oc Y ns) h2 o v):Sat Y h0 ns (bT sub e2 e) ae h2/\Stp ns e h ns (bT sub e2 e) h2:=by
 have hM:∀n,Mt (cV sub ns) ei n->Mt ns e n:=λn ⟨j,s,z1,z2,z3⟩=>by obtain⟨v,rfl⟩:=K.mt j s z2 z3;obtain⟨i,s',y1,y2,y3⟩:=K.mu j v z2;obtain⟨i',y4,y5⟩:=eA z1;rw[y1] at y4;cases y4;exact⟨i,s',y5,y2,y3⟩
 have mv:Mov (Oc X ns) (Oc Y ns) h h2:=λn o p q=>⟨⟨λz=>by
  rcases (hY n z).2 with z |z
  .exact p.1 z
  .have:=dW q;omega,p.2⟩,a.keep n o q λz=>by obtain⟨j,s,z1,_⟩:=z;obtain⟨i,_,y⟩:=eA z1;exact p.2 (cq.mpr ⟨i,y⟩)⟩
 have key:∀i:Nat,(∃(j:Nat) (v:Val) (s:Sl),sub[j]?=some (some i)/\e2[j]?=some (.mu v)/\e[i]?=some s/\s.mt=true/\(bT sub e2 e)[i]?=some (s.re v)/\ns2[j]?=ns[i]?)\/((∀n,ns[i]?=some (some n)->¬ Mt (cV sub ns) ei n)/\(bT sub e2 e)[i]?=e[i]?):=λi=>by
  by_cases hx:∃(j:Nat) (v:Val),sub[j]?=some (some i)/\e2[j]?=some (.mu v)
  .obtain⟨j,v,q1,q2⟩:=hx;obtain⟨u,q3,q4⟩:=a.mu j v q2;obtain⟨i',s,y1,y2,y3⟩:=K.mu j u q3;rw[q1] at y1;cases y1;refine .inl ⟨j,v,s,q1,q2,y2,y3,by rw[wq K.inj q1 q2,y2];rfl,?_⟩;rw[q4];have hl:i<ns.length:=by rw[S.l2];exact (x_.mp y2).1
   rw[OT hl];exact Fh q1 (OT hl)
  .refine .inr ⟨λn q ⟨j,s,z1,z2,z3⟩=>hx ?_,p8 λj v y1 y2=>hx ⟨j,v,y1,y2⟩⟩;obtain⟨v,rfl⟩:=K.mt j s z2 z3;obtain⟨i',y4,y5⟩:=eA z1;have:i'=i:=S.inj i' i n y5 q;subst this;obtain⟨v',y6,_⟩:=a.mu' j v z2;exact⟨j,v',y4,y6⟩
 have lenB:(bT sub e2 e).length=e.length:=by
  clear key hc a K S hY hXY hM mv;induction sub generalizing e2 e with
  |nil=>rfl
  |
   cons o sub ih=>
   cases e2 with
   |nil=>rfl
   |
    cons s e2=>
    show (bT sub e2 (ij o s e)).length=_;rw[ih];unfold ij;split
    .split
     .rw[N_]
     .rfl
    .rfl
 refine⟨⟨by rw[lenB];exact S.l1,by rw[lenB];exact S.l2,G_ S.lh a.len,λn z=>(hY n z).1,S.inj,λi n q z=>?_,λi s q=>?_⟩,⟨a.len,λm o q hm=>a.keep m o q λz=>hm (hM m z),λ_ _ q=>.inl q,λi s q hl=>?_,λi s q hl=>?_,λi v q=>?_,λi v q=>?_⟩⟩
 .rcases (hY n z).2 with z |z
  .exact S.nx i n q z
  .obtain⟨_,_,_,_,_,_,_,q',_⟩:=S.own q
   have:=dW q';omega
 .rcases key i with ⟨j,v,s0,k1,k2,k3,k4,k5,k6⟩ |⟨k1,k2⟩
  .rw[k5] at q;cases q;have y:=S.sl i s0 k3;cases s0 with
   |ow u=>obtain⟨n,o,y1,y2,y3,_⟩:=y;obtain⟨o',z1,z2,z3⟩:=hc j v n k2 (by rw[k6];exact y1);exact⟨n,o',y1,y2,y3,z1,z2,z3⟩
   |mu u=>obtain⟨n,o,y1,y2,_⟩:=y;obtain⟨o',z1,z2,z3⟩:=hc j v n k2 (by rw[k6];exact y1);exact⟨n,o',y1,y2,z1,z2,z3⟩
   |_=>cases k4
  .rw[k2] at q;exact (S.sl i s q).mono mv λn o q1 q2=>a.keep n o q2 (k1 n q1)
 .rcases key i with ⟨j,v,s0,k1,k2,k3,k4,k5,k6⟩ |⟨k1,k2⟩
  .rw[k3] at q;cases q;cases s <;> first |cases hl;done |cases k4;done
  .rw[k2];exact⟨q,rfl⟩
 .rcases key i with ⟨j,v,s0,k1,k2,k3,k4,k5,k6⟩ |⟨k1,k2⟩
  .rw[k5] at q;cases q;cases s0 <;> first |cases hl;done |cases k4;done
  .rw[k2] at q;exact⟨q,rfl⟩
 .rcases key i with ⟨j,u,s0,k1,k2,k3,k4,k5,k6⟩ |⟨k1,k2⟩
  .rw[k5] at q;cases s0 with
   |mu w=>exact⟨w,k3,rfl⟩
   |ow w=>cases q
   |_=>cases k4
  .rw[k2] at q;exact⟨v,q,rfl⟩
 .rcases key i with ⟨j,u,s0,k1,k2,k3,k4,k5,k6⟩ |⟨k1,k2⟩
  .rw[k3] at q;cases q;exact⟨u,k5,rfl⟩
  .exact⟨v,by rw[k2];exact q,rfl⟩
noncomputable def inS:Sl->Sl
 |.ow v=>.mu v
 |.lo v=>.lm v
 |s=>s
noncomputable def c8(sub:Rg)(e:E3):E3:=sub.map λo=>match o with
 |none=>.no
 |some i=>match e[i]? with
  |some s=>inS s
  |none=>.no
noncomputable def lcV(g:MG3)(c:MT3)(F:ME3):List Val->List Val->E3->R3 (List Val)
 | [],acc,e=>.ok acc e
 |v::vs,acc,e=>if acc.length<16777216 then (match g v e with
  |none=>.stuck
  |some e1=>(c e1).bind λb e2=>if b=true then (F e2).bind λt e3=>(match dk e3 t with
   |some (e4,y)=>lcV g c F vs (acc++[y]) e4
   |none=>.stuck) else lcV g c F vs acc e2) else .stuck
noncomputable def vLC(I:MI3)(sub:Rg)(g:MG3)(c:MT3)(F:ME3):ME3:=λe=>(I e).bind λp e1=>match lcV g c F p.1 [] (c8 sub (lockO e1 p.2)) with
 |.ok ys e2=>if ys.length<=16777216 then .ok (.new (.lst ys)) (gx (bT sub e2 (lockO e1 p.2)) p.2) else .stuck
 |_=>.stuck
def pK(sub:Rg):Prop:=∀(j k:Nat) (i:Nat),sub[j]?=some (some i)->sub[k]?=some (some i)->j=k
def Bi(h:(sub.filterMap id).Nodup):pK sub:=by
 induction sub with
 |nil=>intro j k i q;simp at q
 |
  cons o sub ih=>
  have f_:(sub.filterMap id).Nodup:=by
   cases o with
   |none=>simpa using h
   |some i=>rw[PC] at h;simp at h;exact h.2
  have hno:∀(i k:Nat),o=some i->sub[k]?=some (some i)->False:=λi k z q=>by subst z;rw[PC] at h;simp at h;exact h.1 (PU q)
  intro j k i q1 q2;cases j with
  |
   zero=>
   cases k with
   |zero=>rfl
   |succ k=>exact (hno i k (by simpa using q1) (by simpa using q2)).elim
  |
   succ j=>
   cases k with
   |zero=>exact (hno i j (by simpa using q2) (by simpa using q1)).elim
   |succ k=>exact O4 (· + 1) (ih f_ j k i (by simpa using q1) (by simpa using q2))
def Xin(X:Nat->Prop)(ns:Ns)(sub:Rg)(n:Nat):Prop:=X n\/(some n∈ns/\some n∉cV sub ns)
def nZ(q:some n∈cV sub ns):some n∈ns:=by obtain⟨j,q⟩:=cq.mp q;obtain⟨i,_,q2⟩:=eA q;exact cq.mpr ⟨i,q2⟩
def lj{sub:Rg}{e:E3}{j:Nat}{s:Sl}(q:(c8 sub e)[j]?=some s):(sub[j]?=some none/\s=.no)\/(∃i,sub[j]?=some (some i)/\((e[i]?=none/\s=.no)\/∃t,e[i]?=some t/\s=inS t)):=by
 unfold c8 at q;rw[OW] at q;cases z:sub[j]? with
 |none=>rw[z] at q;cases q
 |
  some o=>
  rw[z] at q;cases o with
  |none=>cases q;exact .inl ⟨rfl,rfl⟩
  |
   some i=>
   refine .inr ⟨i,rfl,?_⟩;have q':=OQ q;dsimp only at q';cases y:e[i]? with
   |none=>rw[y] at q';exact .inl ⟨rfl,q'.symm⟩
   |some t=>rw[y] at q';exact .inr ⟨t,rfl,q'.symm⟩
def Sat.inner(S:Sat X h0 ns e ae h)(hs:pK sub):Sat (Xin X ns sub) h0 (cV sub ns) (c8 sub e) (kI sub ae) h:=by
 refine⟨by unfold kI c8;rw[u_,u_],by unfold cV c8;rw[u_,u_],S.lh,λn z=>?_,λj k n q1 q2=>?_,λj n q z=>?_,λj s q=>?_⟩
 .rcases z with z |⟨z,_⟩
  .exact S.xl n z
  .obtain⟨i,z⟩:=cq.mp z;obtain⟨_,_,_,_,_,_,_,q',_⟩:=S.own z;exact dW q'
 .obtain⟨i,y1,y2⟩:=eA q1;obtain⟨i',y3,y4⟩:=eA q2
  have:=S.inj i i' n y2 y4
  subst this;exact hs j k i y1 y3
 .rcases z with z |⟨_,z⟩
  .obtain⟨i,y1,y2⟩:=eA q;exact S.nx i n y2 z
  .exact z (cq.mpr ⟨j,q⟩)
 .have mv:Mov (Oc X ns) (Oc (Xin X ns sub) (cV sub ns)) h h:=λn o p q=>⟨⟨λz=>by
   rcases z with z |⟨z,_⟩
   .exact p.1 z
   .exact p.2 z,λz=>p.2 (nZ z)⟩,q⟩
  have hj:∀{o},sub[j]?=some o->(cV sub ns)[j]?=some (o.bind λi=>(ns[i]?).bind id)/\(kI sub ae)[j]?=some (o.bind λi=>(ae[i]?).bind id):=λ{o} z=>by unfold cV kI;rw[OW,OW,z];exact⟨rfl,rfl⟩
  rcases lj q with ⟨z,rfl⟩ |⟨i,z,⟨y,rfl⟩ |⟨t,y,rfl⟩⟩
  .rw[(hj z).1];rfl
  .rw[(hj z).1];show some ((ns[i]?).bind id)=some none;have:ns[i]?=none:=by rw[Pu] at y ⊢;rw[S.l2];exact y
   rw[this];rfl
  .have k:=(S.sl i t y).mono mv λ_ _ _ q=>q;rw[(hj z).1,(hj z).2];show SlR _ h0 (some ((ns[i]?).bind id)) (some ((ae[i]?).bind id)) h (inS t);have w1:∀x,ns[i]?=some x->some ((ns[i]?).bind id)=some x:=λx q=>by rw[q];rfl
   have w2:∀x,ae[i]?=some x->some ((ae[i]?).bind id)=some x:=λx q=>by rw[q];rfl
   cases t with
   |no=>rw[w1 _ k];rfl
   |sh v=>obtain⟨k1,x,k2,k3⟩:=k;rw[w1 _ k1,w2 _ k2];exact⟨rfl,x,rfl,k3⟩
   |ow v=>obtain⟨m,o,k1,k2,_,k3⟩:=k;rw[w1 _ k1,w2 _ k2];exact⟨m,o,rfl,rfl,k3⟩
   |lo v=>obtain⟨m,o,k1,k2,_,k3⟩:=k;rw[w1 _ k1,w2 _ k2];exact⟨m,o,rfl,rfl,k3⟩
   |mu v=>obtain⟨m,o,k1,k2,k3⟩:=k;rw[w1 _ k1,w2 _ k2];exact⟨m,o,rfl,rfl,k3⟩
   |lm v=>obtain⟨m,o,k1,k2,k3⟩:=k;rw[w1 _ k1,w2 _ k2];exact⟨m,o,rfl,rfl,k3⟩
def xp(hs:pK sub):Lnk sub e (c8 sub e):=by
 refine⟨hs,λj v q=>?_,λj s q hm=>?_⟩
 .rcases lj q with ⟨_,z⟩ |⟨i,z,⟨_,y⟩ |⟨t,y,y2⟩⟩
  .cases z
  .cases y
  .refine⟨i,t,z,y,?_⟩;cases t <;> first |rfl |cases y2
 .rcases lj q with ⟨_,z⟩ |⟨i,z,⟨_,y⟩ |⟨t,y,y2⟩⟩
  .subst z;cases hm
  .subst y;cases hm
  .subst y2;cases t with
   |ow v=>exact⟨v,rfl⟩
   |mu v=>exact⟨v,rfl⟩
   |_=>cases hm
section
variable{I:MI}{I3:MI3}{g:MG}{g3:MG3}{c:MT}{c3:MT3}{F:ME}{F3:ME3}
def Hu(S:Sat X h0 ns e ae h)(hg:RG g g3)(hc:RT c c3)(hF:RE F F3)(hG:∀ns' e' h',Stp ns e h ns' e' h'->G h'):
 ∀
  {ds:List D}{vs:List Val},Rds (Oc X ns) h ds vs->∀{acc:List D}{accv:List Val}{ns1:Ns}{e1:E3}{h_:AE}{h1:AH},Stp ns e h ns1 e1 h1->Sat X h0 ns1 e1 h_ h1->Rds (Oc X ns1) h1 acc accv->lcV g3 c3 F3 vs accv e1=.ok ys e2->
  ∃dy h2 ns2 ae2,lcL G g c F ds acc h_ h1=.ok dy h2/\Stp ns e h ns2 e2 h2/\Sat X h0 ns2 e2 ae2 h2/\Rds (Oc X ns2) h2 dy ys:=by
 intro ds;induction ds with
 |nil=>intro vs r acc accv ns1 e1 h_ h1 a1 S1 ra q;cases r;unfold lcL;rw[if_pos (hG _ _ _ a1)];cases q;exact⟨acc,h1,ns1,h_,rfl,a1,S1,ra⟩
 |
  cons d0 ds ih=>
  intro vs r acc accv ns1 e1 h_ h1 a1 S1 ra q;cases r with
  |
   cons r rr=>
   rename_i v vs;unfold lcV at q;unfold lcL;by_cases hl:accv.length<16777216
   .rw[if_pos hl] at q;rw[if_pos ⟨hG _ _ _ a1,by rw[ra.len];exact hl⟩];cases q1:g3 v e1 with
    |none=>rw[q1] at q;cases q
    |
     some e3=>
     rw[q1] at q;dsimp only at q;obtain⟨ae3,ns3,p3,S3,a3⟩:=hg _ _ _ _ _ _ _ _ _ S1 (r.mono (a1.mov S)) q1;rw[p3,ja];have a13:=a1.trans S a3;have pc:=hc X h0 ns3 e3 ae3 h1 S3;cases q4:c3 e3 with
     |stuck=>rw[q4] at q;cases q
     |exc _ _=>rw[q4] at q;cases q
     |
      ok b e4=>
      rw[q4] at q pc;obtain⟨b',h4,ns4,p4,a4,S4,rfl⟩:=pc;rw[p4,ja];have a14:=a13.trans S a4;have ra4:=(ra.mono (a3.mov S1)).mono (a4.mov S3);have q':(if b'=true then (F3 e4).bind λt e3=>(match dk e3 t with
       |some (e4,y)=>lcV g3 c3 F3 _ (accv++[y]) e4
       |none=>.stuck) else lcV g3 c3 F3 _ accv e4)=.ok ys e2:=q
      by_cases hb:b'=true
      .rw[if_pos hb] at q' ⊢;have pF:=hF X h0 0 ns4 e4 ae3 h4 S4 (O2 _);cases q5:F3 e4 with
       |stuck=>rw[q5] at q';cases q'
       |exc _ _=>rw[q5] at q';cases q'
       |
        ok t e5=>
        rw[q5] at q' pF;obtain⟨d5,h5,ns5,p5,a5,S5,r5⟩:=pF;rw[p5,ja];have q'':(match dk e5 t with
         |some (e4,y)=>lcV g3 c3 F3 _ (accv++[y]) e4
         |none=>.stuck)=.ok ys e2:=q'
        cases q6:dk e5 t with
        |none=>rw[q6] at q'';cases q''
        |some w=>obtain⟨e6,y⟩:=w;rw[q6] at q'';obtain⟨ns6,S6,a6,r6⟩:=gv S5 r5 q6;exact ih rr ((a14.trans S a5).trans S a6) S6 (((ra4.mono (a5.mov S4)).mono (a6.mov S5)).append (.cons r6 .nil)) q''
      .rw[if_neg hb] at q' ⊢;exact ih rr a14 S4 ra4 q'
   .rw[if_neg hl] at q;cases q
def MW(hs:(sub.filterMap id).Nodup)(hI:RI I I3)(hg:RG g g3)(hc:RT c c3)(hF:RE F F3):RE (eLC I sub g c F) (vLC I3 sub g3 c3 F3):=λX h0 L ns e ae h S hl=>
 Po.bind
  S (hI X h0 ns e ae h S) λit p h1 ns1 e1 a1 S1 r1=>by
  try dsimp only
  obtain⟨r2,gd,hk⟩:=r1;have hs':=Bi hs;have S2:=S1.lockO p.2;have S3:=S2.inner hs';cases q:lcV g3 c3 F3 p.1 [] (c8 sub (lockO e1 p.2)) with
  |stuck=>trivial
  |exc _ _=>trivial
  |
   ok ys e2=>
   dsimp only;split
   .rename_i hy;have gd':∀ns' e' h',Stp (cV sub ns1) (c8 sub (lockO e1 p.2)) h1 ns' e' h'->it.guard h':=λns' e' h' a=>gd h' λm o qm hm=>a.keep m o qm λ⟨j,s,z1,z2,z3⟩=>by
     obtain⟨i,y1,y2⟩:=eA z1;rcases hm with hm |⟨k,hk1,hk2⟩
     .exact hm.2 (cq.mpr ⟨i,y2⟩)
     .have:i=k:=S1.inj i k m y2 hk2;subst this;obtain⟨s',w1,w2⟩:=hk i hk1;rcases lj z2 with ⟨z,_⟩ |⟨i',z,y⟩
      .rw[y1] at z;cases z
      .rw[y1] at z;cases z;have hl:(lockO e1 p.2)[i]?=some (kW s'):=by rw[hk1];exact rp w1
       rcases y with ⟨y,_⟩ |⟨t,y,rfl⟩
       .rw[hl] at y;cases y
       .rw[hl] at y;cases y;cases s' <;> first |cases w2;done |cases z3;done
    have mvi:Mov (Oc X ns1) (Oc (Xin X ns1 sub) (cV sub ns1)) h1 h1:=λn o p q=>⟨⟨λz=>by
     rcases z with z |⟨z,_⟩
     .exact p.1 z
     .exact p.2 z,λz=>p.2 (nZ z)⟩,q⟩
    obtain⟨dy,h2,ns2,ae2,p2,a2,S4,r4⟩:=Hu (G:=it.guard) S3 hg hc hF gd' (r2.mono mvi) .refl S3 .nil q;have k3:∀n,Oc (Xin X ns1 sub) ns2 n->Oc X ns1 n:=λn z=>⟨λy=>z.1 (.inl y),λy=>by
     by_cases w:some n∈cV sub ns1
     .obtain⟨j,w⟩:=cq.mp w;obtain⟨s,v,o,b1,b2,_⟩:=S3.own w;rcases b2 with b2 |b2
      .obtain⟨v',rfl⟩:=(xp (e:=lockO e1 p.2) hs').mt j s b1 b2;obtain⟨u,c1,c2⟩:=a2.mu' j v' b1;exact z.2 (cq.mpr ⟨j,by rw[c2];exact w⟩)
      .obtain⟨c1,c2⟩:=a2.lk j s b1 b2;exact z.2 (cq.mpr ⟨j,by rw[c2];exact w⟩)
     .exact z.1 (.inr ⟨y,w⟩)⟩
    have bk:=S2.back (Y:=X) (xp hs') a2 (λn z=>⟨K_ (S2.xl n z) a2.len,.inl z⟩) (λ_ z=>z) λj v n q1 q2=>by obtain⟨s,u,o,b1,b2,b3,b4,b5,b6,b7⟩:=S4.own q2;rw[q1] at b1;cases b1;cases b3;exact⟨o,b5,b6,b7.mono λm o' z y=>⟨k3 m z,y⟩⟩
    obtain⟨S5,a5⟩:=bk;have r5:Rds (Oc X ns1) h2 dy ys:=r4.mono λm o' z y=>⟨k3 m z,y⟩;have i_:∀(e':E3),Sat X h0 ns1 e' ae h2->Stp ns1 e1 h1 ns1 e' h2->Po X h0 ns1 e1 ae h1 (relE X h0 L ae) ((noX (lcL it.guard g c F it.items [] (kI sub ae) h1)).bind fN) (.ok (.new (.lst ys)) e'):=λe' S6 a6=>by rw[p2];have pp:=BvR.po (L:=L) (r:=fN dy h2) (b:=.new (.lst ys)) S6 (G_ hl (G_ a1.len a6.len)) ⟨.lst dy,by unfold fN;rw[if_pos (by rw[r5.len];exact hy)],trivial,.lst r5⟩;obtain⟨d,h',ns',y,y1,y2,y3⟩:=pp;exact⟨d,h',ns',y,a6.trans S1 y1,y2,y3⟩
    cases hp:p.2 with
    |none=>rw[hp] at S5 a5;exact i_ _ S5 a5
    |some k=>rw[hp] at S5 a5;obtain⟨s,w1,w2⟩:=hk k hp;exact i_ _ (S5.unlock k) (a5.unlock w1 w2)
   .trivial
end
inductive R3F where
 |ok (r:Rt) (mv:List Val) |exc (c:Str) (mv:List Val) |stuck
abbrev Fn3:=List Val->R3F
noncomputable def sl1(b:Bool)(v:Val):Sl:=if b=true then .mu v else .sh v
noncomputable def sls(ms:List Bool)(vs:List Val):E3:=List.zipWith sl1 ms vs
noncomputable def bN:List Bool->List Val->E3
 |true::ms,v::vs=>.mu v::bN ms vs
 |true::ms,[]=>.no::bN ms []
 |false::ms,vs=>.no::bN ms vs
 | [],_=>[]
noncomputable def muV:List Bool->E3->Option (List Val)
 |true::ms,.mu v::e=>(muV ms e).map (v :: ·)
 |true::_,_=>none
 |false::ms,_::e=>muV ms e
 |false::_,[]=>none
 | [],_=>some []
def RFp(X:Nat->Prop)(ps:Ns)(ms:List Bool)(vs:List Val)(ds:List D)(h:AH)(r2:R D):R3F->Prop
 |.stuck=>True
 |.ok r mv=>∃d h',r2=.ok d h'/\Stp ps (sls ms vs) h ps (bN ms mv) h'/\RtR X h.length ps (bN ms mv) (ds.map some) h' d r
 |.exc c mv=>∃h',r2=.exc c h'/\Stp ps (sls ms vs) h ps (bN ms mv) h'/\Sat X h.length ps (bN ms mv) (ds.map some) h'
def RF(ms:List Bool)(G2:Fn)(G3:Fn3):Prop:=∀X ps ds vs h,vs.length=ms.length->Sat X h.length ps (sls ms vs) (ds.map some) h->RFp X ps ms vs ds h (G2 ds h) (G3 vs)
noncomputable def fnV(ms:List Bool)(N:Nat)(F:MS3):Fn3:=λvs=>if vs.length=ms.length then (match F (sls ms vs++List.replicate (N-vs.length) .no) with
 |.nx e=>(match muV ms e with |some mv=>.ok (.val .non) mv |none=>.stuck)
 |.rt r e=>(match muV ms e with |some mv=>.ok r mv |none=>.stuck)
 |.exc c e=>(match muV ms e with |some mv=>.exc c mv |none=>.stuck)
 |_=>.stuck) else .stuck
def gy{ms:List Bool}{vs:List Val}{i:Nat}{s:Sl}(q:(sls ms vs)[i]?=some s):∃b v,ms[i]?=some b/\vs[i]?=some v/\s=sl1 b v:=by
 unfold sls at q;rw[PL] at q;cases h1:ms[i]? with
 |none=>rw[h1] at q;cases q
 |
  some b=>
  cases h2:vs[i]? with
  |none=>rw[h1,h2] at q;cases q
  |some v=>rw[h1,h2] at q;cases q;exact⟨b,v,rfl,rfl,rfl⟩
theorem jn:∀{ms:List Bool}{e:E3}{mv:List Val}{i:Nat}{s:Sl},muV ms e=some mv->(bN ms mv)[i]?=some s->(ms[i]?=some false/\s=.no)\/(ms[i]?=some true/\∃v,e[i]?=some (.mu v)/\s=.mu v)
 | [],_,_,_,_,_,q=>by unfold bN at q;simp at q
 |
  true::ms,.mu v::e,mv,i,s,q,q2=>by
  obtain⟨mv',z1,z2⟩:=OV.mp (show (muV ms e).map (v :: ·)=some mv from q);subst z2;cases i with
  |zero=>
   right;have:Sl.mu v=s:=by simpa [bN] using q2
   subst this;exact⟨rfl,v,rfl,rfl⟩
  |
   succ i=>
   have:=jn (i:=i) (s:=s) z1 (by simpa [bN] using q2)
   simpa using this
 |true::ms,[],mv,i,s,q,q2=>by cases q
 |true::ms,.no::e,mv,i,s,q,q2=>by cases q
 |true::ms,.sh v::e,mv,i,s,q,q2=>by cases q
 |true::ms,.ow v::e,mv,i,s,q,q2=>by cases q
 |true::ms,.lo v::e,mv,i,s,q,q2=>by cases q
 |true::ms,.lm v::e,mv,i,s,q,q2=>by cases q
 |false::ms,[],mv,i,s,q,q2=>by cases q
 |
  false::ms,t::e,mv,i,s,q,q2=>by
  cases i with
  |zero=>
   left;have:Sl.no=s:=by simpa [bN] using q2
   exact⟨rfl,this.symm⟩
  |
   succ i=>
   have:=jn (i:=i) (s:=s) (show muV ms e=some mv from q) (by simpa [bN] using q2)
   simpa using this
theorem pQ:∀{ms:List Bool}{e:E3}{mv:List Val}{i:Nat},muV ms e=some mv->ms[i]?=some true->∃v,e[i]?=some (.mu v)/\(bN ms mv)[i]?=some (.mu v)
 | [],_,_,i,_,q=>by simp at q
 |
  true::ms,.mu v::e,mv,i,q,q2=>by
  obtain⟨mv',z1,z2⟩:=OV.mp (show (muV ms e).map (v :: ·)=some mv from q);subst z2;cases i with
  |zero=>exact⟨v,rfl,rfl⟩
  |succ i=>obtain⟨u,y1,y2⟩:=pQ (i:=i) z1 (by simpa using q2);exact⟨u,by simpa using y1,by simpa [bN] using y2⟩
 |true::ms,[],mv,i,q,q2=>by cases q
 |true::ms,.no::e,mv,i,q,q2=>by cases q
 |true::ms,.sh v::e,mv,i,q,q2=>by cases q
 |true::ms,.ow v::e,mv,i,q,q2=>by cases q
 |true::ms,.lo v::e,mv,i,q,q2=>by cases q
 |true::ms,.lm v::e,mv,i,q,q2=>by cases q
 |false::ms,[],mv,i,q,q2=>by cases q
 |
  false::ms,t::e,mv,i,q,q2=>by
  cases i with
  |zero=>simp at q2
  |succ i=>obtain⟨u,y1,y2⟩:=pQ (i:=i) (show muV ms e=some mv from q) (by simpa using q2);exact⟨u,by simpa using y1,by simpa [bN] using y2⟩
theorem jj:∀{ms:List Bool}{mv:List Val},(bN ms mv).length=ms.length
 | [],_=>rfl
 |true::ms,v::mv=>by show (bN ms mv).length+1=ms.length+1;rw[jj]
 |true::ms,[]=>by show (bN ms []).length+1=ms.length+1;rw[jj]
 |false::ms,mv=>by show (bN ms mv).length+1=ms.length+1;rw[jj]
def En(hF:RS F F3):RF ms (fnD N F) (fnV ms N F3):=λX ps ds vs h hl S=>by
 unfold fnV;rw[if_pos hl];have lS:(sls ms vs).length=vs.length:=by unfold sls;rw[P0];omega
 have lD:ds.length=vs.length:=by have:=S.l1;rw[u_,lS] at this;exact this
 have lP:ps.length=vs.length:=S.l2.trans lS;have ltS:∀{i:Nat},i<ms.length->i<(sls ms vs).length:=λh=>by omega
 have ltP:∀{i:Nat},i<(sls ms vs).length->i<ps.length:=λh=>S.l2.symm ▸ h;have S1
  : Sat X h.length (ps++List.replicate (N-vs.length) none) (sls ms vs++List.replicate (N-vs.length) .no) (ds.map some++List.replicate (N-vs.length) none) h:=by
  have mns:∀n,some n∈ps++List.replicate (N-vs.length) (none:Option Nat) ↔ some n∈ps:=λn=>by
   rw[Pw];constructor
   .rintro (z |z)
    .exact z
    .have:=List.eq_of_mem_replicate z;cases this
   .exact .inl
  have gns:∀{i n:Nat},(ps++List.replicate (N-vs.length) (none:Option Nat))[i]?=some (some n)->ps[i]?=some (some n):=λ{i n} q=>by
   rw[QG] at q;split at q
   .exact q
   .rw[Pe] at q;split at q <;> cases q
  refine⟨?_,?_,S.lh,S.xl,λi j n q1 q2=>S.inj i j n (gns q1) (gns q2),λi n q=>S.nx i n (gns q),λi s q=>?_⟩
  .rw[F_,F_,Pj,Pj,S.l1]
  .rw[F_,F_,Pj,Pj,S.l2]
  .rw[QG] at q;split at q
   .rename_i hi;have k:=S.sl i s q;rw[OR (ltP hi),OR (by rw[S.l1];exact hi)];exact k.mono (λn o p q=>⟨⟨p.1,λz=>p.2 ((mns n).mp z)⟩,q⟩) λ_ _ _ q=>q
   .rename_i hi;rw[Pe] at q;split at q
    .cases q;rw[O0 (by rw[S.l2];exact Nat.le_of_not_lt hi),Pe,if_pos (by rw[S.l2];assumption)];rfl
    .cases q
 have p:=hF _ _ _ _ _ _ S1;have e2:fnD N F ds h=match F (ds.map some++List.replicate (N-vs.length) none) h with
  |.nx _ h'=>.ok .non h'
  |.rt d h'=>.ok d h'
  |.exc c _ h'=>.exc c h'
  |_=>.stuck:=by rw[<- lD];rfl
 rw[e2];have i_:∀(Y:Nat->Prop) (ns':Ns) (e':E3) (d_:AE) (h':AH) (mv:List Val),(∀n,X n->Y n)->Stp (ps++List.replicate (N-vs.length) none) (sls ms vs++List.replicate (N-vs.length) .no) h ns' e' h'->Sat Y h.length ns' e' d_ h'->muV ms e'=some mv->
  Stp ps (sls ms vs) h ps (bN ms mv) h'/\Sat Y h.length ps (bN ms mv) (ds.map some) h'/\∀n,Oc Y ns' n->Oc Y ps n:=by
  intro Y ns' e' d_ h' mv hXY a S2 qm;have kmu:∀{i:Nat},ms[i]?=some true->∃v u n o,e'[i]?=some (.mu v)/\(bN ms mv)[i]?=some (.mu v)/\(sls ms vs)[i]?=some (.mu u)/\ns'[i]?=ps[i]?/\ps[i]?=some (some n)/\(ds.map some)[i]?=some (some (.ref n))/\h'[n]?=some o/\c7 o/\Rc (Oc Y ns') h' o v:=by intro i hi;obtain⟨v,y1,y2⟩:=pQ qm hi;have hil:i<ms.length:=(x_.mp hi).1;obtain⟨u,y3,y4⟩:=a.mu i v y1;rw[OR (ltS hil)] at y3;rw[OR (ltP (ltS hil))] at y4;obtain⟨n,o,z1,z2,_⟩:=S.sl i _ y3;obtain⟨n',o',w1,w2,w3,w4,w5⟩:=S2.sl i _ y1;rw[y4,z1] at w1;cases w1;exact⟨v,u,n,o',y1,y2,y3,y4,z1,z2,w3,w4,w5⟩
  have kown:∀{i n:Nat},ps[i]?=some (some n)->ms[i]?=some true:=λ{i n} q=>by
   obtain⟨s,v,o,z1,z2,_⟩:=S.own q;obtain⟨b,u,y1,_,y2⟩:=gy z1;cases b with
   |true=>exact y1
   |false=>subst y2;rcases z2 with z2 |z2 <;> cases z2
  have koc:∀n,Oc Y ns' n->Oc Y ps n:=λn z=>⟨z.1,λy=>by obtain⟨i,y⟩:=cq.mp y;obtain⟨v,u,n',o,_,_,_,k1,k2,_⟩:=kmu (kown y);exact z.2 (cq.mpr ⟨i,by rw[k1];exact y⟩)⟩;refine⟨⟨a.len,λm o q hm=>a.keep m o q λ⟨i,s,z1,z2,z3⟩=>hm ?_,λ_ _ q=>.inl q,λi s q hl'=>?_,λi s q hl'=>?_,λi v q=>?_,λi v q=>?_⟩,⟨?_,?_,G_ (y_ _) a.len,S2.xl,S.inj,λi n q z=>?_,λi s q=>?_⟩,koc⟩
  .rw[QG] at z1;split at z1
   .rename_i hi;rw[OR (by rw[<- S.l2];exact hi)] at z2;exact⟨i,s,z1,z2,z3⟩
   .rw[Pe] at z1;split at z1 <;> cases z1
  .obtain⟨b,u,_,_,y⟩:=gy q;subst y;cases b <;> cases hl'
  .rcases jn qm q with ⟨_,z⟩ |⟨_,v,_,z⟩ <;> subst z <;> cases hl'
  .rcases jn qm q with ⟨_,z⟩ |⟨z,_⟩
   .cases z
   .obtain⟨v',u,n,o,_,_,k1,_⟩:=kmu z;exact⟨u,k1,rfl⟩
  .obtain⟨b,u,y1,_,y2⟩:=gy q;cases b with
   |false=>cases y2
   |true=>obtain⟨v',u,n,o,_,k0,k1,_⟩:=kmu y1;exact⟨v',k0,rfl⟩
  .rw[u_,jj];omega
  .rw[jj];omega
  .obtain⟨v,u,n',o,_,_,_,k1,k2,_⟩:=kmu (kown q);exact S2.nx i n (by rw[k1];exact q) z
  .rcases jn qm q with ⟨z,rfl⟩ |⟨z,v,z2,rfl⟩
   .have hil:i<ms.length:=(x_.mp z).1;have hi:i<(sls ms vs).length:=ltS hil;obtain⟨b,u,y1,_,y2⟩:=gy (OT hi);rw[z] at y1;cases y1;have k:=S.sl i _ (OT hi);rw[y2] at k;exact k.1
   .obtain⟨v',u,n,o,k0,_,_,k1,k2,k3,k4,k5,k6⟩:=kmu z;rw[z2] at k0;cases k0;exact⟨n,o,k2,k3,k4,k5,k6.mono λm o' y q=>⟨koc m y,q⟩⟩
 generalize F3 (sls ms vs++List.replicate (N-vs.length) .no)=r3 at *;cases r3 with
 |stuck=>trivial
 |bk _=>trivial
 |ct _=>trivial
 |
  nx e'=>
  obtain⟨d_,h',ns',q,a,S2⟩:=p;rw[q];dsimp only;cases qm:muV ms e' with
  |none=>trivial
  |some mv=>obtain⟨a3,S3,koc⟩:=i_ X ns' e' d_ h' mv (λ_ z=>z) a S2 qm;exact⟨.non,h',rfl,a3,S3,.non⟩
 |
  exc c e'=>
  obtain⟨d_,h',ns',q,a,S2⟩:=p;rw[q];dsimp only;cases qm:muV ms e' with
  |none=>trivial
  |some mv=>obtain⟨a3,S3,koc⟩:=i_ X ns' e' d_ h' mv (λ_ z=>z) a S2 qm;exact⟨h',rfl,a3,S3⟩
 |
  rt r e'=>
  obtain⟨d,d_,h',ns',q,a,rr⟩:=p;rw[q];dsimp only;cases qm:muV ms e' with
  |none=>trivial
  |
   some mv=>
   cases r with
   |val v=>obtain⟨a3,S3,koc⟩:=i_ X ns' e' d_ h' mv (λ_ z=>z) a rr.1 qm;exact⟨d,h',rfl,a3,S3,rr.2.mono λm o y q=>⟨koc m y,q⟩⟩
   |new v=>obtain⟨n,o,z1,z2,z3,z4,z5,z6,z7⟩:=rr;obtain⟨a3,S3,koc⟩:=i_ (Xn X n) ns' e' d_ h' mv (λ_ z=>.inl z) a z6 qm;exact⟨d,h',rfl,a3,n,o,z1,z2,z3,z4,z5,S3,z7.mono λm o y q=>⟨koc m y,q⟩⟩
   |pr v u=>obtain⟨d1,n,o,z1,z2,z3,z4,z5,z6,z7,z8⟩:=rr;obtain⟨a3,S3,koc⟩:=i_ (Xn X n) ns' e' d_ h' mv (λ_ z=>.inl z) a z6 qm;exact⟨d,h',rfl,a3,d1,n,o,z1,z2,z3,z4,z5,S3,z7.mono λm o y q=>⟨koc m y,q⟩,z8.mono λm o y q=>⟨koc m y,q⟩⟩
   |
    par i=>
    obtain⟨R1,R2,v,R3⟩:=rr;obtain⟨a3,S3,koc⟩:=i_ X ns' e' d_ h' mv (λ_ z=>z) a R1 qm;obtain⟨u,k1,k2⟩:=a.mu i v R3;have hi:i<(sls ms vs).length:=by apply Decidable.byContradiction;intro hi;rw[O0 (Nat.le_of_not_lt hi),Pe] at k1;split at k1 <;> cases k1
    rw[OR hi] at k1;rw[OR (by rw[S.l2];exact hi)] at k2;obtain⟨m,o,w1,w2,_⟩:=S.sl i _ k1;obtain⟨m',o',x1,x2,_⟩:=R1.sl i _ R3;rw[k2,w1] at x1;cases x1;rw[R2] at x2;cases x2;obtain⟨v',y,_⟩:=a3.mu' i u k1;exact⟨_,h',rfl,a3,S3,w2,v',y⟩
noncomputable def jS(i:Nat):List Tm->Bool
 |.bor j::ts=>(i==j) || jS i ts
 |_::ts=>jS i ts
 | []=>false
noncomputable def jR(i:Nat):List Bool->List Tm->Bool
 |true::ms,.bor j::ts=>(i==j) || jR i ms ts
 |_::ms,_::ts=>jR i ms ts
 |_,_=>false
noncomputable def okA(e:E3):List Bool->List Tm->Bool
 |true::ms,.bor i::ts=>((e[i]?).bind Sl.mv).isSome && !(jS i ts)&&okA e ms ts
 |true::_,_::_=>false
 |false::ms,.bor i::ts=>!(jR i ms ts)&&okA e ms ts
 |false::ms,_::ts=>okA e ms ts
 | [],[]=>true
 |_,_=>false
noncomputable def rb(b:Bool)(t:Tm):Option Nat:=match b,t with
 |true,.bor i=>some i
 |_,_=>none
noncomputable def ck(ms:List Bool)(ts:List Tm):List (Option Nat):=List.zipWith rb ms ts
noncomputable def bU(e:E3):List Bool->List Tm->List Nat
 |false::ms,.bor i::ts=>(match e[i]? with
  |some (.sh _)=>bU e ms ts
  |_=>i::bU e ms ts)
 |_::ms,_::ts=>bU e ms ts
 |_,_=>[]
mutual
def flatV:Val->Bool
 |.tup xs=>flatVs xs
 |.lst _=>false
 |.kl _=>false
 |.dct _=>false
 |.set _=>false
 |_=>true
def flatVs:List Val->Bool
 | []=>true
 |v::vs=>flatV v&&flatVs vs
end
noncomputable def oY:List (Key×Val)->Bool
 | []=>true
 |(_,v)::vs=>flatV v&&oY vs
noncomputable def c5:Val->Bool
 |.lst xs=>flatVs xs
 |.dct xs=>oY xs
 |.set _=>true
 |_=>false
def gL:Rt->Bool
 |.val v=>flatV v
 |.new v=>c5 v
 |.par _=>true
 |.pr v u=>flatV v&&c5 u
noncomputable def qF(e:E3):List Nat->Option E3
 | []=>some e
 |i::is=>match dk e (.bor i) with
  |some (e1,_)=>qF e1 is
  |none=>none
def Rt.tm(ts:List Tm):Rt->Tm
 |.val v=>.val v
 |.new v=>.new v
 |.par i=>(ts[i]?).getD (.val .non)
 |.pr v u=>.val (.tup [v,u])
noncomputable def DZ(ms:List Bool)(G:Fn3)(A:MA3):ME3:=λe=>(A e).bind λts e1=>match rss e1 ts with
 |none=>.stuck
 |some vs=>if okA e1 ms ts=true then (match G vs with
  |.stuck=>.stuck
  |.ok r mv=>if (bU e1 ms ts).isEmpty || (gL r&&mv.all c5) then .ok (r.tm ts) (bT (ck ms ts) (bN ms mv) e1) else (match qF e1 (bU e1 ms ts) with
   |some e2=>.ok (r.tm ts) (bT (ck ms ts) (bN ms mv) e2)
   |none=>.stuck)
  |.exc c mv=>if (bU e1 ms ts).isEmpty || mv.all c5 then .exc c (bT (ck ms ts) (bN ms mv) e1) else .stuck) else .stuck
section
variable{P P':Nat->Prop}{h h':AH}
def Rd.flat(f:flatV v=true)(r:Rd P h d v):Rd P' h' d v:=
 @Rd.rec P h (λd v _=>flatV v=true->Rd P' h' d v) (λo v _=>flatV v=true->Rd P' h' .non v) (λds vs _=>flatVs vs=true->Rds P' h' ds vs) (λws us _=>True) (λ_=>.non) (λb _=>.bl b) (λi _=>.int i) (λx _=>.str x) (λn _=>.ty n) (λx _=>.glb x) (λx _=>.exc x) (λ_ ih f=>.tup (ih f)) (λ_ _ f=>absurd f z_) (λ_ _ r _ f=>by cases r <;> exact absurd f z_) (λ_ _ f=>absurd f z_) (λ_ _ f=>absurd f z_) (λ_ _ f=>absurd f z_) (λ_ f=>absurd f z_) (λ_=>.nil) (λ_ _ a b f=>.cons (a (B_ .. ▸ f).1) (b (B_ .. ▸ f).2)) trivial (λ_ _ _ _=>trivial) d v r f
def Rds.flat(f:flatVs v=true)(r:Rds P h d v):Rds P' h' d v:=
 r.ind (M:=λds vs=>flatVs vs=true->Rds P' h' ds vs) (λ_=>.nil) (λr _ ih f=>by rw[flatVs,B_] at f;exact .cons (Rd.flat f.1 r) (ih f.2)) f
def Rk.flat(f:oY v=true)(r:Rk P h d v):Rk P' h' d v:=
 r.ind (M:=λds vs=>oY vs=true->Rk P' h' ds vs) (λ_=>.nil) (λr _ ih f=>by rw[oY,B_] at f;exact .cons (Rd.flat f.1 r) (ih f.2)) f
def Rc.flat(f:c5 v=true)(r:Rc P h o v):Rc P' h' o v:=by
 cases r with
 |lst r=>exact .lst (Rds.flat (by simpa [c5] using f) r)
 |fz r=>simp [c5] at f
 |dct r=>exact .dct (Rk.flat (by simpa [c5] using f) r)
 |set xs=>exact .set xs
end
theorem pY:∀{ts:List Tm}{k:Nat},ts[k]?=some (.bor i)->jS i ts=true
 | [],_,q=>by simp at q
 |
  t::ts,0,q=>by
  have:t=.bor i:=by simpa using q
  subst this;simp [jS]
 |
  t::ts,k+1,q=>by
  have:=pY (ts:=ts) (k:=k) (by simpa using q)
  cases t <;> simp [jS,this]
theorem wG:∀{ms:List Bool}{ts:List Tm}{k:Nat},ms[k]?=some true->ts[k]?=some (.bor i)->jR i ms ts=true
 | [],_,_,q,_=>by simp at q
 |_::_,[],_,_,q=>by simp at q
 |
  b::ms,t::ts,0,q1,q=>by
  have:t=.bor i:=by simpa using q
  have:b=true:=by simpa using q1
  subst_vars;simp [jR]
 |
  b::ms,t::ts,k+1,q1,q=>by
  have:=wG (ms:=ms) (ts:=ts) (k:=k) (by simpa using q1) (by simpa using q)
  cases b <;> cases t <;> simp [jR,this]
theorem mC:∀{ms:List Bool}{ts:List Tm}{k:Nat},okA e ms ts=true->ms[k]?=some true->∃i,ts[k]?=some (.bor i)/\∃u,(e[i]?).bind Sl.mv=some u
 | [],_,_,_,q=>by simp at q
 |b::ms,[],_,o,_=>by cases b <;> simp [okA] at o
 |
  b::ms,t::ts,0,o,q=>by
  have:b=true:=by simpa using q
  subst this;cases t with
  |bor i=>simp only[okA,B_] at o;exact⟨i,rfl,Pl.mp o.1.1⟩
  |_=>simp [okA] at o
 |
  b::ms,t::ts,k+1,o,q=>by
  have o':okA e ms ts=true:=by cases b <;> cases t <;> simp only[okA,B_] at o <;> first |exact o.2 |exact o |(simp at o;done)
  obtain⟨i,y⟩:=mC (k:=k) o' (by simpa using q);exact⟨i,by simpa using y⟩
theorem kr:∀{ms:List Bool}{ts:List Tm}{k j i:Nat},okA e ms ts=true->ms[k]?=some true->ts[k]?=some (.bor i)->ts[j]?=some (.bor i)->j=k
 | [],_,_,_,_,_,q,_,_=>by simp at q
 |b::ms,[],_,_,_,o,_,_,_=>by cases b <;> simp [okA] at o
 |b::ms,t::ts,0,0,i,o,q1,q2,q3=>rfl
 |
  b::ms,t::ts,0,j+1,i,o,q1,q2,q3=>by
  have h1:b=true:=by simpa using q1
  have h2:t=.bor i:=by simpa using q2
  subst h1 h2;simp only[okA,B_] at o
  have:=pY (i:=i) (ts:=ts) (k:=j) (by simpa using q3)
  rw[this] at o;simp at o
 |
  b::ms,t::ts,k+1,0,i,o,q1,q2,q3=>by
  have h2:t=.bor i:=by simpa using q3
  subst h2;have hm:=wG (i:=i) (ms:=ms) (ts:=ts) (k:=k) (by simpa using q1) (by simpa using q2);have hb:=pY (i:=i) (ts:=ts) (k:=k) (by simpa using q2);cases b <;> simp [okA,hm,hb] at o
 |
  b::ms,t::ts,k+1,j+1,i,o,q1,q2,q3=>by
  have o':okA e ms ts=true:=by cases b <;> cases t <;> simp only[okA,B_] at o <;> first |exact o.2 |exact o |(simp at o;done)
  exact O4 (· + 1) (kr (k:=k) (j:=j) (i:=i) o' (by simpa using q1) (by simpa using q2) (by simpa using q3))
theorem ir:∀{ms:List Bool}{ts:List Tm},okA e ms ts=true->ms.length=ts.length
 | [],[],_=>rfl
 | [],_::_,o=>by simp [okA] at o
 |b::ms,[],o=>by cases b <;> simp [okA] at o
 |
  b::ms,t::ts,o=>by
  have o':okA e ms ts=true:=by cases b <;> cases t <;> simp only[okA,B_] at o <;> first |exact o.2 |exact o |(simp at o;done)
  exact O4 (· + 1) (ir o')
theorem nG:∀{ms:List Bool}{ts:List Tm}{k i:Nat},ms[k]?=some false->ts[k]?=some (.bor i)->(∀v,e[i]?≠some (.sh v))->i∈bU e ms ts
 | [],_,_,_,q,_,_=>by simp at q
 |_::_,[],_,_,_,q,_=>by simp at q
 |
  b::ms,t::ts,0,i,q1,q2,hn=>by
  have h1:b=false:=by simpa using q1
  have h2:t=.bor i:=by simpa using q2
  subst h1 h2;unfold bU;split
  .rename_i v q;exact absurd q (hn v)
  .exact C_ ..
 |
  b::ms,t::ts,k+1,i,q1,q2,hn=>by
  have ih:=nG (ms:=ms) (ts:=ts) (k:=k) (by simpa using q1) (by simpa using q2) hn;cases b <;> cases t <;> simp only[bU] <;> first |exact ih |(split;exact ih;exact w_ _ ih)
def gq{ms:List Bool}{ts:List Tm}{k i:Nat}(q:(ck ms ts)[k]?=some (some i)):ms[k]?=some true/\ts[k]?=some (.bor i):=by
 unfold ck at q;rw[PL] at q;cases h1:ms[k]? with
 |none=>rw[h1] at q;cases q
 |
  some b=>
  cases h2:ts[k]? with
  |none=>rw[h1,h2] at q;cases q
  |some t=>rw[h1,h2] at q;have q':rb b t=some i:=OQ q;cases b <;> cases t <;> first |(cases q';done) |(cases q';exact⟨rfl,rfl⟩)
def FL{ms:List Bool}{ts:List Tm}{k i:Nat}(q1:ms[k]?=some true)(q2:ts[k]?=some (.bor i)):(ck ms ts)[k]?=some (some i):=by unfold ck;rw[PL,q1,q2];rfl
theorem w9:∀{ts:List Tm}{vs:List Val}{k:Nat}{v:Val},rss e ts=some vs->vs[k]?=some v->∃t,ts[k]?=some t/\rs e t=some v
 | [],_,_,_,q,q2=>by cases q;simp at q2
 |
  t::ts,vs,k,v,q,q2=>by
  unfold rss at q;split at q
  .rename_i u us e1 e2;cases q;cases k with
   |zero=>
    have:u=v:=by simpa using q2
    subst this;exact⟨t,rfl,e1⟩
   |succ k=>obtain⟨t',y1,y2⟩:=w9 (k:=k) e2 (by simpa using q2);exact⟨t',by simpa using y1,y2⟩
  .cases q
theorem kA:∀{ts:List Tm}{vs:List Val},rss e ts=some vs->vs.length=ts.length
 | [],_,q=>by cases q;rfl
 |
  t::ts,vs,q=>by
  unfold rss at q;split at q
  .rename_i u us e1 e2;cases q;exact O4 (· + 1) (kA e2)
  .cases q
theorem TsR.get:∀{ds:List D}{ts:List Tm}{k:Nat}{t:Tm},TsR X ns ae h ds ts->ts[k]?=some t->∃d,ds[k]?=some d/\((∃v,t=.val v/\Rd (Oc X ns) h d v)\/∃i,t=.bor i/\ae[i]?=some (some d))
 |_,_,_,_,.nil,q=>by simp at q
 |_,_,0,_,.val r rr,q=>by have:=(by simpa using q:Tm.val _=_);subst this;exact⟨_,rfl,.inl ⟨_,rfl,r⟩⟩
 |_,_,0,_,.bor r rr,q=>by have:=(by simpa using q:Tm.bor _=_);subst this;exact⟨_,rfl,.inr ⟨_,rfl,r⟩⟩
 |_,_,k+1,t,.val r rr,q=>by obtain⟨d,y⟩:=rr.get (k:=k) (by simpa using q);exact⟨d,by simpa using y⟩
 |_,_,k+1,t,.bor r rr,q=>by obtain⟨d,y⟩:=rr.get (k:=k) (by simpa using q);exact⟨d,by simpa using y⟩
def Xc(X:Nat->Prop)(ns:Ns)(e:E3)(ms:List Bool)(ts:List Tm)(n:Nat):Prop:=(X n\/some n∈ns)/\some n∉cV (ck ms ts) ns/\∀i∈bU e ms ts,ns[i]?≠some (some n)
def nJ(S:Sat X h0 ns e ae h)(rt:TsR X ns ae h ds ts)(qv:rss e ts=some vs)(ok:okA e ms ts=true):
 Sat (Xc X ns e ms ts) h.length (cV (ck ms ts) ns) (sls ms vs) (ds.map some) h:=by
 have l1:=ir ok;have l2:=kA qv;have l3:=TsR.len rt;have hs:pK (ck ms ts):=λj k i q1 q2=>kr ok (gq q2).1 (gq q2).2 (gq q1).2;have mv:Mov (Oc X ns) (Oc (Xc X ns e ms ts) (cV (ck ms ts) ns)) h h:=λn o p q=>⟨⟨λz=>by
  rcases z.1 with z |z
  .exact p.1 z
  .exact p.2 z,λz=>p.2 (nZ z)⟩,q⟩
 refine⟨?_,?_,y_ _,λn z=>?_,λj k n q1 q2=>?_,λj n q z=>z.2.1 (cq.mpr ⟨j,q⟩),λk s q=>?_⟩
 .unfold sls;rw[u_,P0];omega
 .unfold cV ck sls;rw[u_,P0,P0];omega
 .rcases z.1 with z |z
  .exact S.xl n z
  .obtain⟨i,z⟩:=cq.mp z;obtain⟨_,_,_,_,_,_,_,q',_⟩:=S.own z;exact dW q'
 .obtain⟨i,y1,y2⟩:=eA q1;obtain⟨i',y3,y4⟩:=eA q2
  have:=S.inj i i' n y2 y4
  subst this;exact hs j k i y1 y3
 .obtain⟨b,v,
   q1,q2,rfl⟩:=gy q
  obtain⟨t,q3,q4⟩:=w9 qv q2;obtain⟨d,q5,q6⟩:=rt.get q3;have qd:(ds.map some)[k]?=some (some d):=by rw[OW,q5];rfl
  rw[qd];have qn:(cV (ck ms ts) ns)[k]?=some ((rb b t).bind λi=>(ns[i]?).bind id):=by unfold cV ck;rw[OW,PL,q1,q3];rfl
  rw[qn];cases b with
  |
   true=>
   obtain⟨i,y1,u,y2⟩:=mC ok q1;rw[q3] at y1;cases y1;have q4':(e[i]?).bind Sl.val=some v:=q4;obtain⟨s,z1,z2⟩:=O9.mp y2;rw[z1] at q4';have hv:s.val=some v:=q4';have huv:u=v:=by cases s <;> first |cases z2;done |(cases z2;cases hv;rfl)
   subst huv;have hns:∃n,ns[i]?=some (some n):=by
    have y:=S.sl i s z1;cases s with
    |ow v=>obtain⟨n,o,y1,_⟩:=y;exact⟨n,y1⟩
    |mu v=>obtain⟨n,o,y1,_⟩:=y;exact⟨n,y1⟩
    |_=>cases z2
   obtain⟨n,hn⟩:=hns;obtain⟨n',o,k1,k2,k3,k4,_⟩:=S.write z1 z2;rcases q6 with ⟨_,z,_⟩ |⟨i',z,q6⟩
   .cases z
   .cases z;rw[q6] at k1;cases k1;obtain⟨_,_,_,_,_,_,w,_⟩:=S.own hn;rw[q6] at w;cases w;exact⟨n,o,by show some ((ns[i]?).bind id)=_;rw[hn];rfl,rfl,k2,k3,k4.mono mv⟩
  |
   false=>
   refine⟨by cases t <;> rfl,d,rfl,?_⟩;rcases q6 with ⟨u,rfl,q6⟩ |⟨i,rfl,q6⟩
   .cases q4;exact q6.mono mv
   .have q4':(
     e[i]?).bind Sl.val=some v:=q4
    rcases S.bor q6 q4' with z |⟨n,o,rfl,z1,z2⟩
    .exact z.mono mv
    .refine .cell ⟨λy=>?_,λy=>?_⟩ z1 (z2.mono mv)
     .
      by_cases hsh:∃w,e[i]?=some (.sh w)
      .obtain⟨w,hsh⟩:=hsh;obtain⟨_,x,w1,w2⟩:=S.sl i _ hsh;rw[q6] at w1;cases w1;cases w2 with
       |cell p _ _=>rcases y.1 with y |y;exact p.1 y;exact p.2 y
      .have hl:=nG q1 q3 λw z=>hsh ⟨w,z⟩;cases w:ns[i]? with
       |
        none=>
        have hi:i<e.length:=by
         cases z:e[i]? with
         |none=>rw[z] at q4';cases q4'
         |some _=>exact (x_.mp z).1
        rw[Pu,S.l2] at w;omega
       |
        some w'=>
        cases w' with
        |
         none=>
         cases z:e[i]? with
         |none=>rw[z] at q4';cases q4'
         |
          some s=>
          have k:=S.sl i s z;rw[w] at k;cases s with
          |no=>rw[z] at q4';cases q4'
          |sh w=>exact hsh ⟨w,z⟩
          |ow w=>obtain⟨_,_,k,_⟩:=k;cases k
          |lo w=>obtain⟨_,_,k,_⟩:=k;cases k
          |mu w=>obtain⟨_,_,k,_⟩:=k;cases k
          |lm w=>obtain⟨_,_,k,_⟩:=k;cases k
        |some n'=>obtain⟨_,_,_,_,_,_,w2,_⟩:=S.own w;rw[q6] at w2;cases w2;exact y.2.2 i hl w
     .obtain⟨j,y⟩:=cq.mp y;obtain⟨i',y1,y2⟩:=eA y;obtain⟨y3,y4⟩:=gq y1;obtain⟨_,_,_,_,_,_,w2,_⟩:=S.own y2;have:i'
       = i:=by
       cases w:ns[i]? with
       |
        none=>
        have hi:i<e.length:=by
         cases z:e[i]? with
         |none=>rw[z] at q4';cases q4'
         |some _=>exact (x_.mp z).1
        rw[Pu,S.l2] at w;omega
       |
        some w'=>
        cases w' with
        |some n'=>obtain⟨_,_,_,_,_,_,w3,_⟩:=S.own w;rw[q6] at w3;cases w3;exact S.inj i' i n y2 w
        |
         none=>
         cases z:e[i]? with
         |none=>rw[z] at q4';cases q4'
         |
          some s=>
          have k:=S.sl i s z;rw[w,q6] at k;cases s with
          |no=>rw[z] at q4';cases q4'
          |
           sh w=>
           obtain⟨_,x,k1,k2⟩:=k;cases k1;cases k2 with
           |cell p _ _=>exact (p.2 (cq.mpr ⟨i',y2⟩)).elim
          |ow w=>obtain⟨_,_,k,_⟩:=k;cases k
          |lo w=>obtain⟨_,_,k,_⟩:=k;cases k
          |mu w=>obtain⟨_,_,k,_⟩:=k;cases k
          |lm w=>obtain⟨_,_,k,_⟩:=k;cases k
      subst this
      have:=kr ok y3 y4 q3
      subst this;rw[q1] at y3;cases y3
theorem gw:∀{ms:List Bool}{mv:List Val}{j:Nat}{v:Val},(bN ms mv)[j]?=some (.mu v)->v∈mv
 | [],_,_,_,q=>by simp [bN] at q
 |true::ms,u::mv,0,v,q=>by
  have:Sl.mu u=.mu v:=by simpa [bN] using q
  cases this;exact C_ ..
 |true::ms,u::mv,j+1,v,q=>w_ _ (gw (ms:=ms) (mv:=mv) (j:=j) (by simpa [bN] using q))
 |true::ms,[],0,v,q=>by simp [bN] at q
 |true::ms,[],j+1,v,q=>gw (ms:=ms) (mv:=[]) (j:=j) (by simpa [bN] using q)
 |false::ms,mv,0,v,q=>by simp [bN] at q
 |false::ms,mv,j+1,v,q=>gw (ms:=ms) (mv:=mv) (j:=j) (by simpa [bN] using q)
theorem nY:∀{ms:List Bool}{ts:List Tm}{i:Nat},i∈bU e ms ts->∃k:Nat,ms[k]?=some false/\ts[k]?=some (.bor i)
 | [],_,_,q=>by simp [bU] at q
 |_::_,[],_,q=>by simp [bU] at q
 |
  b::ms,t::ts,i,q=>by
  have up:i∈bU e ms ts->∃k:Nat,(b::ms)[k]?=some false/\(t::ts)[k]?=some (.bor i):=λz=>by obtain⟨k,y1,y2⟩:=nY z;exact⟨k+1,by simpa using y1,by simpa using y2⟩
  cases b <;> cases t <;> simp only[bU] at q <;> first |exact up q |skip
  split at q
  .exact up q
  .rcases OP.mp q with rfl |q
   .exact⟨0,rfl,rfl⟩
   .exact up q
def F2(q:dk e (.bor i)=some (e1,v)):(∀j,j≠i->e1[j]?=e[j]?)/\e1[i]?=some (.sh v)/\(e[i]?).bind Sl.val=some v:=by
 unfold dk at q;dsimp only at q;split at q
 .rename_i u q1;cases q;exact⟨λ_ _=>rfl,q1,by rw[q1];rfl⟩
 .rename_i u q1;cases q;exact⟨λj z=>cK z,cZ (x_.mp q1).1,by rw[q1];rfl⟩
 .cases q
theorem vm:∀{is:List Nat}{ns:Ns}{e e2:E3},Sat X h0 ns e ae h->(∀i∈is,∃d,ae[i]?=some (some d))->qF e is=some e2->∃ns2,Sat X h0 ns2 e2 ae h/\Stp ns e h ns2 e2 h/\(∀i,i∉is->e2[i]?=e[i]?)/\(∀i∈is,∃v,e2[i]?=some (.sh v))/\∀i:Nat,(e2[i]?).bind Sl.val=(e[i]?).bind Sl.val
 | [],ns,e,e2,S,_,q=>by cases q;exact⟨ns,S,.refl,λ_ _=>rfl,(λ_ z=>by cases z),λ_=>rfl⟩
 |
  i::is,ns,e,e2,S,hd,q=>by
  unfold qF at q;split at q
  .rename_i e1 v q1;obtain⟨d,hd0⟩:=hd i (C_ ..);obtain⟨ns1,S1,a1,r1⟩:=gv (L:=0) (t:=.bor i) S hd0 q1;obtain⟨ns2,S2,a2,k1,k2,k3⟩:=vm S1 (λj z=>hd j (w_ _ z)) q;obtain⟨y1,y2,y3⟩:=F2 q1;refine⟨ns2,S2,a1.trans S a2,λj hj=>?_,λj hj=>?_,λj=>?_⟩
   .rw[OP,not_or] at hj;rw[k1 j hj.2,y1 j hj.1]
   .by_cases z:j∈is
    .exact k2 j z
    .rcases OP.mp hj with rfl |hj
     .exact⟨v,by rw[k1 j z];exact y2⟩
     .exact absurd hj z
   .rw[k3 j];by_cases z:j=i
    .subst z;rw[y2,y3];rfl
    .rw[y1 j z]
  .cases q
theorem rM:∀{ms:List Bool}{ts:List Tm},(∀(k i:Nat),ms[k]?=some true->ts[k]?=some (.bor i)->e2[i]?=e[i]?)->okA e ms ts=true->okA e2 ms ts=true
 | [],[],_,o=>rfl
 | [],_::_,_,o=>by simp [okA] at o
 |b::ms,[],_,o=>by cases b <;> simp [okA] at o
 |
  b::ms,t::ts,hk,o=>by
  have o':okA e ms ts=true:=by cases b <;> cases t <;> simp only[okA,B_] at o <;> first |exact o.2 |exact o |(simp at o;done)
  have ih:=rM (λk i q1 q2=>hk (k+1) i (by simpa using q1) (by simpa using q2)) o';cases b with
  |false=>cases t <;> simp only[okA,B_] at o ⊢ <;> first |exact⟨o.1,ih⟩ |exact ih
  |
   true=>
   cases t with
   |bor i=>simp only[okA,B_] at o ⊢;rw[hk 0 i rfl rfl];exact⟨o.1,ih⟩
   |_=>simp [okA] at o
theorem vO:∀{ms:List Bool}{ts:List Tm},(∀(k i:Nat),ms[k]?=some false->ts[k]?=some (.bor i)->∃v,e[i]?=some (.sh v))->bU e ms ts=[]
 | [],_,_=>by simp [bU]
 |_::_,[],_=>by simp [bU]
 |
  b::ms,t::ts,hk=>by
  have ih:=vO (λk i q1 q2=>hk (k+1) i (by simpa using q1) (by simpa using q2));cases b <;> cases t <;> simp only[bU] <;> first |exact ih |skip
  rename_i i;obtain⟨v,q⟩:=hk 0 i rfl rfl;rw[q];exact ih
theorem sC(hv:∀i:Nat,(e2[i]?).bind Sl.val=(e[i]?).bind Sl.val):∀(ts:List Tm),rss e2 ts=rss e ts
 | []=>rfl
 |
  t::ts=>by
  unfold rss;rw[sC hv ts];have:rs e2 t=rs e t:=by
   cases t with
   |bor i=>exact hv i
   |_=>rfl
  rw[this]
def nQ(ok:okA e ms ts=true):Lnk (ck ms ts) e (sls ms vs):=by
 refine⟨λj k i q1 q2=>kr ok (gq q2).1 (gq q2).2 (gq q1).2,λj v q=>?_,λj s q hm=>?_⟩
 .obtain⟨b,u,q1,_,q2⟩:=gy q;cases b with
  |false=>cases q2
  |true=>obtain⟨i,y1,w,y2⟩:=mC ok q1;obtain⟨s,z1,z2⟩:=O9.mp y2;exact⟨i,s,FL q1 y1,z1,by cases s <;> first |rfl |cases z2⟩
 .obtain⟨b,u,q1,_,q2⟩:=gy q;cases b with
  |false=>subst q2;cases hm
  |true=>exact⟨u,q2⟩
section
variable{X:Nat->Prop}{h0 L:Nat}{ns:Ns}{e:E3}{ae:AE}{h:AH}{ms:List Bool}{ts:List Tm}{ds:List D}{vs:List Val}{S2:Fn}{G3:Fn3}
def j6(Y:Nat->Prop)(hY:∀n,Y n->X n\/Y n)(hl:bU e ms ts=[])(z:¬ Xc X ns e ms ts n)(z2:some n∉cV (ck ms ts) ns):Oc X ns n:=by refine⟨λy=>z ⟨.inl y,z2,λi hi=>by rw[hl] at hi;cases hi⟩,λy=>z ⟨.inr y,z2,λi hi=>by rw[hl] at hi;cases hi⟩⟩
def og{B:Prop}(S:Sat X h0 ns e ae h)(ok:okA e ms ts=true)(a:Stp (cV (ck ms ts) ns) (sls ms vs) h (cV (ck ms ts) ns) (bN ms mv) h')(hf:bU e ms ts=[]\/(B/\mv.all c5=true))(z2:h.length<=n)(z4:h'[n]?=some o)(S3:Sat (Xn (Xc X ns e ms ts) n) h.length (cV (ck ms ts) ns) (bN ms mv) (ds.map some) h'):
 Sat (Xn X n) h0 ns (bT (ck ms ts) (bN ms mv) e) ae h'/\Stp ns e h ns (bT (ck ms ts) (bN ms mv) e) h'/\(bU e ms ts=[]->∀m,Oc (Xn (Xc X ns e ms ts) n) (cV (ck ms ts) ns) m->Oc (Xn X n) ns m):=by
 have K:=nQ (vs:=vs) ok;have kk:bU e ms ts=[]->∀m,Oc (Xn (Xc X ns e ms ts) n) (cV (ck ms ts) ns) m->Oc (Xn X n) ns m:=λhf m z=>by
  have:=j6 X (λ_ z=>.inl z) hf (λy=>z.1 (.inl y)) z.2
  exact⟨λy=>by
   rcases y with y |y
   .exact this.1 y
   .exact z.1 (.inr y),this.2⟩
 obtain⟨S4,a4⟩:=S.back (Y:=Xn X n) K a (λm z=>by
  rcases z with z |rfl
  .exact⟨K_ (S.xl m z) a.len,.inl z⟩
  .exact⟨dW z4,.inr z2⟩) (λ_ z=>.inl z) λj w n' q1 q2=>by
  obtain⟨s,u,o,b1,b2,b3,b4,b5,b6,b7⟩:=S3.own q2;rw[q1] at b1;cases b1;cases b3;rcases hf with hf |hf
  .exact⟨o,b5,b6,b7.mono λm o' z y=>⟨kk hf m z,y⟩⟩
  .exact⟨o,b5,b6,b7.flat (L_.mp hf.2 w (gw q1))⟩
 exact⟨S4,a4,kk⟩
def xj(S:Sat X h0 ns e ae h)(hL:L<=h.length)(rt:TsR X ns ae h ds ts)(qv:rss e ts=some vs)(ok:okA e ms ts=true)(hG:RF ms S2 G3)(q:G3 vs=.ok r mv)(hf:bU e ms ts=[]\/(gL r=true/\mv.all c5=true)):
 Po X h0 ns e ae h (relE X h0 L ae) (S2 ds h) (.ok (r.tm ts) (bT (ck ms ts) (bN ms mv) e)):=by
 have p:=hG _ _ ds vs h (by rw[kA qv,ir ok]) (nJ S rt qv ok);rw[q] at p;obtain⟨d,h',p1,a,rr⟩:=p;have K:=nQ (vs:=vs) ok;have xcl:∀n,X n->n<h.length:=S.xl;cases r with
 |
  val v=>
  obtain⟨S3,rv⟩:=rr;obtain⟨S4,a4⟩:=S.back (Y:=X) K a (λn z=>⟨K_ (xcl n z) a.len,.inl z⟩) (λ_ z=>z) λj w n q1 q2=>by
   obtain⟨s,u,o,b1,b2,b3,b4,b5,b6,b7⟩:=S3.own q2;rw[q1] at b1;cases b1;cases b3;rcases hf with hf |hf
   .exact⟨o,b5,b6,b7.mono λm o' z y=>⟨j6 X (λ_ z=>.inl z) hf z.1 z.2,y⟩⟩
   .exact⟨o,b5,b6,b7.flat (L_.mp hf.2 w (gw q1))⟩
  refine⟨d,h',ns,p1,a4,S4,?_⟩;rcases hf with hf |hf
  .exact rv.mono λm o' z y=>⟨j6 X (λ_ z=>.inl z) hf z.1 z.2,y⟩
  .exact rv.flat hf.1
 |
  new v=>
  obtain⟨n,o,z1,z2,z3,z4,z5,S3,z7⟩:=rr;obtain⟨S4,a4,r4⟩:=og S ok a hf z2 z4 S3;refine⟨d,h',ns,p1,a4,S4.weak λ_ z=>.inl z,n,o,z1,G_ hL z2,λy=>by have:=xcl n y;omega,z4,z5,S4,?_⟩;rcases hf with hf |hf
  .exact z7.mono λm o' z y=>⟨r4 hf m z,y⟩
  .exact z7.flat hf.1
 |
  pr v u=>
  obtain⟨d1,n,o,rfl,z2,z3,z4,z5,S3,z6,z7⟩:=rr;obtain⟨S4,a4,r4⟩:=og S ok a hf z2 z4 S3;have on:Oc X ns n:=⟨λy=>by have:=xcl n y;omega,λy=>by obtain⟨i,y⟩:=cq.mp y;exact S4.nx i n y (.inr rfl)⟩;have wk:Mov (Oc (Xn X n) ns) (Oc X ns) h' h':=λm o' z y=>⟨⟨λc=>z.1 (.inl c),z.2⟩,y⟩;refine⟨_,h',ns,p1,a4,S4.weak λ_ z=>.inl z,.tup (.cons ?_ (.cons (.cell on z4 ?_) .nil))⟩
  .rcases hf with hf |hf
   .exact (z6.mono λm o' z y=>⟨r4 hf m z,y⟩).mono wk
   .exact z6.flat (B_ _ _ ▸ hf.1).1
  .rcases hf with hf |hf
   .exact (z7.mono λm o' z y=>⟨r4 hf m z,y⟩).mono wk
   .exact z7.flat (B_ _ _ ▸ hf.1).2
 |
  par i=>
  obtain⟨S3,w1,w,w2⟩:=rr;obtain⟨S4,a4⟩:=S.back (Y:=X) K a (λn z=>⟨K_ (xcl n z) a.len,.inl z⟩) (λ_ z=>z) λj w n q1 q2=>by
   obtain⟨s,u,o,b1,b2,b3,b4,b5,b6,b7⟩:=S3.own q2;rw[q1] at b1;cases b1;cases b3;rcases hf with hf |hf
   .exact⟨o,b5,b6,b7.mono λm o' z y=>⟨j6 X (λ_ z=>.inl z) hf z.1 z.2,y⟩⟩
   .exact⟨o,b5,b6,b7.flat (L_.mp hf.2 w (gw q1))⟩
  refine⟨d,h',ns,p1,a4,S4,?_⟩;obtain⟨u,x1,_⟩:=a.mu i w w2;obtain⟨b,u',x2,_,x3⟩:=gy x1;cases b with
  |false=>cases x3
  |
   true=>
   obtain⟨k,y1,_⟩:=mC ok x2;obtain⟨d',y2,z⟩:=rt.get y1;have e1:(Rt.par i).tm ts=.bor k:=by show (ts[i]?).getD _=_;rw[y1];rfl
   rw[e1];rcases z with ⟨_,z,_⟩ |⟨j,z,z2⟩
   .cases z
   .cases z;rw[OW,y2] at w1;cases w1;exact z2
def BK(S:Sat X h0 ns e ae h)(rt:TsR X ns ae h ds ts)(qv:rss e ts=some vs)(ok:okA e ms ts=true)(hG:RF ms S2 G3)(q:G3 vs=.exc c mv)(hf:bU e ms ts=[]\/mv.all c5=true):
 Po X h0 ns e ae h (relE X h0 L ae) (S2 ds h) (.exc c (bT (ck ms ts) (bN ms mv) e)):=by
 have p:=hG _ _ ds vs h (by rw[kA qv,ir ok]) (nJ S rt qv ok);rw[q] at p;obtain⟨h',p1,a,S3⟩:=p;have K:=nQ (vs:=vs) ok;obtain⟨S4,a4⟩:=S.back (Y:=X) K a (λn z=>⟨K_ (S.xl n z) a.len,.inl z⟩) (λ_ z=>z) λj w n q1 q2=>by
  obtain⟨s,u,o,b1,b2,b3,b4,b5,b6,b7⟩:=S3.own q2;rw[q1] at b1;cases b1;cases b3;rcases hf with hf |hf
  .exact⟨o,b5,b6,b7.mono λm o' z y=>⟨j6 X (λ_ z=>.inl z) hf z.1 z.2,y⟩⟩
  .exact⟨o,b5,b6,b7.flat (L_.mp hf w (gw q1))⟩
 exact⟨h',ns,p1,a4,S4⟩
def GO(hn:n=ms.length)(hG:RF ms S2 G3)(hA:RA A A3):RE (tq n S2 A) (DZ ms G3 A3):=λX h0 L ns e ae h S hl=>
 Po.bind
  S (hA X h0 ns e ae h S) λds ts h1 ns1 e1 a1 S1 r1=>by
  try dsimp only
  cases qv:rss e1 ts with
  |none=>trivial
  |
   some vs=>
   dsimp only;by_cases ok:okA e1 ms ts=true
   .rw[if_pos ok];have c_:ds.length=n:=by rw[hn,ir ok];exact TsR.len r1
    rw[if_pos c_];have hL:L<=h1.length:=G_ hl a1.len;cases q:G3 vs with
    |stuck=>trivial
    |
     exc c mv=>
     dsimp only;by_cases hf:((bU e1 ms ts).isEmpty || mv.all c5)=true
     .rw[if_pos hf];refine BK S1 r1 qv ok hG q ?_;rw[Bool.or_eq_true] at hf;rcases hf with hf |hf
      .exact .inl (List.isEmpty_iff.mp hf)
      .exact .inr hf
     .rw[if_neg hf];trivial
    |
     ok r mv=>
     dsimp only;by_cases hf:((bU e1 ms ts).isEmpty || (gL r&&mv.all c5))=true
     .rw[if_pos hf];refine xj S1 hL r1 qv ok hG q ?_;rw[Bool.or_eq_true,B_] at hf;rcases hf with hf |hf
      .exact .inl (List.isEmpty_iff.mp hf)
      .exact .inr hf
     .rw[if_neg hf];cases qd:qF e1 (bU e1 ms ts) with
      |none=>trivial
      |
       some e2=>
       dsimp only;obtain⟨ns2,S2',a2,k1,k2,k3⟩:=vm S1 (λi hi=>by
        obtain⟨k,_,y⟩:=nY hi;obtain⟨d,_,z⟩:=r1.get y;rcases z with ⟨_,z,_⟩ |⟨j,z,z2⟩
        .cases z
        .cases z;exact⟨d,z2⟩) qd
       have ok2:okA e2 ms ts=true:=rM (λk i q1 q2=>k1 i λz=>by
        obtain⟨k',y1,y2⟩:=nY z
        have:=kr ok q1 q2 y2
        subst this;rw[q1] at y1;cases y1) ok
       have ln:bU e2 ms ts=[]:=vO λk i q1 q2=>by
        by_cases z:i∈bU e1 ms ts
        .exact k2 i z
        .rw[k1 i z];exact Qg λw=>z (nG q1 q2 λv y=>w ⟨v,y⟩)
       have pp:=xj (L:=L) S2' hL (r1.stp S1 a2) (by rw[sC k3];exact qv) ok2 hG q (.inl ln);obtain⟨d,h',ns',y,y1,y2,y3⟩:=pp;exact⟨d,h',ns',y,a2.trans S1 y1,y2,y3⟩
   .rw[if_neg ok];trivial
end
noncomputable def aI(f:Int->Int->Val):Val->Val->Bv:=λx y=>match x,y with
 |.int i,.int j=>.val (f i j)
 |_,_=>.stuck
open Classical in
def aIc(C:Int->Int->Prop)(f:Int->Int->Val):Val->Val->Bv:=λx y=>match x,y with
 |.int i,.int j=>if C i j then .val (f i j) else .stuck
 |_,_=>.stuck
noncomputable def x8:Val->Val->Bv:=λx y=>match x,y with
 |.lst xs,.lst ys=>if xs.length+ys.length<=16777216 then .new (.lst (xs++ys)) else .stuck
 |.tup xs,.tup ys=>if xs.length+ys.length<=16777216 then .val (.tup (xs++ys)) else .stuck
 |_,_=>.stuck
noncomputable def Dl:Val->Val->Bv:=λx y=>match x,y with
 |.int i,.int j=>.val (.int (i+j))
 |x,y=>x8 x y
noncomputable def aMin:=aI λi j=>.int (i-j)
def zk:=aIc CMulA λi j=>.int (i*j)
def yf:=aIc CDivB λi j=>.int (i.fdiv j)
def yI:=aIc (λ_ j=>j≠0) λi j=>.int (i.fmod j)
def yg:=aIc i0 λi j=>.int (i^j.toNat)
def xZ:=aIc i0 λi j=>.int (i*2^j.toNat)
noncomputable def aLt:=aI λi j=>.bl (decide (i<j))
def aLe:=aI λi j=>.bl (decide (i<=j))
noncomputable def aGt:=aI λi j=>.bl (decide (j<i))
noncomputable def aGe:=aI λi j=>.bl (decide (j<=i))
noncomputable def Cj:Val->Bv:=λx=>match x with
 |.int i=>.val (.int (-i))
 |_=>.stuck
noncomputable def aIx:Val->Val->Bv:=λx y=>match x.items,y with
 |some xs,.int i=>(match atI xs i with
  |some v=>.val v
  |none=>.stuck)
 |_,_=>.stuck
section
def qt(hr:∀i j P h,Rd P h (f2 i j) (f3 i j)):RO (gI f2) (aI f3):=λP h d1 d2 v1 v2 r1 r2=>by
 unfold aI;split
 .obtain rfl:=r1.int;obtain rfl:=r2.int;exact⟨_,rfl,hr _ _ P h⟩
 .trivial
def pP(hr:∀i j P h,Rd P h (f2 i j) (f3 i j)):RO (gIc C f2) (aIc C f3):=λP h d1 d2 v1 v2 r1 r2=>by
 unfold aIc;split
 .obtain rfl:=r1.int;obtain rfl:=r2.int;split
  .rename_i hc;exact⟨_,by unfold gIc;dsimp only;rw[if_pos hc],hr _ _ P h⟩
  .trivial
 .trivial
def Lg:RO nT x8:=λP h d1 d2 v1 v2 r1 r2=>by
 unfold x8;split
 .obtain⟨n,ds,rfl,e1,_,q1⟩:=r1.lst;obtain⟨m,es,rfl,e2,_,q2⟩:=r2.lst;split
  .rename_i hl;exact⟨.lst (ds++es),by unfold nT;dsimp only;rw[e1,e2];dsimp only;rw[if_pos (by rw[q1.len,q2.len];exact hl)],trivial,.lst (q1.append q2)⟩
  .trivial
 .obtain⟨ds,rfl,q1⟩:=r1.tup;obtain⟨es,rfl,q2⟩:=r2.tup;split
  .rename_i hl;exact⟨_,by unfold nT;dsimp only;rw[if_pos (by rw[q1.len,q2.len];exact hl)],.tup (q1.append q2)⟩
  .trivial
 .trivial
def K7:RO zw Dl:=λP h d1 d2 v1 v2 r1 r2=>by
 unfold Dl;split
 .obtain rfl:=r1.int;obtain rfl:=r2.int;exact⟨_,rfl,.int _⟩
 .rename_i hn;have k:=Lg P h d1 d2 v1 v2 r1 r2;have e:zw d1 d2 h=nT d1 d2 h\/x8 v1 v2=.stuck:=by
   cases v1 <;> first |(right;rfl) |(left;skip)
   .obtain⟨ds,rfl,_⟩:=r1.tup;rfl
   .obtain⟨n,ds,rfl,_⟩:=r1.lst;rfl
  rcases e with e |e
  .rw[e];exact k
  .rw[e];trivial
def IC:RO DQ aMin:=qt λ_ _ _ _=>.int _
def Lf:RO B5 zk:=pP λ_ _ _ _=>.int _
def Hi:RO CM yf:=pP λ_ _ _ _=>.int _
def JV:RO DK yI:=pP λ_ _ _ _=>.int _
def KR:RO CC yg:=pP λ_ _ _ _=>.int _
def IG:RO Dm xZ:=pP λ_ _ _ _=>.int _
def M8:RO gLt aLt:=qt λ_ _ _ _=>.bl _
def Of:RO gLe aLe:=qt λ_ _ _ _=>.bl _
def N1:RO gGt aGt:=qt λ_ _ _ _=>.bl _
def Oa:RO gGe aGe:=qt λ_ _ _ _=>.bl _
def HF:RU yr Cj:=λP h d v r=>by
 unfold Cj;split
 .obtain rfl:=r.int;exact⟨_,rfl,.int _⟩
 .trivial
def NA(r:Rds P h ds vs)(e:atI vs i=some v):∃d,atI ds i=some d/\Rd P h d v:=by
 unfold atI at e ⊢;rw[r.len];cases q:ixN vs.length i with
 |none=>rw[q] at e;cases e
 |some j=>rw[q] at e;exact r.get e
def NQ:RO gIx aIx:=λP h d1 d2 v1 v2 r1 r2=>by
 unfold aIx;split
 .rename_i xs i e1;obtain⟨ds,e2,q⟩:=r1.items e1;obtain rfl:=r2.int;split
  .rename_i v e3;obtain⟨d,e4,q2⟩:=NA q e3;exact⟨d,by unfold gIx;rw[e2];dsimp only;rw[e4],q2⟩
  .trivial
 .trivial
end
mutual
def eD:Nat->Val->Option PyData
 |0,_=>none
 |_+1,.non=>some .none
 |_+1,.bl b=>some (.bool b)
 |_+1,.int i=>some (.int i)
 |_+1,.str x=>some (.str x)
 |k+1,.tup xs=>(gf k xs).map .tuple
 |k+1,.lst xs=>(gf k xs).map .list
 |_+1,_=>none
def gf:Nat->List Val->Option (List PyData)
 |_,[]=>some []
 |k,x::xs=>match eD k x,gf k xs with
  |some a,some b=>some (a::b)
  |_,_=>none
end
def DR(hk:∀d v pd,Rd P h d v->eD k v=some pd->fM k h d=some pd):∀{ds:List D}{vs:List Val}{ps:List PyData},Rds P h ds vs->gf k vs=some ps->ds.mapM (fM k h)=some ps:=by
 intro ds;induction ds with
 |nil=>intro vs ps r q;cases r;unfold gf at q;cases q;rfl
 |
  cons d0 ds ih=>
  intro vs ps r q;cases r with
  |
   cons r rr=>
   unfold gf at q;split at q
   .rename_i a b e1 e2;cases q;rw[P_,hk _ _ _ r e1,ih rr e2];rfl
   .cases q
theorem ka:∀(k:Nat) (d:D) (v:Val) (pd:PyData),ShR P h d v->eD k v=some pd->fM k h d=some pd
 |0,_,_,_,_,q=>by unfold eD at q;cases q
 |
  k+1,d,v,pd,r,q=>by
  have ih:∀{ds:List D}{vs:List Val}{ps:List PyData},Rds P h ds vs->gf k vs=some ps->ds.mapM (fM k h)=some ps:=DR λd v pd r q=>ka k d v pd (.inl r) q;cases v with
  |non=>obtain rfl:=r.non;simp only[eD] at q;cases q;rfl
  |bl b=>obtain rfl:=r.bl;simp only[eD] at q;cases q;rfl
  |int b=>obtain rfl:=r.int;simp only[eD] at q;cases q;rfl
  |str b=>obtain rfl:=r.str;simp only[eD] at q;cases q;rfl
  |tup xs=>obtain⟨ds,rfl,r2⟩:=r.tup;simp only[eD] at q;obtain⟨ps,q1,rfl⟩:=OV.mp q;show (ds.mapM (fM k h)).map PyData.tuple=_;rw[ih r2 q1];rfl
  |lst xs=>obtain⟨n,ds,rfl,_,e1,r2⟩:=r.lst;simp only[eD] at q;obtain⟨ps,q1,rfl⟩:=OV.mp q;unfold fM;rw[e1];show (ds.mapM (fM k h)).map PyData.list=_;rw[ih r2 q1];rfl
  |_=>simp only[eD] at q;cases q
noncomputable def dg(x y:Val):Option Bool:=match eD 164 x,eD 164 y with
 |some a,some b=>if shp a=true/\shp b=true then some (PyData.eqv a b) else none
 |_,_=>none
noncomputable def aEq(g_:Bool):Val->Val->Bv:=λx y=>match dg x y with
 |some b=>.val (.bl (if g_ then !b else b))
 |none=>.stuck
def JR(r1:ShR P h d1 v1)(r2:ShR P h d2 v2)(q:dg v1 v2=some b):vU h d1 d2=some b:=by
 unfold dg at q;split at q
 .rename_i a c e1 e2;unfold vU;rw[ka 164 _ _ _ r1 e1,ka 164 _ _ _ r2 e2];exact q
 .cases q
def Ek(g_:Bool):RO (gEq g_) (aEq g_):=λP h d1 d2 v1 v2 r1 r2=>by
 unfold aEq;split
 .rename_i b q;exact⟨_,by unfold gEq;rw[JR r1 r2 q],.bl _⟩
 .trivial
noncomputable def o8:Val->Bool
 |.non=>true
 |.bl _=>true
 |.int _=>true
 |.str _=>true
 |_=>false
noncomputable def xR:Val->V
 |.bl b=>.bl b
 |.int i=>.int i
 |.str x=>.str x
 |_=>.non
noncomputable def eq1(x y:Val):Bool:=eqV (xR x) (xR y)
noncomputable def aIn(g_:Bool):Val->Val->Bv:=λx y=>match y.items with
 |some xs=>if o8 x=true/\xs.all o8=true then .val (.bl (if g_ then !(xs.any λd=>eq1 d x) else xs.any λd=>eq1 d x)) else .stuck
 |none=>.stuck
def wB(r:ShR P h d v)(f:o8 v=true):mJ d=true/\toV d=xR v:=by
 cases v with
 |non=>obtain rfl:=r.non;exact⟨rfl,rfl⟩
 |bl b=>obtain rfl:=r.bl;exact⟨rfl,rfl⟩
 |int b=>obtain rfl:=r.int;exact⟨rfl,rfl⟩
 |str b=>obtain rfl:=r.str;exact⟨rfl,rfl⟩
 |_=>cases f
def CI(x:D)(y:Val)(hx:toV x=xR y):∀{ds:List D}{vs:List Val},Rds P h ds vs->vs.all o8=true->ds.all mJ=true/\(ds.any λd=>eqF d x)=vs.any λd=>eq1 d y:=by
 intro ds;induction ds with
 |nil=>intro vs r f;cases r;exact⟨rfl,rfl⟩
 |
  cons d0 ds ih=>
  intro vs r f;cases r with
  |cons r rr=>rw[Pm,B_] at f;obtain⟨h1,h2⟩:=wB (.inl r) f.1;obtain⟨h3,h4⟩:=ih rr f.2;refine⟨by rw[Pm,h1,h3];rfl,?_⟩;rw[Pt,Pt,h4];unfold eqF eq1;rw[h2,hx]
def Eb(g_:Bool):RO (gIn g_) (aIn g_):=λP h d1 d2 v1 v2 r1 r2=>by
 unfold aIn;split
 .rename_i xs e;obtain⟨ds,e2,q⟩:=r2.items e;split
  .rename_i hf;obtain⟨f1,f2⟩:=wB r1 hf.1;obtain⟨f3,f4⟩:=CI d1 v1 f2 q hf.2;exact⟨_,by unfold gIn;rw[e2];dsimp only;rw[if_pos ⟨f1,f3⟩,f4],.bl _⟩
  .trivial
 .trivial
noncomputable def xX(g_:Bool):Val->Val->Bv:=λx y=>match x,y with
 |.non,.non=>.val (.bl (!g_))
 |_,.non=>.val (.bl g_)
 |_,_=>.stuck
def An(g_:Bool):RO (l8 g_) (xX g_):=λP h d1 d2 v1 v2 r1 r2=>by
 unfold xX;split
 .obtain rfl:=r1.non;obtain rfl:=r2.non;exact⟨_,rfl,.bl _⟩
 .rename_i hn;obtain rfl:=r2.non;have:d1 ≠ .non:=by
   rintro rfl;rcases r1 with r |⟨n,o,z,_⟩
   .cases r;exact hn rfl
   .cases z
  refine⟨_,?_,.bl g_⟩;unfold l8;split
  .exact absurd rfl this
  .rfl
  .rename_i h1 h2;exact (h1 rfl).elim
 .trivial
noncomputable def CS:List Val->Bv:=λvs=>match vs with
 | [v]=>(match v.items with
  |some xs=>.val (.int xs.length)
  |none=>(match v with
   |.str z=>if z.length<=16777216 then .val (.int z.length) else .stuck
   |_=>.stuck))
 |_=>.stuck
noncomputable def BG:List Val->Bv:=λvs=>match vs with
 | [.int i]=>.val (.int (if i<0 then -i else i))
 |_=>.stuck
noncomputable def mq:List Val->Option (List Bool)
 | []=>some []
 |.bl b::r=>(mq r).map (b :: ·)
 |_=>none
noncomputable def kX:List Val->Option (List Int)
 | []=>some []
 |.int b::r=>(kX r).map (b :: ·)
 |_=>none
noncomputable def Ci:List Val->Bv:=λvs=>match vs with
 | [.lst xs]=>(match mq xs with
  |some bs=>.val (.bl (bs.all id))
  |none=>.stuck)
 |_=>.stuck
noncomputable def BP:List Val->Bv:=λvs=>match vs with
 | [.lst xs]=>(match kX xs with
  |some bs=>.val (.int bs.sum)
  |none=>.stuck)
 |_=>.stuck
noncomputable def xI:List Val->Bv:=λvs=>match vs with
 | [v]=>(match v.items with
  |some xs=>.new (.lst xs)
  |none=>.stuck)
 |_=>.stuck
def vh:List Val->Bv:=λvs=>match vs with
 | [v]=>(match v.items with
  |some xs=>.val (.tup xs)
  |none=>.stuck)
 |_=>.stuck
def JC:RFn vc CS:=λP h ds vs r=>by
 unfold CS;split
 .obtain⟨d,hd,rr1⟩:=jy r;subst hd;clear r;have r:=rr1;split
  .rename_i xs e;obtain⟨es,e2,q⟩:=r.items e;exact⟨_,by unfold vc;dsimp only;rw[e2],by rw[<- q.len];exact .int _⟩
  .split
   .rename_i z _;obtain rfl:=r.str;split
    .rename_i hl;exact⟨_,by show (if z.length<=16777216 then _ else _)=_;rw[if_pos hl],.int _⟩
    .trivial
   .trivial
 .trivial
def HX:RFn yG BG:=λP h ds vs r=>by
 unfold BG;split
 .obtain⟨d,hd,rr1⟩:=jy r;subst hd;clear r;have r:=rr1;obtain rfl:=r.int;exact⟨_,rfl,.int _⟩
 .trivial
def Mr:∀{ds:List D}{vs:List Val}{bs:List Bool},Rds P h ds vs->mq vs=some bs->jG ds=some bs:=by
 intro ds;induction ds with
 |nil=>intro vs bs r q;cases r;cases q;rfl
 |
  cons d0 ds ih=>
  intro vs bs r q;cases r with
  |
   cons r rr=>
   rename_i v vs;cases v with
   |bl b=>obtain rfl:=ShR.bl (.inl r);obtain⟨b',q1,rfl⟩:=OV.mp (show (mq vs).map (b :: ·)=some bs from q);show (jG _).map (b :: ·)=_;rw[ih rr q1];rfl
   |_=>cases q
def Ke:∀{ds:List D}{vs:List Val}{bs:List Int},Rds P h ds vs->kX vs=some bs->iQ ds=some bs:=by
 intro ds;induction ds with
 |nil=>intro vs bs r q;cases r;cases q;rfl
 |
  cons d0 ds ih=>
  intro vs bs r q;cases r with
  |
   cons r rr=>
   rename_i v vs;cases v with
   |int b=>obtain rfl:=ShR.int (.inl r);obtain⟨b',q1,rfl⟩:=OV.mp (show (kX vs).map (b :: ·)=some bs from q);show (iQ _).map (b :: ·)=_;rw[ih rr q1];rfl
   |_=>cases q
def Lx:RFn tV Ci:=λP h ds vs r=>by
 unfold Ci;split
 .obtain⟨d,hd,rr1⟩:=jy r;subst hd;clear r;have r:=rr1;obtain⟨n,es,rfl,_,e1,q⟩:=r.lst;split
  .rename_i bs e2;exact⟨_,by unfold tV;dsimp only;rw[e1];show (match jG es with |some bs=>_ |none=>_)=_;rw[Mr q e2],.bl _⟩
  .trivial
 .trivial
def Hm:RFn vP BP:=λP h ds vs r=>by
 unfold BP;split
 .obtain⟨d,hd,rr1⟩:=jy r;subst hd;clear r;have r:=rr1;obtain⟨n,es,rfl,_,e1,q⟩:=r.lst;split
  .rename_i bs e2;exact⟨_,by unfold vP;dsimp only;rw[e1];show (match iQ es with |some bs=>_ |none=>_)=_;rw[Ke q e2],.int _⟩
  .trivial
 .trivial
def Fz:RFn pH xI:=λP h ds vs r=>by
 unfold xI;split
 .obtain⟨d,hd,rr1⟩:=jy r;subst hd;clear r;have r:=rr1;split
  .rename_i xs e;obtain⟨es,e2,q⟩:=r.items e;exact⟨.lst es,by unfold pH;dsimp only;rw[e2],trivial,.lst q⟩
  .trivial
 .trivial
def BM:RFn mm vh:=λP h ds vs r=>by
 unfold vh;split
 .obtain⟨d,hd,rr1⟩:=jy r;subst hd;clear r;have r:=rr1;split
  .rename_i xs e;obtain⟨es,e2,q⟩:=r.items e;exact⟨_,by unfold mm;dsimp only;rw[e2],.tup q⟩
  .trivial
 .trivial
noncomputable def tyC:Val->Option Cl
 |.non=>some (.b "NoneType")
 |.bl _=>some (.b "bool")
 |.int _=>some (.b "int")
 |.str _=>some (.b "str")
 |.tup _=>some (.b "tuple")
 |.exc x=>some (.o x)
 |.lst _=>some (.b "list")
 |.dct _=>some (.b "dict")
 |_=>none
noncomputable def clV:Val->Option Cl
 |.ty n=>some (.b n)
 |.glb x=>some (.o x)
 |_=>none
noncomputable def xV:List Val->Option (List Cl)
 | []=>some []
 |v::vs=>match clV v,xV vs with
  |some c,some cs=>some (c::cs)
  |_,_=>none
noncomputable def Ml:Val->Option (List Cl)
 |.tup cs=>xV cs
 |v=>(clV v).map ([·])
noncomputable def Bp(kt:kZ):List Val->Bv:=λvs=>match vs with
 | [v,c]=>(match tyC v,Ml c with
  |some t,some (c0::cr)=>(match iA kt t (c0::cr),kit kt t c0 with
   |some b,some _=>.val (.bl b)
   |_,_=>.stuck)
  |_,_=>.stuck)
 |_=>.stuck
def MX(r:ShR P h d v)(q:tyC v=some t):tyD h d=some t:=by
 cases v with
 |non=>obtain rfl:=r.non;exact q
 |bl b=>obtain rfl:=r.bl;exact q
 |int b=>obtain rfl:=r.int;exact q
 |str b=>obtain rfl:=r.str;exact q
 |exc b=>obtain rfl:=r.exc;exact q
 |tup b=>obtain⟨ds,rfl,_⟩:=r.tup;exact q
 |lst b=>obtain⟨n,ds,rfl,e,_⟩:=r.lst;unfold tyD;dsimp only;rw[e];exact q
 |dct b=>obtain⟨n,ds,rfl,e,_⟩:=r.dct;unfold tyD;dsimp only;rw[e];exact q
 |_=>cases q
def Es(r:ShR P h d v)(q:clV v=some c):clD d=some c:=by
 cases v with
 |ty b=>obtain rfl:=r.ty;exact q
 |glb b=>obtain rfl:=r.glb;exact q
 |_=>cases q
def IL:∀{ds:List D}{vs:List Val}{cs:List Cl},Rds P h ds vs->xV vs=some cs->ds.mapM clD=some cs:=by
 intro ds;induction ds with
 |nil=>intro vs cs r q;cases r;cases q;rfl
 |
  cons d0 ds ih=>
  intro vs cs r q;cases r with
  |
   cons r rr=>
   unfold xV at q;split at q
   .rename_i c cs' e1 e2;cases q;rw[P_,Es (.inl r) e1,ih rr e2];rfl
   .cases q
def Jk(kt:kZ):RFn (uN kt) (Bp kt):=λP h ds vs r=>by
 unfold Bp;split
 .rename_i v c;obtain⟨d,d',rfl,r1,r2⟩:=Eh r;split
  .rename_i t c0 cr e1 e2;have e3:=MX r1 e1;split
   .rename_i b b' e4 e5;refine⟨.bl b,?_,.bl b⟩;unfold uN;dsimp only;rw[e3];dsimp only;by_cases ht:∃cs,c=.tup cs
    .obtain⟨cs,rfl⟩:=ht;obtain⟨es,rfl,q⟩:=r2.tup;dsimp only;rw[IL q e2];dsimp only;rw[e4,e5]
    .have e2':(clV c).map ([·])=some (c0::cr):=by
      cases c with
      |tup cs=>exact absurd ⟨cs,rfl⟩ ht
      |_=>exact e2
     obtain⟨cl,y1,y2⟩:=OV.mp e2';cases y2;have y3:=Es r2 y1;have hd:∀cs,d' ≠ .tup cs:=λcs z=>by subst z;cases y3
     split
     .rename_i cs;exact absurd rfl (hd cs)
     .rw[y3];dsimp only;have:kit kt t c0=some b:=by
       unfold iA at e4;rw[e5] at e4 ⊢;cases b' with
       |true=>exact e4
       |false=>unfold iA at e4;exact e4
      rw[this]
   .trivial
  .trivial
 .trivial
noncomputable def gD(xs:List Val)(lo hi:Option Int):List Val:=(xs.drop (HT.sIx xs.length 0 lo)).take (HT.sIx xs.length xs.length hi-HT.sIx xs.length 0 lo)
abbrev MO3:=E3->R3 (Option Int)
def C5(_:Ns)(_:E3)(_:AH)(b c:Option Int):Prop:=b=c
def ROp(F:MO)(G:MO3):Prop:=∀X h0 ns e ae h,Sat X h0 ns e ae h->Po X h0 ns e ae h C5 (F ae h) (G e)
noncomputable def Ag:MO3:=λe=>.ok none e
noncomputable def zF(F:ME3):MO3:=λe=>(F e).bind λt e1=>match rs e1 t with
 |some (.int i)=>.ok (some i) e1
 |_=>.stuck
noncomputable def aSl(x:Val)(lo hi:Option Int):Bv:=match x with
 |.tup xs=>if HT.sIx xs.length 0 lo=0/\HT.sIx xs.length xs.length hi=xs.length then .stuck else .val (.tup (gD xs lo hi))
 |.lst xs=>.new (.lst (gD xs lo hi))
 |.kl xs=>.new (.lst (gD xs lo hi))
 |_=>.stuck
noncomputable def vSl(F:ME3)(L U:MO3):ME3:=λe=>(F e).bind λt e1=>(L e1).bind λlo e2=>(U e2).bind λhi e3=>match rs e3 t.drop with
 |some v=>(aSl v lo hi).at e3
 |none=>.stuck
def FJ:ROp yF Ag:=λX h0 ns e ae h S=>Po.ret S rfl
def Hb(hF:RE F F3):ROp (yw F) (zF F3):=λX h0 ns e ae h S=>
 Po.bind S (hF X h0 0 ns e ae h S (O2 _)) λd t h1 ns1 e1 a1 S1 r1=>by
  by_cases hq:∃i,rs e1 t=some (.int i)
  .obtain⟨i,hq⟩:=hq;have hd:=(r1.sh S1 hq).int;subst hd;show Po X h0 ns1 e1 ae h1 C5 (R.ok (some i) h1) (match rs e1 t with |some (.int i)=>R3.ok (some i) e1 |_=>.stuck);rw[hq];exact Po.ret S1 rfl
  .have:(match rs e1 t with |some (.int i)=>R3.ok (some i) e1 |_=>.stuck)=(.stuck:R3 (Option Int)):=by
    split
    .rename_i i q;exact absurd ⟨i,q⟩ hq
    .rfl
   show Po X h0 ns1 e1 ae h1 C5 _ (match rs e1 t with |some (.int i)=>R3.ok (some i) e1 |_=>.stuck);rw[this];trivial
def M1(hF:RE F F3)(hL:ROp L L3')(hU:ROp U U3):RE (eSl F L U) (vSl F3 L3' U3):=λX h0 LL ns e ae h S hl=>
 Po.bind
  S (hF X h0 LL ns e ae h S hl) λd t h1 ns1 e1 a1 S1 r1=>Po.bind S1 (hL X h0 ns1 e1 ae h1 S1) λlo lo' h2 ns2 e2 a2 S2 r2=>Po.bind S2 (hU X h0 ns2 e2 ae h2 S2) λhi hi' h3 ns3 e3 a3 S3 r3=>by
  cases r2;cases r3;obtain⟨r1',hn⟩:=r1.drop;have r4:=(r1'.stp S1 a2 hn).stp S2 a3 hn;try dsimp only
  split
  .rename_i v q;have rr:=r4.sh S3 q;refine BvR.po S3 (G_ hl (G_ a1.len (G_ a2.len a3.len))) ?_;unfold aSl;split
   .rename_i xs;obtain⟨ds,rfl,q1⟩:=rr.tup;split
    .trivial
    .rename_i hne;refine⟨_,by unfold gSl;dsimp only;rw[if_neg (by rw[q1.len];exact hne)],.tup ?_⟩;unfold L2.cutD gD;rw[q1.len];exact (q1.drop _).take _
   .rename_i xs;obtain⟨n,ds,rfl,_,e1,q1⟩:=rr.lst;refine⟨.lst (L2.cutD ds lo hi),by unfold gSl;dsimp only;rw[e1],trivial,.lst ?_⟩;unfold L2.cutD gD;rw[q1.len];exact (q1.drop _).take _
   .rename_i xs;have key:∃ds,gSl d lo hi h3=.ok (.ref h3.length) (h3++[.lst (L2.cutD ds lo hi)])/\Rds (Oc X ns3) h3 ds xs:=by
     rcases rr with rr |⟨n,o,rfl,e,rr⟩
     .cases rr with
      |kl q1=>exact⟨_,rfl,q1⟩
      |cell p e rc=>cases rc with |fz q1=>exact⟨_,by unfold gSl cB;dsimp only;rw[e],q1⟩
     .cases rr with |fz q1=>exact⟨_,by unfold gSl cB;dsimp only;rw[e],q1⟩
    obtain⟨ds,e1,q1⟩:=key;refine⟨.lst (L2.cutD ds lo hi),e1,trivial,.lst ?_⟩;unfold L2.cutD gD;rw[q1.len];exact (q1.drop _).take _
   .trivial
  .trivial
noncomputable def qH:Val->List Val->Option (Val×Val):=λu vs=>match u,vs with
 |.lst xs,[v]=>if xs.length<16777216 then some (.lst (xs++[v]),.non) else none
 |_,_=>none
def l9:Val->List Val->Option (Val×Val):=λu vs=>match u,vs with
 |.lst xs,[.int i]=>if -(2^63)<=i/\i<2^63 then (match seqIndex? i xs.length with
  |some k=>(match xs[k]? with
   |some v=>some (.lst (xs.eraseIdx k),v)
   |none=>none)
  |none=>none) else none
 |_,_=>none
def nC:Val->List Val->Option (Val×Val):=λu vs=>match u,vs with
 |.lst xs,[]=>some (.lst xs.reverse,.non)
 |_,_=>none
section
variable{P:Nat->Prop}{h:AH}
def tu(e:h[n]?=some o)(r:Rc P h o (.lst xs)):mT h (.ref n)=true/\∃ds,h[n]?=some (.lst ds)/\Rds P h ds xs/\∀f,kM h (.ref n) f=f n ds:=by obtain⟨ds,e1,e2,q⟩:=Rc.seq e r;refine⟨by show (cB h n).isSome=true;rw[e2];rfl,ds,e1,q,λf=>?_⟩;unfold kM;dsimp only;rw[e1]
def rds1(r:Rds P h ds [v]):∃d,ds=[d]/\Rd P h d v:=by cases r with |cons r rr=>cases rr;exact⟨_,rfl,r⟩
end
def Al:RM mO qH:=λP h n o u ds vs u' v e hf r rs q=>by
 unfold qH at q;split at q
 .split at q
  .rename_i hl;cases q;obtain⟨q1,es,q2,q3,q4⟩:=tu e r;obtain⟨d,rfl,rd⟩:=rds1 rs;refine⟨q1,.lst (es++[d]),.non,?_,trivial,.lst (q3.append (.cons rd .nil)),.non⟩;unfold mO;rw[q4];dsimp only;rw[if_pos (by rw[q3.len];exact hl)]
  .cases q
 .cases q
def CV:RM oB l9:=λP h n o u ds vs u' v e hf r rs q=>by
 unfold l9 at q;split at q
 .split
   at q
  .rename_i hb;split at q
   .rename_i k hk;split at q
    .rename_i w hw;cases q;obtain⟨q1,es,q2,q3,q4⟩:=tu e r;obtain⟨d,rfl,rd⟩:=rds1 rs;obtain rfl:=ShR.int (.inl rd);obtain⟨d,e2,rd⟩:=q3.get hw;refine⟨q1,.lst (es.eraseIdx k),d,?_,trivial,.lst (q3.erase k),rd⟩;unfold oB;rw[q4];dsimp only;rw[if_pos hb,q3.len,hk];dsimp only;rw[e2]
    .cases q
   .cases q
  .cases q
 .cases q
def yB:RM lu nC:=λP h n o u ds vs u' v e hf r rs q=>by
 unfold nC at q;split at q
 .cases q;obtain⟨q1,es,q2,q3,q4⟩:=tu e r;cases rs;exact⟨q1,.lst es.reverse,.non,by unfold lu;rw[q4],trivial,.lst q3.reverse,.non⟩
 .cases q
noncomputable def sL:Val->Val->Val->Option Val:=λu i v=>match u,i with
 |.lst xs,.int k=>(match ixN xs.length k with
  |some j=>some (.lst (xs.set j v))
  |none=>none)
 |_,_=>none
def Ie:yj wL sL:=λP h n o u di vi d v u' _ e hf r ri rd q=>by
 unfold sL at q;split at q
 .split at q
  .rename_i j hj;cases q;obtain⟨q1,es,q2,q3,q4⟩:=tu e r;obtain rfl:=ri.int;refine⟨.lst (es.set j d),?_,trivial,.lst (q3.set rd j)⟩;unfold wL;dsimp only;rw[q2];dsimp only;rw[q3.len,hj]
  .cases q
 .cases q
structure PEx where
 F:ME
 G:ME3
 ok:RE F G
structure PTs where
 F:MT
 G:MT3
 ok:RT F G
structure PAs where
 F:MA
 G:MA3
 ok:RA F G
structure PSt where
 F:MS
 G:MS3
 ok:RS F G
structure PGt where
 F:MG
 G:MG3
 ok:RG F G
structure PGs where
 F:MGs
 G:lp
 ok:RGs F G
structure PIt where
 F:MI
 G:MI3
 ok:RI F G
structure POp where
 F:MO
 G:MO3
 ok:ROp F G
structure PO2 where
 F:D->D->AH->R D
 G:Val->Val->Bv
 ok:RO F G
structure PU1 where
 F:D->AH->R D
 G:Val->Bv
 ok:RU F G
structure PBf where
 F:Fn
 G:List Val->Bv
 ok:RFn F G
structure PMm where
 F:D->List D->AH->R D
 G:Val->List Val->Option (Val×Val)
 ok:RM F G
structure PSe where
 F:D->D->D->AH->R Unit
 G:Val->Val->Val->Option Val
 ok:yj F G
structure PFn where
 ms:List Bool
 F:Fn
 G:Fn3
 ok:RF ms F G
structure PFx(ms:List Bool) where
 F:Fn
 G:Fn3
 ok:RF ms F G
noncomputable section
noncomputable def PFx.fn{ms:List Bool}(p:PFx ms):PFn:=⟨ms,p.F,p.G,p.ok⟩
noncomputable def au(i:Nat):PEx:=⟨cH i,Cn i,Im i⟩
noncomputable def bC(i:Int):PEx:=⟨eC (.int i),vC (.int i),oh λ_ _=>.int i⟩
noncomputable def pBl(i:Bool):PEx:=⟨eC (.bl i),vC (.bl i),oh λ_ _=>.bl i⟩
noncomputable def bY(i:Str):PEx:=⟨eC (.str i),vC (.str i),oh λ_ _=>.str i⟩
def iV:PEx:=⟨eC .non,vC .non,oh λ_ _=>.non⟩
noncomputable def pTy(i:String):PEx:=⟨eC (.ty i),vC (.ty i),oh λ_ _=>.ty i⟩
noncomputable def ye(i:Str):PEx:=⟨eC (.glb i),vC (.glb i),oh λ_ _=>.glb i⟩
noncomputable def ui(d:D)(v:Val)(r:∀P h,Rd P h d v):PEx:=⟨eC d,vC v,oh r⟩
noncomputable def pUn(o:PU1)(a:PEx):PEx:=⟨eUn o.F a.F,vUn o.G a.G,Ox o.ok a.ok⟩
noncomputable def pOp(o:PO2)(a b:PEx):PEx:=⟨eOp o.F a.F b.F,vOp o.G a.G b.G,N7 o.ok a.ok b.ok⟩
noncomputable def bx:PAs:=⟨lz,rm,zD⟩
noncomputable def ah(a:PEx)(r:PAs):PAs:=⟨mz a.F r.F,D5 a.G r.G,Ge a.ok r.ok⟩
noncomputable def pFn(o:PBf)(a:PAs):PEx:=⟨eFn o.F a.F,vFn o.G a.G,MM o.ok a.ok⟩
noncomputable def cW(a:PAs):PEx:=⟨eFn jI a.F,vTup a.G,Jg a.ok⟩
noncomputable def dH(a:PAs):PEx:=⟨eFn fN a.F,vLst a.G,LG a.ok⟩
noncomputable def gG(a b:PEx):PEx:=⟨qK a.F b.F,vAnd a.G b.G,Iu a.ok b.ok⟩
noncomputable def n9(a:PEx):PEx:=⟨Ds a.F,vNot a.G,Iq a.ok⟩
def pIf(c:PTs)(a b:PEx):PEx:=⟨eIf c.F a.F b.F,vIf c.G a.G b.G,OI c.ok a.ok b.ok⟩
noncomputable def qOf(a:PEx):PTs:=⟨tOf a.F,cOf a.G,Nj a.ok⟩
noncomputable def qAn(a b:PTs):PTs:=⟨tAn a.F b.F,cAn a.G b.G,MR a.ok b.ok⟩
noncomputable def qO(a b:PTs):PTs:=⟨tO a.F b.F,cO a.G b.G,rt_o a.ok b.ok⟩
noncomputable def qNo(a:PTs):PTs:=⟨tNo a.F,cNo a.G,Mb a.ok⟩
noncomputable def qY:PTs:=⟨tY,cY,rt_y⟩
noncomputable def xNx:PSt:=⟨sNx,wNx,LY⟩
noncomputable def xCt:PSt:=⟨sCt,wCt,NL⟩
noncomputable def bG(a:PEx):PSt:=⟨yi a.F,wRet a.G,Lz a.ok⟩
noncomputable def eE(a:PEx):PSt:=⟨yn a.F,D6 a.G,G6 a.ok⟩
noncomputable def bE(a b:PSt):PSt:=⟨Dk a.F b.F,wSeq a.G b.G,KH a.ok b.ok⟩
noncomputable def xIf(c:PTs)(a b:PSt):PSt:=⟨sIf c.F a.F b.F,wIf c.G a.G b.G,M0 c.ok a.ok b.ok⟩
noncomputable def bJ(o:Bool)(i:Nat)(a:PEx):PSt:=⟨jm a.F (gN i),wAsg o i a.G,Lb o i a.ok⟩
noncomputable def gtN(i:Nat):PGt:=⟨gN i,pN i,ze i⟩
noncomputable def dG:PGs:=⟨gsN,psN,OL⟩
noncomputable def bQ(a:PGt)(b:PGs):PGs:=⟨gsC a.F b.F,psC a.G b.G,MQ a.ok b.ok⟩
noncomputable def gtT(n:Nat)(a:PGs):PGt:=⟨gT λds ae h=>if ds.length=n then a.F ds ae h else .stuck,pT n a.G,rg_t n a.ok⟩
noncomputable def gtX(a:PGt):PGt:=⟨λd ae h=>noX (a.F d ae h),a.G,Js a.ok⟩
noncomputable def fO(a:PEx)(g:PGt):PSt:=⟨jm a.F g.F,EA a.G g.G,Fm a.ok g.ok⟩
noncomputable def jU(i j:Nat)(a:PAs):PSt:=⟨BD i j a.F,wPar i j a.G,Lh i j a.ok⟩
noncomputable def C3(i:Nat)(o:PO2)(a:PEx):PSt:=⟨uv i o.F a.F,C9 i o.G a.G,HG i o.ok a.ok⟩
noncomputable def gm(c:Str)(a:PAs):PSt:=⟨vI c a.F,zY c a.G,B2 c a.ok⟩
noncomputable def qz(i:Nat)(w:PSe)(k a:PEx):PSt:=⟨jm a.F (gS (cH i) k.F w.F),wSet i k.G a.G w.G,HE i w.ok k.ok a.ok⟩
noncomputable def lE(i:Nat)(m:PMm)(a:PAs):PEx:=⟨eM m.F (cH i) a.F,nR i m.G a.G,A6 i m.ok a.ok⟩
noncomputable def yP(i:Nat)(m:PMm):PEx:=⟨eM0 m.F (cH i),nR i m.G rm,Gz i m.ok⟩
noncomputable def cn(a:PEx):PIt:=⟨BW a.F,Ef a.G,JZ a.ok⟩
def mI(a:PAs):PIt:=⟨Co a.F,uS jo a.G,IM a.ok⟩
def sW(a:PAs):PIt:=⟨Cy a.F,uS qJ a.G,Kg a.ok⟩
def yh(a:PAs):PIt:=⟨Bq a.F,EF a.G,Iz a.ok⟩
noncomputable def yK(a:PAs):PIt:=⟨CD a.F,El a.G,JU a.ok⟩
def eP(i:PIt)(g:PGt)(b:PSt):PSt:=⟨BE i.F g.F b.F,wFor i.G g.G b.G,JT i.ok g.ok b.ok⟩
def xWh(c:PTs)(b:PSt):PSt:=⟨sWh c.F b.F,wWh c.G b.G,Nw c.ok b.ok⟩
def pLC(i:PIt)(sub:Rg)(hs:(sub.filterMap id).Nodup)(g:PGt)(c:PTs)(a:PEx):PEx:=⟨eLC i.F sub g.F c.F a.F,vLC i.G sub g.G c.G a.G,MW hs i.ok g.ok c.ok a.ok⟩
noncomputable def bD(f:PFn)(a:PAs):PEx:=⟨tq f.ms.length f.F a.F,DZ f.ms f.G a.G,GO rfl f.ok a.ok⟩
noncomputable def oN:POp:=⟨yF,Ag,FJ⟩
noncomputable def oS(a:PEx):POp:=⟨yw a.F,zF a.G,Hb a.ok⟩
noncomputable def pSl(a:PEx)(l u:POp):PEx:=⟨eSl a.F l.F u.F,vSl a.G l.G u.G,M1 a.ok l.ok u.ok⟩
noncomputable def PFx.none(ms:List Bool)(N:Nat:=0):PFx ms:=⟨λ_ _=>.stuck,λ_=>.stuck,λ_ _ _ _ _ _ _=>trivial⟩
noncomputable def PFx.of(ms:List Bool)(N:Nat)(c:PSt):PFx ms:=⟨fnD N c.F,fnV ms N c.G,En c.ok⟩
noncomputable def fnP(ms:List Bool)(N:Nat)(c:PSt):PFn:=⟨ms,fnD N c.F,fnV ms N c.G,En c.ok⟩
def cC:PO2:=⟨zw,Dl,K7⟩
noncomputable def xO:PO2:=⟨DQ,aMin,IC⟩
noncomputable def cx:PO2:=⟨B5,zk,Lf⟩
def jQ:PO2:=⟨CM,yf,Hi⟩
def dZ:PO2:=⟨DK,yI,JV⟩
def qS:PO2:=⟨CC,yg,KR⟩
def DN:PO2:=⟨Dm,xZ,IG⟩
def bLt:PO2:=⟨gLt,aLt,M8⟩
noncomputable def bLe:PO2:=⟨gLe,aLe,Of⟩
noncomputable def bGt:PO2:=⟨gGt,aGt,N1⟩
noncomputable def bGe:PO2:=⟨gGe,aGe,Oa⟩
noncomputable def bIx:PO2:=⟨gIx,aIx,NQ⟩
noncomputable def bEq:PO2:=⟨gEq false,aEq false,Ek false⟩
noncomputable def bNe:PO2:=⟨gEq true,aEq true,Ek true⟩
noncomputable def bIn:PO2:=⟨gIn false,aIn false,Eb false⟩
noncomputable def jP:PO2:=⟨gIn true,aIn true,Eb true⟩
noncomputable def bIs:PO2:=⟨l8 false,xX false,An false⟩
def yO:PO2:=⟨l8 true,xX true,An true⟩
noncomputable def DC:PO2:=⟨gI λi j=>.int (i+j),aI λi j=>.int (i+j),qt λ_ _ _ _=>.int _⟩
noncomputable def tN:PU1:=⟨yr,Cj,HF⟩
noncomputable def b8:PBf:=⟨vc,CS,JC⟩
noncomputable def o3:PBf:=⟨yG,BG,HX⟩
noncomputable def tE:PBf:=⟨tV,Ci,Lx⟩
noncomputable def gZ:PBf:=⟨vP,BP,Hm⟩
noncomputable def kG:PBf:=⟨pH,xI,Fz⟩
noncomputable def rl:PBf:=⟨mm,vh,BM⟩
noncomputable def cD(kt:kZ):PBf:=⟨uN kt,Bp kt,Jk kt⟩
noncomputable def fQ:PMm:=⟨mO,qH,Al⟩
noncomputable def pW:PMm:=⟨oB,l9,CV⟩
noncomputable def lQ:PMm:=⟨lu,nC,yB⟩
noncomputable def seL:PSe:=⟨wL,sL,Ie⟩
end
theorem qu:∀(ns:List Int),Rds P h (ns.map D.int) (ns.map Val.int)
 | []=>.nil
 |_::r=>.cons (.int _) (qu r)
def law3(p:PFn)(hm:p.ms=[false])(hG:∀ns:List Int,ns.length<=63->p.G [.kl (ns.map .int)]=.ok (.val (.bl true)) [])(d:D)(h:AH)(ns:List Int)(hl:ns.length<=63)(sc:Script h d ns):∃h',p.F [d] h=.ok (.bl true) h':=by
 have hp:=p.ok;rw[hm] at hp;have rd:Rd (Oc (λ_=>False) [none]) h d (.kl (ns.map .int)):=by
  rcases sc.form with ⟨n,rfl,e⟩ |rfl
  .exact .cell ⟨λz=>z,by simp⟩ e (.fz (qu ns))
  .exact .kl (qu ns)
 have S:Sat (λ_=>False) h.length [none] (sls [false] [.kl (ns.map .int)]) ([d].map some) h:=by
  refine⟨rfl,rfl,y_ _,λ_ z=>z.elim,λi j n q=>?_,λi n q z=>z,λi s q=>?_⟩
  .cases i with
   |zero=>simp at q
   |succ i=>simp at q
  .cases i with
   |
    zero=>
    have:sl1 false (.kl (ns.map .int))=s:=by simpa [sls] using q
    subst this;exact⟨rfl,d,rfl,rd⟩
   |succ i=>simp [sls] at q
 have:=hp _ _ [d] [.kl (ns.map .int)] h rfl S
 rw[hG ns hl] at this;obtain⟨d',h',e,_,_,r⟩:=this;cases r with
 |bl=>exact⟨h',e⟩
 |cell p e r=>cases r
section
variable(e:E3)
@[simp] theorem mD(a:α)(f:α->E3->R3 β):(R3.ok a e).bind f=f a e:=rfl
@[simp] theorem Np(a:α)(f:α->E3->SR3):(R3.ok a e).toS f=f a e:=rfl
@[simp] theorem NX(f:E3->SR3):(SR3.nx e).then f=f e:=rfl
@[simp] theorem M9(r:Rt)(f:E3->SR3):(SR3.rt r e).then f=.rt r e:=rfl
@[simp] theorem Nc(f:E3->SR3):(SR3.ct e).then f=.ct e:=rfl
@[simp] theorem KI(c:Str)(f:E3->SR3):(SR3.exc c e).then f=.exc c e:=rfl
@[simp] theorem jA(f:E3->SR3):(SR3.nx e).loop f=f e:=rfl
@[simp] theorem Er(f:E3->SR3):(SR3.ct e).loop f=f e:=rfl
@[simp] theorem Ni(r:Rt)(f:E3->SR3):(SR3.rt r e).loop f=.rt r e:=rfl
@[simp] theorem MP(r:SR3):r.unl none=r:=by cases r <;> rfl
@[simp] theorem Ct:lockO e none=e:=rfl
@[simp] theorem xP:gx e none=e:=rfl
@[simp] theorem LJ(v:Val):(Bv.val v).at e=.ok (.val v) e:=rfl
@[simp] theorem Ik(v:Val):(Bv.new v).at e=.ok (.new v) e:=rfl
@[simp] theorem HV(v:Val):rs e (.val v)=some v:=rfl
@[simp] theorem LW(v:Val):rs e (.new v)=some v:=rfl
@[simp] theorem Ir(i:Nat):rs e (.bor i)=(e[i]?).bind Sl.val:=rfl
@[simp] theorem JB(v:Val):(Tm.val v).drop=.val v:=rfl
@[simp] theorem KQ(v:Val):(Tm.new v).drop=.val v:=rfl
@[simp] theorem J4(i:Nat):(Tm.bor i).drop=.bor i:=rfl
@[simp] theorem ER:rss e []=some []:=rfl
@[simp] theorem DF(t:Tm)(ts:List Tm):rss e (t::ts)=match rs e t,rss e ts with
 |some v,some vs=>some (v::vs)
 |_,_=>none:=rfl
@[simp] theorem HS(v:Val):dk e (.val v)=some (e,v):=rfl
@[simp] theorem Jj(v:Val):dk e (.new v)=some (e,v):=rfl
@[simp] theorem AB:dem e []=some (e,[]):=rfl
@[simp] theorem FK(t:Tm)(ts:List Tm):dem e (t::ts)=match dk e t with
 |some (e1,v)=>match dem e1 ts with
  |some (e2,vs)=>some (e2,v::vs)
  |none=>none
 |none=>none:=rfl
@[simp] theorem J7(b:Bool):bOf (some (.bl b))=some b:=rfl
@[simp] theorem MJ(i:Nat):(au i).G e=match e[i]? with
 |some (.sh v)=>.ok (.val v) e
 |some .no=>.stuck
 |some _=>.ok (.bor i) e
 |none=>.stuck:=rfl
@[simp] theorem Mw(i:Int):(bC i).G e=.ok (.val (.int i)) e:=rfl
@[simp] theorem v_bl(i:Bool):(pBl i).G e=.ok (.val (.bl i)) e:=rfl
@[simp] theorem OA(i:Str):(bY i).G e=.ok (.val (.str i)) e:=rfl
@[simp] theorem Na:iV.G e=.ok (.val .non) e:=rfl
@[simp] theorem v_ty(i:String):(pTy i).G e=.ok (.val (.ty i)) e:=rfl
@[simp] theorem MC(i:Str):(ye i).G e=.ok (.val (.glb i)) e:=rfl
@[simp] theorem v_un(o:PU1)(a:PEx):(pUn o a).G e=(a.G e).bind λt e1=>match rs e1 t with
 |some v=>(o.G v).at e1
 |none=>.stuck:=rfl
@[simp] theorem v_op(o:PO2)(a b:PEx):(pOp o a b).G e=(a.G e).bind λt1 e1=>(b.G e1).bind λt2 e2=>match rs e2 t1.drop,rs e2 t2 with
 |some v1,some v2=>(o.G v1 v2).at e2
 |_,_=>.stuck:=rfl
@[simp] theorem Nv:bx.G e=.ok [] e:=rfl
@[simp] theorem K2(a:PEx)(r:PAs):(ah a r).G e=(a.G e).bind λt e1=>(r.G e1).bind λts e2=>.ok (t.drop::ts) e2:=rfl
@[simp] theorem v_fn(o:PBf)(a:PAs):(pFn o a).G e=(a.G e).bind λts e1=>match rss e1 ts with
 |some vs=>(o.G vs).at e1
 |none=>.stuck:=rfl
@[simp] theorem MN(a:PAs):(cW a).G e=(a.G e).bind λts e1=>match dem e1 ts with
 |some (e2,vs)=>if vs.length<=16777216 then .ok (.val (.tup vs)) e2 else .stuck
 |none=>.stuck:=rfl
@[simp] theorem NR(a:PAs):(dH a).G e=(a.G e).bind λts e1=>match dem e1 ts with
 |some (e2,vs)=>if vs.length<=16777216 then .ok (.new (.lst vs)) e2 else .stuck
 |none=>.stuck:=rfl
@[simp] theorem M7(a b:PEx):(gG a b).G e=(a.G e).bind λt e1=>match bOf (rs e1 t) with
 |some true=>b.G e1
 |some false=>.ok (.val (.bl false)) e1
 |none=>.stuck:=rfl
@[simp] theorem Ms(a:PEx):(n9 a).G e=(a.G e).bind λt e1=>match bOf (rs e1 t) with
 |some b=>.ok (.val (.bl (!b))) e1
 |none=>.stuck:=rfl
@[simp] theorem v_if(c:PTs)(a b:PEx):(pIf c a b).G e=(c.G e).bind λk e1=>if k=true then a.G e1 else b.G e1:=rfl
@[simp] theorem c_of(a:PEx):(qOf a).G e=(a.G e).bind λt e1=>match bOf (rs e1 t) with
 |some b=>.ok b e1
 |none=>.stuck:=rfl
@[simp] theorem c_an(a b:PTs):(qAn a b).G e=(a.G e).bind λk e1=>if k=true then b.G e1 else .ok false e1:=rfl
@[simp] theorem c_o(a b:PTs):(qO a b).G e=(a.G e).bind λk e1=>if k=true then .ok true e1 else b.G e1:=rfl
@[simp] theorem c_no(a:PTs):(qNo a).G e=(a.G e).bind λk e1=>.ok (!k) e1:=rfl
@[simp] theorem c_y:qY.G e=.ok true e:=rfl
@[simp] theorem x_nx:xNx.G e=.nx e:=rfl
@[simp] theorem x_ct:xCt.G e=.ct e:=rfl
@[simp] theorem Od(a:PEx):(bG a).G e=(a.G e).toS qQ:=rfl
@[simp] theorem FE(v:Val):qQ (.val v) e=.rt (.val v) e:=rfl
@[simp] theorem G8(v:Val):qQ (.new v) e=.rt (.new v) e:=rfl
@[simp] theorem Gj(i:Nat):qQ (.bor i) e=match e[i]? with
 |some (.sh v)=>.rt (.val v) e
 |some (.ow v)=>.rt (.new v) (e.set i .no)
 |some (.mu _)=>.rt (.par i) e
 |_=>.stuck:=rfl
@[simp] theorem Lc(a:PEx):(eE a).G e=(a.G e).toS λ_ e1=>.nx e1:=rfl
@[simp] theorem Et(a b:PSt):(bE a b).G e=(a.G e).then b.G:=rfl
@[simp] theorem x_if(c:PTs)(a b:PSt):(xIf c a b).G e=(c.G e).toS λk e1=>if k=true then a.G e1 else b.G e1:=rfl
@[simp] theorem Mm(o:Bool)(i:Nat)(a:PEx):(bJ o i a).G e=(a.G e).toS (jO o i):=rfl
@[simp] theorem NT:Sl.no.pl=true:=rfl
@[simp] theorem N4(v:Val):(Sl.sh v).pl=true:=rfl
@[simp] theorem FY(o:Bool)(i:Nat)(v:Val):jO o i (.val v) e=match e[i]? with
 |some s0=>if s0.pl=true then .nx (e.set i (.sh v)) else .stuck
 |none=>.stuck:=by unfold jO;rfl
@[simp] theorem CQ(i:Nat)(v:Val):jO true i (.new v) e=match e[i]? with
 |some s0=>if s0.pl=true then .nx (e.set i (.ow v)) else .stuck
 |none=>.stuck:=by unfold jO;rfl
@[simp] theorem BO(i:Nat)(v:Val):jO false i (.new v) e=match e[i]? with
 |some s0=>if s0.pl=true then .nx (e.set i (.sh v)) else .stuck
 |none=>.stuck:=by unfold jO;rfl
@[simp] theorem g_n(i:Nat)(v:Val):(gtN i).G v e=match e[i]? with
 |some s=>if s.pl=true then some (e.set i (.sh v)) else none
 |none=>none:=rfl
@[simp] theorem g_sn:dG.G [] e=some e:=rfl
@[simp] theorem g_sc(a:PGt)(b:PGs)(v:Val)(vs:List Val):(bQ a b).G (v::vs) e=(a.G v e).bind λe1=>b.G vs e1:=rfl
@[simp] theorem g_t(n:Nat)(a:PGs)(vs:List Val):(gtT n a).G (.tup vs) e=if vs.length=n then a.G vs e else none:=rfl
@[simp] theorem g_x(a:PGt)(v:Val):(gtX a).G v e=a.G v e:=rfl
@[simp] theorem Kd(a:PEx)(g:PGt):(fO a g).G e=(a.G e).toS λt e1=>match dk e1 t with
 |some (e2,v)=>match g.G v e2 with
  |some e3=>.nx e3
  |none=>.stuck
 |none=>.stuck:=rfl
@[simp] theorem NC(i j:Nat)(a:PAs):(jU i j a).G e=(a.G e).toS λts e1=>match dem e1 ts with
 |some (e2,[v,u])=>match (pN i v e2).bind (pN j u) with
  |some e3=>.nx e3
  |none=>.stuck
 |_=>.stuck:=rfl
@[simp] theorem OK(i:Nat)(v:Val):pN i v e=match e[i]? with
 |some s=>if s.pl=true then some (e.set i (.sh v)) else none
 |none=>none:=rfl
@[simp] theorem NW(i:Nat)(o:PO2)(a:PEx):(C3 i o a).G e=match e[i]? with
 |some (.sh x)=>(a.G e).toS λt e1=>match rs e1 t with
  |some y=>match o.G x y with
   |.val z=>match pN i z e1 with
    |some e2=>.nx e2
    |none=>.stuck
   |_=>.stuck
  |none=>.stuck
 |_=>.stuck:=rfl
@[simp] theorem Fg(c:Str)(a:PAs):(gm c a).G e=(a.G e).toS λts e1=>if ts.length<=16777216 then .exc c e1 else .stuck:=rfl
@[simp] theorem My(i:Nat)(w:PSe)(k a:PEx):(qz i w k a).G e=(a.G e).toS λt e1=>match (e1[i]?).bind Sl.mv with
 |none=>.stuck
 |some _=>(k.G e1).toS λt2 e2=>match rs e2 t2 with
  |none=>.stuck
  |some vi=>match dk e2 t.drop with
   |none=>.stuck
   |some (e3,v)=>match e3[i]? with
    |none=>.stuck
    |some s=>match s.mv with
     |none=>.stuck
     |some u=>match w.G u vi v with
      |some u'=>.nx (e3.set i (s.re u'))
      |none=>.stuck:=rfl
@[simp] theorem Nb(v:Val):(Sl.ow v).mv=some v:=rfl
@[simp] theorem Oq(v:Val):(Sl.mu v).mv=some v:=rfl
@[simp] theorem NY(v u:Val):(Sl.ow v).re u=.ow u:=rfl
@[simp] theorem Mg(v u:Val):(Sl.mu v).re u=.mu u:=rfl
@[simp] theorem Ip(v:Val):(Sl.ow v).val=some v:=rfl
@[simp] theorem HP(v:Val):(Sl.mu v).val=some v:=rfl
@[simp] theorem Ot(i:Nat)(m:PMm)(a:PAs):(lE i m a).G e=match e[i]? with
 |some s=>if (s.mv.map lU)=some true then (a.G e).bind λts e1=>match dem e1 ts with
  |some (e2,vs)=>match e2[i]? with
   |some s2=>match s2.mv with
    |some u=>match m.G u vs with
     |some (u',v)=>.ok (.val v) (e2.set i (s2.re u'))
     |none=>.stuck
    |none=>.stuck
   |none=>.stuck
  |none=>.stuck else .stuck
 |none=>.stuck:=rfl
@[simp] theorem Ij(i:Nat)(m:PMm):(yP i m).G e=match e[i]? with
 |some s=>if (s.mv.map lU)=some true then (match s.mv with
  |some u=>match m.G u [] with
   |some (u',v)=>.ok (.val v) (e.set i (s.re u'))
   |none=>.stuck
  |none=>.stuck) else .stuck
 |none=>.stuck:=by
 show nR i m.G rm e=_;unfold nR;cases q:e[i]? with
 |none=>rfl
 |
  some s=>
  dsimp only;split
  .simp only[rm,mD,AB,q];try rfl
  .rfl
@[simp] theorem Dy(xs:List Val):lU (.lst xs)=true:=rfl
@[simp] theorem Og(a:PEx):(cn a).G e=(a.G e).bind λt e1=>match fL t e1 with
 |some p=>.ok p e1
 |none=>.stuck:=rfl
@[simp] theorem Me(a:PAs):(yh a).G e=(a.G e).bind λts e1=>match ts with
 | [t]=>(match fL t e1 with
  |some p=>.ok (qW 0 p.1,p.2) e1
  |none=>.stuck)
 |_=>.stuck:=rfl
@[simp] theorem Oo(a:PAs):(yK a).G e=(a.G e).bind λts e1=>match ts with
 | [t,u]=>(match fL t e1,fL u e1 with
  |some (xs,k),some (ys,none)=>.ok (List.zipWith (λx y=>.tup [x,y]) xs ys,k) e1
  |_,_=>.stuck)
 |_=>.stuck:=rfl
@[simp] theorem Hz(v:Val):fL (.val v) e=(iF v).map λxs=>(xs,none):=rfl
@[simp] theorem HW(v:Val):fL (.new v) e=(iF v).map λxs=>(xs,none):=rfl
@[simp] theorem JJ(xs:List Val):iF (.tup xs)=some xs:=rfl
@[simp] theorem Lw(xs:List Val):iF (.lst xs)=some xs:=rfl
@[simp] theorem Mc(a:PAs):(mI a).G e=(a.G e).bind λts e1=>match (rss e1 ts).bind jo with
 |some xs=>.ok (xs,none) e1
 |none=>.stuck:=rfl
@[simp] theorem MB(a:PAs):(sW a).G e=(a.G e).bind λts e1=>match (rss e1 ts).bind qJ with
 |some xs=>.ok (xs,none) e1
 |none=>.stuck:=rfl
@[simp] theorem L6(i:PIt)(g:PGt)(b:PSt):(eP i g b).G e=(i.G e).toS λp e1=>(dU g.G b.G p.1 (lockO e1 p.2)).unl p.2:=rfl
@[simp] theorem kf(g:MG3)(B:MS3):dU g B [] e=.nx e:=rfl
theorem bZ(g:MG3)(B:MS3)(v:Val)(vs:List Val):dU g B (v::vs) e=match g v e with
 |some e1=>(B e1).loop (dU g B vs)
 |none=>.stuck:=rfl
def zo(c:PTs)(b:PSt):(xWh c b).G e=(c.G e).toS λk e1=>if k=true then (b.G e1).loop (xWh c b).G else .nx e1:=BU c.G b.G e
@[simp] theorem v_lc(i:PIt)(sub:Rg)(hs:(sub.filterMap id).Nodup)(g:PGt)(c:PTs)(a:PEx):(pLC i sub hs g c a).G e=(i.G e).bind λp e1=>match lcV g.G c.G a.G p.1 [] (c8 sub (lockO e1 p.2)) with
 |.ok ys e2=>if ys.length<=16777216 then .ok (.new (.lst ys)) (gx (bT sub e2 (lockO e1 p.2)) p.2) else .stuck
 |_=>.stuck:=rfl
@[simp] theorem LK(f:PFn)(a:PAs):(bD f a).G e=(a.G e).bind λts e1=>match rss e1 ts with
 |none=>.stuck
 |some vs=>if okA e1 f.ms ts=true then (match f.G vs with
  |.stuck=>.stuck
  |.ok r mv=>if (bU e1 f.ms ts).isEmpty || (gL r&&mv.all c5) then .ok (r.tm ts) (bT (ck f.ms ts) (bN f.ms mv) e1) else (match qF e1 (bU e1 f.ms ts) with
   |some e2=>.ok (r.tm ts) (bT (ck f.ms ts) (bN f.ms mv) e2)
   |none=>.stuck)
  |.exc c mv=>if (bU e1 f.ms ts).isEmpty || mv.all c5 then .exc c (bT (ck f.ms ts) (bN f.ms mv) e1) else .stuck) else .stuck:=rfl
@[simp] theorem KP(ts:List Tm)(v:Val):(Rt.val v).tm ts=.val v:=rfl
@[simp] theorem IU(ts:List Tm)(v:Val):(Rt.new v).tm ts=.new v:=rfl
@[simp] theorem bA(ts:List Tm)(v u:Val):(Rt.pr v u).tm ts=.val (.tup [v,u]):=rfl
@[simp] theorem o_n:oN.G e=.ok none e:=rfl
@[simp] theorem o_s(a:PEx):(oS a).G e=(a.G e).bind λt e1=>match rs e1 t with
 |some (.int i)=>.ok (some i) e1
 |_=>.stuck:=rfl
@[simp] theorem v_sl(a:PEx)(l u:POp):(pSl a l u).G e=(a.G e).bind λt e1=>(l.G e1).bind λlo e2=>(u.G e2).bind λhi e3=>match rs e3 t.drop with
 |some v=>(aSl v lo hi).at e3
 |none=>.stuck:=rfl
theorem bR(ms:List Bool)(N:Nat)(c:PSt)(vs:List Val):(fnP ms N c).G vs=if vs.length=ms.length then (match c.G (sls ms vs++List.replicate (N-vs.length) .no) with
 |.nx e=>(match muV ms e with |some mv=>.ok (.val .non) mv |none=>.stuck)
 |.rt r e=>(match muV ms e with |some mv=>.ok r mv |none=>.stuck)
 |.exc c e=>(match muV ms e with |some mv=>.exc c mv |none=>.stuck)
 |_=>.stuck) else .stuck:=rfl
theorem gY(ms:List Bool)(N:Nat)(c:PSt)(vs:List Val):(PFx.of ms N c).G vs=if vs.length=ms.length then (match c.G (sls ms vs++List.replicate (N-vs.length) .no) with
 |.nx e=>(match muV ms e with |some mv=>.ok (.val .non) mv |none=>.stuck)
 |.rt r e=>(match muV ms e with |some mv=>.ok r mv |none=>.stuck)
 |.exc c e=>(match muV ms e with |some mv=>.exc c mv |none=>.stuck)
 |_=>.stuck) else .stuck:=rfl
@[simp] theorem N6(p:PFx ms):p.fn.ms=ms:=rfl
@[simp] theorem fx_G(p:PFx ms)(vs:List Val):p.fn.G vs=p.G vs:=rfl
end
@[simp] theorem M5(i j:Int):cC.G (.int i) (.int j)=.val (.int (i+j)):=rfl
@[simp] theorem ON(i j:Int):xO.G (.int i) (.int j)=.val (.int (i-j)):=rfl
@[simp] theorem k_lt(i j:Int):bLt.G (.int i) (.int j)=.val (.bl (decide (i<j))):=rfl
@[simp] theorem k_le(i j:Int):bLe.G (.int i) (.int j)=.val (.bl (decide (i<=j))):=rfl
@[simp] theorem k_gt(i j:Int):bGt.G (.int i) (.int j)=.val (.bl (decide (j<i))):=rfl
@[simp] theorem k_ge(i j:Int):bGe.G (.int i) (.int j)=.val (.bl (decide (j<=i))):=rfl
@[simp] theorem NS(i j:Int):DC.G (.int i) (.int j)=.val (.int (i+j)):=rfl
@[simp] theorem M6(i:Int):tN.G (.int i)=.val (.int (-i)):=rfl
def cE(c:CMulA i j):cx.G (.int i) (.int j)=.val (.int (i*j)):=by show zk (.int i) (.int j)=_;unfold zk aIc;dsimp only;rw[if_pos c]
def mS(c:CDivB i j):jQ.G (.int i) (.int j)=.val (.int (i.fdiv j)):=by show yf (.int i) (.int j)=_;unfold yf aIc;dsimp only;rw[if_pos c]
def iJ(c:j≠0):dZ.G (.int i) (.int j)=.val (.int (i.fmod j)):=by show yI (.int i) (.int j)=_;unfold yI aIc;dsimp only;rw[if_pos c]
def D1(c:i0 i j):qS.G (.int i) (.int j)=.val (.int (i^j.toNat)):=by show yg (.int i) (.int j)=_;unfold yg aIc;dsimp only;rw[if_pos c]
def M3(c:i0 i j):DN.G (.int i) (.int j)=.val (.int (i*2^j.toNat)):=by show xZ (.int i) (.int j)=_;unfold xZ aIc;dsimp only;rw[if_pos c]
@[simp] theorem k_ix(x:Val)(i:Int):bIx.G x (.int i)=match x.items with
 |some xs=>(match atI xs i with
  |some v=>.val v
  |none=>.stuck)
 |none=>.stuck:=by show aIx x (.int i)=_;unfold aIx;cases x.items <;> rfl
@[simp] theorem Li(xs:List Val):(Val.tup xs).items=some xs:=rfl
@[simp] theorem AF(xs:List Val):(Val.lst xs).items=some xs:=rfl
@[simp] theorem k_eq(x y:Val):bEq.G x y=match dg x y with
 |some b=>.val (.bl b)
 |none=>.stuck:=by show aEq false x y=_;unfold aEq;cases dg x y <;> rfl
@[simp] theorem k_ne(x y:Val):bNe.G x y=match dg x y with
 |some b=>.val (.bl (!b))
 |none=>.stuck:=by show aEq true x y=_;unfold aEq;cases dg x y <;> rfl
@[simp] theorem OE(x y:Int):dg (.int x) (.int y)=some (x==y):=rfl
@[simp] theorem Ny(x y:Bool):dg (.bl x) (.bl y)=some (x==y):=by cases x <;> cases y <;> rfl
def eq_str(hx:PyData.strOk x=true)(hy:PyData.strOk y=true):dg (.str x) (.str y)=some (x==y):=by unfold dg;show (if shp (.str x)=true/\shp (.str y)=true then _ else _)=_;rw[if_pos ⟨jC hx (O2 _),jC hy (O2 _)⟩];rfl
@[simp] theorem k_is(x:Val):bIs.G x .non=match x with
 |.non=>.val (.bl true)
 |_=>.val (.bl false):=by cases x <;> rfl
@[simp] theorem NN(x:Val):yO.G x .non=match x with
 |.non=>.val (.bl false)
 |_=>.val (.bl true):=by cases x <;> rfl
@[simp] theorem L7(v:Val):b8.G [v]=match v.items with
 |some xs=>.val (.int xs.length)
 |none=>(match v with
  |.str z=>if z.length<=16777216 then .val (.int z.length) else .stuck
  |_=>.stuck):=rfl
@[simp] theorem Nu(i:Int):o3.G [.int i]=.val (.int (if i<0 then -i else i)):=rfl
@[simp] theorem NU(xs:List Val):tE.G [.lst xs]=match mq xs with
 |some bs=>.val (.bl (bs.all id))
 |none=>.stuck:=rfl
@[simp] theorem Mh(xs:List Val):gZ.G [.lst xs]=match kX xs with
 |some bs=>.val (.int bs.sum)
 |none=>.stuck:=rfl
@[simp] theorem J3(v:Val):kG.G [v]=match v.items with
 |some xs=>.new (.lst xs)
 |none=>.stuck:=rfl
@[simp] theorem Gv(v:Val):rl.G [v]=match v.items with
 |some xs=>.val (.tup xs)
 |none=>.stuck:=rfl
@[simp] theorem Cg(xs:List Val)(v:Val):fQ.G (.lst xs) [v]=if xs.length<16777216 then some (.lst (xs++[v]),.non) else none:=rfl
@[simp] theorem rY:∀(bs:List Int),kX (bs.map Val.int)=some bs
 | []=>rfl
 |b::r=>by show (kX (r.map Val.int)).map (b :: ·)=_;rw[rY r];rfl
def Bc{K:W.Frag}{mg:Ra}{X:Cx}{ES:L2.St->XK}{sts:List Stmt}:DSs K mg X ES sts (λ_ _=>.stuck):=λpins s σ H D I ⟨_,_,_,_,_,p⟩=>p.elim
section
variable(K:W.Frag)(mg:Ra)(X:Cx)(ES:L2.St->XK)
@[irreducible] def DE(e:Expr)(F:ME):Prop:=L2.DE K mg X ES e F
@[irreducible] def DT(e:Expr)(F:MT):Prop:=L2.DT K mg X ES e F
@[irreducible] def DA(es:List Expr)(F:MA):Prop:=L2.DA K mg X ES es F
@[irreducible] def DS(st:Stmt)(F:MS):Prop:=L2.DS K mg X ES st F
@[irreducible] def DSs(st:List Stmt)(F:MS):Prop:=L2.DSs K mg X ES st F
@[irreducible] def DI(tg a_:Expr)(F:MI):Prop:=L2.DI K mg X ES tg a_ F
end
section
variable{K:W.Frag}{mg:Ra}{X:Cx}{ES:L2.St->XK}{e a b c o i tg a_ k_:Expr}{es:List Expr}{st:Stmt}{sts sts':List Stmt}{p q r:PEx}{A:PAs}{t u:PTs}{x y:PSt}{g:PGt}{gs:PGs}{I:PIt}{pos:Pos}
def uJ(i:Nat){x:Str}(hN:X.N[i]?=some x:=by rfl)(hv:Vis X.env.scope x:=by first |exact Or.inl rfl |exact Or.inr (Or.inl rfl) |exact Or.inr (Or.inr rfl))(hd:(x==("__debug__" : Str))=false:=by decide)(t_:(x==("__classdict__" : Str))=false:=by decide):DE K mg X ES (.Name x pos) (au i).F:=by with_unfolding_all exact Kh i hN hv hd t_
def km{i:Int}{j:Nat}:DE K mg X ES (.Constant (.int i) j pos) (bC i).F:=by with_unfolding_all exact JQ
def Nm{i:Bool}{j:Nat}:DE K mg X ES (.Constant (.bool i) j pos) (pBl i).F:=by with_unfolding_all exact MH
def Jr:DE K mg X ES (.Constant .none j pos) iV.F:=by with_unfolding_all exact LN
def Kf{i:Str}{j:Nat}:DE K mg X ES (.Constant (.str i) j pos) (bY i).F:=by with_unfolding_all exact LP
def Ih{x:Str}(hg:Gl X x)(ha:∃a,mg x=some (.ref a))(hm:X.mg=mg:=by rfl)(hd:(x==("__debug__" : Str))=false:=by decide):DE K mg X ES (.Name x pos) (ye x).F:=by with_unfolding_all exact Ia hg ha hm hd
def Mn{x:Str}{d:D}{v:Val}{r:∀P h,Rd P h d v}(hg:Gl X x)(ha:GC K mg x d)(hm:X.mg=mg:=by rfl)(hd:(x==("__debug__" : Str))=false:=by decide):DE K mg X ES (.Name x pos) (ui d v r).F:=by with_unfolding_all exact MY hg ha hm hd
def OG{x:Str}{n:String}(hg:Gl X x)(hm:mg x=none)(hv:bootBuiltins x=some (.type n))(he:X.mg=mg:=by rfl)(hn:x ≠ "__name__":=by decide)(hd:(x==("__debug__" : Str))=false:=by decide):DE K mg X ES (.Name x pos) (pTy n).F:=by with_unfolding_all exact Nr hg hm hv he hn hd
def yx(ho:OpR X (binaryOp op) r')(hd:OpD K mg r' k.F)(ha:DE K mg X ES a p.F)(hb:DE K mg X ES b q.F):DE K mg X ES (.BinOp a op b pos) (pOp k p q).F:=by with_unfolding_all exact MV ho hd ha hb
def NG(hr:IxR X r')(hd:OpD K mg r' k.F)(ha:DE K mg X ES a p.F)(hb:DE K mg X ES b q.F)(hs:rB b:=by exact λ_ _=>rfl):DE K mg X ES (.Subscript a b pos) (pOp k p q).F:=by with_unfolding_all exact NF hr hd ha hb hs
def Kn(ho:OpR X (compareOp op) r')(hd:OpD K mg r' k.F)(ha:DE K mg X ES a p.F)(hb:DE K mg X ES b q.F)(hm:behindInMarks op b=false:=by first |exact Ba _ |with_unfolding_all rfl):DE K mg X ES (.Compare a [op] [b] pos) (pOp k p q).F:=by with_unfolding_all exact HQ ho hd ha hb hm
def IK(ho:OpR X (compareOp op) r')(hd:OpD K mg r' k.F)(ha:DE K mg X ES a p.F)(hb:DE K mg X ES b q.F)(hm:behindInMarks op b=false:=by first |exact Ba _ |with_unfolding_all rfl):DT K mg X ES (.Compare a [op] [b] pos) (qOf (pOp k p q)).F:=by with_unfolding_all exact Lq ho hd ha hb hm
def vx(ha:DE K mg X ES a p.F)(he:∀s_,isTrue a X.env s_=(do let v <- s_;standAt a.pos;holding [v] (truthy v)):=by intro _;rfl):DT K mg X ES a (qOf p).F:=by with_unfolding_all exact JW ha he
def o6(ha:DT K mg X ES a t.F):DT K mg X ES (.UnaryOp .Not a pos) (qNo t).F:=by with_unfolding_all exact KO ha
def Fj(ha:DT K mg X ES a t.F):DW K mg X ES (.BoolOp .And [a] pos) t.F:=by with_unfolding_all exact FC ha
def A7(ha:DT K mg X ES a t.F):DW K mg X ES (.BoolOp .Or [a] pos) t.F:=by with_unfolding_all exact Jf ha
def II(ha:DT K mg X ES a t.F)(hb:DW K mg X ES (.BoolOp .And (b::es) pos) u.F):DW K mg X ES (.BoolOp .And (a::b::es) pos) (qAn t u).F:=by with_unfolding_all exact KJ ha hb
def yY(ha:DT K mg X ES a t.F)(hb:DW K mg X ES (.BoolOp .Or (b::es) pos) u.F):DW K mg X ES (.BoolOp .Or (a::b::es) pos) (qO t u).F:=by with_unfolding_all exact LX ha hb
def ZW.dt(h:DW K mg X ES a t.F):DT K mg X ES a t.F:=by with_unfolding_all exact DW.dt h
def zt_w{op}(h:DW K mg X ES (.BoolOp op es pos) t.F):DT K mg X ES (.BoolOp op es pos) t.F:=ZW.dt h
def Hw{op}(h:DE K mg X ES a p.F):DE K mg X ES (.BoolOp op [a] pos) p.F:=by with_unfolding_all exact Lu h
def Jy(ha:DE K mg X ES a p.F)(hb:DE K mg X ES (.BoolOp .And (b::es) pos) q.F):DE K mg X ES (.BoolOp .And (a::b::es) pos) (gG p q).F:=by with_unfolding_all exact HJ ha hb
def Kx(ha:DE K mg X ES a p.F):DE K mg X ES (.UnaryOp .Not a pos) (n9 p).F:=by with_unfolding_all exact JS ha
def OC(hc:DT K mg X ES c t.F)(ha:DE K mg X ES a p.F)(hb:DE K mg X ES b q.F):DE K mg X ES (.IfExp c a b pos) (pIf t p q).F:=by with_unfolding_all exact Oe hc ha hb
def L4(ho:UnR X (unaryOp op) r')(hd:UnD K mg r' k.F)(ha:DE K mg X ES a p.F):DE K mg X ES (.UnaryOp op a pos) (pUn k p).F:=by with_unfolding_all exact Nl ho hd ha
def zE:DA K mg X ES [] bx.F:=by with_unfolding_all exact JI
def cp(ha:DE K mg X ES e p.F)(hr:DA K mg X ES es A.F)(hs:starEach (e::es) X.env=(false,eval e X.env)::starEach es X.env:=by rfl):DA K mg X ES (e::es) (ah p A).F:=by with_unfolding_all exact EM ha hr hs
def z9{x1}(h:DA K mg X ES es A.F):DE K mg X ES (.Tuple es x1 pos) (cW A).F:=by with_unfolding_all exact KN h
def tM(h:DA K mg X ES es A.F):DE K mg X ES (.List es pos) (dH A).F:=by with_unfolding_all exact Iy h
def fi{id:String}{r':List V->Hp->VK->Prop}{k:PBf}{x:Str}{p0:Pos}(hc:CallR X (.builtin id) r')(hd:dN K mg r' k.F)(hg:Gl X x)(hm:mg x=none)(hv:bootBuiltins x=some (.builtin id))(ha:DA K mg X ES (e::es) A.F)(hk:X.mg=mg:=by rfl)(hn:x ≠ "__name__":=by decide)(hdb:(x==("__debug__" : Str))=false:=by decide)(he:starEach (e::es) X.env=(false,eval e X.env)::starEach es X.env:=by rfl)(hpl:(backTo pos (starEach es X.env)).any (·.1)=false:=by rfl):DE K mg X ES (.Call (.Name x p0) (e::es) [] pos) (pFn k A).F:=by with_unfolding_all exact Cz hc hd hg hm hv ha hk hn hdb he hpl
def rR{id:String}{r':List V->Hp->VK->Prop}{k:PBf}{x:Str}{p0:Pos}(hc:CallR X (.type id) r')(hd:dN K mg r' k.F)(hg:Gl X x)(hm:mg x=none)(hv:bootBuiltins x=some (.type id))(ha:DA K mg X ES (e::es) A.F)(hk:X.mg=mg:=by rfl)(hn:x ≠ "__name__":=by decide)(hdb:(x==("__debug__" : Str))=false:=by decide)(he:starEach (e::es) X.env=(false,eval e X.env)::starEach es X.env:=by rfl)(hpl:(backTo pos (starEach es X.env)).any (·.1)=false:=by rfl):DE K mg X ES (.Call (.Name x p0) (e::es) [] pos) (pFn k A).F:=by with_unfolding_all exact zW hc hd hg hm hv ha hk hn hdb he hpl
def Cs{f:PFn}{x:Str}{p0:Pos}{k n:Nat}{ps:List Str}(C:Callee X.prog X.w X.K X.mg X.base x k ps (spD K mg n f.F))(hr:Room k X.A)(hg:Gl X x)(hx:mY X ES)(ha:DA K mg X ES (e::es) A.F)(hn:f.ms.length=n)(hdb:(x==("__debug__" : Str))=false)(he:starEach (e::es) X.env=(false,eval e X.env)::starEach es X.env)(hpl:(backTo pos (starEach es X.env)).any (·.1)=false):DE K mg X ES (.Call (.Name x p0) (e::es) [] pos) (bD f A).F:=by subst hn;with_unfolding_all exact CO C hr hg hx ha hdb he hpl
def G4:DSs K mg X ES [] xNx.F:=by with_unfolding_all exact GZ
def eJ(h1:DS K mg X ES st x.F):DSs K mg X ES [st] x.F:=by with_unfolding_all exact FR h1
def bH(h1:DS K mg X ES st x.F)(h2:DSs K mg X ES sts y.F):DSs K mg X ES (st::sts) (bE x y).F:=by with_unfolding_all exact C8 h1 h2
def vZ:DS K mg X ES (.Continue pos) xCt.F:=by with_unfolding_all exact vX
def iO(he:DE K mg X ES e p.F):DS K mg X ES (.Return (some e) pos) (bG p).F:=by with_unfolding_all exact KW he
def wH(he:DE K mg X ES e p.F)(hs:swapsWith e none pos.line X.env=pure false:=by rfl):DS K mg X ES (.Expr e pos) (eE p).F:=by with_unfolding_all exact EX he hs
def kS(hc:DT K mg X ES c t.F)(ha:DSs K mg X ES sts x.F)(hb:DSs K mg X ES sts' y.F):DS K mg X ES (.If c sts sts' pos) (xIf t x y).F:=by with_unfolding_all exact ND hc ha hb
def GH{i:Nat}{x:Str}(hN:X.N.Nodup)(hi:X.N[i]?=some x)(hx:Loc X.env.scope x)(hf:X.fn x=true\/X.env.scope.names.lookup x=some .local):DG K mg X ES (.Name x pos) (gtN i).F:=GI hN hi hx hf
def GS:DGs K mg X ES [] dG.F:=Hf
def By(h1:DG K mg X (λ_=>E0) e g.F)(h2:DGs K mg X (λ_=>E0) es gs.F)(hs:(assignEach (e::es) X.env).map (·.2)=assign e X.env::(assignEach es X.env).map (·.2):=by rfl):DGs K mg X (λ_=>E0) (e::es) (bQ g gs).F:=Bs h1 h2 hs
def Kz(hK:X.K=K)(hc:X.calm=true)(h:DGs K mg X (λ_=>E0) es gs.F)(hn:(assignEach es X.env).length=n:=by rfl)(hst:(assignEach es X.env).findIdx? (·.1)=none:=by rfl):DG K mg X (λ_=>E0) (.Tuple es k pos) (gtT n gs).F:=KY hK hc h hn hst
def ZG.weak(hg:DG K mg X (λ_=>E0) e g.F):DG K mg X ES e (gtX g).F:=DG.weak hg
def qZ(he:DE K mg X ES e p.F)(hg:DG K mg X ES a g.F)(hs:swapsWithSole [a] e pos.line X.env=pure false:=by rfl)(hw:swappedStores [a] e X.env=pure none:=by rfl)(h1:(assignEach [a] X.env).map (·.2)=[assign a X.env]:=by rfl):DS K mg X ES (.Assign [a] e pos) (fO p g).F:=by with_unfolding_all exact zM he hg hs hw h1
def GU(he:DE K mg X ES e p.F)(ho:DE K mg X ES o (au j).F)(hi:DE K mg X ES i q.F)(hs':uA X r')(hd:p7 K mg r' w.F)(hs:swapsWithSole [.Subscript o i p1] e pos.line X.env=pure false:=by rfl)(hw:swappedStores [.Subscript o i p1] e X.env=pure none:=by rfl)(h1:(assignEach [.Subscript o i p1] X.env).map (·.2)=[assign (.Subscript o i p1) X.env]:=by rfl)
 (ha:∀v,assign (.Subscript o i p1) X.env v=(do
  let ov <- holding [v] (eval o X.env)
  let iv <- holding [v,ov] (eval i X.env)
  standAt p1
  holding [v,ov,iv] (setItem ov iv v)
  release [v,ov,iv] []):=by intro _;rfl):DS K mg X ES (.Assign [.Subscript o i p1] e pos) (qz j w q p).F:=by with_unfolding_all exact zM he (Ky ho hi hs' hd ha) hs hw h1
def KZ{ow:Bool}{i:Nat}{x:Str}{p_:Pos}(hN:X.N.Nodup)(hi:X.N[i]?=some x)(hx:Loc X.env.scope x)(he:DE K mg X ES e p.F)(hs:swapsWith e (some (.Name x p_)) pos.line X.env=pure false)(hf:X.fn x=true\/X.env.scope.names.lookup x=some .local):DS K mg X ES (.Assign [.Name x p_] e pos) (bJ ow i p).F:=by with_unfolding_all exact Km hN hi hx he hs hf
def HY{i j:Nat}{x y:Str}{px py pt:Pos}{kt k2 pt2}(hN:X.N.Nodup)(ha:DA K mg X ES [a,b] A.F)(hc:X.calm=true:=by rfl)(hi:X.N[i]?=some x:=by rfl)(hj:X.N[j]?=some y:=by rfl)(hij:i≠j:=by decide)(hx:X.env.scope.names.lookup x=some .local:=by rfl)(hy:X.env.scope.names.lookup y=some .local:=by rfl)(hw:swappedStores [.Tuple [.Name x px,.Name y py] kt pt] (.Tuple [a,b] k2 pt2) X.env=pure (some [x,y]):=by rfl)(hs:swapsWithSole [.Tuple [.Name x px,.Name y py] kt pt] (.Tuple [a,b] k2 pt2) pos.line X.env=pure false:=by rfl):DS K mg X ES (.Assign [.Tuple [.Name x px,.Name y py] kt pt] (.Tuple [a,b] k2 pt2) pos) (jU i j A).F:=by with_unfolding_all exact Ln hc hN hi hj hij hx hy ha hw hs
def IS{i:Nat}{x:Str}{op:Operator}{ti:TIp}{p_:Pos}{k:PO2}(hN:X.N.Nodup)(he:DE K mg X ES e p.F)(ho:PIp X op ti)(hd:IpD K mg ti k.F)(hi:X.N[i]?=some x:=by rfl)(hx:Loc X.env.scope x:=by first |exact Or.inl rfl |exact Or.inr rfl)(hf:X.fn x=true\/X.env.scope.names.lookup x=some .local:=by first |exact .inl rfl |exact .inr rfl |assumption):DS K mg X ES (.AugAssign (.Name x p_) op e pos) (C3 i k p).F:=by with_unfolding_all exact Ki hN hi hx he ho hd hf
def Dx{x:Str}{C:Addr}{E:XK}{np cpos:Pos}(hc:X.calm=true)(hR:Rz X E)(hg:Gl X x)(hm:mg x=some (.ref C))(hq:W.excIn X.K C oq "ValueError.__new__"=true)(ha:DA K mg X (λ_=>E) (e::es) A.F)(hk:X.mg=mg:=by rfl)(he:starEach (e::es) X.env=(false,eval e X.env)::starEach es X.env:=by rfl)(j':(backTo cpos (starEach es X.env)).any (·.1)=false:=by rfl)(hd:(x==("__debug__" : Str))=false:=by decide):DS K mg X (λ_=>E) (.Raise (some (.Call (.Name x np) (e::es) [] cpos)) none pos) (gm x A).F:=by with_unfolding_all exact BV hc hR hg hm hq ha hk he j' hd
def K1(hK:X.K=K)(he:DE K mg X ES e p.F):DI K mg X ES tg e (cn p).F:=by with_unfolding_all exact J6 hK he
def zX(hg:Gl X "range")(hm:mg "range"=none)(ha:DA K mg X ES [a] A.F)(hk:X.mg=mg:=by rfl)(hs:starEach [a] X.env=[(false,eval a X.env)]:=by rfl):DI K mg X ES tg (.Call (.Name "range" p0) [a] [] pos) (mI A).F:=by with_unfolding_all exact Ak hg hm ha hk hs
def Aa(hg:Gl X "range")(hm:mg "range"=none)(ha:DA K mg X ES [a,b] A.F)(hk:X.mg=mg:=by rfl)(hs:starEach [a,b] X.env=[(false,eval a X.env),(false,eval b X.env)]:=by rfl)(hs2:starEach [b] X.env=[(false,eval b X.env)]:=by rfl):DI K mg X ES tg (.Call (.Name "range" p0) [a,b] [] pos) (sW A).F:=by with_unfolding_all exact Ah hg hm ha hk hs hs2
def Fc(hK:X.K=K)(hg:Gl X "enumerate")(hm:mg "enumerate"=none)(ha:DA K mg X ES [a] A.F)(hk:X.mg=mg:=by rfl)(hs:starEach [a] X.env=[(false,eval a X.env)]:=by rfl):DI K mg X ES (.Tuple elts x1 tp) (.Call (.Name "enumerate" p0) [a] [] pos) (yh A).F:=by with_unfolding_all exact He hK hg hm ha hk hs
def Ly(hK:X.K=K)(hg:Gl X "zip")(hm:mg "zip"=none)(ha:DA K mg X ES [a,b] A.F)(hk:X.mg=mg:=by rfl)(hs:starEach [a,b] X.env=[(false,eval a X.env),(false,eval b X.env)]:=by rfl)(hs2:starEach [b] X.env=[(false,eval b X.env)]:=by rfl):DI K mg X ES (.Tuple elts x1 tp) (.Call (.Name "zip" p0) [a,b] [] pos) (yK A).F:=by with_unfolding_all exact JG hK hg hm ha hk hs hs2
def iN(hp:PassesOwn (model X.prog X.w) X.A X.env X.xe)(hc:X.calm=true)(hi:DI K mg X ES tg a_ I.F)(hg:DG K mg X ES tg g.F)(hb:DSs K mg X ES sts x.F)(hs:∀x,foldedSetIterable a_ X.env x=pure x:=by intro _;rfl):DS K mg X ES (.For tg a_ sts [] pos) (eP I g x).F:=by with_unfolding_all exact KG hp hc hi hg hb hs
def DL(hp:PassesOwn (model X.prog X.w) X.A X.env X.xe)(hc:DT K mg X ES c t.F)(hb:DSs K mg X ES sts x.F):DS K mg X ES (.While c sts [] pos) (xWh t x).F:=by with_unfolding_all exact B6 hp hc hb
def M4{scope:Scope}(M:List Str)(kn:List (Str×NameKind))(N:List Str)(sub:Rg){hsb:(sub.filterMap id).Nodup}(hc:X.calm=true)(hi:DI K mg X ES tg a_ I.F)(hg:∀cl C s₂ H fp,DG K mg (bL X N scope cl C s₂ H fp) (λ_=>E0) tg g.F)(he:∀cl C s₂ H fp,DE K mg (bL X N scope cl C s₂ H fp) (λ_=>E0) k_ p.F)(hM:X.N=M)(hkn:X.env.scope.names=kn)(f_:fU M scope.names sub N=true)(hk:scope.kind=.function)(hnc:∀x∈scope.names,x.2 ≠ .cell)(b_:∀x∈scope.names,x.2=.local->scope.names.lookup x.1=some .local)(r_:iC kn scope.names=true)(hsl:sub.length=N.length)(hs:∀x,foldedSetIterable a_ X.env x=pure x):DE K mg X ES (.ListComp k_ [⟨tg,a_,[],0⟩] scope pos) (pLC I sub hsb g qY p).F:=by with_unfolding_all exact NP M kn N sub hc hi hg he hM hkn f_ hk hnc b_ r_ hsl hs
def Gh{scope:Scope}(M:List Str)(kn:List (Str×NameKind))(N:List Str)(sub:Rg){hsb:(sub.filterMap id).Nodup}(hc:X.calm=true)(hi:DI K mg X ES tg a_ I.F)(hg:∀cl C s₂ H fp,DG K mg (bL X N scope cl C s₂ H fp) (λ_=>E0) tg g.F)(ht:∀cl C s₂ H fp,DT K mg (bL X N scope cl C s₂ H fp) (λ_=>E0) c t.F)(he:∀cl C s₂ H fp,DE K mg (bL X N scope cl C s₂ H fp) (λ_=>E0) k_ p.F)(hM:X.N=M)(hkn:X.env.scope.names=kn)(f_:fU M scope.names sub N=true)(hk:scope.kind=.function)(hnc:∀x∈scope.names,x.2 ≠ .cell)(b_:∀x∈scope.names,x.2=.local->scope.names.lookup x.1=some .local)(r_:iC kn scope.names=true)(hsl:sub.length=N.length)(hs:∀x,foldedSetIterable a_ X.env x=pure x):DE K mg X ES (.ListComp k_ [⟨tg,a_,[c],0⟩] scope pos) (pLC I sub hsb g t p).F:=by with_unfolding_all exact F8 M kn N sub hc hi hg ht he hM hkn f_ hk hnc b_ r_ hsl hs
def GL{ow:Bool}{px spos:Pos}{iT:Nat}{xT:Str}{scope:Scope}(M:List Str)(kn:List (Str×NameKind))(N:List Str)(sub:Rg){hsb:(sub.filterMap id).Nodup}(hc:X.calm=true)(hN:X.N.Nodup)(hix:X.N[iT]?=some xT)(hxl:Loc X.env.scope xT)(hi:DI K mg X ES tg a_ I.F)(hg:∀cl C s₂ H fp,DG K mg (bL X N scope cl C s₂ H fp) (λ_=>E0) tg g.F)(ht:∀cl C s₂ H fp,DT K mg (bL X N scope cl C s₂ H fp) (λ_=>E0) c t.F)(he:∀cl C s₂ H fp,DE K mg (bL X N scope cl C s₂ H fp) (λ_=>E0) k_ p.F)(hsw:swapsWith (.ListComp k_ [⟨tg,a_,[c],0⟩] scope pos) (some (.Name xT px)) spos.line X.env=pure true)(hM:X.N=M)(hkn:X.env.scope.names=kn)(f_:fU M scope.names sub N=true)(hk:scope.kind=.function)(hnc:∀x∈scope.names,x.2 ≠ .cell)(b_:∀x∈scope.names,x.2=.local->scope.names.lookup x.1=some .local)(r_:iC kn scope.names=true)(hsl:sub.length=N.length)(hs:∀x,foldedSetIterable a_ X.env x=pure x)(hf:X.fn xT=true\/X.env.scope.names.lookup xT=some .local):DS K mg X ES (.Assign [.Name xT px] (.ListComp k_ [⟨tg,a_,[c],0⟩] scope pos) spos) (bJ ow iT (pLC I sub hsb g t p)).F:=by with_unfolding_all exact GQ M kn N sub hc hN hix hxl hi hg ht he hsw hM hkn f_ hk hnc b_ r_ hsl hs hf
def zL{j:Nat}{name:Str}{id:String}{apos cpos:Pos}{r':V->List V->Hp->VK->Prop}{k:PMm}(hK:X.K=K)(slot:Slot "list" name id)(hty:typeOf (.builtin id)=pure (.type "method_descriptor"))(hm:MtM X id r')(hd:MtD K mg r' k.F)(ho:DE K mg X ES o (au j).F)(ha:DA K mg X ES (e::es) A.F)(n_:attributeBase o name X.env (eval o X.env)=eval o X.env:=by rfl)(hfew:((backTo cpos (starEach (e::es) X.env)).all (λx=>!x.1)&&(backToKw cpos (keywordEach [] X.env)).all (λx=>x.1.isSome)&&decide ((e::es).length+([]:List Keyword).length+(if ([]:List Keyword).isEmpty then 0 else 1)<30))=true:=by rfl)(o_:(apos.endLine==cpos.line)=true:=by rfl)(hs:starEach (e::es) X.env=(false,eval e X.env)::starEach es X.env:=by rfl)(j':(backTo cpos (starEach es X.env)).any (·.1)=false:=by rfl):DE K mg X ES (.Call (.Attribute o name apos) (e::es) [] cpos) (lE j k A).F:=by with_unfolding_all exact de_m hK slot hty hm hd ho ha n_ hfew o_ hs j'
def Fw{j:Nat}{name:Str}{id:String}{apos cpos:Pos}{r':V->List V->Hp->VK->Prop}{k:PMm}(hK:X.K=K)(slot:Slot "list" name id)(hty:typeOf (.builtin id)=pure (.type "method_descriptor"))(hm:MtM X id r')(hd:MtD K mg r' k.F)(ho:DE K mg X ES o (au j).F)(n_:attributeBase o name X.env (eval o X.env)=eval o X.env:=by rfl)(o_:(apos.endLine==cpos.line)=true:=by rfl):DE K mg X ES (.Call (.Attribute o name apos) [] [] cpos) (yP j k).F:=by with_unfolding_all exact Nz hK slot hty hm hd ho n_ o_
def xv:DO K mg X ES none oN.F:=GN
def wY(he:DE K mg X ES e p.F):DO K mg X ES (some e) (oS p).F:=by with_unfolding_all exact Gf he
def uZ{l u:POp}{lo hi:Option Expr}{p2:Pos}(hK:X.K=K)(he:DE K mg X ES e p.F)(hl:DO K mg X ES lo l.F)(hu:DO K mg X ES hi u.F):DE K mg X ES (.Subscript e (.Slice lo hi none p2) pos) (pSl p l u).F:=by with_unfolding_all exact Br hK he hl hu
def uY:OpD K mg (λx y H Q=>rI0 (λi j=>.int (i+j)) x y H Q\/(rA x y H Q\/(mV K x y H Q\/mG K x y H Q))) cC.F:=IA
def Jp:OpD K mg (rI0 λi j=>.int (i-j)) xO.F:=IE
def IP:OpD K mg (rI CMulA λi j=>.int (i*j)) cx.F:=IX
def Ja:OpD K mg (rI CDivB λi j=>.int (i.fdiv j)) jQ.F:=I0
def KA:OpD K mg (rI (λ_ j=>j≠0) λi j=>.int (i.fmod j)) dZ.F:=J2
def JP:OpD K mg (rI i0 λi j=>.int (i^j.toNat)) qS.F:=KC
def Ji:OpD K mg (rI i0 λi j=>.int (i*2^j.toNat)) DN.F:=JE
def Ew:OpD K mg (rI0 λi j=>.bl (decide (i<j))) bLt.F:=L5
def Ec:OpD K mg (rI0 λi j=>.bl (decide (i<=j))) bLe.F:=Oh
def Ee:OpD K mg (rI0 λi j=>.bl (decide (j<i))) bGt.F:=NB
def D4:OpD K mg (rI0 λi j=>.bl (decide (j<=i))) bGe.F:=MZ
def NJ:OpD K mg (λx y H Q=>zt K x y H Q\/yb K x y H Q) bIx.F:=Kp
def EI:OpD K mg (xJ K) bEq.F:=Jl
def Mf:OpD K mg (xY K) bNe.F:=J9
def NI:OpD K mg (rIn K false) bIn.F:=(AS false)
def IV:OpD K mg (rIn K true) jP.F:=(AS true)
def Mp:OpD K mg (λx y H Q=>y=.non/\Q (.bl (decide (x=.non))) H) bIs.F:=GA
def Lj:OpD K mg (λx y H Q=>y=.non/\Q (.bl (!decide (x=.non))) H) yO.F:=BZ
def LV:dN K mg (λxs H Q=>(∃p ys,xs=[.ref p]/\(SqL K H p ys\/SqT K H p ys)/\Q (.int ys.length) H)\/(∃z,xs=[.str z]/\z.length<=sizeLine/\Q (.int z.length) H)) b8.F:=La
def HI:dN K mg (λxs H Q=>∃i,xs=[.int i]/\Q (.int (if i<0 then -i else i)) H) o3.F:=J1
def zG:dN K mg (λxs H Q=>∃(a:Addr) (bs:List Bool),xs=[.ref a]/\SqL K H a (bs.map V.bl)/\Q (.bl (bs.all id)) H) tE.F:=Jv
def jr:dN K mg (λxs H Q=>∃(a:Addr) (ns:List Int),xs=[.ref a]/\SqL K H a (ns.map V.int)/\Q (.int ns.sum) H) gZ.F:=JX
def wR:dN K mg (λxs H Q=>∃p ys,xs=[.ref p]/\(SqL K H p ys\/SqT K H p ys)/\∀l,H l=none->Q (.ref l) (upd H l (.lst ys))) kG.F:=FN
def DP:dN K mg (λxs H Q=>∃p ys,xs=[.ref p]/\((SqL K H p ys/\∀l,H l=none->Q (.ref l) (upd H l (.tup ys)))\/(SqT K H p ys/\Q (.ref p) H))) rl.F:=BR
def LQ(ok:KitsOk K mg kt):dN K mg (λxs H Q=>(∃x c t v b,xs=[x,c]/\TyX K H x t/\gQ c=some v/\W.kitOne K t v=some b/\Q (.bl b) H)\/
 (∃x tp cs t vs b,xs=[x,.ref tp]/\SqT K H tp cs/\TyX K H x t/\cs.mapM gQ=some vs/\W.kitAny K t vs=some b/\Q (.bl b) H)) (cD kt).F:=Jw ok
def sg:MtD K mg qU fQ.F:=A1
def Ck:MtD K mg uI pW.F:=B8
def ya:MtD K mg nK lQ.F:=yE
def FQ:p7 K mg x9 seL.F:=FW
def Hk:IpD K mg (ipI λi j=>i+j) DC.F:=Gx
def Hx:UnD K mg (rU λi=>.int (-i)) tN.F:=LH
variable{P:Program}{w:World}{base:Heap}{fx:Str}{m_:Stmt}{k n m:Nat}{ps N:List Str}{ms:List Bool}
def okP(D:Def K mg fx m_)(S:FnScope N ps (bF m_))
 (hb:∀(kV doc pm:Value) (an:Option Addr) (cdv ct:Value) (us:List Value),us.length=ps.length->bindArgs (W.fnOf fx fx (eh m_) (cA m_) (bF m_) .none kV doc pm an cdv ct) ⟨us,[]⟩=pure (ps.zip us))
 (j_:∀(f:Addr) (cdv:Value) (A:Around) (outer:List Env) (s:Shared) (H:Hp) (E:XK),Room k (A.deeper (envOfC fx (bF m_) s.heap.objs.size f cdv))->
  DSs K mg (fJ (CX1 P w) P w K mg base N fx (bF m_) f cdv A outer s H E) (λ_=>E) (cA m_) x.F) (hn:ps.length=n) (hm:N.length=m):Callee P w K mg base fx (k+1) ps (spD K mg n (fnP ms m x).F):=by
 subst hn hm;with_unfolding_all exact D.okD S hb j_
def okX(D:Def K mg fx m_)(S:FnScope N ps (bF m_))
 (hb:∀(kV doc pm:Value) (an:Option Addr) (cdv ct:Value) (us:List Value),us.length=ps.length->bindArgs (W.fnOf fx fx (eh m_) (cA m_) (bF m_) .none kV doc pm an cdv ct) ⟨us,[]⟩=pure (ps.zip us))
 (j_:∀(f:Addr) (cdv:Value) (A:Around) (outer:List Env) (s:Shared) (H:Hp) (E:XK),Room k (A.deeper (envOfC fx (bF m_) s.heap.objs.size f cdv))->
  DSs K mg (fJ (CX1 P w) P w K mg base N fx (bF m_) f cdv A outer s H E) (λ_=>E) (cA m_) x.F) (hn:ps.length=n) (hm:N.length=m):Callee P w K mg base fx (k+1) ps (spD K mg n (PFx.of ms m x).F):=by
 subst hn hm;with_unfolding_all exact D.okD S hb j_
def ok0(D:Def K mg fx m_)(S:FnScope N ps (bF m_))
 (hb:∀(kV doc pm:Value) (an:Option Addr) (cdv ct:Value) (us:List Value),us.length=ps.length->bindArgs (W.fnOf fx fx (eh m_) (cA m_) (bF m_) .none kV doc pm an cdv ct) ⟨us,[]⟩=pure (ps.zip us)) (hn:ps.length=n:=by rfl):Callee P w K mg base fx (k+1) ps (spD K mg n (PFx.none ms).F):=by
 subst hn;exact D.okD (F:=λ_ _=>.stuck) S hb λ_ _ _ _ _ _ _ _=>Bc
end
def Kj(b:Bool)(ms:List Bool)(v:Val)(vs:List Val):sls (b::ms) (v::vs)=sl1 b v::sls ms vs:=rfl
def EY:sls [] []=[]:=rfl
def OJ(v:Val):sl1 true v=.mu v:=rfl
def NM(v:Val):sl1 false v=.sh v:=rfl
section
variable(e:E3)
def FO:okA e [] []=true:=rfl
def Jd(i:Nat)(ms:List Bool)(ts:List Tm):okA e (true::ms) (.bor i::ts)=(((e[i]?).bind Sl.mv).isSome && !(jS i ts)&&okA e ms ts):=rfl
def ID(i:Nat)(ms:List Bool)(ts:List Tm):okA e (false::ms) (.bor i::ts)=(!(jR i ms ts)&&okA e ms ts):=rfl
def HU(v:Val)(ms:List Bool)(ts:List Tm):okA e (false::ms) (.val v::ts)=okA e ms ts:=rfl
def Dg(i:Nat):jS i []=false:=rfl
def Kw(i:Nat)(v:Val)(ts:List Tm):jS i (.val v::ts)=jS i ts:=rfl
def Dz(i:Nat):jR i [] []=false:=rfl
def Jh(i:Nat)(t:Tm)(ms:List Bool)(ts:List Tm):jR i (false::ms) (t::ts)=jR i ms ts:=by cases t <;> rfl
def zZ:bU e [] []=[]:=rfl
theorem G1(i:Nat)(ms:List Bool)(ts:List Tm):bU e (false::ms) (.bor i::ts)=match e[i]? with
 |some (.sh _)=>bU e ms ts
 |_=>i::bU e ms ts:=rfl
def EU(v:Val)(ms:List Bool)(ts:List Tm):bU e (false::ms) (.val v::ts)=bU e ms ts:=rfl
def K5(t:Tm)(ms:List Bool)(ts:List Tm):bU e (true::ms) (t::ts)=bU e ms ts:=by cases t <;> rfl
end
def Au:ck [] []=[]:=rfl
def GK(b:Bool)(t:Tm)(ms:List Bool)(ts:List Tm):ck (b::ms) (t::ts)=rb b t::ck ms ts:=rfl
def FI(i:Nat):rb true (.bor i)=some i:=rfl
def Ii(t:Tm):rb false t=none:=by cases t <;> rfl
def BF(e:E3):bT [] [] e=e:=rfl
def Lp(o:Option Nat)(sub:Rg)(s:Sl)(i e:E3):bT (o::sub) (s::i) e=bT sub i (ij o s e):=rfl
theorem F5(i:Nat)(v:Val)(e:E3):ij (some i) (.mu v) e=match e[i]? with
 |some t=>e.set i (t.re v)
 |none=>e:=rfl
def Kq(s:Sl)(e:E3):ij none s e=e:=rfl
def B9(vs:List Val):bN [] vs=[]:=rfl
def LO(ms:List Bool)(v:Val)(vs:List Val):bN (true::ms) (v::vs)=.mu v::bN ms vs:=rfl
def H0(ms:List Bool)(vs:List Val):bN (false::ms) vs=.no::bN ms vs:=by cases vs <;> rfl
def F4(e:E3):muV [] e=some []:=by cases e <;> rfl
def Om(ms:List Bool)(v:Val)(e:E3):muV (true::ms) (.mu v::e)=(muV ms e).map (v :: ·):=rfl
def Oi(ms:List Bool)(s:Sl)(e:E3):muV (false::ms) (s::e)=muV ms e:=by cases s <;> rfl
def zQ(v:Val):gL (.val v)=flatV v:=rfl
def AQ(v:Val):gL (.new v)=c5 v:=rfl
def bq(v u:Val):gL (.pr v u)=(flatV v&&c5 u):=rfl
def AW(xs:List Val):c5 (.lst xs)=flatVs xs:=rfl
def dC:flatVs []=true:=by simp [flatVs]
def cJ(v:Val)(vs:List Val):flatVs (v::vs)=(flatV v&&flatVs vs):=by simp [flatVs]
def iU(i:Int):flatV (.int i)=true:=by simp [flatV]
def Bu(i:Bool):flatV (.bl i)=true:=by simp [flatV]
def iS(i:Str):flatV (.str i)=true:=by simp [flatV]
def Az:flatV .non=true:=by simp [flatV]
def fb(xs:List Val):flatV (.tup xs)=flatVs xs:=by simp [flatV]
def mH(h0:0<=i)(h:l[i.toNat]?=some x):atI l i=some x:=by have hl:=(x_.mp h).1;unfold atI ixN;rw[if_pos h0,if_pos (by omega)];exact h
def Jb(h0:0<=i)(h:i.toNat<n):ixN n i=some i.toNat:=by unfold ixN;rw[if_pos h0,if_pos (by omega)]
section
variable(a b c d:α)(l:List α)
def ati0:atI (a::l) 0=some a:=mH (by decide) rfl
def ati1:atI (a::b::l) 1=some b:=mH (by decide) rfl
def ati2:atI (a::b::c::l) 2=some c:=mH (by decide) rfl
def ati3:atI (a::b::c::d::l) 3=some d:=mH (by decide) rfl
end
theorem DU(xs:List Val)(k:Int)(v:Val):seL.G (.lst xs) (.int k) v=match ixN xs.length k with
 |some j=>some (.lst (xs.set j v))
 |none=>none:=rfl
mutual
def vq:Val->Val->Bool
 |.non,.non=>true
 |.bl a,.bl b=>a==b
 |.bl a,.int j=>(if a then 1 else 0)==j
 |.int i,.bl b=>i==(if b then 1 else 0)
 |.int i,.int j=>i==j
 |.str x,.str y=>x==y
 |.tup xs,.tup ys=>vqs xs ys
 |.lst xs,.lst ys=>vqs xs ys
 |_,_=>false
def vqs:List Val->List Val->Bool
 | [],[]=>true
 |x::xs,y::ys=>vq x y&&vqs xs ys
 |_,_=>false
end
mutual
def wfV:Nat->Val->Bool
 |_,.non=>true
 |_,.bl _=>true
 |_,.int _=>true
 |_,.str x=>PyData.strOk x
 |k+1,.tup xs=>fK k xs
 |k+1,.lst xs=>fK k xs
 |_,_=>false
def fK:Nat->List Val->Bool
 |_,[]=>true
 |k,x::xs=>wfV k x&&fK k xs
end
mutual
def de:Val->PyData
 |.bl b=>.bool b
 |.int i=>.int i
 |.str x=>.str x
 |.tup xs=>.tuple (fo xs)
 |.lst xs=>.list (fo xs)
 |_=>.none
def fo:List Val->List PyData
 | []=>[]
 |x::xs=>de x::fo xs
end
mutual
theorem kB:∀(k:Nat) (v:Val),wfV k v=true->(∀j,k<j->eD j v=some (de v))/\(de v).canLay0=true/\(de v).depth<=k
 |k,.non,_=>⟨λj hj=>by cases j with |zero=>exact absurd hj (PM _) |succ j=>rfl,rfl,O2 _⟩
 |k,.bl b,_=>⟨λj hj=>by cases j with |zero=>exact absurd hj (PM _) |succ j=>rfl,rfl,O2 _⟩
 |k,.int b,_=>⟨λj hj=>by cases j with |zero=>exact absurd hj (PM _) |succ j=>rfl,rfl,O2 _⟩
 |k,.str b,w=>⟨λj hj=>by cases j with |zero=>exact absurd hj (PM _) |succ j=>rfl,by cases k <;> exact w,O2 _⟩
 |0,.tup xs,w=>absurd w z_
 |0,.lst xs,w=>absurd w z_
 |
  k+1,.tup xs,w=>by
  obtain⟨h1,h2,h3⟩:=nU k xs w;exact⟨λj hj=>by cases j with |zero=>exact absurd hj (PM _) |succ j=>simp only[eD,de,h1 j (Nat.lt_of_succ_lt_succ hj),Option.map_some],h2,by simpa [de,PyData.depth] using h3⟩
 |
  k+1,.lst xs,w=>by
  obtain⟨h1,h2,h3⟩:=nU k xs w;exact⟨λj hj=>by cases j with |zero=>exact absurd hj (PM _) |succ j=>simp only[eD,de,h1 j (Nat.lt_of_succ_lt_succ hj),Option.map_some],h2,by simpa [de,PyData.depth] using h3⟩
 |k,.ty _,w=>by cases k <;> exact absurd w z_
 |k,.glb _,w=>by cases k <;> exact absurd w z_
 |k,.exc _,w=>by cases k <;> exact absurd w z_
 |k,.kl _,w=>by cases k <;> exact absurd w z_
 |k,.dct _,w=>by cases k <;> exact absurd w z_
 |k,.set _,w=>by cases k <;> exact absurd w z_
theorem nU:∀(k:Nat) (vs:List Val),fK k vs=true->(∀j,k<j->gf j vs=some (fo vs))/\PyData.canLayAll0 (fo vs)=true/\PyData.depthAll (fo vs)<=k
 |k,[],_=>⟨λj hj=>by simp [gf,fo],rfl,O2 _⟩
 |
  k,v::vs,w=>by
  have w':(wfV k v&&fK k vs)=true:=w;rw[B_] at w';obtain⟨h1,h2,h3⟩:=kB k v w'.1;obtain⟨i1,i2,i3⟩:=nU k vs w'.2;exact⟨λj hj=>by simp [gf,fo,h1 j hj,i1 j hj],by simp [fo,PyData.canLayAll0,h2,i2],Nat.max_le.mpr ⟨h3,i3⟩⟩
end
mutual
theorem zx:∀(k:Nat) (v u:Val),wfV k v=true->wfV k u=true->PyData.eqv (de v) (de u)=vq v u
 |
  k,v,u,hv,hu=>by
  cases v <;> first |(cases k <;> exact absurd hv z_) |skip
  all_goals (cases u <;> first |(cases k <;> exact absurd hu z_) |rfl |(cases k with |zero=>exact absurd hv z_ |succ k=>exact xg k _ _ hv hu))
theorem xg:∀(k:Nat) (v u:List Val),fK k v=true->fK k u=true->PyData.eqvAll (fo v) (fo u)=vqs v u
 |_,[],[],_,_=>rfl
 |_,[],_::_,_,_=>rfl
 |_,_::_,[],_,_=>rfl
 |
  k,x::xs,y::ys,hv,hu=>by
  have h1:(wfV k x&&fK k xs)=true:=hv;have h2:(wfV k y&&fK k ys)=true:=hu;rw[B_] at h1 h2;show (PyData.eqv (de x) (de y)&&PyData.eqvAll (fo xs) (fo ys))=(vq x y&&vqs xs ys);rw[zx k x y h1.1 h2.1,xg k xs ys h1.2 h2.2]
end
def Iw(hk:k<=160)(hx:wfV k x=true)(hy:wfV k y=true):dg x y=some (vq x y):=by obtain⟨h1,h2,h3⟩:=kB k x hx;obtain⟨i1,i2,i3⟩:=kB k y hy;unfold dg;rw[h1 164 (by omega),i1 164 (by omega)];dsimp only;rw[if_pos ⟨jC h2 (by omega),jC i2 (by omega)⟩,zx k x y hx hy]
def yL(hx:wfV 60 x=true)(hy:wfV 60 y=true):dg x y=some (vq x y):=Iw (by decide) hx hy
mutual
theorem qI:∀(k:Nat) (v:Val),wfV k v=true->vq v v=true
 |
  k,v,hv=>by
  cases v <;> first |(cases k <;> exact absurd hv z_) |rfl |exact Qz _ |(cases k with |zero=>exact absurd hv z_ |succ k=>exact u5 k _ hv)
theorem u5:∀(k:Nat) (v:List Val),fK k v=true->vqs v v=true
 |_,[],_=>rfl
 |
  k,x::xs,hv=>by
  have h1:(wfV k x&&fK k xs)=true:=hv;rw[B_] at h1;show (vq x x&&vqs xs xs)=true;rw[qI k x h1.1,u5 k xs h1.2];rfl
end
noncomputable def fV(q:Rat):Val:=.tup [.int q.num,.int q.den]
structure Bx where
 l:Rat
 t:Rat
 w:Rat
 h:Rat
structure Bx.Ok(b:Bx):Prop where
 w:0<b.w
 h:0<b.h
structure Bx.Sz(n:Nat)(b:Bx):Prop where
 l:L2.Sz n b.l
 t:L2.Sz n b.t
 w:L2.Sz n b.w
 h:L2.Sz n b.h
noncomputable def bV(b:Bx):Val:=.tup [fV b.l,fV b.t,fV b.w,fV b.h]
noncomputable def knV:Val->Bool
 |.exc _=>false
 |v=>(tyC v).isSome
noncomputable def jM:Nat->Val->Bool
 |k+1,.tup xs=>xs.all (jM k)
 |_,v=>knV v
noncomputable def jg:Val->Bool
 |.int _=>true
 |_=>false
noncomputable def cm:Val->Bool
 |.tup [.int a,.int b]=>decide (1<=b)&&decide (Int.gcd a b=1)
 |_=>false
noncomputable def lF:Val->Bool
 |.tup (.int a::_)=>decide (0<a)
 |_=>false
noncomputable def iG:Val->Bool
 |.tup [a,b,c,d]=>cm a&&(cm b&&(cm c&&(cm d&&(lF c&&lF d))))
 |_=>false
noncomputable def jE:Val->Bool
 |.int i=>decide (1<=i)
 |_=>false
noncomputable def hZ:Val->Bool
 |.tup _=>true
 |_=>false
def Nf(h1:1<=b)(h2:Int.gcd a b=1):Val.tup [.int a,.int b]=fV ((a:Rat)/(b:Rat)):=by
 have hb:b≠0:=by omega
 have h:=o7 (a:=a) hb;have s:=Fr.self (by omega) h2;unfold fV;rw[<- h.1,<- h.2,s.1,s.2]
def kR(q:Rat):cm (fV q)=true:=by
 show (decide (1<=(q.den:Int))&&decide (Int.gcd q.num q.den=1))=true
 have:=q.den_pos
 rw[J_ (by omega),J_ (xq q)];rfl
def Ai(h:cm d=true):∃q,d=fV q:=by
 unfold cm at h;split at h
 .simp only[B_,P9] at h;exact⟨_,Nf h.1 h.2⟩
 .cases h
def wQ(q:Rat):lF (fV q)=decide (0<q):=by show decide (0<q.num)=decide (0<q);rw[decide_eq_decide];exact w6
def C1(h:b.Ok):iG (bV b)=true:=by show (cm (fV b.l)&&(cm (fV b.t)&&(cm (fV b.w)&&(cm (fV b.h)&&(lF (fV b.w)&&lF (fV b.h))))))=true;rw[kR,kR,kR,kR,wQ,wQ,J_ h.w,J_ h.h];rfl
def Kr(b:Bx):jM 2 (bV b)=true:=by simp [bV,fV,jM,knV,tyC]
theorem pX(P:E3->Prop):∀(vs acc:List Val) (e:E3),P e->(∀v∈vs,∀e,P e->∃e1 t e2,g v e=some e1/\F e1=.ok t e2/\dk e2 t=some (e2,f v)/\P e2)->acc.length+vs.length<=16777216->∃e',P e'/\lcV g cY F vs acc e=.ok (acc++vs.map f) e'
 | [],acc,e,hp,_,_=>⟨e,hp,by simp [lcV]⟩
 |
  v::vs,acc,e,hp,hf,hl=>by
  obtain⟨e1,t,e2,q1,q2,q3,q4⟩:=hf v (C_ ..) e hp;obtain⟨e',p',q5⟩:=pX P vs (acc++[f v]) e2 q4 (λu hu=>hf u (w_ _ hu)) (by simp at hl ⊢;omega);refine⟨e',p',?_⟩;unfold lcV;rw[if_pos (by simp at hl;omega),q1];simp only[cY,mD,PY,q2,q3,q5];simp
noncomputable def rgV(k:Nat):List Val:=(List.range k).map λj=>Val.int (j:Nat)
def Gb(h:k<1000000):jo [.int (k:Nat)]=some (rgV k):=by simp only[jo];rw[if_pos (⟨by omega,by omega⟩:RgB _),Qq];unfold rq rgV;simp only[Int.zero_add]
def mQ(h0:0<=i)(h:i<1000000):jo [.int i]=some (rgV i.toNat):=by
 have:=Gb (k:=i.toNat) (by omega)
 rwa [show ((i.toNat:Nat):Int)=i from by omega] at this
theorem lZ(f:α->Val)(st:σ->α->σ)(P:σ->E3->Prop):∀(l:List α) (s:σ) (e:E3),P s e->(∀a∈l,∀s e,P s e->∃e1 e2,g (f a) e=some e1/\(B e1=.nx e2\/B e1=.ct e2)/\P (st s a) e2)->∃e',P (l.foldl st s) e'/\dU g B (l.map f) e=.nx e'
 | [],s,e,hp,_=>⟨e,hp,rfl⟩
 |
  a::l,s,e,hp,hf=>by
  obtain⟨e1,e2,q1,q2,q3⟩:=hf a (C_ ..) s e hp;obtain⟨e',p',q4⟩:=lZ f st P l (st s a) e2 q3 λu hu=>hf u (w_ _ hu);refine⟨e',p',?_⟩;rw[A_,bZ,q1];rcases q2 with q2 |q2 <;> simp only[q2,jA,Er,q4]
theorem iq(fv fw:α->Val)(P:E3->Prop):∀(l:List α) (acc:List Val) (e:E3),P e->(∀a∈l,∀e,P e->∃e1 t e2,g (fv a) e=some e1/\F e1=.ok t e2/\dk e2 t=some (e2,fw a)/\P e2)->acc.length+l.length<=16777216->∃e',P e'/\lcV g qY.G F (l.map fv) acc e=.ok (acc++l.map fw) e'
 | [],acc,e,hp,_,_=>⟨e,hp,by simp [lcV]⟩
 |
  v::vs,acc,e,hp,hf,hl=>by
  obtain⟨e1,t,e2,q1,q2,q3,q4⟩:=hf v (C_ ..) e hp;obtain⟨e',p',q5⟩:=iq fv fw P vs (acc++[fw v]) e2 q4 (λu hu=>hf u (w_ _ hu)) (by simp at hl ⊢;omega);refine⟨e',p',?_⟩;rw[A_];unfold lcV;have cy:qY.G=cY:=rfl;rw[cy] at q5 ⊢;rw[if_pos (by simp at hl;omega),q1];simp only[cY,mD,PY,q2,q3,q5];simp
def Jn(v:Val):inS (.mu v)=.mu v:=rfl
def Jc(v:Val):inS (.sh v)=.sh v:=rfl
theorem fu(k:Nat):∀xs:List Val,fK k xs=xs.all (wfV k)
 | []=>by simp [fK]
 |x::xs=>by simp [fK,fu k xs]
def Gg(i:Nat)(v:Val)(e:E3):ij (some i) (.sh v) e=e:=rfl
noncomputable def CY(ms:List Bool)(r:SR3):R3F:=match r with
 |.nx e=>(match muV ms e with |some mv=>.ok (.val .non) mv |none=>.stuck)
 |.rt r e=>(match muV ms e with |some mv=>.ok r mv |none=>.stuck)
 |.exc c e=>(match muV ms e with |some mv=>.exc c mv |none=>.stuck)
 |_=>.stuck
def Nt(h:vs.length=ms.length):(fnP ms N c).G vs=CY ms (c.G (sls ms vs++List.replicate (N-vs.length) .no)):=by rw[bR,if_pos h];rfl
def NH(ms:List Bool)(r:Rt)(e:E3):CY ms (.rt r e)=match muV ms e with |some mv=>.ok r mv |none=>.stuck:=rfl
def gE{Q:SR3->Prop}(I:E3->Prop){a b:PSt}{e:E3}(h1:∃e1,a.G e=.nx e1/\I e1)(h2:∀e1,I e1->Q (b.G e1)):Q ((bE a b).G e):=by obtain⟨e1,q,i⟩:=h1;rw[Et,q];exact h2 e1 i
def sm8(h:m.natAbs<1099511627776):Sm 8000 m:=K_ (show m.natAbs<2^40 from h) (Pb (by decide) (by decide))
def qT{m:Int}(h:0<m):(0:Rat)<(m:Rat):=Rat.intCast_pos.mpr h
def ou{a b:Int}(h1:0<a)(h2:0<b):(0:Rat)<(a:Rat)/(b:Rat):=by rw[Rat.div_def];exact Rat.mul_pos (qT h1) (Rat.inv_pos.mpr (qT h2))
def Ko(xs ys:List Val):cC.G (.lst xs) (.lst ys)=if xs.length+ys.length<=16777216 then .new (.lst (xs++ys)) else .stuck:=rfl
section
variable{K:W.Frag}{mg:Ra}{X:Cx}{ES:L2.St->XK}{a c:Expr}{p q:PEx}{pos:Pos}
def BI(i:Nat)(ho:OpR X (compareOp op) r')(hd:OpD K mg r' k.F)(ho':OpR X (compareOp op') r2)(hd':OpD K mg r2 k'.F)(ha:DE K mg X ES a p.F)(hc:DE K mg X ES c q.F)(hN:X.N[i]?=some x:=by rfl)(hv:Vis X.env.scope x:=by first |exact Or.inl rfl |exact Or.inr (Or.inl rfl) |exact Or.inr (Or.inr rfl))(hx:(x==("__debug__" : Str))=false:=by decide)
 (t_:(x==("__classdict__" : Str))=false:=by decide) (hm:lastMarks [op,op'] [.Name x px,c]=false:=by with_unfolding_all rfl):DT K mg X ES (.Compare a [op,op'] [.Name x px,c] pos) (qAn (qOf (pOp k p (au i))) (qOf (pOp k' (au i) q))).F:=by with_unfolding_all exact DD i ho hd ho' hd' ha hc hN hv hx t_ hm
end
theorem ar1{α:Type}{P:List α->Prop}(h:∀a,P [a]):∀us:List α,us.length=1->P us
 | [a],_=>h a
theorem ar2{α:Type}{P:List α->Prop}(h:∀a b,P [a,b]):∀us:List α,us.length=2->P us
 | [a,b],_=>h a b
theorem ar3{α:Type}{P:List α->Prop}(h:∀a b c,P [a,b,c]):∀us:List α,us.length=3->P us
 | [a,b,c],_=>h a b c
theorem ar4{α:Type}{P:List α->Prop}(h:∀a b c d,P [a,b,c,d]):∀us:List α,us.length=4->P us
 | [a,b,c,d],_=>h a b c d
theorem ar5{α:Type}{P:List α->Prop}(h:∀a b c d e,P [a,b,c,d,e]):∀us:List α,us.length=5->P us
 | [a,b,c,d,e],_=>h a b c d e
theorem ar6{α:Type}{P:List α->Prop}(h:∀a b c d e f,P [a,b,c,d,e,f]):∀us:List α,us.length=6->P us
 | [a,b,c,d,e,f],_=>h a b c d e f
section
variable{P:Nat->Prop}{h:AH}
def OH(r:Rk P h ws us):lkD us k=some v->∃d,lkD ws k=some d/\Rd P h d v:=
 r.ind (M:=λws us=>lkD us k=some v->∃d,lkD ws k=some d/\Rd P h d v) (λq=>by cases q) (λ{k2 d v2 ds vs} r _ ih q=>by
  unfold lkD at q ih ⊢;rw[Pq] at q ⊢;dsimp only at q ⊢;by_cases hk:k2=k
  .rw[J_ hk] at q ⊢;cases q;exact⟨d,rfl,r⟩
  .rw[I_ hk] at q ⊢;exact ih q)
def FA(r:Rk P h ws us):us.map (·.1)=ws.map (·.1):=
 r.ind (M:=λws us=>us.map (·.1)=ws.map (·.1)) rfl λ_ _ ih=>by rw[A_,A_,ih]
def JH(r:Rk P h ws us):ws.length=us.length:=
 r.ind (M:=λws us=>ws.length=us.length) rfl λ_ _ ih=>O4 (· + 1) ih
def Lo(r:Rk P h ws us)(q:Rk P h ws' us'):Rk P h (ws++ws') (us++us'):=
 r.ind (M:=λws us=>Rk P h (ws++ws') (us++us')) q λr _ ih=>.cons r ih
def IW(rd:Rd P h d v)(r:Rk P h ws us):Rk P h (kO ws k d) (kO us k v):=by
 unfold kO;rw[vF (FA r)];by_cases hc:(ws.any λkv=>decide (kv.1=k))=true
 .rw[if_pos hc,if_pos hc];exact r.ind (M:=λws us=>Rk P h (ws.map λkv=>if kv.1=k then (kv.1,d) else kv) (us.map λkv=>if kv.1=k then (kv.1,v) else kv)) .nil (λ{k2 d2 v2 ds vs} r _ ih=>by
   rw[A_,A_];dsimp only;by_cases hk:k2=k
   .rw[if_pos hk,if_pos hk];exact .cons rd ih
   .rw[if_neg hk,if_neg hk];exact .cons r ih)
 .rw[if_neg hc,if_neg hc];exact Lo r (.cons rd .nil)
def JM:∀{ks:List Key}{ds:List D}{vs:List Val},Rds P h ds vs->Rk P h (ks.zip ds) (ks.zip vs):=by
 intro ks;induction ks with
 |nil=>intro ds vs _;exact .nil
 |
  cons k ks ih=>
  intro ds vs r;cases r with
  |nil=>exact .nil
  |cons r rr=>exact .cons r (ih rr)
end
def BJ:Val->Val->Bv:=λx y=>match x with
 |.dct kvs=>(match y with
  |.str k=>(match lkD kvs (.inr k) with
   |some v=>.val v
   |none=>.stuck)
  |_=>.stuck)
 |_=>.stuck
def Ld:RO vQ BJ:=λP h d1 d2 v1 v2 r1 r2=>by
 unfold BJ;split
 .rename_i kvs;split
  .rename_i k;split
   .rename_i v q;obtain⟨n,ws,rfl,e,rk⟩:=r1.dct;obtain rfl:=r2.str;obtain⟨d,q1,rd⟩:=OH rk q;refine⟨d,?_,rd⟩;unfold vQ;dsimp only;rw[e];dsimp only;rw[q1]
   .trivial
  .trivial
 .trivial
def gF:PO2:=⟨vQ,BJ,Ld⟩
theorem NV(kvs:List (Key×Val))(k:Str):gF.G (.dct kvs) (.str k)=match lkD kvs (.inr k) with
 |some v=>.val v
 |none=>.stuck:=rfl
def sD:Val->Val->Val->Option Val:=λo i v=>match o with
 |.dct kvs=>(match i with
  |.str k=>if kvs.length<16777216 then some (.dct (kO kvs (.inr k) v)) else none
  |_=>none)
 |_=>none
def K6:yj wD sD:=λP h n o u di vi d v u' np e hf r ri rd q=>by
 unfold sD at q;split at q
 .rename_i kvs;split at q
  .rename_i k;split at q
   .rename_i hl;cases q;obtain rfl:=ri.str;cases r with
    |dct rk=>rename_i ws;refine⟨.dct (kO ws (.inr k) d),?_,trivial,.dct (IW rd rk)⟩;unfold wD;dsimp only;rw[e];dsimp only;rw[if_pos (by rw[JH rk];exact hl)]
   .cases q
  .cases q
 .cases q
def seD:PSe:=⟨wD,sD,K6⟩
def zu(ks:List Str)(A:MA3):ME3:=λe=>(A e).bind λts e1=>match dem e1 ts with
 |some (e2,vs)=>if ks.length=vs.length then .ok (.new (.dct ((ks.map Sum.inr).zip vs))) e2 else .stuck
 |none=>.stuck
def GG(ks:List Str)(hA:RA A A3):RE (oz ks A) (zu ks A3):=λX h0 L ns e ae h S hl=>by
 have SG:=S.grow (.dct []);have p:=hA (Xn X h.length) h0 ns e ae (h++[.dct []]) SG;unfold zu oz;cases q:A3 e with
 |stuck=>trivial
 |exc c e'=>rw[q] at p;obtain⟨h',ns',y,a,S'⟩:=p;exact⟨h',ns',by rw[y];rfl,(Stp.grow _).trans S a,S'.weak λn z=>.inl z⟩
 |
  ok ts e1=>
  rw[q] at p;obtain⟨ds,h1,ns1,y,a1,S1,r1⟩:=p;rw[y];show Po X h0 ns e ae h (relE X h0 L ae) _ (match dem e1 ts with
   |some (e2,vs)=>if ks.length=vs.length then .ok (.new (.dct ((ks.map Sum.inr).zip vs))) e2 else .stuck
   |none=>.stuck)
  cases qd:dem e1 ts with
  |none=>trivial
  |
   some w=>
   obtain⟨e2,vs⟩:=w;dsimp only;by_cases c_:ks.length=vs.length
   .rw[if_pos c_];obtain⟨ns2,S2,a2,r2⟩:=kC S1 r1 qd;have hk:h1[h.length]?=some (.dct []):=a1.keep _ _ xt λ⟨i,s,z,_⟩=>SG.nx i _ z (.inr rfl);have A:=((Stp.grow (.dct [])).trans S a1).trans S a2;have hlt:=dW hk;have mv:Mov (Oc (Xn X h.length) ns2) (Oc (Xn X h.length) ns2) h1 (h1.set h.length (.dct ((ks.map Sum.inr).zip ds))):=λm o p q=>⟨p,by have:m≠h.length:=λz=>p.1 (.inr z);rw[cK this];exact q⟩;have S3:Sat (Xn X h.length) h0 ns2 e2 ae (h1.set h.length (.dct ((ks.map Sum.inr).zip ds))):=⟨S2.l1,S2.l2,by rw[N_];exact S2.lh,λm z=>by rw[N_];exact S2.xl m z,S2.inj,S2.nx,λj s qj=>(S2.sl j s qj).mono mv λm o qm qo=>by have:m≠h.length:=λz=>S2.nx j m qm (.inr z);rw[cK this];exact qo⟩;have A3':Stp ns e h ns2 e2 (h1.set h.length (.dct ((ks.map Sum.inr).zip ds))):=⟨by rw[N_];exact A.len,λm o qm hm=>by have:m≠h.length:=OU (dW qm);rw[cK this];exact A.keep m o qm hm,A.nw,A.lk,A.lk',A.mu,A.mu'⟩;refine⟨.ref h.length,_,ns2,?_,A3',S3.weak λn z=>.inl z,h.length,_,rfl,hl,λz=>Pg _ (S.xl _ z),cZ hlt,trivial,S3,.dct ((JM r2).mono mv)⟩;show (match h1[h.length]? with
     |some (.dct [])=>if ks.length=ds.length then R.ok (D.ref h.length) (h1.set h.length (.dct ((ks.map Sum.inr).zip ds))) else .stuck
     |_=>.stuck)=_
    rw[hk];dsimp only;rw[if_pos (by rw[r2.len];exact c_)]
   .rw[if_neg c_];trivial
def tI(ks:List Str)(a:PAs):PEx:=⟨oz ks a.F,zu ks a.G,GG ks a.ok⟩
theorem pL(e:E3)(ks:List Str)(a:PAs):(tI ks a).G e=(a.G e).bind λts e1=>match dem e1 ts with
 |some (e2,vs)=>if ks.length=vs.length then .ok (.new (.dct ((ks.map Sum.inr).zip vs))) e2 else .stuck
 |none=>.stuck:=rfl
section
variable{K:W.Frag}{mg:Ra}{X:Cx}{ES:L2.St->XK}{a b:Expr}{p q:PEx}{pos:Pos}
def xG(hu:X.A.units+1<cLine)(ha:DE K mg X ES a p.F)(hb:DE K mg X ES b q.F)(hs:xQ b):DE K mg X ES (.Subscript a b pos) (pOp gF p q).F:=by with_unfolding_all exact GX hu ha hb hs
def jx(hv:DE K mg X ES v F)(hr:PPs X pos ks vs (tps K mg ES prs)):PPs X pos (some (.Constant (.str k) j kp)::ks) (v::vs) (tps K mg ES ((k,F)::prs)):=by with_unfolding_all exact Di hv hr
def wU(hp:PPs X pos keys values (tps K mg ES prs))(h1:ks=prs.map (·.1):=by rfl)(h2:A.F=aL prs:=by rfl)(hn:ks.Nodup:=by decide)(hall:keys.all (·.isSome)=true:=by rfl)(hl:keys.length=values.length:=by rfl)(h0:keys≠[]:=by intro h;cases h)(h15:keys.length<=15:=by decide)(hp15:prs.length<=15:=by decide):DE K mg X ES (.Dict keys values pos) (tI ks A).F:=by subst h1;show DE K mg X ES (.Dict keys values pos) (oz (prs.map (·.1)) A.F);rw[h2];with_unfolding_all exact EV hp hall hl h0 h15 hn hp15
end
theorem rS(P:Nat->E3->Prop)(m:Nat)(hs:∀i,i<m->∀e,P i e->∃e1 e2,g (.int (i:Nat)) e=some e1/\(B e1=.nx e2\/B e1=.ct e2)/\P (i+1) e2):∀(k i:Nat) (e:E3),i+k=m->P i e->∃e',P m e'/\dU g B ((List.range' i k).map λj=>Val.int (j:Nat)) e=.nx e'
 |
  0,i,e,h,p=>by
  obtain rfl:i=m:=by omega
  exact⟨e,p,rfl⟩
 |
  k+1,i,e,h,p=>by
  obtain⟨e1,e2,q1,q2,q3⟩:=hs i (by omega) e p;obtain⟨e',p',q4⟩:=rS P m hs k (i+1) e2 (by omega) q3;refine⟨e',p',?_⟩;rw[List.range'_succ,A_,bZ,q1];rcases q2 with q2 |q2
  .simp only[q2,jA];exact q4
  .simp only[q2,Er];exact q4
def vD(P:Nat->E3->Prop)(m:Nat)(h0:P 0 e)(hs:∀i,i<m->∀e,P i e->∃e1 e2,g (.int (i:Nat)) e=some e1/\(B e1=.nx e2\/B e1=.ct e2)/\P (i+1) e2):∃e',P m e'/\dU g B (rgV m) e=.nx e':=by
 have:=rS P m hs m 0 e (by omega) h0
 rw[<- List.range_eq_range'] at this;exact this
def va(xs:List Val)(n:Nat):gD xs none (some (n:Int))=xs.take n:=by
 unfold gD;rw[HT.sIx_none,HT.sIx_nat,List.drop_zero,Nat.sub_zero];by_cases h:n<=xs.length
 .rw[Nat.min_eq_left h]
 .rw[Nat.min_eq_right (by omega),PH (y_ _),PH (by omega)]
def vt(xs:List Val)(n:Nat):gD xs (some (n:Int)) none=xs.drop n:=by
 unfold gD;rw[HT.sIx_none,HT.sIx_nat];by_cases h:n<=xs.length
 .rw[Nat.min_eq_left h,PH (by rw[List.length_drop];exact y_ _)]
 .rw[Nat.min_eq_right (by omega),List.drop_of_length_le (y_ _),List.drop_of_length_le (by omega),P2]
def wx(xs:List Val):gD xs none (some (-1))=xs.dropLast:=by unfold gD;rw[HT.sIx_none,List.drop_zero,Nat.sub_zero,List.dropLast_eq_take];show xs.take (if (-1:Int)<0 then ((-1:Int)+(xs.length:Int)).toNat else min (-1:Int).toNat xs.length)=_;rw[if_pos (by decide)];congr 1;omega
def ke(xs:List Val)(lo hi:Option Int):aSl (.lst xs) lo hi=.new (.lst (gD xs lo hi)):=rfl
def N9(xs:List Val)(lo hi:Option Int):aSl (.kl xs) lo hi=.new (.lst (gD xs lo hi)):=rfl
noncomputable def pU(n:Nat)(u:lp):MG3:=λv e=>match v with
 |.tup vs=>if vs.length=n then u vs e else none
 |.lst vs=>if vs.length=n then u vs e else none
 |_=>none
section
variable{gs:MGs}{gs3:lp}
def rg_u(n:Nat)(hs:RGs gs gs3):RG (gU λds ae h=>if ds.length=n then gs ds ae h else .stuck) (pU n gs3):=λX h0 ns e ae h d v e' S r q=>by
 unfold pU at q;split at q
 .split at q
  .rename_i hn;obtain⟨ds,rfl,r2⟩:=ShR.tup (.inl r);obtain⟨h_,ns1,p1,S1,a1⟩:=hs _ _ _ _ _ _ _ _ _ S r2 q;refine⟨h_,ns1,?_,S1,a1⟩;unfold gU;dsimp only;rw[if_pos (by rw[r2.len];exact hn)];exact p1
  .cases q
 .split at q
  .rename_i hn;obtain⟨m,ds,rfl,_,eq,r2⟩:=ShR.lst (.inl r);obtain⟨h_,ns1,p1,S1,a1⟩:=hs _ _ _ _ _ _ _ _ _ S r2 q;refine⟨h_,ns1,?_,S1,a1⟩;unfold gU;dsimp only;rw[eq];dsimp only;rw[if_pos (by rw[r2.len];exact hn)];exact p1
  .cases q
 .cases q
end
noncomputable def gtU(n:Nat)(a:PGs):PGt:=⟨gU λds ae h=>if ds.length=n then a.F ds ae h else .stuck,pU n a.G,rg_u n a.ok⟩
section
variable{e:E3}
def g_u(n:Nat)(a:PGs)(vs:List Val):(gtU n a).G (.tup vs) e=if vs.length=n then a.G vs e else none:=rfl
def g_uL(n:Nat)(a:PGs)(vs:List Val):(gtU n a).G (.lst vs) e=if vs.length=n then a.G vs e else none:=rfl
end
section
variable{K:W.Frag}{mg:Ra}{X:Cx}{es:List Expr}{gs:PGs}{pos:Pos}
def Ht{k n:Nat}(hK:X.K=K)(hc:X.calm=true)(h:DGs K mg X (λ_=>E0) es gs.F)(hn:(assignEach es X.env).length=n:=by rfl)(hst:(assignEach es X.env).findIdx? (·.1)=none:=by rfl):DG K mg X (λ_=>E0) (.Tuple es k pos) (gtU n gs).F:=K9 hK hc h hn hst
end
def Bw:List Val->Bv:=λvs=>match vs with
 | [.int j]=>if -(2^62)<=j/\j<=16777216 then .new (.lst (rgV j.toNat)) else .stuck
 |_=>.stuck
def Kl:RFn qE Bw:=λP h ds vs r=>by
 unfold Bw;split
 .obtain⟨d,hd,rr1⟩:=jy r;subst hd;split
  .rename_i j hb;have e:=rr1.int;subst e;refine⟨.lst (BH j),by unfold qE;dsimp only;rw[if_pos hb],trivial,.lst ?_⟩;unfold BH rgV;generalize List.range j.toNat=l;induction l with
   |nil=>exact .nil
   |cons i l ih=>exact .cons (.int _) ih
  .trivial
 .trivial
noncomputable def iH:PBf:=⟨qE,Bw,Kl⟩
def yt{j:Int}(h:-(2^62)<=j/\j<=16777216):iH.G [.int j]=.new (.lst (rgV j.toNat)):=if_pos h
section
variable{K:W.Frag}{mg:Ra}{X:Cx}{ES:L2.St->XK}{a:Expr}{A:PAs}{pos q2 p1 p2:Pos}
def JN(hc:X.calm=true)(hl:Gl X "list")(hml:mg "list"=none)(hg:Gl X "range")(hm:mg "range"=none)(ha:DA K mg X ES [a] A.F)(hk:X.mg=mg:=by rfl)(hs:starEach [a] X.env=[(false,eval a X.env)]:=by rfl)
 (hs1:starEach [.Call (.Name "range" p2) [a] [] q2] X.env=[(false,eval (.Call (.Name "range" p2) [a] [] q2) X.env)]:=by rfl):
 DE K mg X ES (.Call (.Name "list" p1) [.Call (.Name "range" p2) [a] [] q2] [] pos) (pFn iH A).F:=by with_unfolding_all exact H9 hc hl hml hg hm ha hk hs hs1
end
def vb(g_:Bool)(n:Str)(kvs:List (Str×Int)):Val->Val->Bv:=λx y=>match x,y with
 |.str k,.glb m=>if m=n then .val (.bl (g_ ^^ (lkS kvs k).isSome)) else .stuck
 |_,_=>.stuck
def pC(n:Str)(kvs:List (Str×Int)):Val->Val->Bv:=λx y=>match x,y with
 |.glb m,.str k=>(match lkS kvs k with
  |some i=>if m=n then .val (.int i) else .stuck
  |none=>.stuck)
 |_,_=>.stuck
def Ll(g_:Bool)(n:Str)(kvs:List (Str×Int)):RO (uG g_ n kvs) (vb g_ n kvs):=λP h d1 d2 v1 v2 r1 r2=>by
 unfold vb;split
 .split
  .rename_i hm;obtain rfl:=r1.str;obtain rfl:=r2.glb;exact⟨_,by unfold uG;dsimp only;rw[if_pos hm],.bl _⟩
  .trivial
 .trivial
def Gs(n:Str)(kvs:List (Str×Int)):RO (pf n kvs) (pC n kvs):=λP h d1 d2 v1 v2 r1 r2=>by
 unfold pC;split
 .split
  .rename_i i e;split
   .rename_i hm;obtain rfl:=r1.glb;obtain rfl:=r2.str;exact⟨_,by unfold pf;dsimp only;rw[e];dsimp only;rw[if_pos hm],.int _⟩
   .trivial
  .trivial
 .trivial
def xH(n:Str)(kvs:List (Str×Int)):PO2:=⟨uG true n kvs,vb true n kvs,Ll true n kvs⟩
def sX(n:Str)(kvs:List (Str×Int)):PO2:=⟨pf n kvs,pC n kvs,Gs n kvs⟩
def Ka(n:Str)(kvs:List (Str×Int))(k:Str):(xH n kvs).G (.str k) (.glb n)=.val (.bl (!(lkS kvs k).isSome)):=by show vb true n kvs (.str k) (.glb n)=_;unfold vb;dsimp only;rw[if_pos rfl];cases (lkS kvs k).isSome <;> rfl
def JL{n:Str}{kvs:List (Str×Int)}{k:Str}{i:Int}(h:lkS kvs k=some i):(sX n kvs).G (.glb n) (.str k)=.val (.int i):=by show pC n kvs (.glb n) (.str k)=_;unfold pC;dsimp only;rw[h];dsimp only;rw[if_pos rfl]
section
variable{K:W.Frag}{mg:Ra}{n:Str}{kvs:List (Str×Int)}
def Gp:OpD K mg (Dt true mg n kvs) (xH n kvs).F:=G7 true
def Ft:OpD K mg (yV mg n kvs) (sX n kvs).F:=Cc
end
theorem qr{g:MG3}{c:MT3}{F:ME3}{α:Type}(pz:α->Bool)(fv fw:α->Val)(P:E3->Prop):∀(l:List α) (acc:List Val) (e:E3),P e->(∀a∈l,∀e,P e->∃e1 e2,g (fv a) e=some e1/\c e1=.ok (pz a) e2/\P e2/\(pz a=true->∃t e3,F e2=.ok t e3/\dk e3 t=some (e3,fw a)/\P e3))->acc.length+l.length<=16777216->∃e',P e'/\lcV g c F (l.map fv) acc e=.ok (acc++(l.filter pz).map fw) e'
 | [],acc,e,hp,_,_=>⟨e,hp,by simp [lcV]⟩
 |
  a::l,acc,e,hp,hf,hl=>by
  obtain⟨e1,e2,q1,q2,q3,q4⟩:=hf a (C_ ..) e hp;rw[OO] at hl;cases hz:pz a with
  |false=>obtain⟨e',p',q⟩:=qr pz fv fw P l acc e2 q3 (λu hu=>hf u (w_ _ hu)) (by omega);refine⟨e',p',?_⟩;rw[hz] at q2;rw[A_];unfold lcV;rw[if_pos (by omega),q1];simp only[q2,mD,P5,QA,q];rw[List.filter_cons_of_neg (by rw[hz];exact z_)]
  |true=>obtain⟨t,e3,r1,r2,r3⟩:=q4 hz;obtain⟨e',p',q⟩:=qr pz fv fw P l (acc++[fw a]) e3 r3 (λu hu=>hf u (w_ _ hu)) (by simp;omega);refine⟨e',p',?_⟩;rw[hz] at q2;rw[A_];unfold lcV;rw[if_pos (by omega),q1];simp only[q2,mD,PY,r1,r2,q];rw[List.filter_cons_of_pos hz,A_,Ph];rfl
def oG(xs:List Int):(xs.map Val.int).all o8=true:=by rw[List.all_map,L_];intro x _;rfl
def uw(xs:List Int)(a:Int):((xs.map Val.int).any λd=>eq1 d (.int a))=xs.contains a:=by
 induction xs with
 |nil=>rfl
 |cons x xs ih=>rw[A_,Pt,ih,List.contains_cons];congr 1;show (x==a)=(a==x);rw[Bool.eq_iff_iff,O7,O7];exact⟨Eq.symm,Eq.symm⟩
def my(xs:List Int)(a:Int):jP.G (.int a) (.lst (xs.map .int))=.val (.bl (!xs.contains a)):=by show aIn true (.int a) (.lst (xs.map .int))=_;unfold aIn;dsimp only [Val.items];rw[if_pos ⟨rfl,oG xs⟩,uw];rfl
def Bt(xs:List Int)(a:Int):bIn.G (.int a) (.lst (xs.map .int))=.val (.bl (xs.contains a)):=by show aIn false (.int a) (.lst (xs.map .int))=_;unfold aIn;dsimp only [Val.items];rw[if_pos ⟨rfl,oG xs⟩,uw];rfl
def tH(x y:Val):Option Bool:=match eD 64 x,eD 64 y with
 |some d,some (.list ds)=>if SeqAt.shaped d=true/\SeqAt.shaped (.list ds)=true/\(ds.all λe=>SeqAt.noMix e d)=true then some (decide (Spec.countIn d ds≠0)) else none
 |_,_=>none
def tU(g_:Bool):Val->Val->Bv:=λx y=>match tH x y with
 |some b=>.val (.bl (g_ ^^ b))
 |none=>.stuck
def KL(g_:Bool):RO (vj g_) (tU g_):=λP h d1 d2 v1 v2 r1 r2=>by
 unfold tU;split
 .rename_i b q;refine⟨_,?_,.bl _⟩;unfold vj;have:tf h d1 d2=some b:=by
   unfold tH at q;split at q
   .rename_i d ds e1 e2;unfold tf;rw[ka 64 _ _ _ r1 e1,ka 64 _ _ _ r2 e2];exact q
   .cases q
  rw[this]
 .trivial
def yD:PO2:=⟨vj true,tU true,KL true⟩
theorem rZ{α:Type}(f:α->Val):∀l:List α,fo (l.map f)=l.map λa=>de (f a)
 | []=>rfl
 |a::l=>by rw[A_,A_,<- rZ f l];rfl
section
variable{K:W.Frag}{mg:Ra}
def Fs:OpD K mg (Cd true K) yD.F:=GY true
end
section
variable{K:W.Frag}{mg:Ra}{X:Cx}{ES:L2.St->XK}{e:Expr}{es:List Expr}{p:PEx}{A:PAs}{pos:Pos}
def zcF{f:PFn}{x:Str}{p0:Pos}{k j n:Nat}{ps:List Str}(C:Callee X.prog X.w X.K X.mg X.base x j ps (spD K mg n f.F))(hr:Room k X.A)(ha:DA K mg X ES (e::es) A.F)(hk:j<=k:=by omega)(hg:Gl X x:=by exact rfl)(hx:mY X ES:=by first |exact vV Ow |exact DB |assumption)(hn:f.ms.length=n:=by rfl)(hdb:(x==("__debug__" : Str))=false:=by decide)(he:starEach (e::es) X.env=(false,eval e X.env)::starEach es X.env:=by rfl)(hpl:(backTo pos (starEach es X.env)).any (·.1)=false:=by rfl):DE K mg X ES (.Call (.Name x p0) (e::es) [] pos) (bD f A).F:=Cs C (hr.mono hk) hg hx ha hn hdb he hpl
def zsS{ow:Bool}(i:Nat){x:Str}{p_:Pos}(hN:X.N.Nodup)(he:DE K mg X ES e p.F)(hi:X.N[i]?=some x:=by exact rfl)(hx:Loc X.env.scope x:=by first |exact Or.inl rfl |exact Or.inr rfl)(hs:swapsWith e (some (.Name x p_)) pos.line X.env=pure false:=by rfl)(hf:X.fn x=true\/X.env.scope.names.lookup x=some .local:=by first |exact .inl rfl |exact .inr rfl |assumption):DS K mg X ES (.Assign [.Name x p_] e pos) (bJ ow i p).F:=KZ hN hi hx he hs hf
def zgN(i:Nat){x:Str}(hN:X.N.Nodup)(hi:X.N[i]?=some x:=by exact rfl)(hx:Loc X.env.scope x:=by first |exact Or.inl rfl |exact Or.inr rfl)(hf:X.fn x=true\/X.env.scope.names.lookup x=some .local:=by first |exact .inl rfl |exact .inr rfl |assumption):DG K mg X ES (.Name x pos) (gtN i).F:=GH hN hi hx hf
end
def C0:Val->Val->Bv:=λx y=>match x,y with
 |.bl a,.bl b=>.val (.bl (a != b))
 |_,_=>.stuck
def Jz:RO yM C0:=λP h d1 d2 v1 v2 r1 r2=>by
 unfold C0;split
 .obtain rfl:=r1.bl;obtain rfl:=r2.bl;exact⟨_,rfl,.bl _⟩
 .trivial
def Cb:PO2:=⟨yM,C0,Jz⟩
def MD(a b:Bool):Cb.G (.bl a) (.bl b)=.val (.bl (a != b)):=rfl
def LC{K:W.Frag}{mg:Ra}:OpD K mg CJ Cb.F:=GB
open PySem PySem.Spec PyProof.Rows L2 PySem.W
noncomputable def adr(K:Frag)(x:Str):Addr:=match nsIn K mainGlobals x with
 |some (some (.ref a))=>a
 |_=>0
noncomputable def mi(K:Frag)(x:Str):Bool:=match nsIn K mainGlobals x with
 |some (some (.ref _))=>true
 |_=>false
noncomputable def yk(K:Frag)(x:Str):Bool:=match nsIn K mainGlobals x with
 |some none=>true
 |_=>false
noncomputable def xcB(K:Frag)(C:Addr):Bool:=(clsIn K C).isSome&&(findIn K (.ref C) "__getattribute__" == some (some (.builtin "BaseException.__getattribute__"))&&(findIn K (.ref C) "__getattr__" == some none&&(findIn K (.ref C) "__class__" == some (some (.builtin "object.__class__"))&&(specialIn K (.builtin "object.__class__") "__get__" == some (some (.builtin "getset_descriptor.__get__"))&&(takesIn K (.builtin "object.__class__")==some true&&(mroIn K C (.type "object")==some true&&mroIn K C (.type "BaseException")==some true))))))
noncomputable def hdB(K:Frag)(C:Addr):Bool:=typeIn K (.ref C)==some (.type "type")&&((clsIn K C).isSome&&mroIn K C (.type "BaseException")==some true)
noncomputable def clA(K:Frag):Cl->Value
 |.b n=>.type n
 |.o x=>.ref (adr K x)
noncomputable def Bl(K:Frag):Cl->Bool
 |.b _=>true
 |.o x=>mi K x
noncomputable def BS(K:Frag)(p:Cl×Cl×Bool):Bool:=kitOne K (clA K p.1) (clA K p.2.1)==some p.2.2&&(Bl K p.1&&Bl K p.2.1)
noncomputable def xkB(K:Frag):Cl->Bool
 |.b _=>true
 |.o x=>xcB K (adr K x)
noncomputable def yy:D->Value->Bool
 |.int i,.int j _=>i==j
 |.str x,.str y _=>x==y
 |.non,.none=>true
 |.bl b,.bool c=>b==c
 |_,_=>false
noncomputable def dV:D->V
 |.int i=>.int i
 |.str x=>.str x
 |.bl b=>.bl b
 |_=>.non
noncomputable def sY:List D->List Value->Bool
 | [],[]=>true
 |d::ds,v::vs=>yy d v&&sY ds vs
 |_,_=>false
noncomputable def gcB(K:Frag)(x:Str):D->Bool
 |.tup ds=>(match nsIn K mainGlobals x with
  |some (some (.ref a))=>(match K.lookup a with
   |some ⟨.type "tuple",_,.seq its _,_⟩=>decide (its.size<=1000)&&sY ds its.toList
   |_=>false)
  |_=>false)
 |d=>match nsIn K mainGlobals x with
  |some (some v)=>yy d v
  |_=>false
noncomputable def bFn:List String:=["abs", "all", "any", "isinstance", "len", "max", "min", "sorted", "sum"]
noncomputable def bTy:List String:=["bool", "dict", "int", "list", "set", "str", "tuple"]
noncomputable def bIt:List String:=["range", "zip", "enumerate"]
def Hn:(bFn.all λn=>bootBuiltins (Str.ofString n)==some (.builtin n))=true:=by decide
def IZ:(bTy.all λn=>bootBuiltins (Str.ofString n)==some (.type n))=true:=by decide
def boF{n:String}(h:bFn.contains n=true):bootBuiltins (Str.ofString n)=some (.builtin n):=O7.mp (L_.mp Hn n (Pc.mp h))
def boT{n:String}(h:bTy.contains n=true):bootBuiltins (Str.ofString n)=some (.type n):=O7.mp (L_.mp IZ n (Pc.mp h))
structure Tb where
 us:List Str
 rs:List Str
 hs:List (Str×List Str)
 kt:kZ
 gs:List (Str×D)
noncomputable def Tb.ok(b:Tb)(K:Frag):Bool:=(bFn++(bTy++bIt)).all (λn=>yk K (Str.ofString n))&&(b.us.all (mi K)&&(b.rs.all (λx=>excIn K (adr K x) oq "ValueError.__new__" && mi K x)&&(b.hs.all (λp=>hdB K (adr K p.1)&&p.2.all λc=>mroIn K (adr K c) (.ref (adr K p.1))==some true&&mi K c)&&(b.kt.all (λp=>BS K p&&xkB K p.1)&&b.gs.all λp=>gcB K p.1 p.2))))
structure Tx(b:Tb)(K:Frag)(mg:Ra):Prop where
 n:∀{n:String},(bFn++(bTy++bIt)).contains n=true->mg (Str.ofString n)=none
 m:∀{x:Str},b.us.contains x=true->mg x=some (.ref (adr K x))
 x:∀{x:Str},b.rs.contains x=true->excIn K (adr K x) oq "ValueError.__new__"=true
 h:∀{x:Str}{l:List Str},(x,l)∈b.hs->XHand K (adr K x)/\∀c∈l,∀Ce,mg c=some (.ref Ce)->mroIn K Ce (.ref (adr K x))=some true
 k:KitsOk K mg b.kt
 g:∀{x:Str}{d:D},b.gs.lookup x=some d->GC K mg x d
section
variable{K:Frag}{h:Heap}{mg:Ra}{x:Str}(X:K.In h)(G:h.Ns mainGlobals mg)
include X G
def tG(e:mi K x=true):mg x=some (.ref (adr K x)):=by
 unfold mi at e;split at e
 .rename_i a q;unfold adr;rw[q];exact mg_of X G q
 .cases e
def Ej(e:yk K x=true):mg x=none:=by
 unfold yk at e;split at e
 .rename_i q;exact mg_none_of X G q
 .cases e
omit X G in
def N8{C:Addr}(e:xcB K C=true):XCls K C:=by simp only[xcB,B_,O7] at e;obtain⟨e1,e2,e3,e4,e5,e6,e7,e8⟩:=e;exact⟨e1,e2,e3,e4,e5,e6,e7,e8⟩
def D8{c:Cl}{v:Value}(e:Bl K c=true)(q:ClV mg c v):v=clA K c:=by
 cases c with
 |b n=>exact q
 |o y=>obtain⟨a,rfl,m⟩:=q;rw[tG X G (show mi K y=true from e)] at m;cases m;rfl
omit X G in
def Bd{d:D}{v:Value}(e:yy d v=true):RelV (dV d) v/\∀ρ H,RelD K mg ρ H d (dV d):=by
 unfold yy at e;split at e
 .cases O7.mp e;exact⟨⟨_,rfl⟩,λ_ _=>.int _⟩
 .cases O7.mp e;exact⟨⟨_,rfl⟩,λ_ _=>.str _⟩
 .exact⟨rfl,λ_ _=>.non⟩
 .cases O7.mp e;exact⟨rfl,λ_ _=>.bl _⟩
 .cases e
omit X G in
theorem wI:∀{ds:List D}{vs:List Value},sY ds vs=true->Vals (ds.map dV) vs/\∀ρ H,RelDs K mg ρ H ds (ds.map dV)
 | [],[],_=>⟨.nil,λ_ _=>.nil⟩
 |
  d::ds,v::vs,e=>by
  rw[sY,B_] at e;obtain⟨a1,a2⟩:=Bd (K:=K) (mg:=mg) e.1;obtain⟨b1,b2⟩:=wI e.2;exact⟨.cons a1 b1,λρ H=>.cons (a2 ρ H) (b2 ρ H)⟩
 | [],_::_,e=>nomatch e
 |_::_,[],e=>nomatch e
def Ol{d:D}(e:gcB K x d=true):GC K mg x d:=by
 unfold gcB at e;split at e
 .rename_i ds;split at e
  .rename_i a q;split at e
   .rename_i dd its n sl l;rw[B_] at e;obtain⟨v1,v2⟩:=wI (K:=K) (mg:=mg) e.2;exact Lv X G q l (G_ (of_decide_eq_true e.1) (by decide)) v1 v2
   .cases e
  .cases e
 .split at e
  .rename_i v q;obtain⟨v1,v2⟩:=Bd (K:=K) (mg:=mg) e;exact⟨_,_,mg_of X G q,v1,v2⟩
  .cases e
omit X G in
theorem zV{d:D}:∀{l:List (Str×D)},l.lookup x=some d->(x,d)∈l
 | [],h=>nomatch h
 |
  (y,e)::l,h=>by
  rw[PD] at h;split at h
  .rename_i q;cases h;rw[O7.mp q];exact C_
  .exact w_ _ (zV h)
def Mz{b:Tb}(e:b.ok K=true):Tx b K mg:=by
 unfold Tb.ok at e;simp only[B_] at e;obtain⟨e1,e2,e3,e4,e5,e6⟩:=e;simp only[L_,B_] at e1 e2 e3 e4 e5 e6;refine⟨λh=>Ej X G (e1 _ (Pc.mp h)),λh=>tG X G (e2 _ (Pc.mp h)),λh=>(e3 _ (Pc.mp h)).1,λh=>?_,⟨λp hp t v h1 h2=>?_,λp hp x C e' m=>?_⟩,λh=>Ol X G (e6 _ (zV h))⟩
 .obtain⟨a1,a2⟩:=e4 _ h;refine⟨?_,λc hc Ce m=>?_⟩
  .simp only[hdB,B_,O7] at a1;exact⟨a1.1,a1.2.1,a1.2.2⟩
  .obtain⟨b1,b2⟩:=a2 c hc;rw[tG X G b2] at m;cases m;exact O7.mp b1
 .obtain⟨a1,_⟩:=e5 p hp;simp only[BS,B_,O7] at a1;rw[D8 X G a1.2.1 h1,D8 X G a1.2.2 h2];exact a1.1
 .obtain⟨a1,a2⟩:=e5 p hp;simp only[BS,B_,O7] at a1;have a3:=a1.2.1;rw[e'] at a2 a3;rw[tG X G (show mi K x=true from a3)] at m;cases m;exact N8 a2
end
def dNm(s:Stmt):Str:=match s with
 |.FunctionDef n ..=>n
 |_=>""
def AllD(K:Frag)(mg:Ra)(top:Nat->Stmt):List Nat->Prop
 | []=>True
 |i::l=>Def K mg (dNm (top i)) (top i)/\AllD K mg top l
theorem AllD.get{K:Frag}{mg:Ra}{top:Nat->Stmt}:∀{l:List Nat},AllD K mg top l->∀i,l.contains i=true->Def K mg (dNm (top i)) (top i)
 | [],_,i,h=>nomatch h
 |
  j::l,⟨a,b⟩,i,h=>by
  rcases OP.mp (Pc.mp h) with rfl |h
  .exact a
  .exact b.get i (Pc.mpr h)
structure Ty(b:Tb)(top:Nat->Stmt)(ds:List Nat)(K:Frag)(mg:Ra):Prop extends Tx b K mg where
 d:AllD K mg top ds
noncomputable def scB(N P:List Str)(sc:Scope):Bool:=decide (sc.kind=.function)&&(!sc.isCoroutine&&(!sc.isGenerator&&(decide N.Nodup&&(decide (N.take P.length=P)&&(P.all (λx=>decide (sc.names.lookup x=some .local\/sc.names.lookup x=some .cell))&&sc.names.all λy=>decide (y.2 ≠ .free))))))
def bI{N P:List Str}{sc:Scope}(e:scB N P sc=true):FnScope N P sc:=by simp only[scB,B_,P9,L_,Bool.not_eq_true'] at e;obtain⟨e1,e2,e3,e4,e5,e6,e7⟩:=e;exact⟨e1,e2,e3,e4,e5,e6,e7⟩
section
variable{K:W.Frag}{mg:Ra}{X:Cx}{ES:L2.St->XK}{c tg a_ k_:Expr}{p:PEx}{t:PTs}{x:PSt}{g:PGt}{I:PIt}{pos:Pos}
def gn{scope:Scope}(M:List Str)(kn:List (Str×NameKind))(N:List Str)(sub:Rg){hsb:(sub.filterMap id).Nodup}(hi:DI K mg X ES tg a_ I.F)(hg:N.Nodup->∀cl C s₂ H fp,DG K mg (bL X N scope cl C s₂ H fp) (λ_=>E0) tg g.F)(he:N.Nodup->∀cl C s₂ H fp,DE K mg (bL X N scope cl C s₂ H fp) (λ_=>E0) k_ p.F)(hnd:N.Nodup:=by decide)(hc:X.calm=true:=by rfl)(hM:X.N=M:=by rfl)(hkn:X.env.scope.names=kn:=by rfl)(f_:fU M scope.names sub N=true:=by decide)(hk:scope.kind=.function:=by rfl)(hnc:∀x∈scope.names,x.2 ≠ .cell:=by decide)(b_:∀x∈scope.names,x.2=.local->scope.names.lookup x.1=some .local:=by decide)(r_:iC kn scope.names=true:=by decide)(hsl:sub.length=N.length:=by rfl)(hs:∀x,foldedSetIterable a_ X.env x=pure x:=by intro _;rfl):DE K mg X ES (.ListComp k_ [⟨tg,a_,[],0⟩] scope pos) (pLC I sub hsb g qY p).F:=M4 M kn N sub hc hi (hg hnd) (he hnd) hM hkn f_ hk hnc b_ r_ hsl hs
def Hy{scope:Scope}(M:List Str)(kn:List (Str×NameKind))(N:List Str)(sub:Rg){hsb:(sub.filterMap id).Nodup}(hi:DI K mg X ES tg a_ I.F)(hg:N.Nodup->∀cl C s₂ H fp,DG K mg (bL X N scope cl C s₂ H fp) (λ_=>E0) tg g.F)(ht:N.Nodup->∀cl C s₂ H fp,DT K mg (bL X N scope cl C s₂ H fp) (λ_=>E0) c t.F)(he:N.Nodup->∀cl C s₂ H fp,DE K mg (bL X N scope cl C s₂ H fp) (λ_=>E0) k_ p.F)(hnd:N.Nodup:=by decide)(hc:X.calm=true:=by rfl)(hM:X.N=M:=by rfl)(hkn:X.env.scope.names=kn:=by rfl)(f_:fU M scope.names sub N=true:=by decide)(hk:scope.kind=.function:=by rfl)(hnc:∀x∈scope.names,x.2 ≠ .cell:=by decide)(b_:∀x∈scope.names,x.2=.local->scope.names.lookup x.1=some .local:=by decide)(r_:iC kn scope.names=true:=by decide)(hsl:sub.length=N.length:=by rfl)(hs:∀x,foldedSetIterable a_ X.env x=pure x:=by intro _;rfl):DE K mg X ES (.ListComp k_ [⟨tg,a_,[c],0⟩] scope pos) (pLC I sub hsb g t p).F:=Gh M kn N sub hc hi (hg hnd) (ht hnd) (he hnd) hM hkn f_ hk hnc b_ r_ hsl hs
def AG{ow:Bool}{px spos:Pos}{iT:Nat}{xT:Str}{scope:Scope}(hN:X.N.Nodup)(M:List Str)(kn:List (Str×NameKind))(N:List Str)(sub:Rg){hsb:(sub.filterMap id).Nodup}(hi:DI K mg X ES tg a_ I.F)(hg:N.Nodup->∀cl C s₂ H fp,DG K mg (bL X N scope cl C s₂ H fp) (λ_=>E0) tg g.F)(ht:N.Nodup->∀cl C s₂ H fp,DT K mg (bL X N scope cl C s₂ H fp) (λ_=>E0) c t.F)(he:N.Nodup->∀cl C s₂ H fp,DE K mg (bL X N scope cl C s₂ H fp) (λ_=>E0) k_ p.F)(hsw:swapsWith (.ListComp k_ [⟨tg,a_,[c],0⟩] scope pos) (some (.Name xT px)) spos.line X.env=pure true:=by rfl)(hnd:N.Nodup:=by decide)(hc:X.calm=true:=by rfl)(hix:X.N[iT]?=some xT:=by rfl)(hxl:Loc X.env.scope xT:=by first |exact Or.inl rfl |exact Or.inr rfl)(hM:X.N=M:=by rfl)(hkn:X.env.scope.names=kn:=by rfl)(f_:fU M scope.names sub N=true:=by decide)(hk:scope.kind=.function:=by rfl)(hnc:∀x∈scope.names,x.2 ≠ .cell:=by decide)(b_:∀x∈scope.names,x.2=.local->scope.names.lookup x.1=some .local:=by decide)(r_:iC kn scope.names=true:=by decide)(hsl:sub.length=N.length:=by rfl)(hs:∀x,foldedSetIterable a_ X.env x=pure x:=by intro _;rfl)(hf:X.fn xT=true\/X.env.scope.names.lookup xT=some .local:=by first |exact .inl rfl |exact .inr rfl |assumption):DS K mg X ES (.Assign [.Name xT px] (.ListComp k_ [⟨tg,a_,[c],0⟩] scope pos) spos) (bJ ow iT (pLC I sub hsb g t p)).F:=GL M kn N sub hc hN hix hxl hi (hg hnd) (ht hnd) (he hnd) hsw hM hkn f_ hk hnc b_ r_ hsl hs hf
end
section
variable{K:W.Frag}{mg:Ra}{P:Program}{w:World}{base:Heap}{fx:Str}{m_:Stmt}{k n m:Nat}{ps N:List Str}{ms:List Bool}{x:PSt}
def bS(D:Def K mg fx m_)(S:FnScope N ps (bF m_))
 (hb:∀(kV doc pm:Value) (an:Option Addr) (cdv ct:Value) (us:List Value),us.length=ps.length->bindArgs (W.fnOf fx fx (eh m_) (cA m_) (bF m_) .none kV doc pm an cdv ct) ⟨us,[]⟩=pure (ps.zip us))
 (j_:N.Nodup->∀(f:Addr) (cdv:Value) (A:Around) (outer:List Env) (s:Shared) (H:Hp) (E:XK),Room k (A.deeper (envOfC fx (bF m_) s.heap.objs.size f cdv))->
  DSs K mg (fJ (CX1 P w) P w K mg base N fx (bF m_) f cdv A outer s H E) (λ_=>E) (cA m_) x.F) (hn:ps.length=n:=by rfl) (hm:N.length=m:=by rfl):Callee P w K mg base fx (k+1) ps (spD K mg n (fnP ms m x).F):=okP D S hb (j_ S.nd) hn hm
def tS(D:Def K mg fx m_)(S:FnScope N ps (bF m_))
 (hb:∀(kV doc pm:Value) (an:Option Addr) (cdv ct:Value) (us:List Value),us.length=ps.length->bindArgs (W.fnOf fx fx (eh m_) (cA m_) (bF m_) .none kV doc pm an cdv ct) ⟨us,[]⟩=pure (ps.zip us))
 (j_:N.Nodup->∀(f:Addr) (cdv:Value) (A:Around) (outer:List Env) (s:Shared) (H:Hp) (E:XK),Room k (A.deeper (envOfC fx (bF m_) s.heap.objs.size f cdv))->
  DSs K mg (fJ (CX1 P w) P w K mg base N fx (bF m_) f cdv A outer s H E) (λ_=>E) (cA m_) x.F) (hn:ps.length=n:=by rfl) (hm:N.length=m:=by rfl):Callee P w K mg base fx (k+1) ps (spD K mg n (PFx.of ms m x).F):=okX D S hb (j_ S.nd) hn hm
end
section
variable{K:Frag}{h:Heap}{mg:Ra}(X:K.In h)(G:h.Ns mainGlobals mg)
include X G
def Ju(e:DJ.all (yk K)=true)(P:Addr)(q:Str):¬ BL K mg P q:=λ⟨x,f,oc,od,fd,sl,c,a1,a2,a3,_⟩=>by
 have:=Ej X G (L_.mp e x a1)
 rw[a3] at this;cases this
end
def Bf{K:W.Frag}{mg:Ra}:p7 K mg zf seD.F:=Fi
section
variable{X:Nat->Prop}{h0:Nat}{ns:Ns}{e:E3}{ae:AE}{h:AH}
def Bz{i:Nat}{v:Val}(S1:Sat X h0 ns e ae h)(q:e[i]?=some (.ow v)):∃n o,ae[i]?=some (some (.ref n))/\h0<=n/\¬ X n/\h[n]?=some o/\c7 o/\Sat (Xn X n) h0 (ns.set i none) (e.set i .no) ae h/\Rc (Oc (Xn X n) (ns.set i none)) h o v/\Mov (Oc X ns) (Oc (Xn X n) (ns.set i none)) h h:=by
 obtain⟨n,o,q1,q2,q3,q4,q5,q6⟩:=S1.sl i _ q;have hi:=(x_.mp q).1;have hn:i<ns.length:=by rw[S1.l2];exact hi
 have mv:Mov (Oc X ns) (Oc (Xn X n) (ns.set i none)) h h:=λm o' p q'=>⟨⟨λz=>by
  rcases z with z |rfl
  .exact p.1 z
  .exact p.2 (cq.mpr ⟨i,q1⟩),(fE p).2⟩,q'⟩
 have S2:=S1.putN' hi (s:=.no) rfl;refine⟨n,o,q2,q3,S1.nx i n q1,q4,q5,⟨S2.l1,S2.l2,S2.lh,λm z=>?_,S2.inj,λj m qj z=>?_,λj s qj=>?_⟩,q6.mono mv,mv⟩
 .rcases z with z |rfl
  .exact S2.xl m z
  .exact dW q4
 .rcases z with z |rfl
  .exact S2.nx j m qj z
  .rcases cF hn qj with ⟨_,y⟩ |⟨y,z⟩
   .cases y
   .exact y (S1.inj j i _ z q1)
 .rcases cF hi qj with ⟨rfl,rfl⟩ |⟨z,qj'⟩
  .rw[cZ hn];rfl
  .rw[cK z];exact (S1.sl j s qj').mono mv λ_ _ _ q=>q
end
def ED(F:ME3)(i:Nat):MS3:=λe=>(F e).toS λt e1=>match dk e1 t with
 |some (e2,v)=>match e2[i]? with
  |some (.ow u)=>.rt (.pr v u) (e2.set i .no)
  |_=>.stuck
 |none=>.stuck
def FT{F:ME}{F3:ME3}(i:Nat)(hF:RE F F3):RS (yi (eFn jI (mz F (mz (cH i) lz)))) (ED F3 i):=λX h0 ns e ae h S=>by
 have p:=hF X h0 h0 ns e ae h S S.lh;show PoS X h0 ns e h ((((F ae h).bind λx h1=>((cH i ae h1).bind λy h2=>(lz ae h2).bind λys h3=>R.ok (y::ys) h3).bind λxs h2=>R.ok (x::xs) h2).bind jI).toS ae λd h1=>.rt d h1) ((F3 e).toS _);generalize F3 e=r at *;cases r with
 |stuck=>trivial
 |exc c e'=>obtain⟨h',ns',q,q1,q2⟩:=p;rw[q];exact⟨ae,h',ns',rfl,q1,q2⟩
 |
  ok t e1=>
  obtain⟨d,h1,ns1,q,a1,S1,r1⟩:=p;show PoS X h0 ns e h _ (match dk e1 t with
   |some (e2,v)=>match e2[i]? with
    |some (.ow u)=>.rt (.pr v u) (e2.set i .no)
    |_=>.stuck
   |none=>.stuck)
  cases q2:dk e1 t with
  |none=>trivial
  |
   some ev=>
   obtain⟨e2,v⟩:=ev;obtain⟨ns2,S2,a2,r2⟩:=gv S1 r1 q2;dsimp only;split
   .rename_i u qi;obtain⟨n,o,g1,g2,g3,g4,g5,g6,g7,g8⟩:=Bz S2 qi;have hi:=(x_.mp qi).1;have ev:cH i ae h1=.ok (.ref n) h1:=by unfold cH;rw[g1]
    rw[q];show PoS X h0 ns e h ((((cH i ae h1).bind λy h2=>(lz ae h2).bind λys h3=>R.ok (y::ys) h3).bind λxs h2=>R.ok (d::xs) h2).bind jI |>.toS ae λd h1=>.rt d h1) _;rw[ev];exact⟨.tup [d,.ref n],ae,h1,ns2.set i none,rfl,(a1.trans S a2).put (x:=none) hi (λ_ z=>by cases z) qi rfl rfl S2.l2,d,n,o,rfl,g2,g3,g4,g5,g6,r2.mono g8,g7⟩
   .trivial
def ym(p:PEx)(i:Nat):PSt:=⟨(bG (cW (ah p (ah (au i) bx)))).F,ED p.G i,FT i p.ok⟩
@[simp] theorem bz(p:PEx)(i:Nat)(e:E3):(ym p i).G e=(p.G e).toS λt e1=>match dk e1 t with
 |some (e2,v)=>match e2[i]? with
  |some (.ow u)=>.rt (.pr v u) (e2.set i .no)
  |_=>.stuck
 |none=>.stuck:=rfl
def wUn2(a b:Nat)(ms:List Bool)(G:Fn3)(A:MA3):MS3:=λe=>(A e).toS λts e1=>match rss e1 ts with
 |none=>.stuck
 |some vs=>if okA e1 ms ts=true then (match G vs with
  |.ok (.pr v u) mv=>if ((bU e1 ms ts).isEmpty || (gL (.pr v u)&&mv.all c5))=true then (match (bT (ck ms ts) (bN ms mv) e1)[a]?,(bT (ck ms ts) (bN ms mv) e1)[b]? with
   |some sa,some sb=>if sa.pl=true/\sb.pl=true then .nx (((bT (ck ms ts) (bN ms mv) e1).set a (.sh v)).set b (.ow u)) else .stuck
   |_,_=>.stuck) else .stuck
  |_=>.stuck) else .stuck
def Kb{a b n:Nat}{ms:List Bool}{S2:Fn}{G3:Fn3}{A:MA}{A3:MA3}(hab:a≠b)(hn:n=ms.length)(hG:RF ms S2 G3)(hA:RA A A3):RS (jm (tq n S2 A) (gtX (gtT 2 (bQ (gtN a) (bQ (gtN b) dG)))).F) (wUn2 a b ms G3 A3):=λX h0 ns e ae h S=>by
 have p:=hA X h0 ns e ae h S;show PoS X h0 ns e h ((((A ae h).bind λds h1=>if ds.length=n then S2 ds h1 else .stuck)).toS ae λd h1=>((gtX (gtT 2 (bQ (gtN a) (bQ (gtN b) dG)))).F d ae h1).toS ae λd_ h2=>.nx d_ h2) ((A3 e).toS _);generalize A3 e=r at *;cases r with
 |stuck=>trivial
 |exc c e'=>obtain⟨h',ns',q,q1,q2⟩:=p;rw[q];exact⟨ae,h',ns',rfl,q1,q2⟩
 |
  ok ts e1=>
  obtain⟨ds,h1,ns1,q,a1,S1,r1⟩:=p;show PoS X h0 ns e h _ (match rss e1 ts with
   |none=>.stuck
   |some vs=>if okA e1 ms ts=true then (match G3 vs with
    |.ok (.pr v u) mv=>if ((bU e1 ms ts).isEmpty || (gL (.pr v u)&&mv.all c5))=true then (match (bT (ck ms ts) (bN ms mv) e1)[a]?,(bT (ck ms ts) (bN ms mv) e1)[b]? with
     |some sa,some sb=>if sa.pl=true/\sb.pl=true then .nx (((bT (ck ms ts) (bN ms mv) e1).set a (.sh v)).set b (.ow u)) else .stuck
     |_,_=>.stuck) else .stuck
    |_=>.stuck) else .stuck)
  cases qv:rss e1 ts with
  |none=>trivial
  |
   some vs=>
   dsimp only;by_cases ok:okA e1 ms ts=true
   .rw[if_pos ok];split
    .rename_i v u mv qG;split
     .rename_i hf0;split
      .rename_i sa sb qa qb;split
       .rename_i hp;have hf:bU e1 ms ts=[]\/(gL (.pr v u)=true/\mv.all c5=true):=by
         rw[Bool.or_eq_true,B_] at hf0;rcases hf0 with z |z
         .exact .inl (List.isEmpty_iff.mp z)
         .exact .inr z
        have pp:=hG _ _ ds vs h1 (by rw[kA qv,ir ok]) (nJ S1 r1 qv ok);rw[qG] at pp;obtain⟨d,h',p1,st,d1,m,o,rfl,z2,z3,z4,z5,S3,z6,z7⟩:=pp;obtain⟨S4,a4,r4⟩:=og S1 ok st hf z2 z4 S3;have c_:ds.length=n:=by rw[hn,ir ok];exact TsR.len r1
        have z6':Rd (Oc (Xn X m) ns1) h' d1 v:=by
         rcases hf with hf |hf
         .exact z6.mono λm o' z y=>⟨r4 hf m z,y⟩
         .exact z6.flat (B_ _ _ ▸ hf.1).1
        have z7':Rc (Oc (Xn X m) ns1) h' o u:=by
         rcases hf with hf |hf
         .exact z7.mono λm o' z y=>⟨r4 hf m z,y⟩
         .exact z7.flat (B_ _ _ ▸ hf.1).2
        have hnx:¬ X m:=λy=>by have:=S1.xl m y;omega
        generalize bT (ck ms ts) (bN ms mv) e1=e2 at *;have ha:=(x_.mp qa).1;have hb:=(x_.mp qb).1;have S5:=S4.putN ha (s:=.sh v) (d:=some d1) ⟨rfl,d1,rfl,z6'.mono λm o p q=>⟨fE p,q⟩⟩;have hb':b<(e2.set a (.sh v)).length:=by rw[N_];exact hb
        have S6:=Sat.putO S5 hnx hb' (G_ S1.lh z2) z4 z5 (z7'.mono λm o p q=>⟨fE p,q⟩);have st1:=(a1.trans S a4).put (x:=none) (s:=.sh v) ha (λ_ z=>by cases z) qa hp.1 rfl S4.l2;have st2:=st1.put (x:=some m) (s:=.ow u) (s0:=sb) hb' (λk z=>by cases z;exact G_ a1.len z2) (by rw[Qa hab];exact qb) hp.2 rfl S5.l2;rw[q];show PoS X h0 ns e h ((if ds.length=n then S2 ds h1 else .stuck).toS ae _) _;rw[if_pos c_,p1];exact⟨_,_,_,rfl,st2,S6⟩
       .trivial
      .trivial
     .trivial
    .trivial
   .rw[if_neg ok];trivial
def CU(a b:Nat)(hab:a≠b)(f:PFn)(A:PAs):PSt:=⟨(fO (bD f A) (gtX (gtT 2 (bQ (gtN a) (bQ (gtN b) dG))))).F,wUn2 a b f.ms f.G A.G,Kb hab rfl f.ok A.ok⟩
@[simp] theorem bB(a b:Nat)(hab:a≠b)(f:PFn)(A:PAs)(e:E3):(CU a b hab f A).G e=(A.G e).toS λts e1=>match rss e1 ts with
 |none=>.stuck
 |some vs=>if okA e1 f.ms ts=true then (match f.G vs with
  |.ok (.pr v u) mv=>if ((bU e1 f.ms ts).isEmpty || (gL (.pr v u)&&mv.all c5))=true then (match (bT (ck f.ms ts) (bN f.ms mv) e1)[a]?,(bT (ck f.ms ts) (bN f.ms mv) e1)[b]? with
   |some sa,some sb=>if sa.pl=true/\sb.pl=true then .nx (((bT (ck f.ms ts) (bN f.ms mv) e1).set a (.sh v)).set b (.ow u)) else .stuck
   |_,_=>.stuck) else .stuck
  |_=>.stuck) else .stuck:=rfl
section
variable{K:W.Frag}{mg:Ra}{X:Cx}{ES:L2.St->XK}{e t:Expr}{p:PEx}{f:PFn}{A:PAs}{i j:Nat}{pos:Pos}
def FG(he:DE K mg X ES e (cW (ah p (ah (au i) bx))).F):DS K mg X ES (.Return (some e) pos) (ym p i).F:=iO he
def IQ{hij:i≠j}(he:DE K mg X ES e (bD f A).F)(hg:DG K mg X ES t (gtX (gtT 2 (bQ (gtN i) (bQ (gtN j) dG)))).F)(hs:swapsWithSole [t] e pos.line X.env=pure false:=by rfl)(hw:swappedStores [t] e X.env=pure none:=by rfl)(h1:(assignEach [t] X.env).map (·.2)=[assign t X.env]:=by rfl):DS K mg X ES (.Assign [t] e pos) (CU i j hij f A).F:=qZ he hg hs hw h1
end
structure TyD(dn:Str)(kvs:List (Str×Int))(w:World)(b:Tb)(top:Nat->Stmt)(ds:List Nat)(K:W.Frag)(mg:Ra):Prop extends Ty b top ds K mg where
 kd:KDict w K mg dn kvs
end L3
namespace Wb
open L2
noncomputable def lc(qs:List Rat)(c:Nat):Nat:=qs.foldl (λc q=>Nat.lcm c q.den) c
noncomputable def gc(ws:List Int)(g:Nat):Nat:=ws.foldl (λg w=>Int.gcd (g:Int) w) g
noncomputable def wh(L:Nat)(qs:List Rat):List Int:=qs.map λq=>q.num*((L/q.den:Nat):Int)
noncomputable def ws(qs:List Rat):List Int:=wh (lc qs 1) qs
def dv(qs:List Rat):Nat:=gc (ws qs) 0
def wb(qs:List Rat):List Int:=(ws qs).map λw=>w.fdiv (dv qs:Nat)
end Wb
namespace L3
open PySem L2
def fI(b:Bx):Rat:=if b.w<b.h then b.h/b.w else b.w/b.h
noncomputable def shL(s l:Rat)(W:Int):Int->List Int->List (Rat×Rat)
 |_,[]=>[]
 |a,w::ws=>(s+l*((a:Rat)/(W:Rat)),l*((w:Rat)/(W:Rat)))::shL s l W (a+w) ws
theorem pS(s l:Rat)(W:Int):∀(ws:List Int) (a:Int),(shL s l W a ws).length=ws.length
 | [],_=>rfl
 |w::ws,a=>by unfold shL;rw[OO,OO,pS s l W ws (a+w)]
noncomputable def gH(b:Bx)(way:Str)(ws:List Int):List Bx:=if way="across" then (shL b.l b.w ws.sum 0 ws).map λp=>⟨p.1,b.t,p.2,b.h⟩ else (shL b.t b.h ws.sum 0 ws).map λp=>⟨b.l,p.1,b.w,p.2⟩
theorem iR:∀{l:List Int},(∀w∈l,1<=w)->(l.length:Int)<=l.sum
 | [],_=>by simp
 |
  x::l,h=>by
  rw[O1,OO]
  have:=h x (C_ ..)
  have:=iR (l:=l) λw hw=>h w (w_ _ hw)
  omega
theorem xh:∀(ws:List Int) (a:Int),0<=a->(∀w∈ws,1<=w)->a+ws.sum<=W->p∈shL s l W a ws->∃a' w:Int,0<=a'/\a'<=W/\1<=w/\w<=W/\p=(s+l*((a':Rat)/(W:Rat)),l*((w:Rat)/(W:Rat)))
 | [],_,_,_,_,h=>nomatch h
 |
  w::ws,a,ha,hw,hs,h=>by
  have h1:=hw w (C_ ..);have h2:=iR (l:=ws) λx hx=>hw x (w_ _ hx);rw[O1] at hs;unfold shL at h;rcases OP.mp h with rfl |h
  .exact⟨a,w,ha,by omega,h1,by omega,rfl⟩
  .exact xh ws (a+w) (by omega) (λx hx=>hw x (w_ _ hx)) (by omega) h
def vf(hb:b.Ok)(hs:b.Sz n)(hw:∀w∈ws,1<=w)(mW:Sm m ws.sum)(h:b'∈gH b way ws):b'.Ok/\b'.Sz (n+(n+m)+1):=by
 have key:∀(s l:Rat),Sz n s->Sz n l->0<l->∀p∈shL s l ws.sum 0 ws,Sz (n+(n+m)+1) p.1/\Sz (n+(n+m)+1) p.2/\0<p.2:=by intro s l hs hl l0 p hp;obtain⟨a',w,h1,h2,h3,h4,rfl⟩:=xh ws 0 (by omega) hw (by omega) hp;have z1:Sz m ((a':Rat)/(ws.sum:Rat)):=Sz.div (by omega) (mW.of_le (by omega)) mW m (y_ _) (y_ _);have z2:Sz m ((w:Rat)/(ws.sum:Rat)):=Sz.div (by omega) (mW.of_le (by omega)) mW m (y_ _) (y_ _);exact⟨hs.add (hl.mul z1),(hl.mul z2).mono (by omega),Rat.mul_pos l0 (ou (by omega) (by omega))⟩
 unfold gH at h;split at h
 .obtain⟨p,hp,rfl⟩:=Pa.mp h;obtain⟨k1,k2,k3⟩:=key _ _ hs.l hs.w hb.1 p hp;exact⟨⟨k3,hb.2⟩,⟨k1,hs.t.mono (by omega),k2,hs.h.mono (by omega)⟩⟩
 .obtain⟨p,hp,rfl⟩:=Pa.mp h;obtain⟨k1,k2,k3⟩:=key _ _ hs.t hs.h hb.2 p hp;exact⟨⟨hb.1,k3⟩,⟨hs.l.mono (by omega),k1,hs.w.mono (by omega),k2⟩⟩
noncomputable def dP(b:Bx)(way:Str)(u v:Int):Bx:=(gH b way [u,v]).headD b
noncomputable def d6(b:Bx)(way:Str)(u v:Int):Bx:=((gH b way [u,v]).drop 1).headD b
def pE(b:Bx)(way:Str)(u v:Int):gH b way [u,v]=[dP b way u v,d6 b way u v]:=by unfold dP d6 gH;split <;> rfl
def Fb(hb:b.Ok)(hs:b.Sz n)(hu:1<=u)(hv:1<=v)(mW:Sm m (u+v)):(dP b way u v).Ok/\(dP b way u v).Sz (n+(n+m)+1):=by refine vf (way:=way) (ws:=[u,v]) hb hs ?_ (by simpa using mW) (by rw[pE];exact C_ ..);intro w hw;simp at hw;omega
def EZ(hb:b.Ok)(hs:b.Sz n)(hu:1<=u)(hv:1<=v)(mW:Sm m (u+v)):(d6 b way u v).Ok/\(d6 b way u v).Sz (n+(n+m)+1):=by refine vf (way:=way) (ws:=[u,v]) hb hs ?_ (by simpa using mW) (by rw[pE];simp);intro w hw;simp at hw;omega
noncomputable def liV(l:List Int):Val:=.lst (l.map .int)
noncomputable def cG(ws:List Int)(i:Int):Int:=ws.getD i.toNat 0
def Inr(ws nums:List Int):Prop:=∀i∈nums,0<=i/\i<(ws.length:Nat)
def wt(ws l:List Int):Int:=(l.map (cG ws)).sum
def yR{ws:List Int}{i:Int}(h0:0<=i)(h1:i<(ws.length:Nat)):atI (ws.map Val.int) i=some (.int (cG ws i)):=by
 have hi:i.toNat<ws.length:=by omega
 refine mH h0 ?_;rw[OW,OT hi];unfold cG;rw[Pf,OT hi];rfl
def vy{ws:List Int}{i:Int}(h0:0<=i)(h1:i<(ws.length:Nat)):cG ws i∈ws:=by
 have hi:i.toNat<ws.length:=by omega
 unfold cG;rw[Pf,OT hi];exact List.getElem_mem hi
def Eo(hw:∀w∈ws,1<=w)(hr:Inr ws l):(l.length:Int)<=wt ws l:=by
 have:=iR (l:=l.map (cG ws)) λw h=>by obtain⟨i,hi,rfl⟩:=Pa.mp h;exact hw _ (vy (hr i hi).1 (hr i hi).2)
 rw[u_] at this;exact this
def JY(ws l r:List Int):wt ws (l++r)=wt ws l+wt ws r:=by unfold wt;rw[O_,List.sum_append]
def BN{l r:List Int}(h:l.Perm r):l.sum=r.sum:=by
 induction h with
 |nil=>rfl
 |cons x _ ih=>rw[O1,O1,ih]
 |swap x y l=>rw[O1,O1,O1,O1];omega
 |trans _ _ h1 h2=>rw[h1,h2]
def jZ(h:l.Perm r):wt ws l=wt ws r:=BN (h.map _)
def rst(nums l:List Int):List Int:=nums.filter λx=>!l.contains x
structure Lot(nums l:List Int):Prop where
 sub:l.Sublist nums
 ne:l≠[]
 lt:l.length<nums.length
def Lot.mono(h:Lot p l)(s:p.Sublist q):Lot q l:=⟨h.sub.trans s,h.ne,K_ h.lt s.length_le⟩
def Lot.more(h:Lot p l)(x:Int):Lot (p++[x]) (l++[x]):=⟨h.sub.append (List.Sublist.refl _),by simp,by have:=h.lt;simp;omega⟩
def Lot.self(h:p≠[])(x:Int):Lot (p++[x]) p:=⟨List.sublist_append_left ..,h,by simp⟩
def nM(h:l.Sublist nums):nums.Nodup->(l++rst nums l).Perm nums:=by
 induction h with
 |slnil=>intro _;exact .nil
 |
  cons a s ih=>
  intro nd;rw[Px] at nd;rename_i l nums;have ha:¬ a∈l:=λz=>nd.1 (s.subset z);have e:rst (a::nums) l=a::rst nums l:=by unfold rst;rw[List.filter_cons_of_pos];simp [ha]
  rw[e];exact List.perm_middle.trans ((ih nd.2).cons a)
 |
  cons_cons a s ih=>
  intro nd;rw[Px] at nd;rename_i l nums;have e:rst (a::nums) (a::l)=rst nums l:=by unfold rst;rw[List.filter_cons_of_neg (by simp)];refine List.filter_congr λx hx=>?_;have:x≠a:=λz=>nd.1 (z ▸ hx);simp [this]
  rw[e];exact (ih nd.2).cons a
def j5(h:Lot nums l)(nd:nums.Nodup):Lot nums (rst nums l):=by have p:=(nM h.sub nd).length_eq;rw[F_] at p;have h1:=h.lt;have h2:=OY.mpr h.ne;refine⟨List.filter_sublist,λz=>?_,by omega⟩;rw[z,O6] at p;omega
def Dp(nd:nums.Nodup)(k:Nat):rst nums (nums.take k)=nums.drop k:=by
 have e:rst nums (nums.take k)=(nums.take k++nums.drop k).filter λx=>!(nums.take k).contains x:=by rw[QB];rfl
 rw[e,List.filter_append];have nd':(nums.take k++nums.drop k).Nodup:=by rw[QB];exact nd
 rw[List.nodup_append] at nd';have h1:(nums.take k).filter (λx=>!(nums.take k).contains x)=[]:=by rw[List.filter_eq_nil_iff];intro x hx;simp [hx]
 have h2:(nums.drop k).filter (λx=>!(nums.take k).contains x)=nums.drop k:=by rw[List.filter_eq_self];intro x hx;have:¬ x∈nums.take k:=λz=>nd'.2.2 x z x hx rfl;simp [this]
 rw[h1,h2];rfl
def gP:List (List Int)->List Int->List (List Int)
 |L,[]=>L
 |L,x::rest=>gP (L++L.map λl=>l++[x]) rest
def cS(kind:Str)(nums:List Int):List (List Int):=if kind="order" then (List.range' 1 (nums.length-1)).map λi=>nums.take i else match nums with
 | []=>[]
 |x::rest=>(gP [[x]] rest).dropLast
theorem kU:∀(rest p:List Int) (M:List (List Int)),p≠[]->(∀l∈M,Lot p l)->∃M',gP (M++[p]) rest=M'++[p++rest]/\(∀l∈M',Lot (p++rest) l)/\(rest≠[]->M'≠[])/\(M≠[]->M'≠[])
 | [],p,M,hp,hM=>⟨M,by unfold gP;rw[Pp],by simpa using hM,λz=>absurd rfl z,λz=>z⟩
 |
  x::rest,p,M,hp,hM=>by
  obtain⟨M',q1,q2,q3,q4⟩:=kU rest (p++[x]) (M++[p]++M.map λl=>l++[x]) (by simp) (λl hl=>by
   rcases Pw.mp hl with hl |hl
   .rcases Pw.mp hl with hl |hl
    .exact (hM l hl).mono (List.sublist_append_left ..)
    .rw[Pk] at hl;subst hl;exact .self hp x
   .obtain⟨l',h',rfl⟩:=Pa.mp hl;exact (hM l' h').more x)
  refine⟨M',?_,by rw[Ph] at q2;exact q2,λ_=>q4 (by simp),λ_=>q4 (by simp)⟩;unfold gP;rw[<- show (M++[p]++(M.map λl=>l++[x]))++[p++[x]]=M++[p]++(M++[p]).map (λl=>l++[x]) by simp,q1];simp
def n8(h:l∈cS kind nums):Lot nums l:=by
 unfold cS at h;split at h
 .obtain⟨i,hi,rfl⟩:=Pa.mp h;rw[List.mem_range'_1] at hi;refine⟨List.take_sublist ..,λz=>?_,by rw[Qb];omega⟩
  have:=O4 List.length z
  rw[Qb,O6] at this;omega
 .split at h
  .exact nomatch h
  .rename_i x rest;obtain⟨M',q1,q2,_,_⟩:=kU rest [x] [] (by simp) (λ_ z=>nomatch z);rw[OZ] at q1;rw[q1,List.dropLast_concat] at h;exact q2 l h
def EW(h:2<=nums.length):cS kind nums≠[]:=by
 unfold cS;split
 .intro z
  have:=O4 List.length z
  rw[u_,List.length_range',O6] at this;omega
 .split
  .simp at h
  .rename_i x rest;obtain⟨M',q1,_,q3,_⟩:=kU rest [x] [] (by simp) (λ_ z=>nomatch z);rw[OZ] at q1;rw[q1,List.dropLast_concat];exact q3 (by rintro rfl;simp at h)
theorem rW:∀(rest:List Int) (L:List (List Int)),(gP L rest).length=L.length*2^rest.length
 | [],L=>by simp [gP]
 |
  x::rest,L=>by
  unfold gP;rw[rW rest,F_,u_,OO,Nat.pow_succ,<- Nat.two_mul,QI 2,Nat.mul_assoc,QI 2]
def k8(h:nums.length<=10):(cS kind nums).length<=1000:=by
 unfold cS;split
 .rw[u_,List.length_range'];omega
 .split
  .simp
  .rename_i x rest;rw[OO] at h;rw[List.length_dropLast,rW];have:2^rest.length<=2^9:=Pb (by decide) (by omega);simp;omega
def cuV(c:Str×List Int×List Int):Val:=.tup [.str c.1,liV c.2.1,liV c.2.2]
def cQ(nums l:List Int):List (Str×List Int×List Int):=[("across",l,rst nums l),("down",l,rst nums l)]
def bM(kind:Str)(nums:List Int):List (Str×List Int×List Int):=(cS kind nums).flatMap (cQ nums)
def mx(x y:Rat):Rat:=if x<y then y else x
def fj(f:Bx->List Int->Rat)(ws:List Int)(b:Bx)(c:Str×List Int×List Int):Rat:=mx (f (dP b c.1 (wt ws c.2.1) (wt ws c.2.2)) c.2.1) (f (d6 b c.1 (wt ws c.2.1) (wt ws c.2.2)) c.2.2)
def cR(o:Option Rat)(q:Rat):Option Rat:=match o with
 |none=>some q
 |some p=>if q<p then some q else some p
def bst(kind:Str)(ws:List Int):Nat->Bx->List Int->Rat
 |0,b,_=>fI b
 |k+1,b,nums=>if nums.length=1 then fI b else ((bM kind nums).foldl (λo c=>cR o (fj (bst kind ws k) ws b c)) none).getD 0
def oK(o:Option Rat)(q:Rat):∃p,cR o q=some p:=by
 unfold cR;split
 .exact⟨_,rfl⟩
 .split <;> exact⟨_,rfl⟩
theorem sv(f:α->Rat):∀(l:List α) (p:Rat),∃q,l.foldl (λo c=>cR o (f c)) (some p)=some q
 | [],p=>⟨p,rfl⟩
 |
  c::l,p=>by
  obtain⟨q,e⟩:=oK (some p) (f c);rw[List.foldl_cons,e];exact sv f l q
def pZ(f:α->Rat)(h:l≠[]):∃q,l.foldl (λo c=>cR o (f c)) none=some q:=by
 cases l with
 |nil=>exact absurd rfl h
 |cons c l=>rw[List.foldl_cons];exact sv f l _
structure CutOk(nums:List Int)(c:Str×List Int×List Int):Prop where
 way:c.1="across" \/ c.1="down"
 one:Lot nums c.2.1
 two:Lot nums c.2.2
 rest:c.2.2=rst nums c.2.1
def i9(nd:nums.Nodup)(h:c∈bM kind nums):CutOk nums c:=by
 obtain⟨l,hl,hc⟩:=List.mem_flatMap.mp h;have lo:=n8 hl;unfold cQ at hc;rcases OP.mp hc with rfl |hc
 .exact⟨.inl rfl,lo,j5 lo nd,rfl⟩
 .rw[Pk] at hc;subst hc;exact⟨.inr rfl,lo,j5 lo nd,rfl⟩
def qX(h:2<=nums.length):bM kind nums≠[]:=by
 have:=EW (kind:=kind) h
 unfold bM;cases e:cS kind nums with
 |nil=>exact absurd e this
 |cons l ls=>rw[List.flatMap_cons];unfold cQ;simp
inductive Tr(ws:List Int):Bx->List Int->Val->Rat->Prop
 |leaf (b:Bx) (i:Int):Tr ws b [i] (.int i) (fI b)
 |node {b:Bx}{way:Str}{l r:List Int}{t1 t2:Val}{q1 q2:Rat} (hw:way="across" \/ way="down") (h1:Tr ws (dP b way (wt ws l) (wt ws r)) l t1 q1) (h2:Tr ws (d6 b way (wt ws l) (wt ws r)) r t2 q2):Tr ws b (l++r) (.tup [.str way,.tup [t1,t2]]) (mx q1 q2)
def Tr.flat(h:Tr ws b l t q):flatV t=true:=by
 induction h with
 |leaf=>exact iU _
 |node _ _ _ ih1 ih2=>simp [fb,cJ,dC,iS,ih1,ih2]
open PySem PySem.Spec PyProof.Rows L2
section
variable{kind:Str}{ws nums:List Int}{bd:Rat}{b:Bx}{k:Nat}
def thn(ws:List Int)(b:Bx)(i:Int)(nums:List Int):Rat:=fI b*((cG ws i:Rat)/(wt ws nums:Rat))
def brw(f:Bx->List Int->Option Val)(ws:List Int)(b:Bx)(c:Str×List Int×List Int):Option (Bool×Val):=match f (dP b c.1 (wt ws c.2.1) (wt ws c.2.2)) c.2.1 with
 |some p=>some (false,p)
 |none=>match f (d6 b c.1 (wt ws c.2.1) (wt ws c.2.2)) c.2.2 with
  |some p=>some (true,p)
  |none=>none
def rwV(r:Bool×Val):Val:=.tup [.int (if r.1 then 1 else 0),r.2]
def brg(kind:Str)(ws:List Int)(bd:Rat):Nat->Bx->List Int->Option Val
 |0,_,_=>none
 |
  k+1,b,nums=>if nums.length=1 then (if fI b<bd then none else some (.tup [.str "shape"])) else
  match nums.find? λi=>!decide (thn ws b i nums<bd) with
  |some i=>some (.tup [.str "thin",.int i])
  |none=>if ((bM kind nums).all λc=>(brw (brg kind ws bd k) ws b c).isSome)=true then some (.tup [.str "cases",.tup ((bM kind nums).map λc=>rwV ((brw (brg kind ws bd k) ws b c).getD (false,.non)))]) else none
def iY(c:Str×List Int×List Int)(r:Bool):List Int:=if r then c.2.2 else c.2.1
def iZ(ws:List Int)(b:Bx)(c:Str×List Int×List Int)(r:Bool):Bx:=if r then d6 b c.1 (wt ws c.2.1) (wt ws c.2.2) else dP b c.1 (wt ws c.2.1) (wt ws c.2.2)
def Pap(kind:Str):Nat->List Int->Val->Prop
 |0,_,_=>False
 |k+1,nums,v=>(nums.length=1/\v=.tup [.str "shape"])\/(nums.length≠1/\∃i∈nums,v=.tup [.str "thin",.int i])\/(nums.length≠1/\∃g:Str×List Int×List Int->Bool×Val,v=.tup [.str "cases",.tup ((bM kind nums).map λc=>rwV (g c))]/\∀c∈bM kind nums,Pap kind k (iY c (g c).1) (g c).2)
inductive Brs(kind:Str)(ws:List Int)(bd:Rat):Nat->Bx->List Int->Val->Bool->Prop
 |sh {k:Nat}{b:Bx}{nums:List Int}:nums.length=1->Brs kind ws bd (k+1) b nums (.tup [.str "shape"]) (!decide (fI b<bd))
 |th {k:Nat}{b:Bx}{nums:List Int}{i:Int}:nums.length≠1->i∈nums->Brs kind ws bd (k+1) b nums (.tup [.str "thin",.int i]) (!decide (thn ws b i nums<bd))
 |cs {k:Nat}{b:Bx}{nums:List Int} (g:Str×List Int×List Int->Bool×Val) (t:Str×List Int×List Int->Bool):nums.length≠1->(∀c∈bM kind nums,Brs kind ws bd k (iZ ws b c (g c).1) (iY c (g c).1) (g c).2 (t c))->Brs kind ws bd (k+1) b nums (.tup [.str "cases",.tup ((bM kind nums).map λc=>rwV (g c))]) ((bM kind nums).all t)
theorem AO:∀{k:Nat}{b:Bx}{nums:List Int}{v:Val},Pap kind k nums v->∃t,Brs kind ws bd k b nums v t
 |0,_,_,_,h=>h.elim
 |
  k+1,b,nums,v,h=>by
  rcases h with ⟨h1,rfl⟩ |⟨h1,i,hi,rfl⟩ |⟨h1,g,rfl,hg⟩
  .exact⟨_,.sh h1⟩
  .exact⟨_,.th h1 hi⟩
  .have:∀c,∃t,c∈bM kind nums->Brs kind ws bd k (iZ ws b c (g c).1) (iY c (g c).1) (g c).2 t:=λc=>by
    by_cases hc:c∈bM kind nums
    .obtain⟨t,ht⟩:=AO (b:=iZ ws b c (g c).1) (hg c hc);exact⟨t,λ_=>ht⟩
    .exact⟨false,λz=>absurd z hc⟩
   exact⟨_,.cs g (λc=>(this c).choose) h1 λc hc=>(this c).choose_spec hc⟩
def Cr{f:Bx->List Int->Option Val}{c:Str×List Int×List Int}{r:Bool×Val}(h:brw f ws b c=some r):f (iZ ws b c r.1) (iY c r.1)=some r.2:=by
 unfold brw at h;split at h
 .rename_i e;cases h;exact e
 .split at h
  .rename_i e;cases h;exact e
  .cases h
theorem pq:∀{k:Nat}{b:Bx}{nums:List Int}{v:Val},brg kind ws bd k b nums=some v->Pap kind k nums v/\Brs kind ws bd k b nums v true
 |0,_,_,_,h=>nomatch h
 |
  k+1,b,nums,v,h=>by
  unfold brg at h;split at h
  .rename_i h1;split at h
   .cases h
   .rename_i h2;cases h
    have:=Brs.sh (kind:=kind) (ws:=ws) (bd:=bd) (k:=k) (b:=b) h1
    rw[I_ h2] at this;exact⟨.inl ⟨h1,rfl⟩,this⟩
  .rename_i h1;split at h
   .rename_i i e;cases h
    have:=Brs.th (kind:=kind) (ws:=ws) (bd:=bd) (k:=k) (b:=b) h1 (Qh e)
    rw[List.find?_some e] at this;exact⟨.inr (.inl ⟨h1,i,Qh e,rfl⟩),this⟩
   .split at h
    .rename_i ha;cases h;rw[L_] at ha;have key:∀c∈bM kind nums,brg kind ws bd k (iZ ws b c ((brw (brg kind ws bd k) ws b c).getD (false,.non)).1) (iY c ((brw (brg kind ws bd k) ws b c).getD (false,.non)).1)=some ((brw (brg kind ws bd k) ws b c).getD (false,.non)).2:=λc hc=>by obtain⟨r,e⟩:=Pl.mp (ha c hc);rw[e];exact Cr e
     refine⟨.inr (.inr ⟨h1,λc=>(brw (brg kind ws bd k) ws b c).getD (false,.non),rfl,λc hc=>(pq (key c hc)).1⟩),?_⟩
     have:=Brs.cs (kind:=kind) (ws:=ws) (bd:=bd) (k:=k) (b:=b) (λc=>(brw (brg kind ws bd k) ws b c).getD (false,.non)) (λ_=>true) h1 λc hc=>(pq (key c hc)).2
     rw[L_.mpr λ_ _=>rfl] at this;exact this
    .cases h
theorem xk(f:α->Rat):∀(l:List α) (o:Option Rat) (q:Rat),l.foldl (λo c=>cR o (f c)) o=some q->(∀p,o=some p->q<=p)/\∀c∈l,q<=f c
 | [],o,q,h=>⟨λp e=>by rw[List.foldl_nil] at h;rw[h] at e;cases e;exact QS,λ_ z=>nomatch z⟩
 |
  c::l,o,q,h=>by
  rw[List.foldl_cons] at h;obtain⟨p,e⟩:=oK o (f c);rw[e] at h;obtain⟨h1,h2⟩:=xk f l (some p) q h;have hp:=h1 p rfl;have m1:p<=f c/\∀x,o=some x->p<=x:=by
   unfold cR at e;split at e
   .cases e;exact⟨QS,λ_ z=>nomatch z⟩
   .split at e
    .rename_i x hx;cases e;exact⟨QS,λy z=>by cases z;exact Rat.le_of_lt hx⟩
    .rename_i x hx;cases e;exact⟨P6.mp hx,λy z=>by cases z;exact QS⟩
  refine⟨λx z=>Rat.le_trans hp (m1.2 x z),λd hd=>?_⟩;rcases OP.mp hd with rfl |hd
  .exact Rat.le_trans hp m1.1
  .exact h2 d hd
theorem n5:∀{k:Nat}{b:Bx}{nums:List Int},nums.Nodup->nums≠[]->nums.length<=k->bd<=bst kind ws k b nums->∃v,brg kind ws bd k b nums=some v
 |0,_,nums,_,h0,hk,_=>absurd (OY.mpr h0) (by omega)
 |
  k+1,b,nums,nd,h0,hk,hb=>by
  have h0':=OY.mpr h0;unfold brg;unfold bst at hb;split
  .rename_i h1;rw[if_pos h1] at hb;rw[if_neg (P6.mpr hb)];exact⟨_,rfl⟩
  .rename_i h1;rw[if_neg h1] at hb;split
   .exact⟨_,rfl⟩
   .obtain⟨q,e⟩:=pZ (λc=>fj (bst kind ws k) ws b c) (qX (kind:=kind) (nums:=nums) (by omega));rw[e] at hb;have le:=(xk _ _ _ _ e).2;rw[if_pos]
    .exact⟨_,rfl⟩
    .rw[L_];intro c hc;have co:=i9 nd hc;have l1:=co.one.lt;have l2:=co.two.lt;have hm:=Rat.le_trans hb (le c hc);unfold brw;split
     .rfl
     .rename_i e1;split
      .rfl
      .rename_i e2;exfalso;unfold fj mx at hm;split at hm
       .obtain⟨v,hv⟩:=n5 (co.two.sub.nodup nd) co.two.ne (by omega) hm;rw[hv] at e2;cases e2
       .obtain⟨v,hv⟩:=n5 (co.one.sub.nodup nd) co.one.ne (by omega) hm;rw[hv] at e1;cases e1
end
end L3
namespace KK
open PySem PySem.Spec PyProof.Rows L2 L3
def top(i:Nat):Stmt:=PySem.Challenge.pw_weightrooms_k57_papers_told.main.body.getD i (.Pass ⟨0,0,0,0⟩)
noncomputable def df:kZ:=[((.b "NoneType"),(.b "bool"),false),((.b "bool"),(.b "bool"),true),((.b "int"),(.b "bool"),false),((.b "str"),(.b "bool"),false),((.b "tuple"),(.b "bool"),false),((.b "list"),(.b "bool"),false),((.b "dict"),(.b "bool"),false),((.b "NoneType"),(.b "int"),false),((.b "bool"),(.b "int"),true),((.b "int"),(.b "int"),true),((.b "str"),(.b "int"),false),((.b "tuple"),(.b "int"),false),((.b "list"),(.b "int"),false),((.b "dict"),(.b "int"),false),((.b "NoneType"),(.b "list"),false),((.b "bool"),(.b "list"),false),((.b "int"),(.b "list"),false),((.b "str"),(.b "list"),false),((.b "tuple"),(.b "list"),false),((.b "list"),(.b "list"),true),((.b "dict"),(.b "list"),false),((.b "NoneType"),(.b "str"),false),((.b "bool"),(.b "str"),false),((.b "int"),(.b "str"),false),((.b "str"),(.b "str"),true),((.b "tuple"),(.b "str"),false),((.b "list"),(.b "str"),false),((.b "dict"),(.b "str"),false),((.b "NoneType"),(.b "tuple"),false),((.b "bool"),(.b "tuple"),false),((.b "int"),(.b "tuple"),false),((.b "str"),(.b "tuple"),false),((.b "tuple"),(.b "tuple"),true),((.b "list"),(.b "tuple"),false),((.b "dict"),(.b "tuple"),false)]
def eu:List (Str×Int):=[("order",6),("any",5)]
noncomputable def kj:D:=(.int 40)
noncomputable def AD:D:=(.tup [(.str "across"),(.str "down")])
abbrev tb:Tb:=⟨["NoFraction", "NoBox", "NoWay", "NoWeights", "TooMany", "NoKind"],["NoFraction", "NoBox", "NoWay", "NoWeights", "TooMany", "NoKind"],[],df,[("MOST_WEIGHTS",kj),("WAYS",AD)]⟩
abbrev TT(w:World)(K:W.Frag)(mg:Ra):Prop:=TyD "MOST_THINGS" eu w tb top [9,10,11,12,13,14,15,16,17,21,22,23,24,25,26,27,28,29,30,33,34,35,36,37,38,39,40,42,44,45,46,47,48,49,50,51,52,54,55,56,57,58,59,60,61,62,63,64,65,66,67,68,69,70] K mg
section
variable{P:Program}{w:World}{K:W.Frag}{mg:Ra}{base:Heap}
noncomputable def jD:PEx:=ui kj (.int 40) (λ_ _=>.int _)
def ai(e:E3):jD.G e=.ok (.val (.int 40)) e:=rfl
noncomputable def qR:PEx:=ui AD (.tup [(.str "across"),(.str "down")]) (λ_ _=>.tup (.cons (.str _) (.cons (.str _) .nil)))
def bw(e:E3):qR.G e=.ok (.val (.tup [(.str "across"),(.str "down")])) e:=rfl
def dI(s:String):Lean.TSyntax `term:=⟨Lean.mkIdent (s.replace "%" "").toName⟩
def dA(f:String)(a:Lean.TSyntax `term):Lean.TSyntax `term:=Lean.Syntax.mkApp (dI f) #[a]
def dF:List (Lean.TSyntax `tactic)->Lean.MacroM (Lean.TSyntax `tactic)
 | []=>`(tactic|fail)
 |a::l=>do `(tactic|first | $a:tactic | $(<- dF l):tactic)
def dL(f:String->Lean.MacroM (Lean.TSyntax `tactic)):List String->Lean.MacroM (List (Lean.TSyntax `tactic))
 | []=>pure []
 |s::l=>do return (<- f s)::(<- dL f l)
set_option hygiene false in
def dQ(ap:String->Lean.TSyntax `term)(s:String):Lean.MacroM (Lean.TSyntax `tactic):=match (s.splitOn ";").map ap with
 | [d,c,a,b]=>`(tactic|((case d=>with_reducible exact $d);(case c=>exact $c);(case a=>exact $a);(case b=>exact $b)))
 |d::c::_=>`(tactic|((case d=>with_reducible exact $d);(case c=>exact $c)))
 |_=>`(tactic|fail)
set_option hygiene false in
def dR(ap:String->Lean.TSyntax `term)(g:String):Lean.MacroM (Lean.TSyntax `tactic):=match g.splitOn ":" with
 | [r]=>`(tactic|refine $(ap r))
 |r::l=>do `(tactic|(refine' $(ap r);$(<- dF (<- dL (dQ ap) l)):tactic))
 | []=>`(tactic|fail)
set_option hygiene false in
local macro_rules | `('d')=>do
 let h <- `(?_)
 let u <- `(_)
 let R:=dI "rfl"
 let qA <- `(?a)
 let qB <- `(?b)
 let qC <- `(?c)
 let qD <- `(?d)
 let qp <- `((λ_ _=>rfl))
 let ap:=λ(s:String)=>let w:=s.splitOn " ";Lean.Syntax.mkApp (dI (w.getD 0 "")) (((w.getD 1 "").toList.map λc=>([('1',dI "hr.u100"),('8',dI "hr.u180"),('A',qA),('B',qB),('C',qC),('D',qD),('G',dI "T.kd"),('K',dI "T.k"),('_',u),('b',dA "%boT" R),('f',dA "%boF" R),('g',dA "T.g" R),('i',dI "ih"),('k',dA "T.n" R),('m',dA "T.m" R),('n',dI "nd"),('o',dI "%mf"),('p',qp),('r',R),('t',dI "T"),('u',dA "%EH" (dI "hr")),('v',dA "%uJ" u),('x',dA "T.x" R),('z',dI "%rz1")].lookup c).getD h).toArray)
 let rd:=λ(s:String)=>dL (dR ap) (s.splitOn "|")
 let e0 <- `(tactic|refine zcF (by $(<- dF (<- rd "%ih|uO t|uM t|nr t|sN t|tT t|md t|uP t|mr t|oF t|yQ t|sM t|sT t|mZ t|qw t|ph t|wd t|uD t|vk t|Cv t|A2 t|vY t|wm t|yU t|sR t|A0 t|Ae t|zc t|xM t|sQ t|vB t|oQ t|kE t_|oA t|yz t|ub t|wo t|pv ti|lW t_|vK t|tZ t|ud t|sS t|rj t|we t|sP t|v8 t|jX t_|uh t|lL t_|uz ti|m7 ti|rD t_|za t")):tactic) hr ?_)
 let e3 <- `(tactic|exact Ih rfl (by first |exact T.e rfl |exact T.kd.ex))
 `(by repeat' $(<- dF ((<- rd "%uJ _|km|zE|cp ??|bH ??|eJ ?|zsS _n?|kS ???|iO ?|z9 ?|vx ?|Kf|Nm|G4|tM ?")++[e0,e3]++(<- rd "%NG CD??:NJ;ixK r:Ft;FP rrrG|IK CD??:Ee;Ep:D4;EG:Ew;Ei:EI;eqDK r8:Mf;neDK r8:Gp;E4 rrrG:IV;Ku r:Lj;Fv:Mp;Jt:Fs;MU r1:LC;IF|fi CDrkf?:LV;LZ r:HI;Cp:jr;fR rr:LQ K;Mj r|yx CD??:KA;Gu:Ja;CG:uY;ve r:JP;J8:IP;HA:Jp;Ho:Ji;Hr|rR CDrkb?:wR;Ab r:DP;GF r|Kn CD??:D4;EG:EI;eqDK r8:Ee;Ep:Ew;Ei:NI;inK r|zL rABCDv?:sg;rH;PySem.F.slot_list_append;PySem.F.type_list_append:Ck;Dq;PySem.F.slot_list_pop;PySem.F.type_list_pop|Fw rABCDv:ya;yX;PySem.F.slot_list_reverse;PySem.F.type_list_reverse|L4 CD?:Hx;J5|IS n?CD:Hk;K8|GU ?v?CD:Bf;DH u:FQ;Cu|ZG.weak ?|zt_w ?|Jy ??|xG u??p|Mn rg|OC ???|JN rrkrk?|Jr|Kx ?|Hw ?|uZ r???|OG rkb|zgN _n|Kz rr?|Ht rr?|By ??|GS|Fc rrk?|zX rk?|Aa rk?|K1 r?|Ly rrk?|xv|wY ?|qZ ??|vZ|wH ?|iN or???|HY n?|Dx rzrmx?|FG ?|DL o??|o6 ?|II ??|Fj ?|yY ??|A7 ?"))):tactic)
def oy:PSt:=
 (bG (tI ["cells", "at", "left"] (ah (pFn kG (ah (pSl (au 0) oN (oS (bC 63))) bx)) (ah (bC 0) (ah (bC 0) bx)))))
def gJ:PFn:=fnP [false] 1 oy
def aN:gJ.ms=[false]:=rfl
def uO(T:TT w K mg):Callee P w K mg base "_law_feed" 1 ["_law_script"] (spD K mg 1 gJ.F):=bS (T.d.get 54 rfl) (bI (N:=["_law_script"]) (by decide)) (λ_ _ _ _ _ _=>ar1 λ_=>rfl) λnd _ _ _ _ _ _ _ hr=>(eJ (iO (wU (jx (rR (Ab (K:=K) rfl) wR rfl (T.n rfl) (by first |exact boF rfl |exact boT rfl) (cp (uZ rfl (uJ 0) xv (wY km)) zE)) (jx km (jx km xE))))))
def pj:PSt:=
 (bE (xIf (qOf (pOp bGt (pOp gF (au 0) (bY "left")) (bC 0))) (bE (bJ false 2 (pOp dZ (pOp gF (au 0) (bY "left")) (au 1)))
  (bE (qz 0 seD (bY "left") (pOp jQ (pOp gF (au 0) (bY "left")) (au 1)))
  (bG (au 2)))) xNx)
  (bE (bJ false 3 (pOp gF (au 0) (bY "at")))
  (bE (qz 0 seD (bY "at") (pOp cC (au 3) (bC 1)))
  (bE (bJ false 4 (au 3))
  (bE (xIf (qOf (pOp bGt (pFn b8 (ah (pOp gF (au 0) (bY "cells")) bx)) (bC 0))) (bJ false 4 (pOp bIx (pOp gF (au 0) (bY "cells")) (pOp dZ (au 3) (pFn b8 (ah (pOp gF (au 0) (bY "cells")) bx))))) xNx)
  (bE (xIf (qAn (qOf (pOp bGe (au 4) (pOp qS (bC 10) (bC 18)))) (qOf (pOp bLt (au 3) (pFn b8 (ah (pOp gF (au 0) (bY "cells")) bx))))) (bE (qz 0 seD (bY "left") (pOp jQ (au 4) (au 1)))
  (bG (pOp dZ (au 4) (au 1)))) xNx)
  (bE (bJ false 5 (pOp dZ (pOp cx (pOp cC (pOp cC (pOp cC (pOp dZ (au 4) (bC 1000003)) (pOp cx (pOp cx (bC 61) (au 3)) (au 3))) (pOp cx (bC 7) (au 3))) (bC 1)) (bC 48271)) (bC 999983)))
  (bG (pOp dZ (pOp jQ (pOp dZ (pOp cx (pOp dZ (pOp cC (pOp cx (au 5) (bC 69623)) (pOp cx (bC 7919) (au 3))) (bC 1999993)) (bC 16811)) (bC 524287)) (bC 5)) (au 1))))))))))
def bP:PFn:=fnP [true,false] 6 pj
def aH:bP.ms=[true,false]:=rfl
def uM(T:TT w K mg):Callee P w K mg base "_law_draw" 1 ["_law_feed_here", "_law_many"] (spD K mg 2 bP.F):=bS (T.d.get 55 rfl) (bI (N:=["_law_feed_here", "_law_many", "_law_found", "_law_at", "_law_cell", "_law_number"]) (by decide)) (λ_ _ _ _ _ _=>ar2 λ_ _=>rfl) λnd _ _ _ _ _ _ _ hr=>'d'
def i5:PSt:=
 (jU 2 3 (ah (au 3) (ah (pOp dZ (au 2) (au 3)) bx)))
def sx:PSt:=
 (bE (jU 2 3 (ah (pFn o3 (ah (au 0) bx)) (ah (au 1) bx)))
  (bE (xWh (qOf (pOp bGt (au 3) (bC 0))) (i5))
  (bG (cW (ah (pOp jQ (au 0) (au 2)) (ah (pOp jQ (au 1) (au 2)) bx))))))
def cP:PFn:=fnP [false,false] 4 sx
def aW:cP.ms=[false,false]:=rfl
def nr(T:TT w K mg):Callee P w K mg base "_law_low" 1 ["_law_top", "_law_bottom"] (spD K mg 2 cP.F):=bS (T.d.get 57 rfl) (bI (N:=["_law_top", "_law_bottom", "_law_one", "_law_other"]) (by decide)) (λ_ _ _ _ _ _=>ar2 λ_ _=>rfl) λnd _ _ _ _ _ _ _ hr=>'d'
def me:PSt:=
 (bJ false 2 (pOp cC (pOp cx (au 2) (bC 100000)) (bD bP (ah (au 0) (ah (bC 100000) bx)))))
def nz:PSt:=
 (bE (bJ false 2 (bC 0))
  (bE (eP (mI (ah (au 1) bx)) (gtN 3) (me))
  (bG (au 2))))
def eR:PFn:=fnP [true,false] 4 nz
def aD:eR.ms=[true,false]:=rfl
def sN(T:TT w K mg):Callee P w K mg base "_law_great" 2 ["_law_feed_here", "_law_pieces"] (spD K mg 2 eR.F):=bS (T.d.get 56 rfl) (bI (N:=["_law_feed_here", "_law_pieces", "_law_number", "_law_k"]) (by decide)) (λ_ _ _ _ _ _=>ar2 λ_ _=>rfl) λnd _ _ _ _ _ _ _ hr=>'d'
def oT:PSt:=
 (bE (bJ false 2 (bD bP (ah (au 0) (ah (bC 5) bx))))
  (bE (xIf (qOf (pOp bLt (au 2) (bC 2))) (bG (cW (ah (pOp cC (bC 1) (bD bP (ah (au 0) (ah (bC 12) bx)))) (ah (bC 1) bx)))) xNx)
  (bE (xIf (qOf (pOp bEq (au 2) (bC 2))) (bG (cW (ah (bC 1) (ah (bC 1) bx)))) xNx)
  (bE (xIf (qOf (pOp bEq (au 2) (bC 3))) (bG (bD cP (ah (pOp cC (bC 1) (bD bP (ah (au 0) (ah (bC 60) bx)))) (ah (pOp cC (bC 1) (bD bP (ah (au 0) (ah (bC 12) bx)))) bx)))) xNx)
  (bG (bD cP (ah (pOp cC (bC 1) (pOp dZ (bD eR (ah (au 0) (ah (bC 6) bx))) (au 1))) (ah (pOp cC (bC 1) (pOp dZ (bD eR (ah (au 0) (ah (bC 6) bx))) (au 1))) bx))))))))
def fX:PFn:=fnP [true,false] 3 oT
def aF:fX.ms=[true,false]:=rfl
def tT(T:TT w K mg):Callee P w K mg base "_law_side" 3 ["_law_feed_here", "_law_far"] (spD K mg 2 fX.F):=bS (T.d.get 62 rfl) (bI (N:=["_law_feed_here", "_law_far", "_law_way"]) (by decide)) (λ_ _ _ _ _ _=>ar2 λ_ _=>rfl) λnd _ _ _ _ _ _ _ hr=>'d'
def cT:PSt:=
 (eE (lE 10 fQ (ah (pOp bIx (dH (ah (au 9) (ah (pOp cC (bC 1) (bD bP (ah (au 0) (ah (bC 3) bx)))) (ah (pOp DN (bC 1) (au 11)) (ah (pOp cC (bC 1) (pOp dZ (bD eR (ah (au 0) (ah (bC 6) bx))) (au 2))) bx))))) (au 8)) bx)))
def i6:PSt:=
 (bE (jU 2 3 (ah (bC 60) (ah (pOp cC (bC 1) (bD bP (ah (au 0) (ah (au 1) bx)))) bx)))
  (bE (xIf (qOf (pOp bEq (bD bP (ah (au 0) (ah (bC 5) bx))) (bC 0))) (jU 2 3 (ah (pOp xO (pOp qS (bC 10) (bC 30)) (bC 1)) (ah (pOp cC (bC 1) (bD bP (ah (au 0) (ah (bC 3) bx)))) bx))) xNx)
  (bE (jU 4 5 (ah (bD fX (ah (au 0) (ah (au 2) bx))) (ah (bD fX (ah (au 0) (ah (au 2) bx))) bx)))
  (bE (xIf (qOf (pOp bEq (bD bP (ah (au 0) (ah (bC 5) bx))) (bC 0))) (bJ false 5 (au 4)) xNx)
  (bE (fO (pLC (mI (ah (bC 2) bx)) [none,some 0] (by decide) (gtN 0) qY (bD cP (ah (pOp xO (bD bP (ah (au 1) (ah (bC 41) bx))) (bC 20)) (ah (pOp cC (bC 1) (bD bP (ah (au 1) (ah (bC 9) bx)))) bx)))) (gtX (gtU 2 (bQ (gtN 6) (bQ (gtN 7) dG)))))
  (bE (bJ false 8 (bD bP (ah (au 0) (ah (bC 4) bx))))
  (bE (bJ false 9 (pOp cC (bC 1) (bD bP (ah (au 0) (ah (bC 60) bx)))))
  (bE (bJ true 10 (dH bx))
  (bE (eP (mI (ah (au 3) bx)) (gtN 11) (cT))
  (ym (cW (ah (au 6) (ah (au 7) (ah (au 4) (ah (au 5) bx))))) 10))))))))))
def gC:PFn:=fnP [true,false] 12 i6
def aK:gC.ms=[true,false]:=rfl
def md(T:TT w K mg):Callee P w K mg base "_law_case" 4 ["_law_feed_here", "_law_most"] (spD K mg 2 gC.F):=bS (T.d.get 63 rfl) (bI (N:=["_law_feed_here", "_law_most", "_law_far", "_law_many", "_law_wide", "_law_high", "_law_left", "_law_top", "_law_way", "_law_same", "_law_weights", "_law_k"]) (by decide)) (λ_ _ _ _ _ _=>ar2 λ_ _=>rfl) λnd _ _ _ _ _ _ _ hr=>(bH 'd' (bH 'd' (bH 'd' (bH 'd' (bH (qZ (gn ["_law_feed_here", "_law_most", "_law_far", "_law_many", "_law_wide", "_law_high", "_law_left", "_law_top", "_law_way", "_law_same", "_law_weights", "_law_k"] (bF (top 63)).names ["_law_k", "_law_feed_here"] [none,some 0] 'd' (λnd _ _ _ _ _=>'d') (λnd _ _ _ _ _=>'d')) 'd') 'd')))))
noncomputable def pA:PSt:=
 (bG (gG (pFn (cD df) (ah (au 0) (ah (pTy "int") bx))) (n9 (pFn (cD df) (ah (au 0) (ah (pTy "bool") bx))))))
noncomputable def dY:PFn:=fnP [false] 1 pA
def aS:dY.ms=[false]:=rfl
def uP(T:TT w K mg):Callee P w K mg base "is_whole" 1 ["thing"] (spD K mg 1 dY.F):=bS (T.d.get 9 rfl) (bI (N:=["thing"]) (by decide)) (λ_ _ _ _ _ _=>ar1 λ_=>rfl) λnd _ _ _ _ _ _ _ hr=>'d'
def eT:PSt:=
 (jU 0 1 (ah (au 1) (ah (pOp dZ (au 0) (au 1)) bx)))
def jh:PSt:=
 (bE (jU 0 1 (ah (pFn o3 (ah (au 0) bx)) (ah (pFn o3 (ah (au 1) bx)) bx)))
  (bE (xWh (qOf (pOp bNe (au 1) (bC 0))) (eT))
  (bG (au 0))))
def dh:PFn:=fnP [false,false] 2 jh
def aa:dh.ms=[false,false]:=rfl
def mr(T:TT w K mg):Callee P w K mg base "common_divisor" 1 ["one", "other"] (spD K mg 2 dh.F):=bS (T.d.get 10 rfl) (bI (N:=["one", "other"]) (by decide)) (λ_ _ _ _ _ _=>ar2 λ_ _=>rfl) λnd _ _ _ _ _ _ _ hr=>'d'
def lK:PSt:=
 (bE (xIf (qO (qNo (qOf (pFn (cD df) (ah (au 0) (ah (pTy "tuple") bx))))) (qOf (pOp bNe (pFn b8 (ah (au 0) bx)) (bC 2)))) (bG (pBl false)) xNx)
  (bE (fO (au 0) (gtX (gtT 2 (bQ (gtN 1) (bQ (gtN 2) dG)))))
  (bE (xIf (qO (qNo (qOf (bD dY (ah (au 1) bx)))) (qNo (qOf (bD dY (ah (au 2) bx))))) (bG (pBl false)) xNx)
  (bG (gG (pOp bGe (au 2) (bC 1)) (pOp bEq (bD dh (ah (au 1) (ah (au 2) bx))) (bC 1)))))))
def eG:PFn:=fnP [false] 3 lK
def ao:eG.ms=[false]:=rfl
def oF(T:TT w K mg):Callee P w K mg base "is_fraction" 2 ["thing"] (spD K mg 1 eG.F):=bS (T.d.get 11 rfl) (bI (N:=["thing", "top", "bottom"]) (by decide)) (λ_ _ _ _ _ _=>ar1 λ_=>rfl) λnd _ _ _ _ _ _ _ hr=>'d'
def vM:PSt:=
 (bE (xIf (qO (qNo (qOf (pFn (cD df) (ah (au 0) (ah (pTy "tuple") bx))))) (qOf (pOp bNe (pFn b8 (ah (au 0) bx)) (bC 4)))) (bG (pBl false)) xNx)
  (bE (xIf (qNo (qOf (pFn tE (ah (pLC (cn (au 0)) [none] (by decide) (gtN 0) qY (bD eG (ah (au 0) bx))) bx)))) (bG (pBl false)) xNx)
  (bG (gG (pOp bGt (pOp bIx (pOp bIx (au 0) (bC 2)) (bC 0)) (bC 0)) (pOp bGt (pOp bIx (pOp bIx (au 0) (bC 3)) (bC 0)) (bC 0))))))
def jw:PFn:=fnP [false] 1 vM
def bf:jw.ms=[false]:=rfl
def yQ(T:TT w K mg):Callee P w K mg base "is_box" 3 ["thing"] (spD K mg 1 jw.F):=bS (T.d.get 21 rfl) (bI (N:=["thing"]) (by decide)) (λ_ _ _ _ _ _=>ar1 λ_=>rfl) λnd _ _ _ _ _ _ _ hr=>(bH 'd' (bH (kS (o6 (vx (fi (allK (K:=K) rfl rfl) zG rfl (T.n rfl) (by first |exact boF rfl |exact boT rfl) (cp (gn ["thing"] (bF (top 21)).names ["part"] [none] 'd' (λnd _ _ _ _ _=>'d') (λnd _ _ _ _ _=>'d')) 'd')))) 'd' 'd') 'd'))
def nj:PSt:=
 (xIf (qNo (qOf (bD jw (ah (au 0) bx)))) (gm "NoBox" (ah (bY "this is no box") bx)) xNx)
def dm:PFn:=fnP [false] 1 nj
def aA:dm.ms=[false]:=rfl
def sM(T:TT w K mg):Callee P w K mg base "check_box" 4 ["thing"] (spD K mg 1 dm.F):=bS (T.d.get 22 rfl) (bI (N:=["thing"]) (by decide)) (λ_ _ _ _ _ _=>ar1 λ_=>rfl) λnd _ _ _ _ _ _ _ hr=>'d'
noncomputable def ny:PSt:=
 (bG (gG (bD dY (ah (au 0) bx)) (pOp bGe (au 0) (bC 1))))
noncomputable def fF:PFn:=fnP [false] 1 ny
def ay:fF.ms=[false]:=rfl
def sT(T:TT w K mg):Callee P w K mg base "is_weight" 2 ["thing"] (spD K mg 1 fF.F):=bS (T.d.get 25 rfl) (bI (N:=["thing"]) (by decide)) (λ_ _ _ _ _ _=>ar1 λ_=>rfl) λnd _ _ _ _ _ _ _ hr=>'d'
def jK:PSt:=
 (bE (xIf (qO (qNo (qOf (pFn (cD df) (ah (au 0) (ah (pTy "list") bx))))) (qOf (pOp bEq (pFn b8 (ah (au 0) bx)) (bC 0)))) (gm "NoWeights" (ah (bY "this is no list of weights") bx)) xNx)
  (bE (xIf (qNo (qOf (pFn tE (ah (pLC (cn (au 0)) [none] (by decide) (gtN 0) qY (bD fF (ah (au 0) bx))) bx)))) (gm "NoWeights" (ah (bY "a weight is a whole number from 1 on") bx)) xNx)
  (xIf (qOf (pOp bGt (pFn b8 (ah (au 0) bx)) jD)) (gm "TooMany" (ah (bY "these are more weights than forty") bx)) xNx)))
def cU:PFn:=fnP [false] 1 jK
def ag:cU.ms=[false]:=rfl
def mZ(T:TT w K mg):Callee P w K mg base "check_weights" 3 ["thing"] (spD K mg 1 cU.F):=bS (T.d.get 26 rfl) (bI (N:=["thing"]) (by decide)) (λ_ _ _ _ _ _=>ar1 λ_=>rfl) λnd _ _ _ _ _ _ _ hr=>(bH 'd' (bH (kS (o6 (vx (fi (allK (K:=K) rfl rfl) zG rfl (T.n rfl) (by first |exact boF rfl |exact boT rfl) (cp (gn ["thing"] (bF (top 26)).names ["weight"] [none] 'd' (λnd _ _ _ _ _=>'d') (λnd _ _ _ _ _=>'d')) 'd')))) 'd' 'd') 'd'))
def lY:PSt:=
 (xIf (qO (qNo (qOf (pFn (cD df) (ah (au 0) (ah (pTy "str") bx))))) (qOf (pOp (xH "MOST_THINGS" eu) (au 0) (ye "MOST_THINGS")))) (gm "NoKind" (ah (bY "this is no kind of trees") bx)) xNx)
noncomputable def fP:PFn:=fnP [false] 1 lY
def av:fP.ms=[false]:=rfl
def qw(T:TT w K mg):Callee P w K mg base "check_kind" 1 ["kind"] (spD K mg 1 fP.F):=bS (T.d.get 33 rfl) (bI (N:=["kind"]) (by decide)) (λ_ _ _ _ _ _=>ar1 λ_=>rfl) λnd _ _ _ _ _ _ _ hr=>'d'
def lN:PSt:=
 (bE (eE (bD dm (ah (au 0) bx)))
  (bE (eE (bD cU (ah (au 1) bx)))
  (bE (eE (bD fP (ah (au 2) bx)))
  (xIf (qOf (pOp bGt (pFn b8 (ah (au 1) bx)) (pOp (sX "MOST_THINGS" eu) (ye "MOST_THINGS") (au 2)))) (gm "TooMany" (ah (bY "these are more things than the kind is asked of") bx)) xNx))))
def eI:PFn:=fnP [false,false,false] 3 lN
def ar:eI.ms=[false,false,false]:=rfl
def ph(T:TT w K mg):Callee P w K mg base "check_asked" 5 ["room", "weights", "kind"] (spD K mg 3 eI.F):=bS (T.d.get 34 rfl) (bI (N:=["room", "weights", "kind"]) (by decide)) (λ_ _ _ _ _ _=>ar3 λ_ _ _=>rfl) λnd _ _ _ _ _ _ _ hr=>'d'
def rV:PSt:=
 (bG (pOp bLt (pOp cx (pOp bIx (au 0) (bC 0)) (pOp bIx (au 1) (bC 1))) (pOp cx (pOp bIx (au 1) (bC 0)) (pOp bIx (au 0) (bC 1)))))
def ee:PFn:=fnP [false,false] 2 rV
def aU:ee.ms=[false,false]:=rfl
def wd(T:TT w K mg):Callee P w K mg base "is_less" 1 ["one", "other"] (spD K mg 2 ee.F):=bS (T.d.get 16 rfl) (bI (N:=["one", "other"]) (by decide)) (λ_ _ _ _ _ _=>ar2 λ_ _=>rfl) λnd _ _ _ _ _ _ _ hr=>'d'
def oU:PSt:=
 (bE (eE (bD dm (ah (au 0) bx)))
  (bE (xIf (qOf (bD ee (ah (pOp bIx (au 0) (bC 2)) (ah (pOp bIx (au 0) (bC 3)) bx)))) (bG (bY "down")) xNx)
  (bG (bY "across"))))
def gX:PFn:=fnP [false] 1 oU
def aM:gX.ms=[false]:=rfl
def uD(T:TT w K mg):Callee P w K mg base "long_way" 5 ["box"] (spD K mg 1 gX.F):=bS (T.d.get 27 rfl) (bI (N:=["box"]) (by decide)) (λ_ _ _ _ _ _=>ar1 λ_=>rfl) λnd _ _ _ _ _ _ _ hr=>'d'
def pw:PSt:=
 (bE (xIf (qOf (pOp bEq (au 1) (bC 0))) (gm "NoFraction" (ah (bY "a fraction has no bottom of 0") bx)) xNx)
  (bE (bJ false 2 (bD dh (ah (au 0) (ah (au 1) bx))))
  (bE (xIf (qOf (pOp bLt (au 1) (bC 0))) (bJ false 2 (pUn tN (au 2))) xNx)
  (bG (cW (ah (pOp jQ (au 0) (au 2)) (ah (pOp jQ (au 1) (au 2)) bx)))))))
def dB:PFn:=fnP [false,false] 3 pw
def aE:dB.ms=[false,false]:=rfl
def vk(T:TT w K mg):Callee P w K mg base "fraction" 2 ["top", "bottom"] (spD K mg 2 dB.F):=bS (T.d.get 12 rfl) (bI (N:=["top", "bottom", "divisor"]) (by decide)) (λ_ _ _ _ _ _=>ar2 λ_ _=>rfl) λnd _ _ _ _ _ _ _ hr=>'d'
def A8:PSt:=
 (bG (bD dB (ah (pOp cx (pOp bIx (au 0) (bC 0)) (pOp bIx (au 1) (bC 1))) (ah (pOp cx (pOp bIx (au 0) (bC 1)) (pOp bIx (au 1) (bC 0))) bx))))
def jV:PFn:=fnP [false,false] 2 A8
def bu:jV.ms=[false,false]:=rfl
def Cv(T:TT w K mg):Callee P w K mg base "over" 3 ["one", "other"] (spD K mg 2 jV.F):=bS (T.d.get 15 rfl) (bI (N:=["one", "other"]) (by decide)) (λ_ _ _ _ _ _=>ar2 λ_ _=>rfl) λnd _ _ _ _ _ _ _ hr=>'d'
def xD:PSt:=
 (bE (xIf (qOf (pOp bEq (bD gX (ah (au 0) bx)) (bY "across"))) (bG (bD jV (ah (pOp bIx (au 0) (bC 2)) (ah (pOp bIx (au 0) (bC 3)) bx)))) xNx)
  (bG (bD jV (ah (pOp bIx (au 0) (bC 3)) (ah (pOp bIx (au 0) (bC 2)) bx)))))
def iz:PFn:=fnP [false] 1 xD
def bp:iz.ms=[false]:=rfl
def A2(T:TT w K mg):Callee P w K mg base "shape" 6 ["box"] (spD K mg 1 iz.F):=bS (T.d.get 28 rfl) (bI (N:=["box"]) (by decide)) (λ_ _ _ _ _ _=>ar1 λ_=>rfl) λnd _ _ _ _ _ _ _ hr=>'d'
def pJ:PSt:=
 (bJ false 2 (pOp cC (au 2) (pLC (cn (au 2)) [none,some 3] (by decide) (gtN 0) qY (pOp cC (au 0) (dH (ah (au 1) bx))))))
def lX:PSt:=
 (bE (xIf (qOf (pOp bEq (au 1) (bY "order"))) (bG (pLC (sW (ah (bC 1) (ah (pFn b8 (ah (au 0) bx)) bx))) [none,some 0] (by decide) (gtN 0) qY (pSl (au 1) oN (oS (au 0))))) xNx)
  (bE (bJ false 2 (dH (ah (pSl (au 0) oN (oS (bC 1))) bx)))
  (bE (eP (cn (pSl (au 0) (oS (bC 1)) oN)) (gtN 3) (pJ))
  (bG (pSl (au 2) oN (oS (pUn tN (bC 1))))))))
def eY:PFn:=fnP [false,false] 4 lX
def a8:eY.ms=[false,false]:=rfl
def vY(T:TT w K mg):Callee P w K mg base "lots_of" 1 ["numbers", "kind"] (spD K mg 2 eY.F):=bS (T.d.get 37 rfl) (bI (N:=["numbers", "kind", "lots", "number"]) (by decide)) (λ_ _ _ _ _ _=>ar2 λ_ _=>rfl) λnd _ _ _ _ _ _ _ hr=>(bH (kS 'd' (eJ (iO (gn ["numbers", "kind", "lots", "number"] (bF (top 37)).names ["many", "numbers"] [none,some 0] 'd' (λnd _ _ _ _ _=>'d') (λnd _ _ _ _ _=>'d')))) 'd') (bH 'd' (bH (iN mf rfl 'd' 'd' (eJ (zsS 2 nd (yx (ve (K:=K) rfl) uY 'd' (gn ["numbers", "kind", "lots", "number"] (bF (top 37)).names ["lot", "number"] [none,some 3] 'd' (λnd _ _ _ _ _=>'d') (λnd _ _ _ _ _=>'d')))))) 'd')))
def lC:PSt:=
 (eE (lE 2 fQ (ah (cW (ah (au 4) (ah (pFn kG (ah (au 3) bx)) (ah (pLC (cn (au 0)) [none,some 3] (by decide) (gtN 0) (qOf (pOp jP (au 0) (au 1))) (au 0)) bx)))) bx)))
def i7:PSt:=
 (eP (cn qR) (gtN 4) (lC))
def sf:PSt:=
 (bE (bJ true 2 (dH bx))
  (bE (eP (cn (bD eY (ah (au 0) (ah (au 1) bx)))) (gtN 3) (i7))
  (bG (au 2))))
def fT:PFn:=fnP [false,false] 5 sf
def aV:fT.ms=[false,false]:=rfl
def wm(T:TT w K mg):Callee P w K mg base "cuts_of" 2 ["numbers", "kind"] (spD K mg 2 fT.F):=bS (T.d.get 38 rfl) (bI (N:=["numbers", "kind", "cuts", "lot", "way"]) (by decide)) (λ_ _ _ _ _ _=>ar2 λ_ _=>rfl) λnd _ _ _ _ _ _ _ hr=>(bH 'd' (bH (iN mf rfl 'd' 'd' (eJ (iN mf rfl 'd' 'd' (eJ (wH (zL rfl PySem.F.slot_list_append PySem.F.type_list_append rH sg 'd' (cp (z9 (cp 'd' (cp 'd' (cp (Hy ["numbers", "kind", "cuts", "lot", "way"] (bF (top 38)).names ["number", "lot"] [none,some 3] 'd' (λnd _ _ _ _ _=>'d') (λnd _ _ _ _ _=>'d') (λnd _ _ _ _ _=>'d')) 'd')))) 'd'))))))) 'd'))
noncomputable def vT:PSt:=
 (bG (gG (pFn (cD df) (ah (au 0) (ah (pTy "str") bx))) (pOp bIn (au 0) qR)))
noncomputable def jt:PFn:=fnP [false] 1 vT
def bc:jt.ms=[false]:=rfl
def yU(T:TT w K mg):Callee P w K mg base "is_way" 1 ["thing"] (spD K mg 1 jt.F):=bS (T.d.get 23 rfl) (bI (N:=["thing"]) (by decide)) (λ_ _ _ _ _ _=>ar1 λ_=>rfl) λnd _ _ _ _ _ _ _ hr=>'d'
noncomputable def nu:PSt:=
 (xIf (qNo (qOf (bD jt (ah (au 0) bx)))) (gm "NoWay" (ah (bY "this is no way") bx)) xNx)
noncomputable def gb:PFn:=fnP [false] 1 nu
def aC:gb.ms=[false]:=rfl
def sR(T:TT w K mg):Callee P w K mg base "check_way" 2 ["way"] (spD K mg 1 gb.F):=bS (T.d.get 24 rfl) (bI (N:=["way"]) (by decide)) (λ_ _ _ _ _ _=>ar1 λ_=>rfl) λnd _ _ _ _ _ _ _ hr=>'d'
def wu:PSt:=
 (bG (bD dB (ah (pOp cC (pOp cx (pOp bIx (au 0) (bC 0)) (pOp bIx (au 1) (bC 1))) (pOp cx (pOp bIx (au 1) (bC 0)) (pOp bIx (au 0) (bC 1)))) (ah (pOp cx (pOp bIx (au 0) (bC 1)) (pOp bIx (au 1) (bC 1))) bx))))
def j9:PFn:=fnP [false,false] 2 wu
def bt:j9.ms=[false,false]:=rfl
def A0(T:TT w K mg):Callee P w K mg base "added" 3 ["one", "other"] (spD K mg 2 j9.F):=bS (T.d.get 13 rfl) (bI (N:=["one", "other"]) (by decide)) (λ_ _ _ _ _ _=>ar2 λ_ _=>rfl) λnd _ _ _ _ _ _ _ hr=>'d'
def wW:PSt:=
 (bG (bD dB (ah (pOp cx (pOp bIx (au 0) (bC 0)) (pOp bIx (au 1) (bC 0))) (ah (pOp cx (pOp bIx (au 0) (bC 1)) (pOp bIx (au 1) (bC 1))) bx))))
def ik:PFn:=fnP [false,false] 2 wW
def bo:ik.ms=[false,false]:=rfl
def Ae(T:TT w K mg):Callee P w K mg base "times" 3 ["one", "other"] (spD K mg 2 ik.F):=bS (T.d.get 14 rfl) (bI (N:=["one", "other"]) (by decide)) (λ_ _ _ _ _ _=>ar2 λ_ _=>rfl) λnd _ _ _ _ _ _ _ hr=>'d'
def jF:PSt:=
 (bE (bJ false 7 (bD j9 (ah (au 0) (ah (bD ik (ah (au 1) (ah (bD dB (ah (au 4) (ah (au 3) bx))) bx))) bx))))
  (bE (eE (lE 5 fQ (ah (cW (ah (au 7) (ah (bD ik (ah (au 1) (ah (bD dB (ah (au 6) (ah (au 3) bx))) bx))) bx))) bx)))
  (C3 4 DC (au 6))))
def tR:PSt:=
 (bE (bJ false 3 (pFn gZ (ah (au 2) bx)))
  (bE (bJ false 4 (bC 0))
  (bE (bJ true 5 (dH bx))
  (bE (eP (cn (au 2)) (gtN 6) (jF))
  (bG (au 5))))))
def iE:PFn:=fnP [false,false,false] 8 tR
def bj:iE.ms=[false,false,false]:=rfl
def zc(T:TT w K mg):Callee P w K mg base "shares" 4 ["start", "length", "weights"] (spD K mg 3 iE.F):=bS (T.d.get 29 rfl) (bI (N:=["start", "length", "weights", "whole", "ahead", "found", "weight", "begin"]) (by decide)) (λ_ _ _ _ _ _=>ar3 λ_ _ _=>rfl) λnd _ _ _ _ _ _ _ hr=>'d'
def vJ:PSt:=
 (bE (eE (bD dm (ah (au 0) bx)))
  (bE (eE (bD gb (ah (au 1) bx)))
  (bE (eE (bD cU (ah (au 2) bx)))
  (bE (fO (au 0) (gtX (gtT 4 (bQ (gtN 3) (bQ (gtN 4) (bQ (gtN 5) (bQ (gtN 6) dG)))))))
  (bE (xIf (qOf (pOp bEq (au 1) (bY "across"))) (bG (pLC (cn (bD iE (ah (au 3) (ah (au 5) (ah (au 2) bx))))) [none,none,some 4,some 6] (by decide) (gtT 2 (bQ (gtN 0) (bQ (gtN 1) dG))) qY (cW (ah (au 0) (ah (au 2) (ah (au 1) (ah (au 3) bx))))))) xNx)
  (bG (pLC (cn (bD iE (ah (au 4) (ah (au 6) (ah (au 2) bx))))) [none,none,some 3,some 5] (by decide) (gtT 2 (bQ (gtN 0) (bQ (gtN 1) dG))) qY (cW (ah (au 2) (ah (au 0) (ah (au 3) (ah (au 1) bx))))))))))))
def ip:PFn:=fnP [false,false,false] 7 vJ
def ba:ip.ms=[false,false,false]:=rfl
def xM(T:TT w K mg):Callee P w K mg base "parted" 5 ["box", "way", "weights"] (spD K mg 3 ip.F):=bS (T.d.get 30 rfl) (bI (N:=["box", "way", "weights", "left", "top", "wide", "high"]) (by decide)) (λ_ _ _ _ _ _=>ar3 λ_ _ _=>rfl) λnd _ _ _ _ _ _ _ hr=>(bH 'd' (bH 'd' (bH 'd' (bH 'd' (bH (kS 'd' (eJ (iO (gn ["box", "way", "weights", "left", "top", "wide", "high"] (bF (top 30)).names ["begin", "length", "top", "high"] [none,none,some 4,some 6] 'd' (λnd _ _ _ _ _=>'d') (λnd _ _ _ _ _=>'d')))) 'd') (eJ (iO (gn ["box", "way", "weights", "left", "top", "wide", "high"] (bF (top 30)).names ["begin", "length", "left", "wide"] [none,none,some 3,some 5] 'd' (λnd _ _ _ _ _=>'d') (λnd _ _ _ _ _=>'d')))))))))
def nh:PSt:=
 (bG (pFn gZ (ah (pLC (cn (au 0)) [none,some 1] (by decide) (gtN 0) qY (pOp bIx (au 1) (au 0))) bx)))
def d7:PFn:=fnP [false,false] 2 nh
def aB:d7.ms=[false,false]:=rfl
def sQ(T:TT w K mg):Callee P w K mg base "weight_of" 1 ["numbers", "weights"] (spD K mg 2 d7.F):=bS (T.d.get 40 rfl) (bI (N:=["numbers", "weights"]) (by decide)) (λ_ _ _ _ _ _=>ar2 λ_ _=>rfl) λnd _ _ _ _ _ _ _ hr=>(eJ (iO (fi (fR (K:=K) rfl rfl) jr rfl (T.n rfl) (by first |exact boF rfl |exact boT rfl) (cp (gn ["numbers", "weights"] (bF (top 40)).names ["number", "weights"] [none,some 1] 'd' (λnd _ _ _ _ _=>'d') (λnd _ _ _ _ _=>'d')) 'd'))))
def pk:PSt:=
 (bE (fO (au 0) (gtX (gtT 3 (bQ (gtN 3) (bQ (gtN 4) (bQ (gtN 5) dG))))))
  (bG (bD ip (ah (au 1) (ah (au 3) (ah (dH (ah (bD d7 (ah (au 4) (ah (au 2) bx))) (ah (bD d7 (ah (au 5) (ah (au 2) bx))) bx))) bx))))))
def eN:PFn:=fnP [false,false,false] 6 pk
def aG:eN.ms=[false,false,false]:=rfl
def vB(T:TT w K mg):Callee P w K mg base "parts_by" 6 ["cut", "room", "weights"] (spD K mg 3 eN.F):=bS (T.d.get 39 rfl) (bI (N:=["cut", "room", "weights", "way", "first", "second"]) (by decide)) (λ_ _ _ _ _ _=>ar3 λ_ _ _=>rfl) λnd _ _ _ _ _ _ _ hr=>'d'
def kq:PSt:=
 (xIf (qOf (bD ee (ah (au 1) (ah (au 2) bx)))) (bJ false 1 (au 2)) xNx)
def lH:PSt:=
 (bE (bJ false 1 (pOp bIx (au 0) (bC 0)))
  (bE (eP (cn (au 0)) (gtN 2) (kq))
  (bG (au 1))))
def fD:PFn:=fnP [false] 3 lH
def aj:fD.ms=[false]:=rfl
def oQ(T:TT w K mg):Callee P w K mg base "greatest_of" 2 ["fractions"] (spD K mg 1 fD.F):=bS (T.d.get 17 rfl) (bI (N:=["fractions", "found", "one"]) (by decide)) (λ_ _ _ _ _ _=>ar1 λ_=>rfl) λnd _ _ _ _ _ _ _ hr=>'d'
def eW(s:PFx [false,false,false,false]):PSt:=
 (bE (fO (bD eN (ah (au 5) (ah (au 0) (ah (au 1) bx)))) (gtX (gtU 2 (bQ (gtN 6) (bQ (gtN 7) dG)))))
  (bE (bJ false 8 (bD s.fn (ah (au 6) (ah (au 1) (ah (au 2) (ah (pOp bIx (au 5) (bC 1)) bx))))))
  (bE (xIf (qAn (qOf (pOp yO (au 4) iV)) (qNo (qOf (bD ee (ah (pOp bIx (au 8) (bC 0)) (ah (pOp bIx (au 4) (bC 0)) bx)))))) xCt xNx)
  (bE (bJ false 9 (bD s.fn (ah (au 7) (ah (au 1) (ah (au 2) (ah (pOp bIx (au 5) (bC 2)) bx))))))
  (bE (bJ false 10 (bD fD (ah (dH (ah (pOp bIx (au 8) (bC 0)) (ah (pOp bIx (au 9) (bC 0)) bx))) bx)))
  (xIf (qO (qOf (pOp bIs (au 4) iV)) (qOf (bD ee (ah (au 10) (ah (pOp bIx (au 4) (bC 0)) bx))))) (bJ false 4 (cW (ah (au 10) (ah (cW (ah (pOp bIx (au 5) (bC 0)) (ah (cW (ah (pOp bIx (au 8) (bC 1)) (ah (pOp bIx (au 9) (bC 1)) bx))) bx))) bx)))) xNx))))))
def fZ(s:PFx [false,false,false,false]):PSt:=
 (bE (xIf (qOf (pOp bEq (pFn b8 (ah (au 3) bx)) (bC 1))) (bG (cW (ah (bD iz (ah (au 0) bx)) (ah (pOp bIx (au 3) (bC 0)) bx)))) xNx)
  (bE (bJ false 4 iV)
  (bE (eP (cn (bD fT (ah (au 3) (ah (au 2) bx)))) (gtN 5) (eW s))
  (bG (au 4)))))
def eS:Nat->PFx [false,false,false,false]
 |0=>PFx.none [false,false,false,false]
 |n+1=>PFx.of [false,false,false,false] 11 (fZ (eS n))
theorem kE(T:TT w K mg):∀n,Callee P w K mg base "best_tree" (8+n) ["room", "weights", "kind", "numbers"] (spD K mg 4 (eS n).F)
 |0=>ok0 (T.d.get 36 rfl) (bI (N:=["room", "weights", "kind", "numbers", "best", "cut", "first", "second", "one", "other", "greatest"]) (by decide)) (λ_ _ _ _ _ _=>ar4 λ_ _ _ _=>rfl)
 |
  n+1=>by
  have ih:=kE T n;show Callee _ _ _ _ _ _ _ _ (spD _ _ _ (PFx.of [false,false,false,false] 11 (fZ (eS n))).F);exact tS (k:=8+n) (T.d.get 36 rfl) (bI (N:=["room", "weights", "kind", "numbers", "best", "cut", "first", "second", "one", "other", "greatest"]) (by decide)) (λ_ _ _ _ _ _=>ar4 λ_ _ _ _=>rfl) λnd _ _ _ _ _ _ _ hr=>'d'
def lJ:PSt:=
 (bE (eE (bD eI (ah (au 0) (ah (au 1) (ah (au 2) bx)))))
  (bG (bD (eS 7).fn (ah (au 0) (ah (au 1) (ah (au 2) (ah (pFn iH (ah (pFn b8 (ah (au 1) bx)) bx)) bx)))))))
def fC:PFn:=fnP [false,false,false] 3 lJ
def ak:fC.ms=[false,false,false]:=rfl
def oA(T:TT w K mg):Callee P w K mg base "least_worst" 16 ["room", "weights", "kind"] (spD K mg 3 fC.F):=bS (T.d.get 35 rfl) (bI (N:=["room", "weights", "kind"]) (by decide)) (λ_ _ _ _ _ _=>ar3 λ_ _ _=>rfl) λnd _ _ _ _ _ _ _ hr=>'d'
def uj:PSt:=
 (bG (n9 (bD ee (ah (bD iz (ah (au 0) bx)) (ah (pOp bIx (au 1) (bC 2)) bx)))))
def iB:PFn:=fnP [false,false] 2 uj
def bg:iB.ms=[false,false]:=rfl
def yz(T:TT w K mg):Callee P w K mg base "is_far" 7 ["room", "asked"] (spD K mg 2 iB.F):=bS (T.d.get 47 rfl) (bI (N:=["room", "asked"]) (by decide)) (λ_ _ _ _ _ _=>ar2 λ_ _=>rfl) λnd _ _ _ _ _ _ _ hr=>'d'
def pM:PSt:=
 (bG (bD ik (ah (bD iz (ah (au 0) bx)) (ah (bD dB (ah (au 1) (ah (au 2) bx))) bx))))
def hE:PFn:=fnP [false,false,false] 3 pM
def aT:hE.ms=[false,false,false]:=rfl
def ub(T:TT w K mg):Callee P w K mg base "thinness" 7 ["room", "weight", "whole"] (spD K mg 3 hE.F):=bS (T.d.get 42 rfl) (bI (N:=["room", "weight", "whole"]) (by decide)) (λ_ _ _ _ _ _=>ar3 λ_ _ _=>rfl) λnd _ _ _ _ _ _ _ hr=>'d'
def r9:PSt:=
 (bE (fO (au 3) (gtX (gtT 3 (bQ (gtN 4) (bQ (gtN 5) (bQ (gtN 6) dG))))))
  (bG (n9 (bD ee (ah (bD hE (ah (au 1) (ah (pOp bIx (au 4) (au 0)) (ah (bD d7 (ah (au 2) (ah (au 4) bx))) bx)))) (ah (au 6) bx))))))
def gz:PFn:=fnP [false,false,false,false] 7 r9
def aZ:gz.ms=[false,false,false,false]:=rfl
def wo(T:TT w K mg):Callee P w K mg base "is_thin" 8 ["number", "room", "numbers", "asked"] (spD K mg 4 gz.F):=bS (T.d.get 46 rfl) (bI (N:=["number", "room", "numbers", "asked", "weights", "kind", "bound"]) (by decide)) (λ_ _ _ _ _ _=>ar4 λ_ _ _ _=>rfl) λnd _ _ _ _ _ _ _ hr=>'d'
def jW(s:PFx [false,false,false]):PSt:=
 (bE (bJ false 5 (bD s.fn (ah (au 4) (ah (pOp bIx (au 0) (pOp cC (au 3) (bC 1))) (ah (au 2) bx)))))
  (xIf (qOf (pOp yO (au 5) iV)) (bG (cW (ah (au 3) (ah (au 5) bx)))) xNx))
def lO(s:PFx [false,false,false]):PSt:=
 (bE (eP (yh (ah (bD eN (ah (au 0) (ah (au 1) (ah (pOp bIx (au 2) (bC 0)) bx)))) bx)) (gtX (gtT 2 (bQ (gtN 3) (bQ (gtN 4) dG)))) (jW s))
  (bG iV))
def cM(s:PFx [false,false,false]):PFn:=fnP [false,false,false] 6 (lO s)
def aq(s:PFx [false,false,false]):(cM s).ms=[false,false,false]:=rfl
def pv(T:TT w K mg){s:PFx [false,false,false]}{k:Nat}(ih:Callee P w K mg base "barring" k ["room", "numbers", "asked"] (spD K mg 3 s.F))(hk:10<=k:=by omega):Callee P w K mg base "barring_row" (k+1) ["cut", "room", "asked"] (spD K mg 3 (cM s).F):=bS (T.d.get 49 rfl) (bI (N:=["cut", "room", "asked", "at", "part", "paper"]) (by decide)) (λ_ _ _ _ _ _=>ar3 λ_ _ _=>rfl) λnd _ _ _ _ _ _ _ hr=>'d'
def gK(s:PFx [false,false,false]):PSt:=
 (xIf (qOf (bD gz (ah (au 3) (ah (au 0) (ah (au 1) (ah (au 2) bx)))))) (bG (cW (ah (bY "thin") (ah (au 3) bx)))) xNx)
def fc(s:PFx [false,false,false]):PSt:=
 (bE (bJ false 6 (bD (cM s) (ah (au 5) (ah (au 0) (ah (au 2) bx)))))
  (bE (xIf (qOf (pOp bIs (au 6) iV)) (bG iV) xNx)
  (eE (lE 4 fQ (ah (au 6) bx)))))
def jJ(s:PFx [false,false,false]):PSt:=
 (bE (xIf (qOf (pOp bEq (pFn b8 (ah (au 1) bx)) (bC 1))) (bG (pIf (qOf (bD iB (ah (au 0) (ah (au 2) bx)))) (cW (ah (bY "shape") bx)) iV)) xNx)
  (bE (eP (cn (au 1)) (gtN 3) (gK s))
  (bE (bJ true 4 (dH bx))
  (bE (eP (cn (bD fT (ah (au 1) (ah (pOp bIx (au 2) (bC 1)) bx)))) (gtN 5) (fc s))
  (bG (cW (ah (bY "cases") (ah (pFn rl (ah (au 4) bx)) bx))))))))
def eZ:Nat->PFx [false,false,false]
 |0=>PFx.none [false,false,false]
 |n+1=>PFx.of [false,false,false] 7 (jJ (eZ n))
theorem lW(T:TT w K mg):∀n,Callee P w K mg base "barring" (10+2*n) ["room", "numbers", "asked"] (spD K mg 3 (eZ n).F)
 |0=>ok0 (T.d.get 48 rfl) (bI (N:=["room", "numbers", "asked", "number", "rows", "cut", "row"]) (by decide)) (λ_ _ _ _ _ _=>ar3 λ_ _ _=>rfl)
 |
  n+1=>by
  have ih:=lW T n;show Callee _ _ _ _ _ _ (10+2*n+1+1) _ (spD _ _ _ (PFx.of [false,false,false] 7 (jJ (eZ n))).F);exact tS (k:=10+2*n+1) (T.d.get 48 rfl) (bI (N:=["room", "numbers", "asked", "number", "rows", "cut", "row"]) (by decide)) (λ_ _ _ _ _ _=>ar3 λ_ _ _=>rfl) λnd _ _ _ _ _ _ _ hr=>'d'
def ox:PSt:=
 (bE (bJ false 3 (pOp bIx (bD fC (ah (au 0) (ah (au 1) (ah (au 2) bx)))) (bC 0)))
  (bG (bD (eZ 7).fn (ah (au 0) (ah (pFn iH (ah (pFn b8 (ah (au 1) bx)) bx)) (ah (cW (ah (au 1) (ah (au 2) (ah (au 3) bx)))) bx))))))
def gW:PFn:=fnP [false,false,false] 4 ox
def aP:gW.ms=[false,false,false]:=rfl
def vK(T:TT w K mg):Callee P w K mg base "paper_of" 25 ["room", "weights", "kind"] (spD K mg 3 gW.F):=bS (T.d.get 44 rfl) (bI (N:=["room", "weights", "kind", "bound"]) (by decide)) (λ_ _ _ _ _ _=>ar3 λ_ _ _=>rfl) λnd _ _ _ _ _ _ _ hr=>'d'
def oW:PSt:=
 (bG (pOp bLt (pOp cx (pOp bIx (au 0) (bC 0)) (pOp bIx (au 1) (bC 1))) (pOp cx (pOp bIx (au 1) (bC 0)) (pOp bIx (au 0) (bC 1)))))
def dE:PFn:=fnP [false,false] 2 oW
def aO:dE.ms=[false,false]:=rfl
def tZ(T:TT w K mg):Callee P w K mg base "_law_less" 1 ["_law_one", "_law_other"] (spD K mg 2 dE.F):=bS (T.d.get 61 rfl) (bI (N:=["_law_one", "_law_other"]) (by decide)) (λ_ _ _ _ _ _=>ar2 λ_ _=>rfl) λnd _ _ _ _ _ _ _ hr=>'d'
def o9:PSt:=
 (bG (bD cP (ah (pOp cx (pOp bIx (au 0) (bC 0)) (pOp bIx (au 1) (bC 1))) (ah (pOp cx (pOp bIx (au 0) (bC 1)) (pOp bIx (au 1) (bC 0))) bx))))
def fk:PFn:=fnP [false,false] 2 o9
def aJ:fk.ms=[false,false]:=rfl
def ud(T:TT w K mg):Callee P w K mg base "_law_over" 2 ["_law_one", "_law_other"] (spD K mg 2 fk.F):=bS (T.d.get 60 rfl) (bI (N:=["_law_one", "_law_other"]) (by decide)) (λ_ _ _ _ _ _=>ar2 λ_ _=>rfl) λnd _ _ _ _ _ _ _ hr=>'d'
def nt:PSt:=
 (bE (xIf (qOf (bD dE (ah (pOp bIx (au 0) (bC 2)) (ah (pOp bIx (au 0) (bC 3)) bx)))) (bG (bD fk (ah (pOp bIx (au 0) (bC 3)) (ah (pOp bIx (au 0) (bC 2)) bx)))) xNx)
  (bG (bD fk (ah (pOp bIx (au 0) (bC 2)) (ah (pOp bIx (au 0) (bC 3)) bx)))))
def fH:PFn:=fnP [false] 1 nt
def ax:fH.ms=[false]:=rfl
def sS(T:TT w K mg):Callee P w K mg base "_law_shape" 3 ["_law_box"] (spD K mg 1 fH.F):=bS (T.d.get 65 rfl) (bI (N:=["_law_box"]) (by decide)) (λ_ _ _ _ _ _=>ar1 λ_=>rfl) λnd _ _ _ _ _ _ _ hr=>'d'
def lG:PSt:=
 (bJ false 2 (pOp cC (au 2) (pLC (cn (au 2)) [none,some 3] (by decide) (gtN 0) qY (pOp cC (au 0) (dH (ah (au 1) bx))))))
def ju:PSt:=
 (bE (xIf (qOf (pOp bEq (au 1) (bY "order"))) (bG (pLC (sW (ah (bC 1) (ah (pFn b8 (ah (au 0) bx)) bx))) [none,some 0] (by decide) (gtN 0) qY (pSl (au 1) oN (oS (au 0))))) xNx)
  (bE (bJ false 2 (dH (ah (dH (ah (pOp bIx (au 0) (bC 0)) bx)) bx)))
  (bE (eP (cn (pSl (au 0) (oS (bC 1)) oN)) (gtN 3) (lG))
  (bG (pSl (au 2) oN (oS (pUn tN (bC 1))))))))
def cX:PFn:=fnP [false,false] 4 ju
def aw:cX.ms=[false,false]:=rfl
def rj(T:TT w K mg):Callee P w K mg base "_law_firsts" 1 ["_law_numbers", "_law_kind"] (spD K mg 2 cX.F):=bS (T.d.get 66 rfl) (bI (N:=["_law_numbers", "_law_kind", "_law_lots", "_law_number"]) (by decide)) (λ_ _ _ _ _ _=>ar2 λ_ _=>rfl) λnd _ _ _ _ _ _ _ hr=>(bH (kS 'd' (eJ (iO (gn ["_law_numbers", "_law_kind", "_law_lots", "_law_number"] (bF (top 66)).names ["_law_k", "_law_numbers"] [none,some 0] 'd' (λnd _ _ _ _ _=>'d') (λnd _ _ _ _ _=>'d')))) 'd') (bH 'd' (bH (iN mf rfl 'd' 'd' (eJ (zsS 2 nd (yx (ve (K:=K) rfl) uY 'd' (gn ["_law_numbers", "_law_kind", "_law_lots", "_law_number"] (bF (top 66)).names ["_law_lot", "_law_number"] [none,some 3] 'd' (λnd _ _ _ _ _=>'d') (λnd _ _ _ _ _=>'d')))))) 'd')))
def sE:PSt:=
 (bG (bD cP (ah (pOp cC (pOp cx (pOp bIx (au 0) (bC 0)) (pOp bIx (au 1) (bC 1))) (pOp cx (pOp bIx (au 1) (bC 0)) (pOp bIx (au 0) (bC 1)))) (ah (pOp cx (pOp bIx (au 0) (bC 1)) (pOp bIx (au 1) (bC 1))) bx))))
def fS:PFn:=fnP [false,false] 2 sE
def aY:fS.ms=[false,false]:=rfl
def we(T:TT w K mg):Callee P w K mg base "_law_add" 2 ["_law_one", "_law_other"] (spD K mg 2 fS.F):=bS (T.d.get 58 rfl) (bI (N:=["_law_one", "_law_other"]) (by decide)) (λ_ _ _ _ _ _=>ar2 λ_ _=>rfl) λnd _ _ _ _ _ _ _ hr=>'d'
def m8:PSt:=
 (bG (bD cP (ah (pOp cx (pOp bIx (au 0) (bC 0)) (pOp bIx (au 1) (bC 0))) (ah (pOp cx (pOp bIx (au 0) (bC 1)) (pOp bIx (au 1) (bC 1))) bx))))
def cI:PFn:=fnP [false,false] 2 m8
def az:cI.ms=[false,false]:=rfl
def sP(T:TT w K mg):Callee P w K mg base "_law_times" 2 ["_law_one", "_law_other"] (spD K mg 2 cI.F):=bS (T.d.get 59 rfl) (bI (N:=["_law_one", "_law_other"]) (by decide)) (λ_ _ _ _ _ _=>ar2 λ_ _=>rfl) λnd _ _ _ _ _ _ _ hr=>'d'
def fW:PSt:=
 (bE (jU 10 11 (ah (bD cP (ah (au 8) (ah (pFn gZ (ah (au 2) bx)) bx))) (ah (bD cP (ah (au 9) (ah (pFn gZ (ah (au 2) bx)) bx))) bx)))
  (bE (xIf (qOf (pOp bEq (au 1) (bY "across"))) (eE (lE 7 fQ (ah (cW (ah (bD fS (ah (au 3) (ah (bD cI (ah (au 5) (ah (au 10) bx))) bx))) (ah (au 4) (ah (bD cI (ah (au 5) (ah (au 11) bx))) (ah (au 6) bx))))) bx))) (eE (lE 7 fQ (ah (cW (ah (au 3) (ah (bD fS (ah (au 4) (ah (bD cI (ah (au 6) (ah (au 10) bx))) bx))) (ah (au 5) (ah (bD cI (ah (au 6) (ah (au 11) bx))) bx))))) bx))))
  (bJ false 8 (pOp cC (au 8) (au 9)))))
def sG:PSt:=
 (bE (fO (au 0) (gtX (gtT 4 (bQ (gtN 3) (bQ (gtN 4) (bQ (gtN 5) (bQ (gtN 6) dG)))))))
  (bE (bJ true 7 (dH bx))
  (bE (bJ false 8 (bC 0))
  (bE (eP (cn (au 2)) (gtN 9) (fW))
  (bG (au 7))))))
def gA:PFn:=fnP [false,false,false] 12 sG
def aX:gA.ms=[false,false,false]:=rfl
def v8(T:TT w K mg):Callee P w K mg base "_law_cut" 3 ["_law_box", "_law_way", "_law_weights"] (spD K mg 3 gA.F):=bS (T.d.get 64 rfl) (bI (N:=["_law_box", "_law_way", "_law_weights", "_law_left", "_law_top", "_law_wide", "_law_high", "_law_boxes", "_law_done", "_law_weight", "_law_far", "_law_part"]) (by decide)) (λ_ _ _ _ _ _=>ar3 λ_ _ _=>rfl) λnd _ _ _ _ _ _ _ hr=>'d'
def gO(s:PFx [false,false,false,false]):PSt:=
 (bE (fO (bD gA (ah (au 0) (ah (au 8) (ah (au 7) bx)))) (gtX (gtU 2 (bQ (gtN 9) (bQ (gtN 10) dG)))))
  (bE (bJ true 11 (dH (ah (bD s.fn (ah (au 9) (ah (au 5) (ah (au 2) (ah (au 3) bx))))) (ah (bD s.fn (ah (au 10) (ah (au 6) (ah (au 2) (ah (au 3) bx))))) bx))))
  (bE (xIf (qOf (bD dE (ah (pOp bIx (au 11) (bC 0)) (ah (pOp bIx (au 11) (bC 1)) bx)))) (eE (yP 11 lQ)) xNx)
  (xIf (qO (qOf (pOp bIs (au 4) iV)) (qOf (bD dE (ah (pOp bIx (au 11) (bC 0)) (ah (au 4) bx))))) (bJ false 4 (pOp bIx (au 11) (bC 0))) xNx))))
def jv(s:PFx [false,false,false,false]):PSt:=
 (bE (bJ false 6 (pLC (cn (au 1)) [none,some 5] (by decide) (gtN 0) (qOf (pOp jP (au 0) (au 1))) (au 0)))
  (bE (bJ false 7 (dH (ah (pFn gZ (ah (pLC (cn (au 5)) [none,some 2] (by decide) (gtN 0) qY (pOp bIx (au 1) (au 0))) bx)) (ah (pFn gZ (ah (pLC (cn (au 6)) [none,some 2] (by decide) (gtN 0) qY (pOp bIx (au 1) (au 0))) bx)) bx))))
  (eP (cn (dH (ah (bY "across") (ah (bY "down") bx)))) (gtN 8) (gO s))))
def gi(s:PFx [false,false,false,false]):PSt:=
 (bE (xIf (qOf (pOp bEq (pFn b8 (ah (au 1) bx)) (bC 1))) (bG (bD fH (ah (au 0) bx))) xNx)
  (bE (bJ false 4 iV)
  (bE (eP (cn (bD cX (ah (au 1) (ah (au 3) bx)))) (gtN 5) (jv s))
  (bG (au 4)))))
def d8:Nat->PFx [false,false,false,false]
 |0=>PFx.none [false,false,false,false]
 |n+1=>PFx.of [false,false,false,false] 12 (gi (d8 n))
theorem jX(T:TT w K mg):∀n,Callee P w K mg base "_law_least" (5+n) ["_law_box", "_law_numbers", "_law_weights", "_law_kind"] (spD K mg 4 (d8 n).F)
 |0=>ok0 (T.d.get 67 rfl) (bI (N:=["_law_box", "_law_numbers", "_law_weights", "_law_kind", "_law_best", "_law_first", "_law_second", "_law_sums", "_law_way", "_law_one", "_law_other", "_law_shapes"]) (by decide)) (λ_ _ _ _ _ _=>ar4 λ_ _ _ _=>rfl)
 |
  n+1=>by
  have ih:=jX T n;show Callee _ _ _ _ _ _ _ _ (spD _ _ _ (PFx.of [false,false,false,false] 12 (gi (d8 n))).F);exact tS (k:=5+n) (T.d.get 67 rfl) (bI (N:=["_law_box", "_law_numbers", "_law_weights", "_law_kind", "_law_best", "_law_first", "_law_second", "_law_sums", "_law_way", "_law_one", "_law_other", "_law_shapes"]) (by decide)) (λ_ _ _ _ _ _=>ar4 λ_ _ _ _=>rfl) λnd _ _ _ _ _ _ _ hr=>(bH 'd' (bH 'd' (bH (iN mf rfl 'd' 'd' (bH (AG nd ["_law_box", "_law_numbers", "_law_weights", "_law_kind", "_law_best", "_law_first", "_law_second", "_law_sums", "_law_way", "_law_one", "_law_other", "_law_shapes"] (bF (top 67)).names ["_law_number", "_law_first"] [none,some 5] 'd' (λnd _ _ _ _ _=>'d') (λnd _ _ _ _ _=>'d') (λnd _ _ _ _ _=>'d')) (bH (zsS 7 nd (tM (cp (fi (fR (K:=K) rfl rfl) jr rfl (T.n rfl) (by first |exact boF rfl |exact boT rfl) (cp (gn ["_law_box", "_law_numbers", "_law_weights", "_law_kind", "_law_best", "_law_first", "_law_second", "_law_sums", "_law_way", "_law_one", "_law_other", "_law_shapes"] (bF (top 67)).names ["_law_k", "_law_weights"] [none,some 2] 'd' (λnd _ _ _ _ _=>'d') (λnd _ _ _ _ _=>'d')) 'd')) (cp (fi (fR (K:=K) rfl rfl) jr rfl (T.n rfl) (by first |exact boF rfl |exact boT rfl) (cp (gn ["_law_box", "_law_numbers", "_law_weights", "_law_kind", "_law_best", "_law_first", "_law_second", "_law_sums", "_law_way", "_law_one", "_law_other", "_law_shapes"] (bF (top 67)).names ["_law_k", "_law_weights"] [none,some 2] 'd' (λnd _ _ _ _ _=>'d') (λnd _ _ _ _ _=>'d')) 'd')) 'd')))) 'd'))) 'd')))
def oE:PSt:=
 (bE (bJ false 4 (pOp bIx (au 0) (bC 2)))
  (bE (xIf (qOf (bD dE (ah (pOp bIx (au 0) (bC 3)) (ah (au 4) bx)))) (bJ false 4 (pOp bIx (au 0) (bC 3))) xNx)
  (bE (bJ false 5 (bD cP (ah (pOp bIx (au 3) (au 1)) (ah (pFn gZ (ah (pLC (cn (au 2)) [none,some 3] (by decide) (gtN 0) qY (pOp bIx (au 1) (au 0))) bx)) bx))))
  (bG (bD fk (ah (bD cI (ah (bD cI (ah (pOp bIx (au 0) (bC 2)) (ah (pOp bIx (au 0) (bC 3)) bx))) (ah (au 5) bx))) (ah (bD cI (ah (au 4) (ah (au 4) bx))) bx)))))))
def gB:PFn:=fnP [false,false,false,false] 6 oE
def aR:gB.ms=[false,false,false,false]:=rfl
def uh(T:TT w K mg):Callee P w K mg base "_law_thin" 3 ["_law_box", "_law_number", "_law_numbers", "_law_weights"] (spD K mg 4 gB.F):=bS (T.d.get 68 rfl) (bI (N:=["_law_box", "_law_number", "_law_numbers", "_law_weights", "_law_side_here", "_law_share"]) (by decide)) (λ_ _ _ _ _ _=>ar4 λ_ _ _ _=>rfl) λnd _ _ _ _ _ _ _ hr=>(bH 'd' (bH 'd' (bH (zsS 5 nd (zcF (nr T) hr (cp 'd' (cp (fi (fR (K:=K) rfl rfl) jr rfl (T.n rfl) (by first |exact boF rfl |exact boT rfl) (cp (gn ["_law_box", "_law_number", "_law_numbers", "_law_weights", "_law_side_here", "_law_share"] (bF (top 68)).names ["_law_k", "_law_weights"] [none,some 3] 'd' (λnd _ _ _ _ _=>'d') (λnd _ _ _ _ _=>'d')) 'd')) 'd')))) 'd')))
def jN(s:PFx [false,false,false,false,false,false]):PSt:=
 (bE (xIf (qO (qOf (pOp bEq (au 6) (dH bx))) (qO (qNo (qOf (pFn (cD df) (ah (pOp bIx (au 6) (bC 0)) (ah (pTy "tuple") bx))))) (qOf (pOp bNe (pFn b8 (ah (pOp bIx (au 6) (bC 0)) bx)) (bC 2))))) (bG (pBl false)) xNx)
  (bE (fO (lE 6 pW (ah (bC 0) bx)) (gtX (gtU 2 (bQ (gtN 11) (bQ (gtN 12) dG)))))
  (bE (xIf (qO (qOf (pFn (cD df) (ah (au 11) (ah (pTy "bool") bx)))) (qO (qNo (qOf (pFn (cD df) (ah (au 11) (ah (pTy "int") bx))))) (qNo (qAn (qOf (pOp bLe (bC 0) (au 11))) (qOf (pOp bLe (au 11) (bC 1))))))) (bG (pBl false)) xNx)
  (xIf (qNo (qOf (bD s.fn (ah (pOp bIx (bD gA (ah (au 0) (ah (au 10) (ah (au 9) bx)))) (au 11)) (ah (pOp bIx (dH (ah (au 7) (ah (au 8) bx))) (au 11)) (ah (au 2) (ah (au 3) (ah (au 4) (ah (au 12) bx))))))))) (bG (pBl false)) xNx))))
def gj(s:PFx [false,false,false,false,false,false]):PSt:=
 (bE (bJ false 8 (pLC (cn (au 1)) [none,some 7] (by decide) (gtN 0) (qOf (pOp jP (au 0) (au 1))) (au 0)))
  (bE (bJ false 9 (dH (ah (pFn gZ (ah (pLC (cn (au 7)) [none,some 2] (by decide) (gtN 0) qY (pOp bIx (au 1) (au 0))) bx)) (ah (pFn gZ (ah (pLC (cn (au 8)) [none,some 2] (by decide) (gtN 0) qY (pOp bIx (au 1) (au 0))) bx)) bx))))
  (eP (cn (dH (ah (bY "across") (ah (bY "down") bx)))) (gtN 10) (jN s))))
def eK(s:PFx [false,false,false,false,false,false]):PSt:=
 (bE (xIf (qO (qNo (qOf (pFn (cD df) (ah (au 5) (ah (pTy "tuple") bx))))) (qOf (pOp bEq (pFn b8 (ah (au 5) bx)) (bC 0)))) (bG (pBl false)) xNx)
  (bE (xIf (qAn (qOf (pOp bEq (pOp bIx (au 5) (bC 0)) (bY "shape"))) (qOf (pOp bEq (pFn b8 (ah (au 5) bx)) (bC 1)))) (bG (gG (pOp bEq (pFn b8 (ah (au 1) bx)) (bC 1)) (n9 (bD dE (ah (bD fH (ah (au 0) bx)) (ah (au 4) bx)))))) xNx)
  (bE (xIf (qAn (qOf (pOp bEq (pOp bIx (au 5) (bC 0)) (bY "thin"))) (qOf (pOp bEq (pFn b8 (ah (au 5) bx)) (bC 2)))) (bE (xIf (qO (qOf (pFn (cD df) (ah (pOp bIx (au 5) (bC 1)) (ah (pTy "bool") bx)))) (qO (qNo (qOf (pFn (cD df) (ah (pOp bIx (au 5) (bC 1)) (ah (pTy "int") bx))))) (qOf (pOp yD (pOp bIx (au 5) (bC 1)) (au 1))))) (bG (pBl false)) xNx)
  (bG (n9 (bD dE (ah (bD gB (ah (au 0) (ah (pOp bIx (au 5) (bC 1)) (ah (au 1) (ah (au 2) bx))))) (ah (au 4) bx)))))) xNx)
  (bE (xIf (qO (qOf (pOp bNe (pOp bIx (au 5) (bC 0)) (bY "cases"))) (qO (qOf (pOp bNe (pFn b8 (ah (au 5) bx)) (bC 2))) (qO (qNo (qOf (pFn (cD df) (ah (pOp bIx (au 5) (bC 1)) (ah (pTy "tuple") bx))))) (qOf (pOp bEq (pFn b8 (ah (au 1) bx)) (bC 1)))))) (bG (pBl false)) xNx)
  (bE (bJ true 6 (pFn kG (ah (pOp bIx (au 5) (bC 1)) bx)))
  (bE (eP (cn (bD cX (ah (au 1) (ah (au 3) bx)))) (gtN 7) (gj s))
  (bG (pOp bEq (au 6) (dH bx)))))))))
def dD:Nat->PFx [false,false,false,false,false,false]
 |0=>PFx.none [false,false,false,false,false,false]
 |n+1=>PFx.of [false,false,false,false,false,false] 13 (eK (dD n))
theorem lL(T:TT w K mg):∀n,Callee P w K mg base "_law_bars" (5+n) ["_law_box", "_law_numbers", "_law_weights", "_law_kind", "_law_bound", "_law_paper"] (spD K mg 6 (dD n).F)
 |0=>ok0 (T.d.get 69 rfl) (bI (N:=["_law_box", "_law_numbers", "_law_weights", "_law_kind", "_law_bound", "_law_paper", "_law_rows", "_law_first", "_law_second", "_law_sums", "_law_way", "_law_part", "_law_inner"]) (by decide)) (λ_ _ _ _ _ _=>ar6 λ_ _ _ _ _ _=>rfl)
 |
  n+1=>by
  have ih:=lL T n;show Callee _ _ _ _ _ _ _ _ (spD _ _ _ (PFx.of [false,false,false,false,false,false] 13 (eK (dD n))).F);exact tS (k:=5+n) (T.d.get 69 rfl) (bI (N:=["_law_box", "_law_numbers", "_law_weights", "_law_kind", "_law_bound", "_law_paper", "_law_rows", "_law_first", "_law_second", "_law_sums", "_law_way", "_law_part", "_law_inner"]) (by decide)) (λ_ _ _ _ _ _=>ar6 λ_ _ _ _ _ _=>rfl) λnd _ _ _ _ _ _ _ hr=>(bH 'd' (bH 'd' (bH 'd' (bH 'd' (bH 'd' (bH (iN mf rfl 'd' 'd' (bH (AG nd ["_law_box", "_law_numbers", "_law_weights", "_law_kind", "_law_bound", "_law_paper", "_law_rows", "_law_first", "_law_second", "_law_sums", "_law_way", "_law_part", "_law_inner"] (bF (top 69)).names ["_law_number", "_law_first"] [none,some 7] 'd' (λnd _ _ _ _ _=>'d') (λnd _ _ _ _ _=>'d') (λnd _ _ _ _ _=>'d')) (bH (zsS 9 nd (tM (cp (fi (fR (K:=K) rfl rfl) jr rfl (T.n rfl) (by first |exact boF rfl |exact boT rfl) (cp (gn ["_law_box", "_law_numbers", "_law_weights", "_law_kind", "_law_bound", "_law_paper", "_law_rows", "_law_first", "_law_second", "_law_sums", "_law_way", "_law_part", "_law_inner"] (bF (top 69)).names ["_law_k", "_law_weights"] [none,some 2] 'd' (λnd _ _ _ _ _=>'d') (λnd _ _ _ _ _=>'d')) 'd')) (cp (fi (fR (K:=K) rfl rfl) jr rfl (T.n rfl) (by first |exact boF rfl |exact boT rfl) (cp (gn ["_law_box", "_law_numbers", "_law_weights", "_law_kind", "_law_bound", "_law_paper", "_law_rows", "_law_first", "_law_second", "_law_sums", "_law_way", "_law_part", "_law_inner"] (bF (top 69)).names ["_law_k", "_law_weights"] [none,some 2] 'd' (λnd _ _ _ _ _=>'d') (λnd _ _ _ _ _=>'d')) 'd')) 'd')))) (eJ (iN mf rfl 'd' 'd' (bH 'd' (bH 'd' (bH (kS (ZW.dt (yY 'd' (yY 'd' (A7 (o6 (BI 11 Eu Ec Eu Ec 'd' 'd')))))) 'd' 'd') 'd')))))))) 'd'))))))
def pG(s:PFx [false,false,false,false]):PSt:=
 (bE (xIf (qO (qNo (qOf (pFn (cD df) (ah (au 0) (ah (pTy "tuple") bx))))) (qOf (pOp bNe (pFn b8 (ah (au 0) bx)) (bC 2)))) (bG (pBl false)) xNx)
  (bE (fO (au 0) (gtX (gtT 2 (bQ (gtN 4) (bQ (gtN 5) dG)))))
  (bE (xIf (qO (qNo (qOf (bD dY (ah (au 4) bx)))) (qOf (pOp jP (au 4) (cW (ah (bC 0) (ah (bC 1) bx)))))) (bG (pBl false)) xNx)
  (bG (bD s.fn (ah (au 5) (ah (pOp bIx (bD eN (ah (au 1) (ah (au 2) (ah (pOp bIx (au 3) (bC 0)) bx)))) (au 4)) (ah (pOp bIx (au 1) (pOp cC (au 4) (bC 1))) (ah (au 3) bx)))))))))
def fA(s:PFx [false,false,false,false]):PFn:=fnP [false,false,false,false] 6 (pG s)
def aQ(s:PFx [false,false,false,false]):(fA s).ms=[false,false,false,false]:=rfl
def uz(T:TT w K mg){s:PFx [false,false,false,false]}{k:Nat}(ih:Callee P w K mg base "bars" k ["paper", "room", "numbers", "asked"] (spD K mg 4 s.F))(hk:10<=k:=by omega):Callee P w K mg base "row_bars" (k+1) ["row", "cut", "room", "asked"] (spD K mg 4 (fA s).F):=bS (T.d.get 52 rfl) (bI (N:=["row", "cut", "room", "asked", "at", "paper"]) (by decide)) (λ_ _ _ _ _ _=>ar4 λ_ _ _ _=>rfl) λnd _ _ _ _ _ _ _ hr=>'d'
def eB(s:PFx [false,false,false,false]):PSt:=
 (xIf (qNo (qOf (bD (fA s) (ah (au 5) (ah (au 6) (ah (au 1) (ah (au 3) bx))))))) (bG (pBl false)) xNx)
def jz(s:PFx [false,false,false,false]):PSt:=
 (bE (bJ false 4 (bD fT (ah (au 2) (ah (pOp bIx (au 3) (bC 1)) bx))))
  (bE (xIf (qOf (pOp bNe (pFn b8 (ah (au 0) bx)) (pFn b8 (ah (au 4) bx)))) (bG (pBl false)) xNx)
  (bE (eP (yK (ah (au 0) (ah (au 4) bx))) (gtX (gtT 2 (bQ (gtN 5) (bQ (gtN 6) dG)))) (eB s))
  (bG (pBl true)))))
def eL(s:PFx [false,false,false,false]):PFn:=fnP [false,false,false,false] 7 (jz s)
def af(s:PFx [false,false,false,false]):(eL s).ms=[false,false,false,false]:=rfl
def m7(T:TT w K mg){s:PFx [false,false,false,false]}{k:Nat}(ih:Callee P w K mg base "bars" k ["paper", "room", "numbers", "asked"] (spD K mg 4 s.F))(hk:10<=k:=by omega):Callee P w K mg base "all_cases_bar" (k+2) ["rows", "room", "numbers", "asked"] (spD K mg 4 (eL s).F):=bS (T.d.get 51 rfl) (bI (N:=["rows", "room", "numbers", "asked", "cuts", "row", "cut"]) (by decide)) (λ_ _ _ _ _ _=>ar4 λ_ _ _ _=>rfl) λnd _ _ _ _ _ _ _ hr=>'d'
def iM(s:PFx [false,false,false,false]):PSt:=
 (bE (xIf (qNo (qOf (pFn (cD df) (ah (au 0) (ah (pTy "tuple") bx))))) (bG (pBl false)) xNx)
  (bE (xIf (qOf (pOp bEq (pFn b8 (ah (au 0) bx)) (bC 1))) (bG (gG (pOp bEq (pOp bIx (au 0) (bC 0)) (bY "shape")) (gG (pOp bEq (pFn b8 (ah (au 2) bx)) (bC 1)) (bD iB (ah (au 1) (ah (au 3) bx)))))) xNx)
  (bE (xIf (qOf (pOp bNe (pFn b8 (ah (au 0) bx)) (bC 2))) (bG (pBl false)) xNx)
  (bE (fO (au 0) (gtX (gtT 2 (bQ (gtN 4) (bQ (gtN 5) dG)))))
  (bE (xIf (qOf (pOp bEq (au 4) (bY "thin"))) (bG (gG (bD dY (ah (au 5) bx)) (gG (pOp bIn (au 5) (au 2)) (bD gz (ah (au 5) (ah (au 1) (ah (au 2) (ah (au 3) bx)))))))) xNx)
  (bE (xIf (qOf (pOp bEq (au 4) (bY "cases"))) (bG (gG (pOp bGt (pFn b8 (ah (au 2) bx)) (bC 1)) (gG (pFn (cD df) (ah (au 5) (ah (pTy "tuple") bx))) (bD (eL s) (ah (au 5) (ah (au 1) (ah (au 2) (ah (au 3) bx)))))))) xNx)
  (bG (pBl false))))))))
def gM:Nat->PFx [false,false,false,false]
 |0=>PFx.none [false,false,false,false]
 |n+1=>PFx.of [false,false,false,false] 6 (iM (gM n))
theorem rD(T:TT w K mg):∀n,Callee P w K mg base "bars" (10+3*n) ["paper", "room", "numbers", "asked"] (spD K mg 4 (gM n).F)
 |0=>ok0 (T.d.get 50 rfl) (bI (N:=["paper", "room", "numbers", "asked", "word", "held"]) (by decide)) (λ_ _ _ _ _ _=>ar4 λ_ _ _ _=>rfl)
 |
  n+1=>by
  have ih:=rD T n;show Callee _ _ _ _ _ _ (10+3*n+2+1) _ (spD _ _ _ (PFx.of [false,false,false,false] 6 (iM (gM n))).F);exact tS (k:=10+3*n+2) (T.d.get 50 rfl) (bI (N:=["paper", "room", "numbers", "asked", "word", "held"]) (by decide)) (λ_ _ _ _ _ _=>ar4 λ_ _ _ _=>rfl) λnd _ _ _ _ _ _ _ hr=>'d'
def tX:PSt:=
 (bE (eE (bD eI (ah (au 0) (ah (au 1) (ah (au 2) bx)))))
  (bG (bD (gM 7).fn (ah (au 4) (ah (au 0) (ah (pFn iH (ah (pFn b8 (ah (au 1) bx)) bx)) (ah (cW (ah (au 1) (ah (au 2) (ah (au 3) bx)))) bx)))))))
def iD:PFn:=fnP [false,false,false,false,false] 5 tX
def bh:iD.ms=[false,false,false,false,false]:=rfl
def za(T:TT w K mg):Callee P w K mg base "stands" 32 ["room", "weights", "kind", "bound", "paper"] (spD K mg 5 iD.F):=bS (T.d.get 45 rfl) (bI (N:=["room", "weights", "kind", "bound", "paper"]) (by decide)) (λ_ _ _ _ _ _=>ar5 λ_ _ _ _ _=>rfl) λnd _ _ _ _ _ _ _ hr=>'d'
def l6:PSt:=
 (bE (bJ false 7 (pFn kG (ah (au 4) bx)))
  (bE (bJ false 8 (bD gW (ah (au 3) (ah (au 4) (ah (au 2) bx)))))
  (bE (bJ false 9 (bD (d8 7).fn (ah (au 3) (ah (au 5) (ah (au 7) (ah (au 2) bx))))))
  (bE (xIf (qO (qOf (pOp bNe (au 4) (au 7))) (qNo (qOf (bD (dD 7).fn (ah (au 3) (ah (au 5) (ah (au 7) (ah (au 2) (ah (au 9) (ah (au 8) bx)))))))))) (bG (pBl false)) xNx)
  (bE (xIf (qO (qOf (pOp Cb (bD iD (ah (au 3) (ah (au 4) (ah (au 2) (ah (au 9) (ah (au 8) bx)))))) (pBl true))) (qOf (pOp bNe (au 4) (au 7)))) (bG (pBl false)) xNx)
  (bE (bJ false 10 (bD fS (ah (au 9) (ah (cW (ah (bC 1) (ah (pOp cC (bC 1) (bD bP (ah (au 1) (ah (bC 40) bx)))) bx))) bx))))
  (bE (bJ false 11 (bD iD (ah (au 3) (ah (au 4) (ah (au 2) (ah (au 10) (ah (au 8) bx)))))))
  (bE (xIf (qO (qNo (qOf (pFn (cD df) (ah (au 11) (ah (pTy "bool") bx))))) (qOf (pOp bNe (au 11) (bD (dD 7).fn (ah (au 3) (ah (au 5) (ah (au 7) (ah (au 2) (ah (au 10) (ah (au 8) bx)))))))))) (bG (pBl false)) xNx)
  (qz 4 seL (bD bP (ah (au 1) (ah (pFn b8 (ah (au 4) bx)) bx))) (pOp cC (bC 1) (bD bP (ah (au 1) (ah (bC 60) bx)))))))))))))
def Ey:PSt:=
 (bE (bJ true 1 (bD gJ (ah (au 0) bx)))
  (bE (bJ false 2 (pOp bIx (dH (ah (bY "order") (ah (bY "any") bx))) (bD bP (ah (au 1) (ah (bC 2) bx)))))
  (bE (CU 3 4 (by decide) gC (ah (au 1) (ah (pOp gF (tI ["order", "any"] (ah (bC 6) (ah (bC 5) bx))) (au 2)) bx)))
  (bE (bJ false 5 (pFn iH (ah (pFn b8 (ah (au 4) bx)) bx)))
  (bE (eP (mI (ah (bC 2) bx)) (gtN 6) (l6))
  (bG (pBl true)))))))
def tJ:PFn:=fnP [false] 12 Ey
def Fq(T:TT w K mg):Callee P w K mg base "law" 33 ["_law_script"] (spD K mg 1 tJ.F):=bS (T.d.get 70 rfl) (bI (N:=["_law_script", "_law_feed_here", "_law_kind", "_law_room", "_law_weights", "_law_numbers", "_law_turn", "_law_kept", "_law_paper", "_law_least_here", "_law_more", "_law_found"]) (by decide)) (λ_ _ _ _ _ _=>ar1 λ_=>rfl) λnd _ _ _ _ _ _ _ hr=>(bH 'd' (bH 'd' (bH (IQ (zcF (md T) hr (cp 'd' (cp (xG (EH hr) (wU (jx km (jx km xE))) 'd' (λ_ _=>rfl)) 'd'))) 'd') 'd')))
end
def fdD(cs:List Int)(a l:Int):Val:=.dct [(.inr "cells",.lst (cs.map .int)),(.inr "at",.int a),(.inr "left",.int l)]
def Fd(n:Nat)(v:Val):Prop:=∃cs a l,v=fdD cs a l/\0<=a/\a<=n
def Fd.mono{n m:Nat}{v:Val}(h:Fd n v)(q:n<=m):Fd m v:=by obtain⟨cs,a,l,e,h0,h1⟩:=h;exact⟨cs,a,l,e,h0,by omega⟩
def jk(cs:List Int)(a l:Int):gF.G (fdD cs a l) (.str "cells")=.val (.lst (cs.map .int)):=rfl
def oO(cs:List Int)(a l:Int):gF.G (fdD cs a l) (.str "at")=.val (.int a):=rfl
def j7(cs:List Int)(a l:Int):gF.G (fdD cs a l) (.str "left")=.val (.int l):=rfl
def j8(cs:List Int)(a l x:Int):seD.G (fdD cs a l) (.str "at") (.int x)=some (fdD cs x l):=rfl
def js(cs:List Int)(a l x:Int):seD.G (fdD cs a l) (.str "left") (.int x)=some (fdD cs a x):=rfl
def tw:qS.G (.int 10) (.int 18)=.val (.int (10^18)):=D1 ⟨by decide,by decide,by decide⟩
def gu{a m:Int}(h:0<m):0<=a.fmod m/\a.fmod m<m:=⟨Int.fmod_nonneg_of_pos a h,Int.fmod_lt_of_pos a h⟩
set_option hygiene false in
local macro_rules | `(tactic|simp![$args,*])=>do
 let l <- ("% mD Np NX M9 Nc KI jA Ni MP Ct xP LJ Ik HV LW Ir JB KQ J4 ER DF HS Jj AB FK J7 MJ Mw v_bl OA Na v_ty MC v_un v_op Nv K2 v_fn MN NR M7 Ms v_if c_of c_an c_o c_no c_y x_nx x_ct Od FE G8 Gj Lc Et x_if Mm NT N4 FY CQ BO g_n g_sn g_sc g_t g_x Kd NC OK NW Fg My Nb Oq NY Mg Ip HP Ot Ij Dy Og Me Oo Hz HW JJ Lw Mc MB L6 kf v_lc LK KP IU o_n o_s v_sl N6 fx_G M5 ON k_lt k_le k_gt k_ge NS M6 k_ix Li AF k_eq k_ne OE Ny k_is NN L7 Nu NU Mh J3 Gv Cg rY List.getElem?_cons_zero List.getElem?_cons_succ List.set_cons_zero List.set_cons_succ List.length_cons List.length_nil Option.bind_some Option.map_some Option.isSome_some if_true if_false Bool.not_true Bool.not_false Bool.and_true Bool.true_and Bool.false_and Bool.or_true Bool.true_or Bool.or_false Nat.reduceLeDiff Nat.reduceLT Nat.reduceAdd Nat.reduceSub Nat.zero_add Nat.add_zero Nat.sub_self List.cons_append List.nil_append List.append_nil List.replicate reduceIte reduceCtorEq decide_true decide_false Bool.false_eq_true List.all_cons List.all_nil List.isEmpty_nil List.isEmpty_cons List.map_cons List.map_nil Int.reduceBEq Int.reduceLT Int.reduceLE Int.reduceAdd Int.reduceSub Int.reduceMul Int.cast_ofNat_Int Kj EY Jd HU ID FO Dg Kw Dz Jh zZ G1 EU K5 GK Au FI Ii BF Lp F5 Kq B9 LO H0 F4 Om Oi OJ NM zQ AQ AW dC cJ iU Bu iS Az fb ati0 ati1 ati2 ati3 DU c8 Jn Jc Int.reduceNeg Gg Ko g_u g_uL pL NV".splitOn " ").tail.mapM λs=>`(Lean.Parser.Tactic.simpLemma| $(Lean.mkIdent s.toName):term)
 `(tactic|simp only[$(l.toArray),*,$args,*])
def FH{ns:List Int}(hl:ns.length<=63):∃v,gJ.G [.kl (ns.map .int)]=.ok (.new v) []/\Fd 0 v:=by
 refine⟨fdD ns 0 0,?_,ns,0,0,rfl,by omega,by omega⟩;unfold gJ;rw[bR];unfold oy;have e:aSl (.kl (ns.map Val.int)) none (some 63)=.new (.lst (ns.map Val.int)):=by
  have:=N9 (ns.map Val.int) none (some ((63:Nat):Int))
  rw[va,PH (by rw[u_];exact hl)] at this;exact this
 have c:Val.items (.lst (ns.map Val.int))=some (ns.map Val.int):=rfl;simp![bz,bB,bA,bq,aN,aH,aW,aD,aF,aK,aS,aa,ao,bf,aA,ay,ag,av,ar,aU,aM,aE,bu,bp,a8,aV,bc,aC,bt,bo,bj,ba,aB,aG,aj,ak,bg,aT,aZ,aq,aP,aO,aJ,ax,aw,aY,az,aX,aR,aQ,af,bh,ai,bw,pL,e,c];rfl
def bW{n:Nat}{v:Val}{m:Int}(f:Fd n v)(hn:n<=1000000000)(h0:0<m)(hm:Sm 8000 m):∃r v',bP.G [v,.int m]=.ok (.val (.int r)) [v']/\Fd (n+1) v'/\0<=r/\r<m:=by
 obtain⟨cs,a,l,rfl,a0,a1⟩:=f;have m0:m≠0:=by omega
 have d1:=λi=>iJ (i:=i) m0;have d2:=λi=>mS (i:=i) (CDivB.of m0 hm);unfold bP;rw[bR];unfold pj;have x1:cx.G (.int 61) (.int a)=.val (.int (61*a)):=cE (CMulA.left (by decide) (by decide));have x2:cx.G (.int (61*a)) (.int a)=.val (.int (61*a*a)):=cE (CMulA.right (by omega) (by omega));have x3:cx.G (.int 7) (.int a)=.val (.int (7*a)):=cE (CMulA.left (by decide) (by decide));have x4:∀x:Int,cx.G (.int x) (.int 48271)=.val (.int (x*48271)):=λx=>cE (CMulA.right (by decide) (by decide));have x5:∀x:Int,cx.G (.int x) (.int 69623)=.val (.int (x*69623)):=λx=>cE (CMulA.right (by decide) (by decide));have x6:cx.G (.int 7919) (.int a)=.val (.int (7919*a)):=cE (CMulA.left (by decide) (by decide));have x7:∀x:Int,cx.G (.int x) (.int 16811)=.val (.int (x*16811)):=λx=>cE (CMulA.right (by decide) (by decide));have y1:∀x:Int,dZ.G (.int x) (.int 1000003)=.val (.int (x.fmod 1000003)):=λx=>iJ (by decide);have y2:∀x:Int,dZ.G (.int x) (.int 999983)=.val (.int (x.fmod 999983)):=λx=>iJ (by decide);have y3:∀x:Int,dZ.G (.int x) (.int 1999993)=.val (.int (x.fmod 1999993)):=λx=>iJ (by decide);have y4:∀x:Int,dZ.G (.int x) (.int 524287)=.val (.int (x.fmod 524287)):=λx=>iJ (by decide);have y5:∀x:Int,jQ.G (.int x) (.int 5)=.val (.int (x.fdiv 5)):=λx=>mS (CDivB.of (by decide) (sm8 (by decide)));by_cases hc:0<l
 .have hc':decide (0<l)=true:=J_ hc;refine⟨l.fmod m,fdD cs a (l.fdiv m),?_,⟨cs,a,_,rfl,a0,by omega⟩,gu h0⟩;simp![bz,bB,bA,bq,aN,aH,aW,aD,aF,aK,aS,aa,ao,bf,aA,ay,ag,av,ar,aU,aM,aE,bu,bp,a8,aV,bc,aC,bt,bo,bj,ba,aB,aG,aj,ak,bg,aT,aZ,aq,aP,aO,aJ,ax,aw,aY,az,aX,aR,aQ,af,bh,ai,bw,hc',d1,d2,jk,oO,j7,j8,js]
 .have hc':decide (0<l)=false:=I_ hc;have i_:∀x:Int,∃r v',(R3F.ok (Rt.val (.int (x.fmod m))) [fdD cs (a+1) l]:R3F)=.ok (.val (.int r)) [v']/\Fd (n+1) v'/\0<=r/\r<m:=λx=>⟨_,_,rfl,⟨cs,_,_,rfl,by omega,by omega⟩,gu h0⟩;have z18:((10:Int)^18)=1000000000000000000:=by decide
  by_cases hl:0<cs.length
  .have r:=gu (a:=a) (m:=(cs.length:Nat)) (by omega);have hi:(a.fmod (cs.length:Nat)).toNat<cs.length:=by omega
   have at1:atI (cs.map Val.int) (a.fmod (cs.length:Nat))=some (.int cs[(a.fmod (cs.length:Nat)).toNat]):=mH r.1 (by rw[OW,OT hi];rfl);have l1:decide ((0:Int)<((cs.length:Nat):Int))=true:=J_ (by omega);have e1:dZ.G (.int a) (.int (cs.length:Nat))=.val (.int (a.fmod (cs.length:Nat))):=iJ (by omega);by_cases hb:(10^18:Int)<=cs[(a.fmod (cs.length:Nat)).toNat]
   .have hb':=J_ hb;by_cases ha:a<(cs.length:Nat)
    .have ha':=J_ ha;refine⟨(cs[(a.fmod (cs.length:Nat)).toNat]).fmod m,fdD cs (a+1) ((cs[(a.fmod (cs.length:Nat)).toNat]).fdiv m),?_,⟨cs,_,_,rfl,by omega,by omega⟩,gu h0⟩;simp![bz,bB,bA,bq,aN,aH,aW,aD,aF,aK,aS,aa,ao,bf,aA,ay,ag,av,ar,aU,aM,aE,bu,bp,a8,aV,bc,aC,bt,bo,bj,ba,aB,aG,aj,ak,bg,aT,aZ,aq,aP,aO,aJ,ax,aw,aY,az,aX,aR,aQ,af,bh,ai,bw,hc',d1,d2,jk,oO,j7,j8,js,u_,l1,e1,at1,tw,hb',ha']
    .have ha':=I_ ha;simp![bz,bB,bA,bq,aN,aH,aW,aD,aF,aK,aS,aa,ao,bf,aA,ay,ag,av,ar,aU,aM,aE,bu,bp,a8,aV,bc,aC,bt,bo,bj,ba,aB,aG,aj,ak,bg,aT,aZ,aq,aP,aO,aJ,ax,aw,aY,az,aX,aR,aQ,af,bh,ai,bw,hc',d1,d2,jk,oO,j7,j8,js,u_,l1,e1,at1,tw,hb',ha',x1,x2,x3,x4,x5,x6,x7,y1,y2,y3,y4,y5];exact i_ _
   .have hb':=I_ hb;simp![bz,bB,bA,bq,aN,aH,aW,aD,aF,aK,aS,aa,ao,bf,aA,ay,ag,av,ar,aU,aM,aE,bu,bp,a8,aV,bc,aC,bt,bo,bj,ba,aB,aG,aj,ak,bg,aT,aZ,aq,aP,aO,aJ,ax,aw,aY,az,aX,aR,aQ,af,bh,ai,bw,hc',d1,d2,jk,oO,j7,j8,js,u_,l1,e1,at1,tw,hb',x1,x2,x3,x4,x5,x6,x7,y1,y2,y3,y4,y5];exact i_ _
  .have l1:decide ((0:Int)<((cs.length:Nat):Int))=false:=I_ (by omega);have hb':decide ((10^18:Int)<=a)=false:=I_ (by rw[z18];omega);simp![bz,bB,bA,bq,aN,aH,aW,aD,aF,aK,aS,aa,ao,bf,aA,ay,ag,av,ar,aU,aM,aE,bu,bp,a8,aV,bc,aC,bt,bo,bj,ba,aB,aG,aj,ak,bg,aT,aZ,aq,aP,aO,aJ,ax,aw,aY,az,aX,aR,aQ,af,bh,ai,bw,hc',d1,d2,jk,oO,j7,j8,js,u_,l1,tw,hb',x1,x2,x3,x4,x5,x6,x7,y1,y2,y3,y4,y5];exact i_ _
def NO:jo [.int 6]=some [.int 0,.int 1,.int 2,.int 3,.int 4,.int 5]:=mQ (i:=6) (by decide) (by decide)
def uH{n:Nat}{v:Val}(f:Fd n v)(hn:n<=900000000):∃r v',eR.G [v,.int 6]=.ok (.val (.int r)) [v']/\Fd (n+6) v'/\0<=r:=by have s:Sm 8000 100000:=sm8 (by decide);obtain⟨r1,v1,e1,f1,a1,_⟩:=bW (m:=100000) f (by omega) (by decide) s;obtain⟨r2,v2,e2,f2,a2,_⟩:=bW (m:=100000) f1 (by omega) (by decide) s;obtain⟨r3,v3,e3,f3,a3,_⟩:=bW (m:=100000) f2 (by omega) (by decide) s;obtain⟨r4,v4,e4,f4,a4,_⟩:=bW (m:=100000) f3 (by omega) (by decide) s;obtain⟨r5,v5,e5,f5,a5,_⟩:=bW (m:=100000) f4 (by omega) (by decide) s;obtain⟨r6,v6,e6,f6,a6,_⟩:=bW (m:=100000) f5 (by omega) (by decide) s;have c6:∀x:Int,cx.G (.int x) (.int 100000)=.val (.int (x*100000)):=λx=>cE (CMulA.right (by decide) (by decide));refine⟨((((((0*100000+r1)*100000+r2)*100000+r3)*100000+r4)*100000+r5)*100000+r6),v6,?_,f6.mono (by omega),by omega⟩;unfold eR;rw[bR];unfold nz me;simp![bz,bB,bA,bq,aN,aH,aW,aD,aF,aK,aS,aa,ao,bf,aA,ay,ag,av,ar,aU,aM,aE,bu,bp,a8,aV,bc,aC,bt,bo,bj,ba,aB,aG,aj,ak,bg,aT,aZ,aq,aP,aO,aJ,ax,aw,aY,az,aX,aR,aQ,af,bh,ai,bw,NO,bZ,c6,e1,e2,e3,e4,e5,e6]
def xC(a:Int):(if a<0 then -a else a)=((a.natAbs:Nat):Int):=by split <;> omega
theorem uR:∀(n one e_:Nat),e_<=n->(xWh (qOf (pOp bNe (au 1) (bC 0))) eT).G [.sh (.int (one:Nat)),.sh (.int (e_:Nat))]=.nx [.sh (.int (Nat.gcd one e_:Nat)),.sh (.int 0)]
 |
  n,one,0,_=>by
  rw[zo];simp![bz,bB,bA,bq,aN,aH,aW,aD,aF,aK,aS,aa,ao,bf,aA,ay,ag,av,ar,aU,aM,aE,bu,bp,a8,aV,bc,aC,bt,bo,bj,ba,aB,aG,aj,ak,bg,aT,aZ,aq,aP,aO,aJ,ax,aw,aY,az,aX,aR,aQ,af,bh,ai,bw];rw[Nat.gcd_zero_right];try rfl
 |0,one,e_+1,hl=>absurd hl (by omega)
 |
  n+1,one,e_+1,hl=>by
  rw[zo];have e:((((e_+1:Nat):Int)==0))=false:=by rw[OS];omega
  have e1:dZ.G (.int (one:Nat)) (.int ((e_+1:Nat):Int))=.val (.int (((one:Nat):Int).fmod ((e_+1:Nat):Int))):=iJ (by omega);have e2:((one:Nat):Int).fmod ((e_+1:Nat):Int)=((one % (e_+1):Nat):Int):=by rw[Int.fmod_eq_emod_of_nonneg _ (by omega)];rfl
  have ih:=uR n (e_+1) (one % (e_+1)) (by have:=Nat.mod_lt one (show e_+1>0 by omega);omega);rw[Fr.euc] at ih;rw[e2] at e1;have bb:eT.G [.sh (.int (one:Nat)),.sh (.int ((e_+1:Nat):Int))]=.nx [.sh (.int ((e_+1:Nat):Int)),.sh (.int ((one % (e_+1):Nat):Int))]:=by unfold eT;simp![bz,bB,bA,bq,aN,aH,aW,aD,aF,aK,aS,aa,ao,bf,aA,ay,ag,av,ar,aU,aM,aE,bu,bp,a8,aV,bc,aC,bt,bo,bj,ba,aB,aG,aj,ak,bg,aT,aZ,aq,aP,aO,aJ,ax,aw,aY,az,aX,aR,aQ,af,bh,ai,bw,e1]
  simp![bz,bB,bA,bq,aN,aH,aW,aD,aF,aK,aS,aa,ao,bf,aA,ay,ag,av,ar,aU,aM,aE,bu,bp,a8,aV,bc,aC,bt,bo,bj,ba,aB,aG,aj,ak,bg,aT,aZ,aq,aP,aO,aJ,ax,aw,aY,az,aX,aR,aQ,af,bh,ai,bw,e,bb,ih]
def eU(a b:Int):dh.G [.int a,.int b]=.ok (.val (.int (Int.gcd a b:Nat))) []:=by
 unfold dh;rw[bR];unfold jh
 have:=uR b.natAbs a.natAbs b.natAbs (y_ _)
 simp![bz,bB,bA,bq,aN,aH,aW,aD,aF,aK,aS,aa,ao,bf,aA,ay,ag,av,ar,aU,aM,aE,bu,bp,a8,aV,bc,aC,bt,bo,bj,ba,aB,aG,aj,ak,bg,aT,aZ,aq,aP,aO,aJ,ax,aw,aY,az,aX,aR,aQ,af,bh,ai,bw,xC,this];rfl
def fG{a b:Int}(hb:b≠0)(hs:Sm 8000 b):dB.G [.int a,.int b]=.ok (.val (fV ((a:Rat)/(b:Rat)))) []:=by
 unfold dB;rw[bR];unfold pw;have e:(b==0)=false:=by rw[OS];exact hb
 have c:∀x,CDivB x (Fr.dv a b):=λx=>CDivB.of (Fr.dv_ne hb) (hs.of_le (by rw[Fr.dv_abs];exact Nat.le_of_dvd (by omega) (Nat.gcd_dvd_right a.natAbs b.natAbs)));have k1:=mS (c a);have k2:=mS (c b);have hh:=o7 (a:=a) hb;have i_:Val.tup [.int (a.fdiv (Fr.dv a b)),.int (b.fdiv (Fr.dv a b))]=fV ((a:Rat)/(b:Rat)):=by unfold fV;rw[<- hh.1,<- hh.2];rfl
 by_cases hn:b<0
 .have hd:Fr.dv a b=-((Int.gcd a b:Nat):Int):=by unfold Fr.dv;rw[if_pos hn]
  rw[hd] at k1 k2 i_;simp![bz,bB,bA,bq,aN,aH,aW,aD,aF,aK,aS,aa,ao,bf,aA,ay,ag,av,ar,aU,aM,aE,bu,bp,a8,aV,bc,aC,bt,bo,bj,ba,aB,aG,aj,ak,bg,aT,aZ,aq,aP,aO,aJ,ax,aw,aY,az,aX,aR,aQ,af,bh,ai,bw,e,eU,J_ hn,k1,k2,i_]
 .have hd:Fr.dv a b=((Int.gcd a b:Nat):Int):=by unfold Fr.dv;rw[if_neg hn]
  rw[hd] at k1 k2 i_;simp![bz,bB,bA,bq,aN,aH,aW,aD,aF,aK,aS,aa,ao,bf,aA,ay,ag,av,ar,aU,aM,aE,bu,bp,a8,aV,bc,aC,bt,bo,bj,ba,aB,aG,aj,ak,bg,aT,aZ,aq,aP,aO,aJ,ax,aw,aY,az,aX,aR,aQ,af,bh,ai,bw,e,eU,I_ hn,k1,k2,i_]
def C2{p q:Rat}{n m:Nat}(hp:Sz n p)(hq:Sz m q)(h:n+m<=8000):j9.G [fV p,fV q]=.ok (.val (fV (p+q))) []:=by have c1:=cE (CMulA.of hp.top hq.bot (by omega) (by omega));have c2:=cE (CMulA.of hq.top hp.bot (by omega) (by omega));have c3:=cE (CMulA.of hp.bot hq.bot (by omega) (by omega));have fe:=fG (a:=p.num*q.den+q.num*p.den) (b:=p.den*q.den) (PK (dX p) (dX q)) ((hp.bot.mul hq.bot).mono h);rw[<- qg] at fe;unfold j9;rw[bR];unfold wu;rw[show fV p=.tup [.int p.num,.int p.den] from rfl,show fV q=.tup [.int q.num,.int q.den] from rfl];simp![bz,bB,bA,bq,aN,aH,aW,aD,aF,aK,aS,aa,ao,bf,aA,ay,ag,av,ar,aU,aM,aE,bu,bp,a8,aV,bc,aC,bt,bo,bj,ba,aB,aG,aj,ak,bg,aT,aZ,aq,aP,aO,aJ,ax,aw,aY,az,aX,aR,aQ,af,bh,ai,bw,c1,c2,c3,fe]
def nH{p q:Rat}{n m:Nat}(hp:Sz n p)(hq:Sz m q)(h:n+m<=8000):ik.G [fV p,fV q]=.ok (.val (fV (p*q))) []:=by have c1:=cE (CMulA.of hp.top hq.top (by omega) (by omega));have c2:=cE (CMulA.of hp.bot hq.bot (by omega) (by omega));have fe:=fG (a:=p.num*q.num) (b:=p.den*q.den) (PK (dX p) (dX q)) ((hp.bot.mul hq.bot).mono h);rw[<- qN] at fe;unfold ik;rw[bR];unfold wW;rw[show fV p=.tup [.int p.num,.int p.den] from rfl,show fV q=.tup [.int q.num,.int q.den] from rfl];simp![bz,bB,bA,bq,aN,aH,aW,aD,aF,aK,aS,aa,ao,bf,aA,ay,ag,av,ar,aU,aM,aE,bu,bp,a8,aV,bc,aC,bt,bo,bj,ba,aB,aG,aj,ak,bg,aT,aZ,aq,aP,aO,aJ,ax,aw,aY,az,aX,aR,aQ,af,bh,ai,bw,c1,c2,fe]
def fh{p q:Rat}{n m:Nat}(hp:Sz n p)(hq:Sz m q)(h1:n<=100000)(h2:m<=100000):ee.G [fV p,fV q]=.ok (.val (.bl (decide (p<q)))) []:=by have c1:=cE (CMulA.of hp.top hq.bot h1 h2);have c2:=cE (CMulA.of hq.top hp.bot h2 h1);unfold ee;rw[bR];unfold rV;rw[show fV p=.tup [.int p.num,.int p.den] from rfl,show fV q=.tup [.int q.num,.int q.den] from rfl];simp![bz,bB,bA,bq,aN,aH,aW,aD,aF,aK,aS,aa,ao,bf,aA,ay,ag,av,ar,aU,aM,aE,bu,bp,a8,aV,bc,aC,bt,bo,bj,ba,aB,aG,aj,ak,bg,aT,aZ,aq,aP,aO,aJ,ax,aw,aY,az,aX,aR,aQ,af,bh,ai,bw,c1,c2];rw[show decide (p.num*(q.den:Int)<q.num*(p.den:Int))=decide (p<q) from decide_eq_decide.mpr (zR p q).symm]
def mR{v:Val}(hk:knV v=true):(cD df).G [v,.ty "tuple"]=.val (.bl (hZ v)):=by cases v <;> first |rfl |cases hk
def gh{v:Val}(hk:knV v=true):dY.G [v]=.ok (.val (.bl (jg v))) []:=by unfold dY;rw[bR];unfold pA;cases v <;> first |rfl |cases hk
def tQ(v:Val):hZ v=false\/∃xs,v=.tup xs:=by cases v <;> first |exact .inr ⟨_,rfl⟩ |exact .inl rfl
def oi(v:Val):jg v=false\/∃i,v=.int i:=by cases v <;> first |exact .inr ⟨_,rfl⟩ |exact .inl rfl
def Nq{v:Val}(h:hZ v=false):cm v=false:=by cases v <;> first |rfl |cases h
def OD{v:Val}(h:hZ v=false):iG v=false:=by cases v <;> first |rfl |cases h
def Il{a b:Val}(h:jg a=false):cm (.tup [a,b])=false:=by cases a <;> first |rfl |cases h
def Ks{i:Int}{b:Val}(h:jg b=false):cm (.tup [.int i,b])=false:=by cases b <;> first |rfl |cases h
def Ma{xs:List Val}(hl:xs.length≠2):cm (.tup xs)=false:=by
 unfold cm;split
 .rename_i e;injection e with e;subst e;exact absurd rfl hl
 .rfl
def NK{xs:List Val}(hl:xs.length≠4):iG (.tup xs)=false:=by
 unfold iG;split
 .rename_i e;injection e with e;subst e;exact absurd rfl hl
 .rfl
def EB{k:Nat}{v:Val}(ha:jM k v=true)(h:hZ v=false):knV v=true:=by
 cases v with
 |tup xs=>cases h
 |_=>cases k <;> exact ha
def qc{v:Val}(ha:jM 1 v=true):eG.G [v]=.ok (.val (.bl (cm v))) []:=by
 unfold eG;rw[bR];unfold lK;rcases tQ v with ht |⟨xs,rfl⟩
 .have it:=mR (EB ha ht);rw[ht] at it;simp![bz,bB,bA,bq,aN,aH,aW,aD,aF,aK,aS,aa,ao,bf,aA,ay,ag,av,ar,aU,aM,aE,bu,bp,a8,aV,bc,aC,bt,bo,bj,ba,aB,aG,aj,ak,bg,aT,aZ,aq,aP,aO,aJ,ax,aw,aY,az,aX,aR,aQ,af,bh,ai,bw,it,Nq ht]
 have it:=mR (v:=.tup xs) rfl;by_cases hl:xs.length=2
 .match xs,hl,ha with
  |
   [a,b],_,ha=>
   have ha':(knV a&&(knV b&&true))=true:=by simpa [jM] using ha
   simp only[B_] at ha';have w1:=gh ha'.1;have w2:=gh ha'.2.1;rcases oi a with h1 |⟨i,rfl⟩
   .rw[h1] at w1;simp![bz,bB,bA,bq,aN,aH,aW,aD,aF,aK,aS,aa,ao,bf,aA,ay,ag,av,ar,aU,aM,aE,bu,bp,a8,aV,bc,aC,bt,bo,bj,ba,aB,aG,aj,ak,bg,aT,aZ,aq,aP,aO,aJ,ax,aw,aY,az,aX,aR,aQ,af,bh,ai,bw,it,hZ,w1,Il h1]
   rcases oi b with h2 |⟨j,rfl⟩
   .rw[h2] at w2;simp![bz,bB,bA,bq,aN,aH,aW,aD,aF,aK,aS,aa,ao,bf,aA,ay,ag,av,ar,aU,aM,aE,bu,bp,a8,aV,bc,aC,bt,bo,bj,ba,aB,aG,aj,ak,bg,aT,aZ,aq,aP,aO,aJ,ax,aw,aY,az,aX,aR,aQ,af,bh,ai,bw,it,hZ,w1,jg,w2,Ks h2]
   have f:cm (.tup [.int i,.int j])=(decide (1<=j)&&decide (Int.gcd i j=1)):=rfl;have g:((((Int.gcd i j:Nat):Int)==1):Bool)=decide (Int.gcd i j=1):=by rw[Bool.eq_iff_iff,O7,P9];omega
   by_cases hj:1<=j
   .simp![bz,bB,bA,bq,aN,aH,aW,aD,aF,aK,aS,aa,ao,bf,aA,ay,ag,av,ar,aU,aM,aE,bu,bp,a8,aV,bc,aC,bt,bo,bj,ba,aB,aG,aj,ak,bg,aT,aZ,aq,aP,aO,aJ,ax,aw,aY,az,aX,aR,aQ,af,bh,ai,bw,it,hZ,w1,w2,jg,eU,J_ hj,f,g]
   .simp![bz,bB,bA,bq,aN,aH,aW,aD,aF,aK,aS,aa,ao,bf,aA,ay,ag,av,ar,aU,aM,aE,bu,bp,a8,aV,bc,aC,bt,bo,bj,ba,aB,aG,aj,ak,bg,aT,aZ,aq,aP,aO,aJ,ax,aw,aY,az,aX,aR,aQ,af,bh,ai,bw,it,hZ,w1,w2,jg,eU,I_ hj,f,g]
 .have e:(((xs.length:Nat):Int)==2)=false:=by rw[OS];omega
  simp![bz,bB,bA,bq,aN,aH,aW,aD,aF,aK,aS,aa,ao,bf,aA,ay,ag,av,ar,aU,aM,aE,bu,bp,a8,aV,bc,aC,bt,bo,bj,ba,aB,aG,aj,ak,bg,aT,aZ,aq,aP,aO,aJ,ax,aw,aY,az,aX,aR,aQ,af,bh,ai,bw,it,hZ,e,Ma hl]
def rO{v:Val}(ha:jM 2 v=true):jw.G [v]=.ok (.val (.bl (iG v))) []:=by
 unfold jw;rw[bR];unfold vM;rcases tQ v with ht |⟨xs,rfl⟩
 .have it:=mR (EB ha ht);rw[ht] at it;simp![bz,bB,bA,bq,aN,aH,aW,aD,aF,aK,aS,aa,ao,bf,aA,ay,ag,av,ar,aU,aM,aE,bu,bp,a8,aV,bc,aC,bt,bo,bj,ba,aB,aG,aj,ak,bg,aT,aZ,aq,aP,aO,aJ,ax,aw,aY,az,aX,aR,aQ,af,bh,ai,bw,it,OD ht]
 have it:=mR (v:=.tup xs) rfl;by_cases hl:xs.length=4
 .match
   xs,hl,ha with
  |
   [a,b,c,d],_,ha=>
   have e1:iG (.tup [a,b,c,d])=(cm a&&(cm b&&(cm c&&(cm d&&(lF c&&lF d))))):=rfl;have bl4:∀x y z w:Bool,mq [.bl x,.bl y,.bl z,.bl w]=some [x,y,z,w]:=λ_ _ _ _=>rfl;obtain⟨e',⟨s',rfl,_⟩,lc⟩:=pX (g:=(gtN 0).G) (F:=(bD eG (ah (au 0) bx)).G) (f:=λv=>.bl (cm v)) (λe=>∃s,e=[s]/\s.pl=true) [a,b,c,d] [] [.no] ⟨.no,rfl,rfl⟩ (by
    rintro v hv e ⟨s,rfl,hs⟩;have hv':jM 1 v=true:=L_.mp (by simpa [jM] using ha) v hv;refine⟨[.sh v],.val (.bl (cm v)),[.sh v],?_,?_,rfl,⟨_,rfl,rfl⟩⟩
    .simp![bz,bB,bA,bq,aN,aH,aW,aD,aF,aK,aS,aa,ao,bf,aA,ay,ag,av,ar,aU,aM,aE,bu,bp,a8,aV,bc,aC,bt,bo,bj,ba,aB,aG,aj,ak,bg,aT,aZ,aq,aP,aO,aJ,ax,aw,aY,az,aX,aR,aQ,af,bh,ai,bw,hs]
    .simp![bz,bB,bA,bq,aN,aH,aW,aD,aF,aK,aS,aa,ao,bf,aA,ay,ag,av,ar,aU,aM,aE,bu,bp,a8,aV,bc,aC,bt,bo,bj,ba,aB,aG,aj,ak,bg,aT,aZ,aq,aP,aO,aJ,ax,aw,aY,az,aX,aR,aQ,af,bh,ai,bw,qc hv']) (by simp)
   have cy:cY=qY.G:=rfl;rw[cy,OZ] at lc;simp only[A_,O3] at lc;cases hA:(cm a&&(cm b&&(cm c&&cm d))) with
   |
    true=>
    simp only[B_] at hA;obtain⟨p,rfl⟩:=Ai hA.2.2.1;obtain⟨q,rfl⟩:=Ai hA.2.2.2;rw[hA.1,hA.2.1,hA.2.2.1,hA.2.2.2] at e1 lc;have e2:iG (.tup [a,b,fV p,fV q])=(decide (0<p.num)&&decide (0<q.num)):=by rw[e1];rfl
    rw[e2];have i1:(fV p).items=some [.int p.num,.int p.den]:=rfl;have i2:(fV q).items=some [.int q.num,.int q.den]:=rfl;by_cases hp:0<p.num
    .simp![bz,bB,bA,bq,aN,aH,aW,aD,aF,aK,aS,aa,ao,bf,aA,ay,ag,av,ar,aU,aM,aE,bu,bp,a8,aV,bc,aC,bt,bo,bj,ba,aB,aG,aj,ak,bg,aT,aZ,aq,aP,aO,aJ,ax,aw,aY,az,aX,aR,aQ,af,bh,ai,bw,it,hZ,lc,c8,bl4,id,i1,i2,J_ hp]
    .simp![bz,bB,bA,bq,aN,aH,aW,aD,aF,aK,aS,aa,ao,bf,aA,ay,ag,av,ar,aU,aM,aE,bu,bp,a8,aV,bc,aC,bt,bo,bj,ba,aB,aG,aj,ak,bg,aT,aZ,aq,aP,aO,aJ,ax,aw,aY,az,aX,aR,aQ,af,bh,ai,bw,it,hZ,lc,c8,bl4,id,i1,I_ hp]
   |
    false=>
    have e2:iG (.tup [a,b,c,d])=false:=by rw[e1];revert hA;generalize cm a=a',cm b=b',cm c=c',cm d=d',(lF c&&lF d)=z;revert a' b' c' d' z;decide
    rw[e2];simp![bz,bB,bA,bq,aN,aH,aW,aD,aF,aK,aS,aa,ao,bf,aA,ay,ag,av,ar,aU,aM,aE,bu,bp,a8,aV,bc,aC,bt,bo,bj,ba,aB,aG,aj,ak,bg,aT,aZ,aq,aP,aO,aJ,ax,aw,aY,az,aX,aR,aQ,af,bh,ai,bw,it,hZ,lc,c8,bl4,id,hA]
 .have e:(((xs.length:Nat):Int)==4)=false:=by rw[OS];omega
  simp![bz,bB,bA,bq,aN,aH,aW,aD,aF,aK,aS,aa,ao,bf,aA,ay,ag,av,ar,aU,aM,aE,bu,bp,a8,aV,bc,aC,bt,bo,bj,ba,aB,aG,aj,ak,bg,aT,aZ,aq,aP,aO,aJ,ax,aw,aY,az,aX,aR,aQ,af,bh,ai,bw,it,hZ,e,NK hl]
def um{v:Val}(ha:jM 2 v=true):dm.G [v]=if iG v=true then .ok (.val .non) [] else .exc "NoBox" []:=by
 unfold dm;rw[bR];unfold nj;cases h:iG v with
 |true=>simp![bz,bB,bA,bq,aN,aH,aW,aD,aF,aK,aS,aa,ao,bf,aA,ay,ag,av,ar,aU,aM,aE,bu,bp,a8,aV,bc,aC,bt,bo,bj,ba,aB,aG,aj,ak,bg,aT,aZ,aq,aP,aO,aJ,ax,aw,aY,az,aX,aR,aQ,af,bh,ai,bw,rO ha,h]
 |false=>simp![bz,bB,bA,bq,aN,aH,aW,aD,aF,aK,aS,aa,ao,bf,aA,ay,ag,av,ar,aU,aM,aE,bu,bp,a8,aV,bc,aC,bt,bo,bj,ba,aB,aG,aj,ak,bg,aT,aZ,aq,aP,aO,aJ,ax,aw,aY,az,aX,aR,aQ,af,bh,ai,bw,rO ha,h]
def jl{b:Bx}(hb:b.Ok):dm.G [bV b]=.ok (.val .non) []:=by rw[um (Kr b),C1 hb];rfl
def Ou{v:Val}(h:jg v=false):jE v=false:=by cases v <;> first |rfl |cases h
def C6(v:Val):lU v=false\/∃xs,v=.lst xs:=by cases v <;> first |exact .inr ⟨_,rfl⟩ |exact .inl rfl
def uk{v:Val}(hk:knV v=true):fF.G [v]=.ok (.val (.bl (jE v))) []:=by
 have w:=gh hk;unfold fF;rw[bR];unfold ny;rcases oi v with h |⟨i,rfl⟩
 .rw[h] at w;simp![bz,bB,bA,bq,aN,aH,aW,aD,aF,aK,aS,aa,ao,bf,aA,ay,ag,av,ar,aU,aM,aE,bu,bp,a8,aV,bc,aC,bt,bo,bj,ba,aB,aG,aj,ak,bg,aT,aZ,aq,aP,aO,aJ,ax,aw,aY,az,aX,aR,aQ,af,bh,ai,bw,w,Ou h]
 .simp![bz,bB,bA,bq,aN,aH,aW,aD,aF,aK,aS,aa,ao,bf,aA,ay,ag,av,ar,aU,aM,aE,bu,bp,a8,aV,bc,aC,bt,bo,bj,ba,aB,aG,aj,ak,bg,aT,aZ,aq,aP,aO,aJ,ax,aw,aY,az,aX,aR,aQ,af,bh,ai,bw,w,jg];rfl
def xB{v:Val}(hk:knV v=true):(cD df).G [v,.ty "list"]=.val (.bl (lU v)):=by cases v <;> first |rfl |cases hk
noncomputable def yH(v:Val):R3F:=match v with
 |.lst xs=>if xs=[] then .exc "NoWeights" [] else if xs.all jE=true then (if xs.length<=40 then .ok (.val .non) [] else .exc "TooMany" []) else .exc "NoWeights" []
 |_=>.exc "NoWeights" []
def Kt{v:Val}(h:lU v=false):yH v=.exc "NoWeights" []:=by cases v <;> first |rfl |cases h
noncomputable def ua:Val->Bool
 |.lst xs=>decide (xs.length<=1000)&&xs.all knV
 |v=>knV v
def Hd{v:Val}(h:ua v=true)(hl:lU v=false):knV v=true:=by cases v <;> first |(cases hl;done) |exact h
theorem kP(f:Val->Bool):∀xs:List Val,mq (xs.map λv=>.bl (f v))=some (xs.map f)
 | []=>rfl
 |x::xs=>by show (mq (xs.map λv=>.bl (f v))).map (f x :: ·)=_;rw[kP f xs];rfl
def kJ(f:Val->Bool)(xs:List Val):(xs.map f).all id=xs.all f:=by rw[List.all_map];rfl
def n6{v:Val}(ha:ua v=true):cU.G [v]=yH v:=by
 unfold cU;rw[bR];unfold jK;rcases C6 v with hv |⟨xs,rfl⟩
 .have il:=xB (Hd ha hv);rw[hv] at il;rw[Kt hv];simp![bz,bB,bA,bq,aN,aH,aW,aD,aF,aK,aS,aa,ao,bf,aA,ay,ag,av,ar,aU,aM,aE,bu,bp,a8,aV,bc,aC,bt,bo,bj,ba,aB,aG,aj,ak,bg,aT,aZ,aq,aP,aO,aJ,ax,aw,aY,az,aX,aR,aQ,af,bh,ai,bw,il]
 .have ha':xs.length<=1000/\xs.all knV=true:=by simpa [ua] using ha
  have il:=xB (v:=.lst xs) rfl;unfold yH;dsimp only;by_cases h0:xs=[]
  .subst h0;simp![bz,bB,bA,bq,aN,aH,aW,aD,aF,aK,aS,aa,ao,bf,aA,ay,ag,av,ar,aU,aM,aE,bu,bp,a8,aV,bc,aC,bt,bo,bj,ba,aB,aG,aj,ak,bg,aT,aZ,aq,aP,aO,aJ,ax,aw,aY,az,aX,aR,aQ,af,bh,ai,bw,il]
  .have e0:(((xs.length:Nat):Int)==0)=false:=by rw[OS];intro z;exact h0 (List.length_eq_zero_iff.mp (by omega))
   rw[if_neg h0];obtain⟨e',p',lc⟩:=pX (g:=(gtN 0).G) (F:=(bD fF (ah (au 0) bx)).G) (f:=λv=>.bl (jE v)) (λe=>∃s,e=[s]/\s.pl=true) xs [] [.no] ⟨.no,rfl,rfl⟩ (by
    rintro v hv e ⟨s,rfl,hs⟩;refine⟨[.sh v],.val (.bl (jE v)),[.sh v],?_,?_,rfl,⟨_,rfl,rfl⟩⟩
    .simp![bz,bB,bA,bq,aN,aH,aW,aD,aF,aK,aS,aa,ao,bf,aA,ay,ag,av,ar,aU,aM,aE,bu,bp,a8,aV,bc,aC,bt,bo,bj,ba,aB,aG,aj,ak,bg,aT,aZ,aq,aP,aO,aJ,ax,aw,aY,az,aX,aR,aQ,af,bh,ai,bw,hs]
    .simp![bz,bB,bA,bq,aN,aH,aW,aD,aF,aK,aS,aa,ao,bf,aA,ay,ag,av,ar,aU,aM,aE,bu,bp,a8,aV,bc,aC,bt,bo,bj,ba,aB,aG,aj,ak,bg,aT,aZ,aq,aP,aO,aJ,ax,aw,aY,az,aX,aR,aQ,af,bh,ai,bw,uk (L_.mp ha'.2 v hv)]) (by simp;omega)
   obtain⟨s',rfl,_⟩:=p';have cy:cY=qY.G:=rfl;rw[cy,OZ] at lc;have c_:(xs.map λv=>Val.bl (jE v)).length<=16777216:=by rw[u_];omega
   by_cases hw:xs.all jE=true
   .rw[if_pos hw];by_cases h40:xs.length<=40
    .have hd:decide ((40:Int)<((xs.length:Nat):Int))=false:=I_ (by omega);rw[if_pos h40];simp![bz,bB,bA,bq,aN,aH,aW,aD,aF,aK,aS,aa,ao,bf,aA,ay,ag,av,ar,aU,aM,aE,bu,bp,a8,aV,bc,aC,bt,bo,bj,ba,aB,aG,aj,ak,bg,aT,aZ,aq,aP,aO,aJ,ax,aw,aY,az,aX,aR,aQ,af,bh,ai,bw,il,e0,c8,lc,c_,kP,kJ,hw,hd]
    .have hd:decide ((40:Int)<((xs.length:Nat):Int))=true:=J_ (by omega);rw[if_neg h40];simp![bz,bB,bA,bq,aN,aH,aW,aD,aF,aK,aS,aa,ao,bf,aA,ay,ag,av,ar,aU,aM,aE,bu,bp,a8,aV,bc,aC,bt,bo,bj,ba,aB,aG,aj,ak,bg,aT,aZ,aq,aP,aO,aJ,ax,aw,aY,az,aX,aR,aQ,af,bh,ai,bw,il,e0,c8,lc,c_,kP,kJ,hw,hd]
   .have hw':xs.all jE=false:=Bool.eq_false_iff.mpr hw;rw[if_neg hw];simp![bz,bB,bA,bq,aN,aH,aW,aD,aF,aK,aS,aa,ao,bf,aA,ay,ag,av,ar,aU,aM,aE,bu,bp,a8,aV,bc,aC,bt,bo,bj,ba,aB,aG,aj,ak,bg,aT,aZ,aq,aP,aO,aJ,ax,aw,aY,az,aX,aR,aQ,af,bh,ai,bw,il,e0,c8,lc,c_,kP,kJ,hw']
def zS{ws:List Int}(h0:ws≠[])(h1:∀w∈ws,1<=w)(h2:ws.length<=40):cU.G [.lst (ws.map .int)]=.ok (.val .non) []:=by
 have ha:ua (.lst (ws.map .int))=true:=by simp only[ua,B_,P9,u_];exact⟨by omega,by rw[L_];intro v hv;obtain⟨w,_,rfl⟩:=Pa.mp hv;rfl⟩
 rw[n6 ha];unfold yH;dsimp only;rw[if_neg (by intro z;exact h0 (List.map_eq_nil_iff.mp z)),if_pos (by rw[L_];intro v hv;obtain⟨w,hw,rfl⟩:=Pa.mp hv;exact J_ (h1 w hw)),if_pos (by rw[u_];exact h2)]
def nW{p q:Rat}(hq:q≠0):p/q=((p.num*q.den:Int):Rat)/((p.den*q.num:Int):Rat):=by
 have h1:=jq (dX p);have h2:=jq (dX q);have h3:q.num≠0:=λz=>hq (QL.mp z);have h4:=jq h3
 conv=>lhs;rw[jc p,jc q]
 rw[QK,QK];simp only[Rat.div_def,Rat.inv_mul_rev,Rat.inv_inv];rw[Rat.mul_assoc,Rat.mul_assoc,Rat.mul_comm (((p.den:Int):Rat))⁻¹,Rat.mul_assoc]
def wM{p q:Rat}{n m:Nat}(hp:Sz n p)(hq:Sz m q)(h0:0<q)(h:n+m<=8000):jV.G [fV p,fV q]=.ok (.val (fV (p/q))) []:=by
 have c1:=cE (CMulA.of hp.top hq.bot (by omega) (by omega));have c2:=cE (CMulA.of hp.bot hq.top (by omega) (by omega));have hq0:q≠0:=λz=>by rw[z] at h0;exact absurd h0 (by decide)
 have hn:q.num≠0:=λz=>hq0 (QL.mp z);have fe:=fG (a:=p.num*q.den) (b:=p.den*q.num) (PK (dX p) hn) ((hp.bot.mul hq.top).mono h);rw[<- nW hq0] at fe;unfold jV;rw[bR];unfold A8;rw[show fV p=.tup [.int p.num,.int p.den] from rfl,show fV q=.tup [.int q.num,.int q.den] from rfl];simp![bz,bB,bA,bq,aN,aH,aW,aD,aF,aK,aS,aa,ao,bf,aA,ay,ag,av,ar,aU,aM,aE,bu,bp,a8,aV,bc,aC,bt,bo,bj,ba,aB,aG,aj,ak,bg,aT,aZ,aq,aP,aO,aJ,ax,aw,aY,az,aX,aR,aQ,af,bh,ai,bw,c1,c2,fe]
def CA(b:Bx):Str:=if b.w<b.h then "down" else "across"
def v9{b:Bx}{n:Nat}(hb:b.Ok)(hs:b.Sz n)(h:n<=8000):gX.G [bV b]=.ok (.val (.str (CA b))) []:=by
 have cb:=jl hb;have il:=fh hs.w hs.h (by omega) (by omega);have ib:(bV b).items=some [fV b.l,fV b.t,fV b.w,fV b.h]:=rfl;unfold gX CA;rw[bR];unfold oU;by_cases hl:b.w<b.h
 .rw[if_pos hl];rw[J_ hl] at il;simp![bz,bB,bA,bq,aN,aH,aW,aD,aF,aK,aS,aa,ao,bf,aA,ay,ag,av,ar,aU,aM,aE,bu,bp,a8,aV,bc,aC,bt,bo,bj,ba,aB,aG,aj,ak,bg,aT,aZ,aq,aP,aO,aJ,ax,aw,aY,az,aX,aR,aQ,af,bh,ai,bw,cb,ib,il]
 .rw[if_neg hl];rw[I_ hl] at il;simp![bz,bB,bA,bq,aN,aH,aW,aD,aF,aK,aS,aa,ao,bf,aA,ay,ag,av,ar,aU,aM,aE,bu,bp,a8,aV,bc,aC,bt,bo,bj,ba,aB,aG,aj,ak,bg,aT,aZ,aq,aP,aO,aJ,ax,aw,aY,az,aX,aR,aQ,af,bh,ai,bw,cb,ib,il]
def tL:dg (.str "down") (.str "across")=some false:=by rw[L3.eq_str (by decide) (by decide)];exact O4 some (by decide)
def uU:dg (.str "across") (.str "across")=some true:=by rw[L3.eq_str (by decide) (by decide)];exact O4 some (by decide)
def nV{b:Bx}{n:Nat}(hb:b.Ok)(hs:b.Sz n)(h:n+n<=8000):iz.G [bV b]=.ok (.val (fV (fI b))) []:=by
 have lw:=v9 hb hs (by omega);have ib:(bV b).items=some [fV b.l,fV b.t,fV b.w,fV b.h]:=rfl;have o1:=wM hs.w hs.h hb.2 h;have o2:=wM hs.h hs.w hb.1 h;unfold iz fI;rw[bR];unfold xD;unfold CA at lw;by_cases hl:b.w<b.h
 .rw[if_pos hl] at lw ⊢;simp![bz,bB,bA,bq,aN,aH,aW,aD,aF,aK,aS,aa,ao,bf,aA,ay,ag,av,ar,aU,aM,aE,bu,bp,a8,aV,bc,aC,bt,bo,bj,ba,aB,aG,aj,ak,bg,aT,aZ,aq,aP,aO,aJ,ax,aw,aY,az,aX,aR,aQ,af,bh,ai,bw,lw,ib,o1,o2,tL]
 .rw[if_neg hl] at lw ⊢;simp![bz,bB,bA,bq,aN,aH,aW,aD,aF,aK,aS,aa,ao,bf,aA,ay,ag,av,ar,aU,aM,aE,bu,bp,a8,aV,bc,aC,bt,bo,bj,ba,aB,aG,aj,ak,bg,aT,aZ,aq,aP,aO,aJ,ax,aw,aY,az,aX,aR,aQ,af,bh,ai,bw,lw,ib,o1,o2,uU]
def Sz.over{p q:Rat}{n m:Nat}(hp:Sz n p)(hq:Sz m q)(h0:0<q):Sz (n+m) (p/q):=by
 have hq0:q≠0:=λz=>by rw[z] at h0;exact absurd h0 (by decide)
 have hn:q.num≠0:=λz=>hq0 (QL.mp z);rw[nW hq0];exact Sz.div (PK (dX p) hn) (hp.top.mul hq.bot) (hp.bot.mul hq.top) (n+m) (y_ _) (y_ _)
def j0{b:Bx}{n:Nat}(hb:b.Ok)(hs:b.Sz n):Sz (n+n) (fI b):=by
 unfold fI;split
 .exact Sz.over hs.h hs.w hb.1
 .exact Sz.over hs.w hs.h hb.2
def tW{p q:Rat}{n m:Nat}(hp:Sz n p)(hq:Sz m q)(h1:n<=100000)(h2:m<=100000):fD.G [.lst [fV p,fV q]]=.ok (.val (fV (if p<q then q else p))) []:=by
 have l1:=fh hp hp h1 h1;have l2:=fh hp hq h1 h2;rw[I_ (QU:¬ p<p)] at l1;unfold fD;rw[bR];unfold lH kq;by_cases hl:p<q
 .rw[J_ hl] at l2;rw[if_pos hl];simp![bz,bB,bA,bq,aN,aH,aW,aD,aF,aK,aS,aa,ao,bf,aA,ay,ag,av,ar,aU,aM,aE,bu,bp,a8,aV,bc,aC,bt,bo,bj,ba,aB,aG,aj,ak,bg,aT,aZ,aq,aP,aO,aJ,ax,aw,aY,az,aX,aR,aQ,af,bh,ai,bw,bZ,l1,l2]
 .rw[I_ hl] at l2;rw[if_neg hl];simp![bz,bB,bA,bq,aN,aH,aW,aD,aF,aK,aS,aa,ao,bf,aA,ay,ag,av,ar,aU,aM,aE,bu,bp,a8,aV,bc,aC,bt,bo,bj,ba,aB,aG,aj,ak,bg,aT,aZ,aq,aP,aO,aJ,ax,aw,aY,az,aX,aR,aQ,af,bh,ai,bw,bZ,l1,l2]
noncomputable def prV(p:Rat×Rat):Val:=.tup [fV p.1,fV p.2]
theorem xx{s l:Rat}{n m:Nat}{W:Int}{wv:Val}(hs:Sz n s)(hl:Sz n l)(hW:0<W)(mW:Sm m W)(h:n+n+m<=8000):∀(ws:List Int) (a:Int) (acc:List (Rat×Rat)) (s6 s7:Sl),s6.pl=true->s7.pl=true->0<=a->(∀w∈ws,0<=w)->a+ws.sum<=W->acc.length+ws.length<=16777216->∃s6' s7',dU (gtN 6).G jF.G (ws.map .int) [.sh (fV s),.sh (fV l),.sh wv,.sh (.int W),.sh (.int a),.ow (.lst (acc.map prV)),s6,s7]=.nx [.sh (fV s),.sh (fV l),.sh wv,.sh (.int W),.sh (.int (a+ws.sum)),.ow (.lst ((acc++shL s l W a ws).map prV)),s6',s7']
 | [],a,acc,s6,s7,h6,h7,ha,hw,hsum,c_=>⟨s6,s7,by rw[O3,kf,List.sum_nil,Int.add_zero];unfold shL;rw[Pp]⟩
 |
  w::ws,a,acc,s6,s7,h6,h7,ha,hw,hsum,c_=>by
  have hw0:=hw w (C_ ..);have hws:0<=ws.sum:=by
   have:∀l:List Int,(∀w∈l,0<=w)->0<=l.sum:=by
    intro l;induction l with
    |nil=>intro _;simp
    |cons x l ih=>intro hx;rw[O1];have:=hx x (C_ ..);have:=ih λw hw=>hx w (w_ _ hw);omega
   exact this ws λx hx=>hw x (w_ _ hx)
  rw[O1] at hsum;rw[OO] at c_;have sa:Sm m a:=mW.of_le (by omega);have sw:Sm m w:=mW.of_le (by omega);have f1:=fG (a:=a) (b:=W) (by omega) (mW.mono (by omega));have f2:=fG (a:=w) (b:=W) (by omega) (mW.mono (by omega));have z1:Sz m ((a:Rat)/(W:Rat)):=Sz.div (by omega) sa mW m (y_ _) (y_ _);have z2:Sz m ((w:Rat)/(W:Rat)):=Sz.div (by omega) sw mW m (y_ _) (y_ _);have t1:=nH hl z1 (by omega);have t2:=nH hl z2 (by omega);have ad:=C2 hs (hl.mul z1) (by omega);have ll:(acc.map prV).length<16777216:=by rw[u_];omega
  obtain⟨t6,t7,ih⟩:=xx (wv:=wv) hs hl hW mW h ws (a+w) (acc++[(s+l*((a:Rat)/(W:Rat)),l*((w:Rat)/(W:Rat)))]) (.sh (.int w)) (.sh (fV (s+l*((a:Rat)/(W:Rat))))) rfl rfl (by omega) (λx hx=>hw x (w_ _ hx)) (by omega) (by simp;omega);refine⟨t6,t7,?_⟩;have g1:(gtN 6).G (.int w) [.sh (fV s),.sh (fV l),.sh wv,.sh (.int W),.sh (.int a),.ow (.lst (acc.map prV)),s6,s7]=some [.sh (fV s),.sh (fV l),.sh wv,.sh (.int W),.sh (.int a),.ow (.lst (acc.map prV)),.sh (.int w),s7]:=by simp![bz,bB,bA,bq,aN,aH,aW,aD,aF,aK,aS,aa,ao,bf,aA,ay,ag,av,ar,aU,aM,aE,bu,bp,a8,aV,bc,aC,bt,bo,bj,ba,aB,aG,aj,ak,bg,aT,aZ,aq,aP,aO,aJ,ax,aw,aY,az,aX,aR,aQ,af,bh,ai,bw,h6]
  have b1:jF.G [.sh (fV s),.sh (fV l),.sh wv,.sh (.int W),.sh (.int a),.ow (.lst (acc.map prV)),.sh (.int w),s7]=.nx [.sh (fV s),.sh (fV l),.sh wv,.sh (.int W),.sh (.int (a+w)),.ow (.lst ((acc++[(s+l*((a:Rat)/(W:Rat)),l*((w:Rat)/(W:Rat)))]).map prV)),.sh (.int w),.sh (fV (s+l*((a:Rat)/(W:Rat))))]:=by unfold jF;rw[O_];simp![bz,bB,bA,bq,aN,aH,aW,aD,aF,aK,aS,aa,ao,bf,aA,ay,ag,av,ar,aU,aM,aE,bu,bp,a8,aV,bc,aC,bt,bo,bj,ba,aB,aG,aj,ak,bg,aT,aZ,aq,aP,aO,aJ,ax,aw,aY,az,aX,aR,aQ,af,bh,ai,bw,h7,f1,f2,t1,t2,ad,ll,prV]
  rw[A_,bZ,g1];simp only[b1,jA];rw[ih,O1];rw[show shL s l W a (w::ws)=(s+l*((a:Rat)/(W:Rat)),l*((w:Rat)/(W:Rat)))::shL s l W (a+w) ws from rfl,Ph,show a+w+ws.sum=a+(w+ws.sum) by omega];rfl
def rL{s l:Rat}{n m:Nat}{ws:List Int}(hs:Sz n s)(hl:Sz n l)(hw:∀w∈ws,0<=w)(h0:0<ws.sum)(mW:Sm m ws.sum)(h:n+n+m<=8000)(c_:ws.length<=1000):iE.G [fV s,fV l,.lst (ws.map .int)]=.ok (.new (.lst ((shL s l ws.sum 0 ws).map prV))) []:=by obtain⟨s6,s7,lo⟩:=xx (wv:=.lst (ws.map .int)) hs hl h0 mW h ws 0 [] .no .no rfl rfl (by omega) hw (by omega) (by simp;omega);rw[OZ,O3] at lo;unfold iE;rw[bR];unfold tR;simp![bz,bB,bA,bq,aN,aH,aW,aD,aF,aK,aS,aa,ao,bf,aA,ay,ag,av,ar,aU,aM,aE,bu,bp,a8,aV,bc,aC,bt,bo,bj,ba,aB,aG,aj,ak,bg,aT,aZ,aq,aP,aO,aJ,ax,aw,aY,az,aX,aR,aQ,af,bh,ai,bw,lo]
def IJ{way:Str}(hw:way="across" \/ way="down"):gb.G [.str way]=.ok (.val .non) []:=by
 have i1:∀x:Str,(cD df).G [.str x,.ty "str"]=.val (.bl true):=λ_=>rfl;have i2:bIn.G (.str way) (.tup [.str "across",.str "down"])=.val (.bl true):=by rcases hw with rfl |rfl <;> rfl
 have e1:jt.G [.str way]=.ok (.val (.bl true)) []:=by unfold jt;rw[bR];unfold vT;simp![bz,bB,bA,bq,aN,aH,aW,aD,aF,aK,aS,aa,ao,bf,aA,ay,ag,av,ar,aU,aM,aE,bu,bp,a8,aV,bc,aC,bt,bo,bj,ba,aB,aG,aj,ak,bg,aT,aZ,aq,aP,aO,aJ,ax,aw,aY,az,aX,aR,aQ,af,bh,ai,bw,i1,i2]
 unfold gb;rw[bR];unfold nu;simp![bz,bB,bA,bq,aN,aH,aW,aD,aF,aK,aS,aa,ao,bf,aA,ay,ag,av,ar,aU,aM,aE,bu,bp,a8,aV,bc,aC,bt,bo,bj,ba,aB,aG,aj,ak,bg,aT,aZ,aq,aP,aO,aJ,ax,aw,aY,az,aX,aR,aQ,af,bh,ai,bw,e1]
def Bg{b:Bx}{n m:Nat}{way:Str}{ws:List Int}(hb:b.Ok)(hs:b.Sz n)(hway:way="across" \/ way="down")(h0:ws≠[])(hw:∀w∈ws,1<=w)(mW:Sm m ws.sum)(h:n+n+m<=8000)(c_:ws.length<=40):ip.G [bV b,.str way,.lst (ws.map .int)]=.ok (.new (.lst ((gH b way ws).map bV))) []:=by
 have cw:=zS h0 hw c_;have cy:=IJ hway;have sp:0<ws.sum:=by
  cases ws with
  |nil=>exact absurd rfl h0
  |
   cons x l=>
   rw[O1]
   have:=hw x (C_ ..)
   have:∀l:List Int,(∀w∈l,1<=w)->0<=l.sum:=by
    intro l;induction l with
    |nil=>intro _;simp
    |cons x l ih=>intro hx;rw[O1];have:=hx x (C_ ..);have:=ih λw hw=>hx w (w_ _ hw);omega
   have:=this l λx hx=>hw x (w_ _ hx)
   omega
 have cb:dm.G [.tup [fV b.l,fV b.t,fV b.w,fV b.h]]=.ok (.val .non) []:=jl hb;have sh1:=rL hs.l hs.w (λw z=>by have:=hw w z;omega) sp mW h (by omega);have sh2:=rL hs.t hs.h (λw z=>by have:=hw w z;omega) sp mW h (by omega);show ip.G [.tup [fV b.l,fV b.t,fV b.w,fV b.h],.str way,.lst (ws.map .int)]=_;unfold ip gH;rw[bR];unfold vJ;rcases hway with rfl |rfl
 .rw[if_pos (rfl:("across" : Str)="across")];have ln:=pS b.l b.w ws.sum ws 0;obtain⟨e',⟨s,t,rfl,_,_⟩,lc⟩:=iq (g:=(gtT 2 (bQ (gtN 0) (bQ (gtN 1) dG))).G) (F:=(cW (ah (au 0) (ah (au 2) (ah (au 1) (ah (au 3) bx))))).G) prV (λp=>bV ⟨p.1,b.t,p.2,b.h⟩) (λe=>∃s t,e=[s,t,.sh (fV b.t),.sh (fV b.h)]/\s.pl=true/\t.pl=true) (shL b.l b.w ws.sum 0 ws) [] [.no,.no,.sh (fV b.t),.sh (fV b.h)] ⟨.no,.no,rfl,rfl,rfl⟩ (by
   rintro p hp e ⟨s,t,rfl,hs,ht⟩;refine⟨[.sh (fV p.1),.sh (fV p.2),.sh (fV b.t),.sh (fV b.h)],.val (bV ⟨p.1,b.t,p.2,b.h⟩),[.sh (fV p.1),.sh (fV p.2),.sh (fV b.t),.sh (fV b.h)],?_,?_,rfl,⟨_,_,rfl,rfl,rfl⟩⟩
   .simp![bz,bB,bA,bq,aN,aH,aW,aD,aF,aK,aS,aa,ao,bf,aA,ay,ag,av,ar,aU,aM,aE,bu,bp,a8,aV,bc,aC,bt,bo,bj,ba,aB,aG,aj,ak,bg,aT,aZ,aq,aP,aO,aJ,ax,aw,aY,az,aX,aR,aQ,af,bh,ai,bw,prV,hs,ht]
   .simp![bz,bB,bA,bq,aN,aH,aW,aD,aF,aK,aS,aa,ao,bf,aA,ay,ag,av,ar,aU,aM,aE,bu,bp,a8,aV,bc,aC,bt,bo,bj,ba,aB,aG,aj,ak,bg,aT,aZ,aq,aP,aO,aJ,ax,aw,aY,az,aX,aR,aQ,af,bh,ai,bw,bV]) (by rw[ln,O6];omega)
  rw[OZ] at lc;have ll:((shL b.l b.w ws.sum 0 ws).map λp=>bV ⟨p.1,b.t,p.2,b.h⟩).length<=16777216:=by rw[u_,ln];omega
  rw[PZ,show (bV ∘ λp:Rat×Rat=>(⟨p.1,b.t,p.2,b.h⟩:Bx))=λp=>bV ⟨p.1,b.t,p.2,b.h⟩ from rfl];simp![bz,bB,bA,bq,aN,aH,aW,aD,aF,aK,aS,aa,ao,bf,aA,ay,ag,av,ar,aU,aM,aE,bu,bp,a8,aV,bc,aC,bt,bo,bj,ba,aB,aG,aj,ak,bg,aT,aZ,aq,aP,aO,aJ,ax,aw,aY,az,aX,aR,aQ,af,bh,ai,bw,cb,cy,cw,uU,sh1,lc,ll]
 .have hne:¬ (("down" : Str)="across"):=by decide
  rw[if_neg hne];have ln:=pS b.t b.h ws.sum ws 0;obtain⟨e',⟨s,t,rfl,_,_⟩,lc⟩:=iq (g:=(gtT 2 (bQ (gtN 0) (bQ (gtN 1) dG))).G) (F:=(cW (ah (au 2) (ah (au 0) (ah (au 3) (ah (au 1) bx))))).G) prV (λp=>bV ⟨b.l,p.1,b.w,p.2⟩) (λe=>∃s t,e=[s,t,.sh (fV b.l),.sh (fV b.w)]/\s.pl=true/\t.pl=true) (shL b.t b.h ws.sum 0 ws) [] [.no,.no,.sh (fV b.l),.sh (fV b.w)] ⟨.no,.no,rfl,rfl,rfl⟩ (by
   rintro p hp e ⟨s,t,rfl,hs,ht⟩;refine⟨[.sh (fV p.1),.sh (fV p.2),.sh (fV b.l),.sh (fV b.w)],.val (bV ⟨b.l,p.1,b.w,p.2⟩),[.sh (fV p.1),.sh (fV p.2),.sh (fV b.l),.sh (fV b.w)],?_,?_,rfl,⟨_,_,rfl,rfl,rfl⟩⟩
   .simp![bz,bB,bA,bq,aN,aH,aW,aD,aF,aK,aS,aa,ao,bf,aA,ay,ag,av,ar,aU,aM,aE,bu,bp,a8,aV,bc,aC,bt,bo,bj,ba,aB,aG,aj,ak,bg,aT,aZ,aq,aP,aO,aJ,ax,aw,aY,az,aX,aR,aQ,af,bh,ai,bw,prV,hs,ht]
   .simp![bz,bB,bA,bq,aN,aH,aW,aD,aF,aK,aS,aa,ao,bf,aA,ay,ag,av,ar,aU,aM,aE,bu,bp,a8,aV,bc,aC,bt,bo,bj,ba,aB,aG,aj,ak,bg,aT,aZ,aq,aP,aO,aJ,ax,aw,aY,az,aX,aR,aQ,af,bh,ai,bw,bV]) (by rw[ln,O6];omega)
  rw[OZ] at lc;have ll:((shL b.t b.h ws.sum 0 ws).map λp=>bV ⟨b.l,p.1,b.w,p.2⟩).length<=16777216:=by rw[u_,ln];omega
  rw[PZ,show (bV ∘ λp:Rat×Rat=>(⟨b.l,p.1,b.w,p.2⟩:Bx))=λp=>bV ⟨b.l,p.1,b.w,p.2⟩ from rfl];simp![bz,bB,bA,bq,aN,aH,aW,aD,aF,aK,aS,aa,ao,bf,aA,ay,ag,av,ar,aU,aM,aE,bu,bp,a8,aV,bc,aC,bt,bo,bj,ba,aB,aG,aj,ak,bg,aT,aZ,aq,aP,aO,aJ,ax,aw,aY,az,aX,aR,aQ,af,bh,ai,bw,cb,cy,cw,tL,sh2,lc,ll]
def mU{ws nums:List Int}(hr:Inr ws nums)(hl:nums.length<=1000):∃s,lcV (gtN 0).G qY.G (pOp bIx (au 1) (au 0)).G (nums.map .int) [] [.no,.sh (.lst (ws.map .int))]=.ok ((nums.map (cG ws)).map Val.int) [s,.sh (.lst (ws.map .int))]:=by
 obtain⟨e',⟨s,rfl,_⟩,lc⟩:=iq (g:=(gtN 0).G) (F:=(pOp bIx (au 1) (au 0)).G) Val.int (λi=>.int (cG ws i)) (λe=>∃s,e=[s,.sh (.lst (ws.map .int))]/\s.pl=true) nums [] [.no,.sh (.lst (ws.map .int))] ⟨.no,rfl,rfl⟩ (by
  rintro i hi e ⟨s,rfl,hs⟩;have a1:=yR (hr i hi).1 (hr i hi).2;refine⟨[.sh (.int i),.sh (.lst (ws.map .int))],.val (.int (cG ws i)),[.sh (.int i),.sh (.lst (ws.map .int))],?_,?_,rfl,⟨_,rfl,rfl⟩⟩
  .simp![bz,bB,bA,bq,aN,aH,aW,aD,aF,aK,aS,aa,ao,bf,aA,ay,ag,av,ar,aU,aM,aE,bu,bp,a8,aV,bc,aC,bt,bo,bj,ba,aB,aG,aj,ak,bg,aT,aZ,aq,aP,aO,aJ,ax,aw,aY,az,aX,aR,aQ,af,bh,ai,bw,hs]
  .simp![bz,bB,bA,bq,aN,aH,aW,aD,aF,aK,aS,aa,ao,bf,aA,ay,ag,av,ar,aU,aM,aE,bu,bp,a8,aV,bc,aC,bt,bo,bj,ba,aB,aG,aj,ak,bg,aT,aZ,aq,aP,aO,aJ,ax,aw,aY,az,aX,aR,aQ,af,bh,ai,bw,a1]) (by simp;omega)
 rw[OZ,show nums.map (λi=>Val.int (cG ws i))=(nums.map (cG ws)).map Val.int by rw[PZ];rfl] at lc;exact⟨s,lc⟩
def jf{ws nums:List Int}(hr:Inr ws nums)(hl:nums.length<=1000):d7.G [liV nums,liV ws]=.ok (.val (.int (wt ws nums))) []:=by
 obtain⟨s,lc⟩:=mU hr hl;have ll:((nums.map (cG ws)).map Val.int).length<=16777216:=by rw[u_,u_];omega
 show d7.G [.lst (nums.map .int),.lst (ws.map .int)]=_;unfold d7 wt;rw[bR];unfold nh;simp![bz,bB,bA,bq,aN,aH,aW,aD,aF,aK,aS,aa,ao,bf,aA,ay,ag,av,ar,aU,aM,aE,bu,bp,a8,aV,bc,aC,bt,bo,bj,ba,aB,aG,aj,ak,bg,aT,aZ,aq,aP,aO,aJ,ax,aw,aY,az,aX,aR,aQ,af,bh,ai,bw,c8,lc,ll]
theorem mj{B:PSt}(hB:B=(bJ false 2 (pOp cC (au 2) (pLC (cn (au 2)) [none,some 3] (by decide) (gtN 0) qY (pOp cC (au 0) (dH (ah (au 1) bx))))))){nv kv:Val}:∀(rest:List Int) (L:List (List Int)) (s3:Sl),s3.pl=true->L.length*2^rest.length<=1000000->(∀l∈L,l.length+rest.length<=1000)->∃s3',dU (gtN 3).G B.G (rest.map .int) [.sh nv,.sh kv,.sh (.lst (L.map liV)),s3]=.nx [.sh nv,.sh kv,.sh (.lst ((gP L rest).map liV)),s3']
 | [],L,s3,h3,hb,hl=>⟨s3,by rw[O3,kf];rfl⟩
 |
  x::rest,L,s3,h3,hb,hl=>by
  rw[OO,Nat.pow_succ] at hb;have hpow:1<=2^rest.length:=Nat.one_le_two_pow;have hb1:L.length<=1000000:=G_ (Nat.le_mul_of_pos_right _ (Nat.mul_pos hpow (by decide))) hb;have hll:(L++L.map λl=>l++[x]).length=L.length+L.length:=by rw[F_,u_]
  obtain⟨s',ih⟩:=mj hB (nv:=nv) (kv:=kv) rest (L++L.map λl=>l++[x]) (.sh (.int x)) rfl (by
   rw[hll,<- Nat.two_mul,QI 2,Nat.mul_assoc,QI 2];exact hb) (λl h=>by
   rcases Pw.mp h with h |h
   .have:=hl l h
    rw[OO] at this;omega
   .obtain⟨l',h',rfl⟩:=Pa.mp h
    have:=hl l' h'
    rw[OO] at this;rw[F_];show l'.length+1+_<=_;omega)
  refine⟨s',?_⟩;have g1:(gtN 3).G (.int x) [.sh nv,.sh kv,.sh (.lst (L.map liV)),s3]=some [.sh nv,.sh kv,.sh (.lst (L.map liV)),.sh (.int x)]:=by simp![bz,bB,bA,bq,aN,aH,aW,aD,aF,aK,aS,aa,ao,bf,aA,ay,ag,av,ar,aU,aM,aE,bu,bp,a8,aV,bc,aC,bt,bo,bj,ba,aB,aG,aj,ak,bg,aT,aZ,aq,aP,aO,aJ,ax,aw,aY,az,aX,aR,aQ,af,bh,ai,bw,h3]
  obtain⟨e',⟨s,rfl,_⟩,lc⟩:=iq (g:=(gtN 0).G) (F:=(pOp cC (au 0) (dH (ah (au 1) bx))).G) liV (λl=>liV (l++[x])) (λe=>∃s,e=[s,.sh (.int x)]/\s.pl=true) L [] [.no,.sh (.int x)] ⟨.no,rfl,rfl⟩ (by
   rintro l h e ⟨s,rfl,hs⟩;have ll:=hl l h;have cl:(l.map Val.int).length+1<=16777216:=by rw[u_];omega
   have e2:liV (l++[x])=.lst (l.map .int++[.int x]):=by unfold liV;rw[O_];rfl
   refine⟨[.sh (liV l),.sh (.int x)],.new (liV (l++[x])),[.sh (liV l),.sh (.int x)],?_,?_,rfl,⟨_,rfl,rfl⟩⟩
   .simp![bz,bB,bA,bq,aN,aH,aW,aD,aF,aK,aS,aa,ao,bf,aA,ay,ag,av,ar,aU,aM,aE,bu,bp,a8,aV,bc,aC,bt,bo,bj,ba,aB,aG,aj,ak,bg,aT,aZ,aq,aP,aO,aJ,ax,aw,aY,az,aX,aR,aQ,af,bh,ai,bw,hs]
   .rw[e2];simp![bz,bB,bA,bq,aN,aH,aW,aD,aF,aK,aS,aa,ao,bf,aA,ay,ag,av,ar,aU,aM,aE,bu,bp,a8,aV,bc,aC,bt,bo,bj,ba,aB,aG,aj,ak,bg,aT,aZ,aq,aP,aO,aJ,ax,aw,aY,az,aX,aR,aQ,af,bh,ai,bw,liV,cl]) (by rw[O6];omega)
  rw[OZ] at lc;have c1:(L.map λl=>liV (l++[x])).length<=16777216:=by rw[u_];omega
  have c2:(L.map liV).length+(L.map λl=>liV (l++[x])).length<=16777216:=by rw[u_,u_];omega
  have hcat:L.map liV++(L.map λl=>liV (l++[x]))=(L++L.map λl=>l++[x]).map liV:=by simp
  have b1:B.G [.sh nv,.sh kv,.sh (.lst (L.map liV)),.sh (.int x)]=.nx [.sh nv,.sh kv,.sh (.lst (L.map liV++(L.map λl=>liV (l++[x])))),.sh (.int x)]:=by rw[hB];simp![bz,bB,bA,bq,aN,aH,aW,aD,aF,aK,aS,aa,ao,bf,aA,ay,ag,av,ar,aU,aM,aE,bu,bp,a8,aV,bc,aC,bt,bo,bj,ba,aB,aG,aj,ak,bg,aT,aZ,aq,aP,aO,aJ,ax,aw,aY,az,aX,aR,aQ,af,bh,ai,bw,c8,lc,c1,c2]
  rw[hcat] at b1;rw[A_,bZ,g1];simp only[b1,jA];exact ih
def A4:dg (.str "order") (.str "order")=some true:=by rw[L3.eq_str (by decide) (by decide)];exact O4 some (by decide)
def zB:dg (.str "any") (.str "order")=some false:=by rw[L3.eq_str (by decide) (by decide)];exact O4 some (by decide)
def wK{n:Nat}(h:n<=1000):qJ [.int 1,.int (n:Nat)]=some ((List.range' 1 (n-1)).map λi=>Val.int (i:Nat)):=by unfold qJ;dsimp only;rw[if_pos ⟨⟨by decide,by decide⟩,⟨by omega,by omega⟩⟩];unfold rq;rw[List.range'_eq_map_range,PZ,show (((n:Nat):Int)-1).toNat=n-1 by omega];congr 1
def wV{nums:List Int}(hl:nums.length<=1000):∃s,lcV (gtN 0).G qY.G (pSl (au 1) oN (oS (au 0))).G ((List.range' 1 (nums.length-1)).map λi=>Val.int (i:Nat)) [] [.no,.sh (.lst (nums.map .int))]=.ok ((cS "order" nums).map liV) [s,.sh (.lst (nums.map .int))]:=by
 obtain⟨e',⟨s,rfl,_⟩,lc⟩:=iq (g:=(gtN 0).G) (F:=(pSl (au 1) oN (oS (au 0))).G) (λi:Nat=>Val.int (i:Nat)) (λi=>liV (nums.take i)) (λe=>∃s,e=[s,.sh (.lst (nums.map .int))]/\s.pl=true) (List.range' 1 (nums.length-1)) [] [.no,.sh (.lst (nums.map .int))] ⟨.no,rfl,rfl⟩ (by
  rintro i hi e ⟨s,rfl,hs⟩;have sl:aSl (.lst (nums.map Val.int)) none (some ((i:Nat):Int))=.new (.lst ((nums.take i).map .int)):=by rw[ke,va,List.map_take]
  refine⟨[.sh (.int (i:Nat)),.sh (.lst (nums.map .int))],.new (liV (nums.take i)),[.sh (.int (i:Nat)),.sh (.lst (nums.map .int))],?_,?_,rfl,⟨_,rfl,rfl⟩⟩
  .simp![bz,bB,bA,bq,aN,aH,aW,aD,aF,aK,aS,aa,ao,bf,aA,ay,ag,av,ar,aU,aM,aE,bu,bp,a8,aV,bc,aC,bt,bo,bj,ba,aB,aG,aj,ak,bg,aT,aZ,aq,aP,aO,aJ,ax,aw,aY,az,aX,aR,aQ,af,bh,ai,bw,hs]
  .simp![bz,bB,bA,bq,aN,aH,aW,aD,aF,aK,aS,aa,ao,bf,aA,ay,ag,av,ar,aU,aM,aE,bu,bp,a8,aV,bc,aC,bt,bo,bj,ba,aB,aG,aj,ak,bg,aT,aZ,aq,aP,aO,aJ,ax,aw,aY,az,aX,aR,aQ,af,bh,ai,bw,liV,sl]) (by simp;omega)
 rw[OZ] at lc;refine⟨s,?_⟩;rw[lc];unfold cS;rw[if_pos rfl,PZ];rfl
def zd{nums:List Int}{kind:Str}(hk:kind="order" \/ kind="any")(h2:nums≠[])(hl:nums.length<=10):eY.G [liV nums,.str kind]=.ok (.new (.lst ((cS kind nums).map liV))) []:=by
 have c_:=k8 (kind:=kind) hl;rcases hk with rfl |rfl
 .obtain⟨s,lc⟩:=wV (nums:=nums) (by omega);have rg:=wK (n:=nums.length) (by omega);have ll:((cS "order" nums).map liV).length<=16777216:=by rw[u_];omega
  have lm:((nums.map Val.int).length:Nat)=nums.length:=u_ ..;show eY.G [.lst (nums.map .int),.str "order"]=_;unfold eY;rw[bR];unfold lX;simp![bz,bB,bA,bq,aN,aH,aW,aD,aF,aK,aS,aa,ao,bf,aA,ay,ag,av,ar,aU,aM,aE,bu,bp,a8,aV,bc,aC,bt,bo,bj,ba,aB,aG,aj,ak,bg,aT,aZ,aq,aP,aO,aJ,ax,aw,aY,az,aX,aR,aQ,af,bh,ai,bw,A4,lm,rg,c8,lc,ll]
 .match nums,h2 with
  |
   x::rest,h2=>
   rw[OO] at hl;obtain⟨s',q4⟩:=mj (B:=pJ) rfl (nv:=.lst ((x::rest).map .int)) (kv:=.str "any") rest [[x]] .no rfl (by have:2^rest.length<=2^9:=Pb (by decide) (by omega);simp;omega) (by intro l hl';rw[Pk] at hl';subst hl';simp;omega);have s1:aSl (.lst (Val.int x::rest.map .int)) none (some 1)=.new (liV [x]):=by rw[ke,show (some 1:Option Int)=some ((1:Nat):Int) from rfl,va];rfl
   have s2:aSl (.lst (Val.int x::rest.map .int)) (some 1) none=.new (.lst (rest.map .int)):=by rw[ke,show (some 1:Option Int)=some ((1:Nat):Int) from rfl,vt];rfl
   have s3:aSl (.lst ((gP [[x]] rest).map liV)) none (some (-1))=.new (.lst ((cS "any" (x::rest)).map liV)):=by rw[ke,wx];unfold cS;rw[if_neg (by decide),List.map_dropLast]
   show eY.G [.lst ((x::rest).map .int),.str "any"]=_;unfold eY;rw[bR];unfold lX;rw[show [[x]].map liV=[liV [x]] from rfl,show (x::rest).map Val.int=Val.int x::rest.map Val.int from rfl] at q4;simp![bz,bB,bA,bq,aN,aH,aW,aD,aF,aK,aS,aa,ao,bf,aA,ay,ag,av,ar,aU,aM,aE,bu,bp,a8,aV,bc,aC,bt,bo,bj,ba,aB,aG,aj,ak,bg,aT,aZ,aq,aP,aO,aJ,ax,aw,aY,az,aX,aR,aQ,af,bh,ai,bw,zB,s1,s2,q4,s3]
def vH(nums l:List Int)(hl:nums.length<=1000):∃s,lcV (gtN 0).G (qOf (pOp jP (au 0) (au 1))).G (au 0).G (nums.map .int) [] [.no,.sh (liV l)]=.ok ((rst nums l).map .int) [s,.sh (liV l)]:=by
 obtain⟨e',⟨s,rfl,_⟩,lc⟩:=qr (g:=(gtN 0).G) (c:=(qOf (pOp jP (au 0) (au 1))).G) (F:=(au 0).G) (λx=>!l.contains x) Val.int Val.int (λe=>∃s,e=[s,.sh (liV l)]/\s.pl=true) nums [] [.no,.sh (liV l)] ⟨.no,rfl,rfl⟩ (by
  rintro x hx e ⟨s,rfl,hs⟩;have k1:jP.G (.int x) (liV l)=.val (.bl (!l.contains x)):=my l x;refine⟨[.sh (.int x),.sh (liV l)],[.sh (.int x),.sh (liV l)],?_,?_,⟨_,rfl,rfl⟩,λ_=>⟨.val (.int x),[.sh (.int x),.sh (liV l)],?_,rfl,⟨_,rfl,rfl⟩⟩⟩
  .simp![bz,bB,bA,bq,aN,aH,aW,aD,aF,aK,aS,aa,ao,bf,aA,ay,ag,av,ar,aU,aM,aE,bu,bp,a8,aV,bc,aC,bt,bo,bj,ba,aB,aG,aj,ak,bg,aT,aZ,aq,aP,aO,aJ,ax,aw,aY,az,aX,aR,aQ,af,bh,ai,bw,hs]
  .simp![bz,bB,bA,bq,aN,aH,aW,aD,aF,aK,aS,aa,ao,bf,aA,ay,ag,av,ar,aU,aM,aE,bu,bp,a8,aV,bc,aC,bt,bo,bj,ba,aB,aG,aj,ak,bg,aT,aZ,aq,aP,aO,aJ,ax,aw,aY,az,aX,aR,aQ,af,bh,ai,bw,k1]
  .simp![bz,bB,bA,bq,aN,aH,aW,aD,aF,aK,aS,aa,ao,bf,aA,ay,ag,av,ar,aU,aM,aE,bu,bp,a8,aV,bc,aC,bt,bo,bj,ba,aB,aG,aj,ak,bg,aT,aZ,aq,aP,aO,aJ,ax,aw,aY,az,aX,aR,aQ,af,bh,ai,bw]) (by rw[O6];omega)
 rw[OZ] at lc;exact⟨s,lc⟩
def K0{nums l:List Int}{kv:Val}{acc:List (Str×List Int×List Int)}{s4:Sl}(h4:s4.pl=true)(hl:nums.length<=1000)(ha:acc.length<=1000000):i7.G [.sh (liV nums),.sh kv,.ow (.lst (acc.map cuV)),.sh (liV l),s4]=.nx [.sh (liV nums),.sh kv,.ow (.lst ((acc++cQ nums l).map cuV)),.sh (liV l),.sh (.str "down")]:=by
 obtain⟨s,lc⟩:=vH nums l hl;have lr:((rst nums l).map Val.int).length<=16777216:=by
  rw[u_]
  have:=List.length_filter_le (λx=>!l.contains x) nums
  show (nums.filter _).length<=_;omega
 have it:(liV l).items=some (l.map .int):=rfl;have sq:fL (.val (.lst (nums.map .int)))=fL (.val (liV nums)):=rfl;have b1:∀(acc:List (Str×List Int×List Int)) (way:Str),acc.length<=1000001->lC.G [.sh (liV nums),.sh kv,.ow (.lst (acc.map cuV)),.sh (liV l),.sh (.str way)]=.nx [.sh (liV nums),.sh kv,.ow (.lst ((acc++[(way,l,rst nums l)]).map cuV)),.sh (liV l),.sh (.str way)]:=by
  intro acc way ha;have la:(acc.map cuV).length<16777216:=by rw[u_];omega
  have e2:(acc++[(way,l,rst nums l)]).map cuV=acc.map cuV++[.tup [.str way,.lst (l.map .int),.lst ((rst nums l).map .int)]]:=by rw[O_];rfl
  rw[e2];unfold lC;unfold liV at lc ⊢;simp![bz,bB,bA,bq,aN,aH,aW,aD,aF,aK,aS,aa,ao,bf,aA,ay,ag,av,ar,aU,aM,aE,bu,bp,a8,aV,bc,aC,bt,bo,bj,ba,aB,aG,aj,ak,bg,aT,aZ,aq,aP,aO,aJ,ax,aw,aY,az,aX,aR,aQ,af,bh,ai,bw,AF,c8,lc,lr,la]
 unfold i7;have e3:acc++cQ nums l=(acc++[(("across" : Str),l,rst nums l)])++[(("down" : Str),l,rst nums l)]:=by unfold cQ;simp
 rw[e3];have c1:=b1 acc "across" (by omega);have c2:=b1 (acc++[(("across" : Str),l,rst nums l)]) "down" (by rw[F_];show acc.length+1<=_;omega);simp![bz,bB,bA,bq,aN,aH,aW,aD,aF,aK,aS,aa,ao,bf,aA,ay,ag,av,ar,aU,aM,aE,bu,bp,a8,aV,bc,aC,bt,bo,bj,ba,aB,aG,aj,ak,bg,aT,aZ,aq,aP,aO,aJ,ax,aw,aY,az,aX,aR,aQ,af,bh,ai,bw,bZ,h4,c1,c2]
def kK{nums:List Int}{kind:Str}(hk:kind="order" \/ kind="any")(h2:nums≠[])(hl:nums.length<=10):fT.G [liV nums,.str kind]=.ok (.new (.lst ((bM kind nums).map cuV))) []:=by
 have lo:=zd hk h2 hl;have ln:=k8 (kind:=kind) hl;have fold:∀(ls:List (List Int)) (acc:List (Str×List Int×List Int)) (s3 s4:Sl),s3.pl=true->s4.pl=true->acc.length+2*ls.length<=1000000->∃s3' s4',dU (gtN 3).G i7.G (ls.map liV) [.sh (liV nums),.sh (.str kind),.ow (.lst (acc.map cuV)),s3,s4]=.nx [.sh (liV nums),.sh (.str kind),.ow (.lst ((acc++ls.flatMap (cQ nums)).map cuV)),s3',s4']:=by
  intro ls;induction ls with
  |nil=>intro acc s3 s4 _ _ _;exact⟨s3,s4,by rw[O3,kf,List.flatMap_nil,Pp]⟩
  |
   cons l ls ih=>
   intro acc s3 s4 h3 h4 hb;rw[OO] at hb;have g1:(gtN 3).G (liV l) [.sh (liV nums),.sh (.str kind),.ow (.lst (acc.map cuV)),s3,s4]=some [.sh (liV nums),.sh (.str kind),.ow (.lst (acc.map cuV)),.sh (liV l),s4]:=by simp![bz,bB,bA,bq,aN,aH,aW,aD,aF,aK,aS,aa,ao,bf,aA,ay,ag,av,ar,aU,aM,aE,bu,bp,a8,aV,bc,aC,bt,bo,bj,ba,aB,aG,aj,ak,bg,aT,aZ,aq,aP,aO,aJ,ax,aw,aY,az,aX,aR,aQ,af,bh,ai,bw,h3]
   have b2:=K0 (kv:=.str kind) (nums:=nums) (l:=l) (acc:=acc) h4 (by omega) (by omega);obtain⟨t3,t4,q⟩:=ih (acc++cQ nums l) (.sh (liV l)) (.sh (.str "down")) rfl rfl (by rw[F_];show acc.length+2+_<=_;omega);refine⟨t3,t4,?_⟩;rw[A_,bZ,g1];simp only[b2,jA];rw[q,List.flatMap_cons,Ph]
 obtain⟨s3,s4,fr⟩:=fold (cS kind nums) [] .no .no rfl rfl (by rw[O6];omega);rw[OZ,O3] at fr;unfold fT bM;rw[bR];unfold sf;simp![bz,bB,bA,bq,aN,aH,aW,aD,aF,aK,aS,aa,ao,bf,aA,ay,ag,av,ar,aU,aM,aE,bu,bp,a8,aV,bc,aC,bt,bo,bj,ba,aB,aG,aj,ak,bg,aT,aZ,aq,aP,aO,aJ,ax,aw,aY,az,aX,aR,aQ,af,bh,ai,bw,lo,fr]
def jT{c:Str×List Int×List Int}{b:Bx}{ws:List Int}{n m:Nat}(hb:b.Ok)(hs:b.Sz n)(hway:c.1="across" \/ c.1="down")(r1:Inr ws c.2.1)(r2:Inr ws c.2.2)(l1:c.2.1.length<=1000)(l2:c.2.2.length<=1000)(h1:1<=wt ws c.2.1)(h2:1<=wt ws c.2.2)(mW:Sm m (wt ws c.2.1+wt ws c.2.2))(h:n+n+m<=8000):eN.G [cuV c,bV b,liV ws]=.ok (.new (.lst [bV (dP b c.1 (wt ws c.2.1) (wt ws c.2.2)),bV (d6 b c.1 (wt ws c.2.1) (wt ws c.2.2))])) []:=by have w1:=jf r1 l1;have w2:=jf r2 l2;have pe:=Bg (ws:=[wt ws c.2.1,wt ws c.2.2]) hb hs hway (by simp) (by intro w hw;simp at hw;omega) (m:=m) (by simpa using mW) h (by simp);rw[pE,A_,A_,O3,A_,A_,O3] at pe;show eN.G [.tup [.str c.1,liV c.2.1,liV c.2.2],bV b,liV ws]=_;unfold eN;rw[bR];unfold pk;simp![bz,bB,bA,bq,aN,aH,aW,aD,aF,aK,aS,aa,ao,bf,aA,ay,ag,av,ar,aU,aM,aE,bu,bp,a8,aV,bc,aC,bt,bo,bj,ba,aB,aG,aj,ak,bg,aT,aZ,aq,aP,aO,aJ,ax,aw,aY,az,aX,aR,aQ,af,bh,ai,bw,w1,w2,pe]
theorem ue(x y:Val):∀(n one e_:Nat),e_<=n->(xWh (qOf (pOp bGt (au 3) (bC 0))) i5).G [.sh x,.sh y,.sh (.int (one:Nat)),.sh (.int (e_:Nat))]=.nx [.sh x,.sh y,.sh (.int (Nat.gcd one e_:Nat)),.sh (.int 0)]
 |
  n,one,0,_=>by
  rw[zo];simp![bz,bB,bA,bq,aN,aH,aW,aD,aF,aK,aS,aa,ao,bf,aA,ay,ag,av,ar,aU,aM,aE,bu,bp,a8,aV,bc,aC,bt,bo,bj,ba,aB,aG,aj,ak,bg,aT,aZ,aq,aP,aO,aJ,ax,aw,aY,az,aX,aR,aQ,af,bh,ai,bw,Nat.gcd_zero_right,Int.natCast_zero,Int.lt_irrefl]
 |0,one,e_+1,hl=>absurd hl (by omega)
 |
  n+1,one,e_+1,hl=>by
  rw[zo];have e:decide ((0:Int)<((e_+1:Nat):Int))=true:=J_ (by omega);have e1:dZ.G (.int (one:Nat)) (.int ((e_+1:Nat):Int))=.val (.int (((one:Nat):Int).fmod ((e_+1:Nat):Int))):=iJ (by omega);have e2:((one:Nat):Int).fmod ((e_+1:Nat):Int)=((one % (e_+1):Nat):Int):=by rw[Int.fmod_eq_emod_of_nonneg _ (by omega)];rfl
  have ih:=ue x y n (e_+1) (one % (e_+1)) (by have:=Nat.mod_lt one (show e_+1>0 by omega);omega);rw[Fr.euc] at ih;rw[e2] at e1;have bb:i5.G [.sh x,.sh y,.sh (.int (one:Nat)),.sh (.int ((e_+1:Nat):Int))]=.nx [.sh x,.sh y,.sh (.int ((e_+1:Nat):Int)),.sh (.int ((one % (e_+1):Nat):Int))]:=by unfold i5;simp![bz,bB,bA,bq,aN,aH,aW,aD,aF,aK,aS,aa,ao,bf,aA,ay,ag,av,ar,aU,aM,aE,bu,bp,a8,aV,bc,aC,bt,bo,bj,ba,aB,aG,aj,ak,bg,aT,aZ,aq,aP,aO,aJ,ax,aw,aY,az,aX,aR,aQ,af,bh,ai,bw,e1]
  simp![bz,bB,bA,bq,aN,aH,aW,aD,aF,aK,aS,aa,ao,bf,aA,ay,ag,av,ar,aU,aM,aE,bu,bp,a8,aV,bc,aC,bt,bo,bj,ba,aB,aG,aj,ak,bg,aT,aZ,aq,aP,aO,aJ,ax,aw,aY,az,aX,aR,aQ,af,bh,ai,bw,e,bb,ih]
def gk{a b:Int}(hb:0<b)(hs:Sm 8000 b):cP.G [.int a,.int b]=.ok (.val (fV ((a:Rat)/(b:Rat)))) []:=by
 unfold cP;rw[bR];unfold sx;have hb0:b≠0:=by omega
 have lo:=ue (.int a) (.int b) b.natAbs a.natAbs b.natAbs (y_ _);rw[show Nat.gcd a.natAbs b.natAbs=Int.gcd a b from rfl,show ((b.natAbs:Nat):Int)=b by omega] at lo;have c:∀x,CDivB x (Fr.dv a b):=λx=>CDivB.of (Fr.dv_ne hb0) (hs.of_le (by rw[Fr.dv_abs];exact Nat.le_of_dvd (by omega) (Nat.gcd_dvd_right a.natAbs b.natAbs)));have k1:=mS (c a);have k2:=mS (c b);have hh:=o7 (a:=a) hb0;have i_:Val.tup [.int (a.fdiv (Fr.dv a b)),.int (b.fdiv (Fr.dv a b))]=fV ((a:Rat)/(b:Rat)):=by unfold fV;rw[<- hh.1,<- hh.2];rfl
 have hd:Fr.dv a b=((Int.gcd a b:Nat):Int):=by unfold Fr.dv;rw[if_neg (by omega)]
 rw[hd] at k1 k2 i_;simp![bz,bB,bA,bq,aN,aH,aW,aD,aF,aK,aS,aa,ao,bf,aA,ay,ag,av,ar,aU,aM,aE,bu,bp,a8,aV,bc,aC,bt,bo,bj,ba,aB,aG,aj,ak,bg,aT,aZ,aq,aP,aO,aJ,ax,aw,aY,az,aX,aR,aQ,af,bh,ai,bw,xC,lo,k1,k2,i_]
def dM{p q:Rat}{n m:Nat}(hp:Sz n p)(hq:Sz m q)(h:n+m<=8000):cI.G [fV p,fV q]=.ok (.val (fV (p*q))) []:=by have c1:=cE (CMulA.of hp.top hq.top (by omega) (by omega));have c2:=cE (CMulA.of hp.bot hq.bot (by omega) (by omega));have dp:=p.den_pos;have dq:=q.den_pos;have lo:=gk (a:=p.num*q.num) (b:=p.den*q.den) (Int.mul_pos (by omega) (by omega)) ((hp.bot.mul hq.bot).mono h);rw[<- qN] at lo;unfold cI;rw[bR];unfold m8;rw[show fV p=.tup [.int p.num,.int p.den] from rfl,show fV q=.tup [.int q.num,.int q.den] from rfl];simp![bz,bB,bA,bq,aN,aH,aW,aD,aF,aK,aS,aa,ao,bf,aA,ay,ag,av,ar,aU,aM,aE,bu,bp,a8,aV,bc,aC,bt,bo,bj,ba,aB,aG,aj,ak,bg,aT,aZ,aq,aP,aO,aJ,ax,aw,aY,az,aX,aR,aQ,af,bh,ai,bw,c1,c2,lo]
def kH{p q:Rat}{n m:Nat}(hp:Sz n p)(hq:Sz m q)(h:n+m<=8000):fS.G [fV p,fV q]=.ok (.val (fV (p+q))) []:=by have c1:=cE (CMulA.of hp.top hq.bot (by omega) (by omega));have c2:=cE (CMulA.of hq.top hp.bot (by omega) (by omega));have c3:=cE (CMulA.of hp.bot hq.bot (by omega) (by omega));have dp:=p.den_pos;have dq:=q.den_pos;have lo:=gk (a:=p.num*q.den+q.num*p.den) (b:=p.den*q.den) (Int.mul_pos (by omega) (by omega)) ((hp.bot.mul hq.bot).mono h);rw[<- qg] at lo;unfold fS;rw[bR];unfold sE;rw[show fV p=.tup [.int p.num,.int p.den] from rfl,show fV q=.tup [.int q.num,.int q.den] from rfl];simp![bz,bB,bA,bq,aN,aH,aW,aD,aF,aK,aS,aa,ao,bf,aA,ay,ag,av,ar,aU,aM,aE,bu,bp,a8,aV,bc,aC,bt,bo,bj,ba,aB,aG,aj,ak,bg,aT,aZ,aq,aP,aO,aJ,ax,aw,aY,az,aX,aR,aQ,af,bh,ai,bw,c1,c2,c3,lo]
def iL{p q:Rat}{n m:Nat}(hp:Sz n p)(hq:Sz m q)(h0:0<q)(h:n+m<=8000):fk.G [fV p,fV q]=.ok (.val (fV (p/q))) []:=by
 have c1:=cE (CMulA.of hp.top hq.bot (by omega) (by omega));have c2:=cE (CMulA.of hp.bot hq.top (by omega) (by omega));have hq0:q≠0:=λz=>by rw[z] at h0;exact absurd h0 (by decide)
 have hn:0<q.num:=w6.mpr h0;have dp:=p.den_pos;have lo:=gk (a:=p.num*q.den) (b:=p.den*q.num) (Int.mul_pos (by omega) hn) ((hp.bot.mul hq.top).mono h);rw[<- nW hq0] at lo;unfold fk;rw[bR];unfold o9;rw[show fV p=.tup [.int p.num,.int p.den] from rfl,show fV q=.tup [.int q.num,.int q.den] from rfl];simp![bz,bB,bA,bq,aN,aH,aW,aD,aF,aK,aS,aa,ao,bf,aA,ay,ag,av,ar,aU,aM,aE,bu,bp,a8,aV,bc,aC,bt,bo,bj,ba,aB,aG,aj,ak,bg,aT,aZ,aq,aP,aO,aJ,ax,aw,aY,az,aX,aR,aQ,af,bh,ai,bw,c1,c2,lo]
def eQ{p q:Rat}{n m:Nat}(hp:Sz n p)(hq:Sz m q)(h1:n<=100000)(h2:m<=100000):dE.G [fV p,fV q]=.ok (.val (.bl (decide (p<q)))) []:=by have c1:=cE (CMulA.of hp.top hq.bot h1 h2);have c2:=cE (CMulA.of hq.top hp.bot h2 h1);unfold dE;rw[bR];unfold oW;rw[show fV p=.tup [.int p.num,.int p.den] from rfl,show fV q=.tup [.int q.num,.int q.den] from rfl];simp![bz,bB,bA,bq,aN,aH,aW,aD,aF,aK,aS,aa,ao,bf,aA,ay,ag,av,ar,aU,aM,aE,bu,bp,a8,aV,bc,aC,bt,bo,bj,ba,aB,aG,aj,ak,bg,aT,aZ,aq,aP,aO,aJ,ax,aw,aY,az,aX,aR,aQ,af,bh,ai,bw,c1,c2];rw[show decide (p.num*(q.den:Int)<q.num*(p.den:Int))=decide (p<q) from decide_eq_decide.mpr (zR p q).symm]
def lR{b:Bx}{n:Nat}(hb:b.Ok)(hs:b.Sz n)(h:n+n<=8000):fH.G [bV b]=.ok (.val (fV (fI b))) []:=by
 have il:=eQ hs.w hs.h (by omega) (by omega);have ib:(bV b).items=some [fV b.l,fV b.t,fV b.w,fV b.h]:=rfl;have o1:=iL hs.w hs.h hb.2 h;have o2:=iL hs.h hs.w hb.1 h;unfold fH fI;rw[bR];unfold nt;by_cases hl:b.w<b.h
 .rw[if_pos hl];rw[J_ hl] at il;simp![bz,bB,bA,bq,aN,aH,aW,aD,aF,aK,aS,aa,ao,bf,aA,ay,ag,av,ar,aU,aM,aE,bu,bp,a8,aV,bc,aC,bt,bo,bj,ba,aB,aG,aj,ak,bg,aT,aZ,aq,aP,aO,aJ,ax,aw,aY,az,aX,aR,aQ,af,bh,ai,bw,il,ib,o1,o2]
 .rw[if_neg hl];rw[I_ hl] at il;simp![bz,bB,bA,bq,aN,aH,aW,aD,aF,aK,aS,aa,ao,bf,aA,ay,ag,av,ar,aU,aM,aE,bu,bp,a8,aV,bc,aC,bt,bo,bj,ba,aB,aG,aj,ak,bg,aT,aZ,aq,aP,aO,aJ,ax,aw,aY,az,aX,aR,aQ,af,bh,ai,bw,il,ib,o1,o2]
def lI{nums:List Int}{kind:Str}(hk:kind="order" \/ kind="any")(h2:nums≠[])(hl:nums.length<=10):cX.G [liV nums,.str kind]=.ok (.new (.lst ((cS kind nums).map liV))) []:=by
 have c_:=k8 (kind:=kind) hl;rcases hk with rfl |rfl
 .obtain⟨s,lc⟩:=wV (nums:=nums) (by omega);have rg:=wK (n:=nums.length) (by omega);have ll:((cS "order" nums).map liV).length<=16777216:=by rw[u_];omega
  have lm:((nums.map Val.int).length:Nat)=nums.length:=u_ ..;show cX.G [.lst (nums.map .int),.str "order"]=_;unfold cX;rw[bR];unfold ju;simp![bz,bB,bA,bq,aN,aH,aW,aD,aF,aK,aS,aa,ao,bf,aA,ay,ag,av,ar,aU,aM,aE,bu,bp,a8,aV,bc,aC,bt,bo,bj,ba,aB,aG,aj,ak,bg,aT,aZ,aq,aP,aO,aJ,ax,aw,aY,az,aX,aR,aQ,af,bh,ai,bw,A4,lm,rg,c8,lc,ll]
 .match nums,h2 with
  |
   x::rest,h2=>
   rw[OO] at hl;obtain⟨s',q4⟩:=mj (B:=lG) rfl (nv:=.lst ((x::rest).map .int)) (kv:=.str "any") rest [[x]] .no rfl (by have:2^rest.length<=2^9:=Pb (by decide) (by omega);simp;omega) (by intro l hl';rw[Pk] at hl';subst hl';simp;omega);have s2:aSl (.lst (Val.int x::rest.map .int)) (some 1) none=.new (.lst (rest.map .int)):=by rw[ke,show (some 1:Option Int)=some ((1:Nat):Int) from rfl,vt];rfl
   have s3:aSl (.lst ((gP [[x]] rest).map liV)) none (some (-1))=.new (.lst ((cS "any" (x::rest)).map liV)):=by rw[ke,wx];unfold cS;rw[if_neg (by decide),List.map_dropLast]
   show cX.G [.lst ((x::rest).map .int),.str "any"]=_;unfold cX;rw[bR];unfold ju;rw[show [[x]].map liV=[.lst [.int x]] from rfl,show (x::rest).map Val.int=Val.int x::rest.map Val.int from rfl] at q4;simp![bz,bB,bA,bq,aN,aH,aW,aD,aF,aK,aS,aa,ao,bf,aA,ay,ag,av,ar,aU,aM,aE,bu,bp,a8,aV,bc,aC,bt,bo,bj,ba,aB,aG,aj,ak,bg,aT,aZ,aq,aP,aO,aJ,ax,aw,aY,az,aX,aR,aQ,af,bh,ai,bw,zB,s2,q4,s3]
noncomputable def prt(b:Bx)(way:Str)(W a:Int)(ws:List Int):List Bx:=if way="across" then (shL b.l b.w W a ws).map λp=>⟨p.1,b.t,p.2,b.h⟩ else (shL b.t b.h W a ws).map λp=>⟨b.l,p.1,b.w,p.2⟩
def L8(b:Bx)(W a w:Int)(ws:List Int):prt b "across" W a (w::ws)=(⟨b.l+b.w*((a:Rat)/(W:Rat)),b.t,b.w*((w:Rat)/(W:Rat)),b.h⟩:Bx)::prt b "across" W (a+w) ws:=by unfold prt;rw[if_pos rfl,if_pos rfl];rfl
def Mq(b:Bx)(W a w:Int)(ws:List Int):prt b "down" W a (w::ws)=(⟨b.l,b.t+b.h*((a:Rat)/(W:Rat)),b.w,b.h*((w:Rat)/(W:Rat))⟩:Bx)::prt b "down" W (a+w) ws:=by
 have hne:¬ (("down" : Str)="across"):=by decide
 unfold prt;rw[if_neg hne,if_neg hne];rfl
def Fu(b:Bx)(way:Str)(W a:Int):prt b way W a []=[]:=by unfold prt;split <;> rfl
theorem om{b:Bx}{n m:Nat}{W:Int}{wl:List Int}(hb:b.Ok)(hs:b.Sz n)(hW:0<W)(mW:Sm m W)(h:n+n+m<=8000)(hsum:wl.sum=W){way:Str}(hway:way="across" \/ way="down"):∀(ws:List Int) (a:Int) (acc:List Bx) (s9 s10 s11:Sl),s9.pl=true->s10.pl=true->s11.pl=true->0<=a->(∀w∈ws,1<=w)->a+ws.sum<=W->acc.length+ws.length<=1000->∃s8' s9' s10' s11',dU (gtN 9).G fW.G (ws.map .int) [.sh (bV b),.sh (.str way),.sh (.lst (wl.map .int)),.sh (fV b.l),.sh (fV b.t),.sh (fV b.w),.sh (fV b.h),.ow (.lst (acc.map bV)),.sh (.int a),s9,s10,s11]=.nx [.sh (bV b),.sh (.str way),.sh (.lst (wl.map .int)),.sh (fV b.l),.sh (fV b.t),.sh (fV b.w),.sh (fV b.h),.ow (.lst ((acc++prt b way W a ws).map bV)),s8',s9',s10',s11']
 | [],a,acc,s9,s10,s11,h9,h10,h11,ha,hw,hs',c_=>⟨.sh (.int a),s9,s10,s11,by rw[O3,kf,Fu,Pp]⟩
 |
  w::ws,a,acc,s9,s10,s11,h9,h10,h11,ha,hw,hs',c_=>by
  have hw0:=hw w (C_ ..);have hws:=iR (l:=ws) λx hx=>hw x (w_ _ hx);rw[O1] at hs';rw[OO] at c_;have sa:Sm m a:=mW.of_le (by omega);have sw:Sm m w:=mW.of_le (by omega);have f1:=gk (a:=a) (b:=W) hW (mW.mono (by omega));have f2:=gk (a:=w) (b:=W) hW (mW.mono (by omega));have z1:Sz m ((a:Rat)/(W:Rat)):=Sz.div (by omega) sa mW m (y_ _) (y_ _);have z2:Sz m ((w:Rat)/(W:Rat)):=Sz.div (by omega) sw mW m (y_ _) (y_ _);have ll:(acc.map bV).length<16777216:=by rw[u_];omega
  have g1:(gtN 9).G (.int w) [.sh (bV b),.sh (.str way),.sh (.lst (wl.map .int)),.sh (fV b.l),.sh (fV b.t),.sh (fV b.w),.sh (fV b.h),.ow (.lst (acc.map bV)),.sh (.int a),s9,s10,s11]=some [.sh (bV b),.sh (.str way),.sh (.lst (wl.map .int)),.sh (fV b.l),.sh (fV b.t),.sh (fV b.w),.sh (fV b.h),.ow (.lst (acc.map bV)),.sh (.int a),.sh (.int w),s10,s11]:=by simp![bz,bB,bA,bq,aN,aH,aW,aD,aF,aK,aS,aa,ao,bf,aA,ay,ag,av,ar,aU,aM,aE,bu,bp,a8,aV,bc,aC,bt,bo,bj,ba,aB,aG,aj,ak,bg,aT,aZ,aq,aP,aO,aJ,ax,aw,aY,az,aX,aR,aQ,af,bh,ai,bw,h9]
  rcases hway with rfl |rfl
  .have t1:=dM hs.w z1 (by omega);have t2:=dM hs.w z2 (by omega);have ad:=kH hs.l (hs.w.mul z1) (by omega);obtain⟨t8,t9,t10,t11,ih⟩:=om hb hs hW mW h hsum (.inl rfl) ws (a+w) (acc++[(⟨b.l+b.w*((a:Rat)/(W:Rat)),b.t,b.w*((w:Rat)/(W:Rat)),b.h⟩:Bx)]) (.sh (.int w)) (.sh (fV ((a:Rat)/(W:Rat)))) (.sh (fV ((w:Rat)/(W:Rat)))) rfl rfl rfl (by omega) (λx hx=>hw x (w_ _ hx)) (by omega) (by rw[F_];show acc.length+1+_<=_;omega);refine⟨t8,t9,t10,t11,?_⟩;have b1:fW.G [.sh (bV b),.sh (.str "across"),.sh (.lst (wl.map .int)),.sh (fV b.l),.sh (fV b.t),.sh (fV b.w),.sh (fV b.h),.ow (.lst (acc.map bV)),.sh (.int a),.sh (.int w),s10,s11]=.nx [.sh (bV b),.sh (.str "across"),.sh (.lst (wl.map .int)),.sh (fV b.l),.sh (fV b.t),.sh (fV b.w),.sh (fV b.h),.ow (.lst ((acc++[(⟨b.l+b.w*((a:Rat)/(W:Rat)),b.t,b.w*((w:Rat)/(W:Rat)),b.h⟩:Bx)]).map bV)),.sh (.int (a+w)),.sh (.int w),.sh (fV ((a:Rat)/(W:Rat))),.sh (fV ((w:Rat)/(W:Rat)))]:=by unfold fW;rw[O_,show [(⟨b.l+b.w*((a:Rat)/(W:Rat)),b.t,b.w*((w:Rat)/(W:Rat)),b.h⟩:Bx)].map bV=[.tup [fV (b.l+b.w*((a:Rat)/(W:Rat))),fV b.t,fV (b.w*((w:Rat)/(W:Rat))),fV b.h]] from rfl];simp![bz,bB,bA,bq,aN,aH,aW,aD,aF,aK,aS,aa,ao,bf,aA,ay,ag,av,ar,aU,aM,aE,bu,bp,a8,aV,bc,aC,bt,bo,bj,ba,aB,aG,aj,ak,bg,aT,aZ,aq,aP,aO,aJ,ax,aw,aY,az,aX,aR,aQ,af,bh,ai,bw,h10,h11,hsum,f1,f2,t1,t2,ad,ll,uU]
   rw[A_,bZ,g1];simp only[b1,jA];rw[ih,L8,Ph];rfl
  .have t1:=dM hs.h z1 (by omega);have t2:=dM hs.h z2 (by omega);have ad:=kH hs.t (hs.h.mul z1) (by omega);obtain⟨t8,t9,t10,t11,ih⟩:=om hb hs hW mW h hsum (.inr rfl) ws (a+w) (acc++[(⟨b.l,b.t+b.h*((a:Rat)/(W:Rat)),b.w,b.h*((w:Rat)/(W:Rat))⟩:Bx)]) (.sh (.int w)) (.sh (fV ((a:Rat)/(W:Rat)))) (.sh (fV ((w:Rat)/(W:Rat)))) rfl rfl rfl (by omega) (λx hx=>hw x (w_ _ hx)) (by omega) (by rw[F_];show acc.length+1+_<=_;omega);refine⟨t8,t9,t10,t11,?_⟩;have b1:fW.G [.sh (bV b),.sh (.str "down"),.sh (.lst (wl.map .int)),.sh (fV b.l),.sh (fV b.t),.sh (fV b.w),.sh (fV b.h),.ow (.lst (acc.map bV)),.sh (.int a),.sh (.int w),s10,s11]=.nx [.sh (bV b),.sh (.str "down"),.sh (.lst (wl.map .int)),.sh (fV b.l),.sh (fV b.t),.sh (fV b.w),.sh (fV b.h),.ow (.lst ((acc++[(⟨b.l,b.t+b.h*((a:Rat)/(W:Rat)),b.w,b.h*((w:Rat)/(W:Rat))⟩:Bx)]).map bV)),.sh (.int (a+w)),.sh (.int w),.sh (fV ((a:Rat)/(W:Rat))),.sh (fV ((w:Rat)/(W:Rat)))]:=by unfold fW;rw[O_,show [(⟨b.l,b.t+b.h*((a:Rat)/(W:Rat)),b.w,b.h*((w:Rat)/(W:Rat))⟩:Bx)].map bV=[.tup [fV b.l,fV (b.t+b.h*((a:Rat)/(W:Rat))),fV b.w,fV (b.h*((w:Rat)/(W:Rat)))]] from rfl];simp![bz,bB,bA,bq,aN,aH,aW,aD,aF,aK,aS,aa,ao,bf,aA,ay,ag,av,ar,aU,aM,aE,bu,bp,a8,aV,bc,aC,bt,bo,bj,ba,aB,aG,aj,ak,bg,aT,aZ,aq,aP,aO,aJ,ax,aw,aY,az,aX,aR,aQ,af,bh,ai,bw,h10,h11,hsum,f1,f2,t1,t2,ad,ll,tL]
   rw[A_,bZ,g1];simp only[b1,jA];rw[ih,Mq,Ph];rfl
def oZ{b:Bx}{n m:Nat}{way:Str}{u v:Int}(hb:b.Ok)(hs:b.Sz n)(hway:way="across" \/ way="down")(hu:1<=u)(hv:1<=v)(mW:Sm m (u+v))(h:n+n+m<=8000):gA.G [bV b,.str way,.lst [.int u,.int v]]=.ok (.new (.lst [bV (dP b way u v),bV (d6 b way u v)])) []:=by
 have es:[u,v].sum=u+v:=by simp
 obtain⟨s8,s9,s10,s11,lo⟩:=om (wl:=[u,v]) hb hs (by omega:0<u+v) mW h es hway [u,v] 0 [] .no .no .no rfl rfl rfl (by omega) (by intro w hw;simp at hw;omega) (by rw[es];omega) (by simp);have pe:prt b way (u+v) 0 [u,v]=[dP b way u v,d6 b way u v]:=by rw[<- pE];unfold gH prt;rw[es]
 rw[OZ,pe,O3,A_,A_,O3,A_,A_,O3] at lo;have e0:bV b=.tup [fV b.l,fV b.t,fV b.w,fV b.h]:=rfl;rw[e0] at lo ⊢;unfold gA;rw[bR];unfold sG;simp![bz,bB,bA,bq,aN,aH,aW,aD,aF,aK,aS,aa,ao,bf,aA,ay,ag,av,ar,aU,aM,aE,bu,bp,a8,aV,bc,aC,bt,bo,bj,ba,aB,aG,aj,ak,bg,aT,aZ,aq,aP,aO,aJ,ax,aw,aY,az,aX,aR,aQ,af,bh,ai,bw,lo]
structure Ok51(ws nums:List Int)(b:Bx)(n m:Nat):Prop where
 ne:nums≠[]
 nd:nums.Nodup
 inr:Inr ws nums
 len:nums.length<=10
 mw:Sm m (wt ws nums)
 ok:b.Ok
 sz:b.Sz n
 bd:(n+m+1)*2^nums.length<=4000
def Ok51.nm{ws nums:List Int}{b:Bx}{n m:Nat}(h:Ok51 ws nums b n m):n+m+1<=2000:=by have h1:=OY.mpr h.ne;have h2:2^1<=2^nums.length:=Pb (by decide) h1;have h3:=h.bd;have:(n+m+1)*2^1<=4000:=G_ (Qf _ h2) h3;omega
structure Sub51(ws nums:List Int)(b:Bx)(n m:Nat)(c:Str×List Int×List Int):Prop where
 w1:1<=wt ws c.2.1
 w2:1<=wt ws c.2.2
 sm:Sm m (wt ws c.2.1+wt ws c.2.2)
 o1:Ok51 ws c.2.1 (dP b c.1 (wt ws c.2.1) (wt ws c.2.2)) (n+(n+m)+1) m
 o2:Ok51 ws c.2.2 (d6 b c.1 (wt ws c.2.1) (wt ws c.2.2)) (n+(n+m)+1) m
def Ok51.cut{ws nums:List Int}{b:Bx}{n m:Nat}(h:Ok51 ws nums b n m)(hw:∀w∈ws,1<=w){c:Str×List Int×List Int}(hc:CutOk nums c):Sub51 ws nums b n m c:=by
 have r1:Inr ws c.2.1:=λi hi=>h.inr i (hc.one.sub.subset hi);have r2:Inr ws c.2.2:=λi hi=>h.inr i (hc.two.sub.subset hi);have l1:=OY.mpr hc.one.ne;have l2:=OY.mpr hc.two.ne;have g1:=Eo hw r1;have g2:=Eo hw r2;have es:wt ws c.2.1+wt ws c.2.2=wt ws nums:=by rw[<- JY];have p:=nM hc.one.sub h.nd;rw[<- hc.rest] at p;exact jZ p
 have sm:Sm m (wt ws c.2.1+wt ws c.2.2):=by rw[es];exact h.mw
 have k1:=Fb (way:=c.1) h.ok h.sz (by omega:1<=wt ws c.2.1) (by omega:1<=wt ws c.2.2) sm;have k2:=EZ (way:=c.1) h.ok h.sz (by omega:1<=wt ws c.2.1) (by omega:1<=wt ws c.2.2) sm;have bd:∀l:List Int,Lot nums l->(n+(n+m)+1+m+1)*2^l.length<=4000:=by intro l hl;have h1:=hl.lt;have h2:2^(l.length+1)<=2^nums.length:=Pb (by decide) h1;have h3:=h.bd;have h4:(n+m+1)*2^(l.length+1)<=4000:=G_ (Qf _ h2) h3;rw[Nat.pow_succ,QI (2^l.length),<- Nat.mul_assoc] at h4;rw[show n+(n+m)+1+m+1=(n+m+1)*2 by omega];exact h4
 have hl:=h.len;have q1:=hc.one.lt;have q2:=hc.two.lt;exact⟨by omega,by omega,sm,⟨hc.one.ne,h.nd.sublist hc.one.sub,r1,by omega,sm.of_le (by omega),k1.1,k1.2,bd _ hc.one⟩,⟨hc.two.ne,h.nd.sublist hc.two.sub,r2,by omega,sm.of_le (by omega),k2.1,k2.2,bd _ hc.two⟩⟩
def Ax{nums:List Int}(nd:nums.Nodup){c:Str×List Int×List Int}(h:c∈bM "order" nums):c.2.1++c.2.2=nums:=by
 have hc:=i9 nd h;obtain⟨l,hl,hc'⟩:=List.mem_flatMap.mp h;unfold cS at hl;rw[if_pos rfl] at hl;obtain⟨i,_,rfl⟩:=Pa.mp hl;have e:c.2.1=nums.take i:=by
  unfold cQ at hc';rcases OP.mp hc' with rfl |hc'
  .rfl
  .rw[Pk] at hc';subst hc';rfl
 rw[hc.rest,e,Dp nd,QB]
def IH(kind:Str)(ws nums:List Int)(b:Bx)(o:Option Rat)(bv:Val):Prop:=match o with
 |none=>bv=.non
 |some q=>∃t ls,bv=.tup [fV q,t]/\Sz 4000 q/\ls.Perm nums/\(kind="order"->ls=nums)/\Tr ws b ls t q
def tF(q:Rat):L3.flatV (fV q)=true:=by unfold fV;simp [fb,cJ,dC,iU]
def D9{x y:Rat}{n:Nat}(hx:Sz n x)(hy:Sz n y):Sz n (mx x y):=by
 unfold mx;split
 .exact hy
 .exact hx
def Md{x y:Rat}:¬ mx x y<x:=by
 unfold mx;split
 .rename_i h;exact P6.mpr (Rat.le_of_lt h)
 .exact QU
theorem p9{kind:Str}{ws:List Int}{m:Nat}(hk:kind="order" \/ kind="any")(hw:∀w∈ws,1<=w):∀(k:Nat) (nums:List Int) (b:Bx) (n:Nat),Ok51 ws nums b n m->nums.length<=k->∃t ls,(eS k).G [bV b,liV ws,.str kind,liV nums]=.ok (.val (.tup [fV (bst kind ws k b nums),t])) []/\Sz 4000 (bst kind ws k b nums)/\ls.Perm nums/\(kind="order"->ls=nums)/\Tr ws b ls t (bst kind ws k b nums)
 |0,nums,b,n,H,hl=>absurd (OY.mpr H.ne) (by omega)
 |
  k+1,nums,b,n,H,hl=>by
  have nm:=H.nm;show ∃t ls,(PFx.of [false,false,false,false] 11 (fZ (eS k))).G [bV b,liV ws,.str kind,liV nums]=_/\_;by_cases h1:nums.length=1
  .have eb:bst kind ws (k+1) b nums=fI b:=by unfold bst;rw[if_pos h1]
   rw[eb]
   match nums,h1 with
   |[i],_=>have sh:=nV H.ok H.sz (by omega);refine⟨.int i,[i],?_,(j0 H.ok H.sz).mono (by omega),List.Perm.refl _,λ_=>rfl,.leaf b i⟩;rw[gY];unfold fZ;show (if _ then _ else _)=_;have it:(liV [i])=.lst [.int i]:=rfl;rw[it];simp![bz,bB,bA,bq,aN,aH,aW,aD,aF,aK,aS,aa,ao,bf,aA,ay,ag,av,ar,aU,aM,aE,bu,bp,a8,aV,bc,aC,bt,bo,bj,ba,aB,aG,aj,ak,bg,aT,aZ,aq,aP,aO,aJ,ax,aw,aY,az,aX,aR,aQ,af,bh,ai,bw,sh]
  .have hl2:2<=nums.length:=by have:=OY.mpr H.ne;omega
   have hne:((((nums.map Val.int).length:Nat):Int)==1)=false:=by rw[OS,u_];omega
   have ce:=kK hk H.ne H.len;obtain⟨q,eq⟩:=pZ (λc=>fj (bst kind ws k) ws b c) (qX (kind:=kind) hl2);have eb:bst kind ws (k+1) b nums=q:=by unfold bst;rw[if_neg h1,eq];rfl
   obtain⟨e',⟨bv,s5,s6,s7,s8,s9,s10,rfl,_,hbv⟩,fr⟩:=lZ (g:=(gtN 5).G) (B:=(eW (eS k)).G) cuV (λo c=>cR o (fj (bst kind ws k) ws b c)) (λo e=>∃bv s5 s6 s7 s8 s9 s10,e=[.sh (bV b),.sh (liV ws),.sh (.str kind),.sh (liV nums),.sh bv,s5,s6,s7,s8,s9,s10]/\(s5.pl=true/\s6.pl=true/\s7.pl=true/\s8.pl=true/\s9.pl=true/\s10.pl=true)/\IH kind ws nums b o bv) (bM kind nums) none [.sh (bV b),.sh (liV ws),.sh (.str kind),.sh (liV nums),.sh .non,.no,.no,.no,.no,.no,.no] ⟨_,_,_,_,_,_,_,rfl,⟨rfl,rfl,rfl,rfl,rfl,rfl⟩,rfl⟩ (by
    rintro c hc o e ⟨bv,s5,s6,s7,s8,s9,s10,rfl,⟨g5,g6,g7,g8,g9,g10⟩,hbv⟩;have co:=i9 H.nd hc;have su:=H.cut hw co;have c_:=H.len;have q1:=co.one.lt;have q2:=co.two.lt;have pb:=jT (c:=c) H.ok H.sz co.way su.o1.inr su.o2.inr (by omega) (by omega) su.w1 su.w2 su.sm (by omega);obtain⟨t1,l1,e1,z1,p1,c1,r1⟩:=p9 hk hw k c.2.1 _ _ su.o1 (by omega);obtain⟨t2,l2,e2,z2,p2,c2,r2⟩:=p9 hk hw k c.2.2 _ _ su.o2 (by omega);have ic:(cuV c).items=some [.str c.1,liV c.2.1,liV c.2.2]:=rfl;have fl1:L3.flatVs [fV (bst kind ws k (dP b c.1 (wt ws c.2.1) (wt ws c.2.2)) c.2.1),t1]=true:=by simp [cJ,dC,tF,r1.flat]
    have fl2:L3.flatVs [fV (bst kind ws k (d6 b c.1 (wt ws c.2.1) (wt ws c.2.2)) c.2.2),t2]=true:=by simp [cJ,dC,tF,r2.flat]
    have tr:Tr ws b (l1++l2) (.tup [.str c.1,.tup [t1,t2]]) (fj (bst kind ws k) ws b c):=by
     refine Tr.node co.way ?_ ?_
     .rw[jZ p1,jZ p2];exact r1
     .rw[jZ p1,jZ p2];exact r2
    have pm:(l1++l2).Perm nums:=by have p:=nM co.one.sub H.nd;rw[<- co.rest] at p;exact (p1.append p2).trans p
    have oc:kind="order"->l1++l2=nums:=λz=>by rw[c1 z,c2 z];subst z;exact Ax H.nd hc
    have zz:Sz 4000 (fj (bst kind ws k) ws b c):=D9 z1 z2;have gr:=tW z1 z2 (by omega) (by omega);rw[show (if bst kind ws k (dP b c.1 (wt ws c.2.1) (wt ws c.2.2)) c.2.1<bst kind ws k (d6 b c.1 (wt ws c.2.1) (wt ws c.2.2)) c.2.2 then bst kind ws k (d6 b c.1 (wt ws c.2.1) (wt ws c.2.2)) c.2.2 else bst kind ws k (dP b c.1 (wt ws c.2.1) (wt ws c.2.2)) c.2.1)=fj (bst kind ws k) ws b c from rfl] at gr;have hge:¬ fj (bst kind ws k) ws b c<bst kind ws k (dP b c.1 (wt ws c.2.1) (wt ws c.2.2)) c.2.1:=Md;generalize hb1:dP b c.1 (wt ws c.2.1) (wt ws c.2.2)=b1 at *;generalize hb2:d6 b c.1 (wt ws c.2.1) (wt ws c.2.2)=b2 at *;generalize hx1:bst kind ws k b1 c.2.1=x1 at *;generalize hx2:bst kind ws k b2 c.2.2=x2 at *;generalize t_:fj (bst kind ws k) ws b c=cd at *;refine⟨[.sh (bV b),.sh (liV ws),.sh (.str kind),.sh (liV nums),.sh bv,.sh (cuV c),s6,s7,s8,s9,s10],?_⟩;have gg:(gtN 5).G (cuV c) [.sh (bV b),.sh (liV ws),.sh (.str kind),.sh (liV nums),.sh bv,s5,s6,s7,s8,s9,s10]=some [.sh (bV b),.sh (liV ws),.sh (.str kind),.sh (liV nums),.sh bv,.sh (cuV c),s6,s7,s8,s9,s10]:=by simp![bz,bB,bA,bq,aN,aH,aW,aD,aF,aK,aS,aa,ao,bf,aA,ay,ag,av,ar,aU,aM,aE,bu,bp,a8,aV,bc,aC,bt,bo,bj,ba,aB,aG,aj,ak,bg,aT,aZ,aq,aP,aO,aJ,ax,aw,aY,az,aX,aR,aQ,af,bh,ai,bw,g5]
    cases o with
    |none=>have hbv':bv=.non:=hbv;subst hbv';refine⟨[.sh (bV b),.sh (liV ws),.sh (.str kind),.sh (liV nums),.sh (.tup [fV cd,.tup [.str c.1,.tup [t1,t2]]]),.sh (cuV c),.sh (bV b1),.sh (bV b2),.sh (.tup [fV x1,t1]),.sh (.tup [fV x2,t2]),.sh (fV cd)],gg,.inl ?_,_,_,_,_,_,_,_,rfl,⟨rfl,rfl,rfl,rfl,rfl,rfl⟩,_,_,rfl,zz,pm,oc,tr⟩;unfold eW;simp![bz,bB,bA,bq,aN,aH,aW,aD,aF,aK,aS,aa,ao,bf,aA,ay,ag,av,ar,aU,aM,aE,bu,bp,a8,aV,bc,aC,bt,bo,bj,ba,aB,aG,aj,ak,bg,aT,aZ,aq,aP,aO,aJ,ax,aw,aY,az,aX,aR,aQ,af,bh,ai,bw,pb,e1,e2,gr,ic,fl1,fl2,g6,g7,g8,g9,g10]
    |
     some p=>
     obtain⟨t0,l0,rfl,z0,p0,c0,r0⟩:=hbv;have il:=fh z1 z0 (by omega) (by omega);by_cases hx:x1<p
     .rw[J_ hx] at il;have ig:=fh zz z0 (by omega) (by omega);by_cases hy:cd<p
      .rw[J_ hy] at ig;have ms:cR (some p) cd=some cd:=if_pos hy;rw[ms];refine⟨[.sh (bV b),.sh (liV ws),.sh (.str kind),.sh (liV nums),.sh (.tup [fV cd,.tup [.str c.1,.tup [t1,t2]]]),.sh (cuV c),.sh (bV b1),.sh (bV b2),.sh (.tup [fV x1,t1]),.sh (.tup [fV x2,t2]),.sh (fV cd)],gg,.inl ?_,_,_,_,_,_,_,_,rfl,⟨rfl,rfl,rfl,rfl,rfl,rfl⟩,_,_,rfl,zz,pm,oc,tr⟩;unfold eW;simp![bz,bB,bA,bq,aN,aH,aW,aD,aF,aK,aS,aa,ao,bf,aA,ay,ag,av,ar,aU,aM,aE,bu,bp,a8,aV,bc,aC,bt,bo,bj,ba,aB,aG,aj,ak,bg,aT,aZ,aq,aP,aO,aJ,ax,aw,aY,az,aX,aR,aQ,af,bh,ai,bw,pb,e1,e2,gr,ic,fl1,fl2,il,ig,g6,g7,g8,g9,g10]
      .rw[I_ hy] at ig;have ms:cR (some p) cd=some p:=if_neg hy;rw[ms];refine⟨[.sh (bV b),.sh (liV ws),.sh (.str kind),.sh (liV nums),.sh (.tup [fV p,t0]),.sh (cuV c),.sh (bV b1),.sh (bV b2),.sh (.tup [fV x1,t1]),.sh (.tup [fV x2,t2]),.sh (fV cd)],gg,.inl ?_,_,_,_,_,_,_,_,rfl,⟨rfl,rfl,rfl,rfl,rfl,rfl⟩,_,_,rfl,z0,p0,c0,r0⟩;unfold eW;simp![bz,bB,bA,bq,aN,aH,aW,aD,aF,aK,aS,aa,ao,bf,aA,ay,ag,av,ar,aU,aM,aE,bu,bp,a8,aV,bc,aC,bt,bo,bj,ba,aB,aG,aj,ak,bg,aT,aZ,aq,aP,aO,aJ,ax,aw,aY,az,aX,aR,aQ,af,bh,ai,bw,pb,e1,e2,gr,ic,fl1,fl2,il,ig,g6,g7,g8,g9,g10]
     .rw[I_ hx] at il;have hy:¬ cd<p:=P6.mpr (Rat.le_trans (P6.mp hx) (P6.mp hge));have ms:cR (some p) cd=some p:=if_neg hy;rw[ms];refine⟨[.sh (bV b),.sh (liV ws),.sh (.str kind),.sh (liV nums),.sh (.tup [fV p,t0]),.sh (cuV c),.sh (bV b1),.sh (bV b2),.sh (.tup [fV x1,t1]),s9,s10],gg,.inr ?_,_,_,_,_,_,_,_,rfl,⟨rfl,rfl,rfl,rfl,g9,g10⟩,_,_,rfl,z0,p0,c0,r0⟩;unfold eW;simp![bz,bB,bA,bq,aN,aH,aW,aD,aF,aK,aS,aa,ao,bf,aA,ay,ag,av,ar,aU,aM,aE,bu,bp,a8,aV,bc,aC,bt,bo,bj,ba,aB,aG,aj,ak,bg,aT,aZ,aq,aP,aO,aJ,ax,aw,aY,az,aX,aR,aQ,af,bh,ai,bw,pb,e1,ic,fl1,il,g6,g7,g8])
   rw[eq] at hbv;obtain⟨t,ls,rfl,z,pm,oc,tr⟩:=hbv;rw[eb];refine⟨t,ls,?_,z,pm,oc,tr⟩;rw[gY];unfold fZ;have it:(liV nums)=.lst (nums.map .int):=rfl;rw[it] at fr ce ⊢;simp![bz,bB,bA,bq,aN,aH,aW,aD,aF,aK,aS,aa,ao,bf,aA,ay,ag,av,ar,aU,aM,aE,bu,bp,a8,aV,bc,aC,bt,bo,bj,ba,aB,aG,aj,ak,bg,aT,aZ,aq,aP,aO,aJ,ax,aw,aY,az,aX,aR,aQ,af,bh,ai,bw,hne,ce,fr]
def GR{l:List Int}(h:∀x∈l,1<=x){y:Int}(hy:y∈l):y<=l.sum:=by
 induction l with
 |nil=>cases hy
 |
  cons a l ih=>
  have hn:=iR (l:=l) λx hx=>h x (w_ _ hx);rw[O1];rcases OP.mp hy with rfl |hy
  .omega
  .have:=ih (λx hx=>h x (w_ _ hx)) hy
   have:=h a (C_ ..)
   omega
def rN{b:Bx}{bd:Rat}{n β:Nat}{x y:Val}(hb:b.Ok)(hs:b.Sz n)(h:n+n<=8000)(zb:Sz β bd)(hβ:β<=8000):iB.G [bV b,.tup [x,y,fV bd]]=.ok (.val (.bl (!decide (fI b<bd)))) []:=by have e1:=nV hb hs h;have e2:=fh (j0 hb hs) zb (by omega) (by omega);unfold iB;rw[bR];unfold uj;simp![bz,bB,bA,bq,aN,aH,aW,aD,aF,aK,aS,aa,ao,bf,aA,ay,ag,av,ar,aU,aM,aE,bu,bp,a8,aV,bc,aC,bt,bo,bj,ba,aB,aG,aj,ak,bg,aT,aZ,aq,aP,aO,aJ,ax,aw,aY,az,aX,aR,aQ,af,bh,ai,bw,e1,e2]
def vp{ws nums:List Int}{i:Int}(hw:∀w∈ws,1<=w)(hr:Inr ws nums)(hi:i∈nums):1<=cG ws i/\cG ws i<=wt ws nums:=by
 have h1:∀x∈nums.map (cG ws),1<=x:=λx hx=>by obtain⟨j,hj,rfl⟩:=Pa.mp hx;exact hw _ (vy (hr j hj).1 (hr j hj).2)
 exact⟨h1 _ (QP hi),GR h1 (QP hi)⟩
def uq{ws nums:List Int}{b:Bx}{n m:Nat}{i:Int}(H:Ok51 ws nums b n m)(hw:∀w∈ws,1<=w)(hi:i∈nums):Sz m ((cG ws i:Rat)/(wt ws nums:Rat))/\Sz (n+n+m) (thn ws b i nums):=by
 have hq:=vp hw H.inr hi;have mw:(wt ws nums).natAbs<2^m:=H.mw;have sm1:Sm m (cG ws i):=by show (cG ws i).natAbs<2^m;omega
 have z1:=Sz.div (by omega) sm1 H.mw m (y_ _) (y_ _);exact⟨z1,(j0 H.ok H.sz).mul z1⟩
def oI{ws nums:List Int}{b:Bx}{n m β:Nat}{bd:Rat}{y:Val}{i:Int}(H:Ok51 ws nums b n m)(hw:∀w∈ws,1<=w)(hi:i∈nums)(zb:Sz β bd)(hβ:β<=8000):gz.G [.int i,bV b,liV nums,.tup [liV ws,y,fV bd]]=.ok (.val (.bl (!decide (thn ws b i nums<bd)))) []:=by
 have nm:=H.nm;have ln:=H.len;have hq:=vp hw H.inr hi;obtain⟨z1,z2⟩:=uq H hw hi;have e1:=nV H.ok H.sz (by omega);have e2:=fG (a:=cG ws i) (b:=wt ws nums) (by omega) (H.mw.mono (by omega));have e3:=nH (j0 H.ok H.sz) z1 (by omega);have e4:=fh z2 zb (by omega) (by omega);have e5:=jf H.inr (by omega:nums.length<=1000);have e6:=yR (H.inr i hi).1 (H.inr i hi).2;have e7:hE.G [bV b,.int (cG ws i),.int (wt ws nums)]=.ok (.val (fV (thn ws b i nums))) []:=by unfold hE;rw[bR];unfold pM;simp![bz,bB,bA,bq,aN,aH,aW,aD,aF,aK,aS,aa,ao,bf,aA,ay,ag,av,ar,aU,aM,aE,bu,bp,a8,aV,bc,aC,bt,bo,bj,ba,aB,aG,aj,ak,bg,aT,aZ,aq,aP,aO,aJ,ax,aw,aY,az,aX,aR,aQ,af,bh,ai,bw,e1,e2,e3];rfl
 unfold gz;rw[bR];unfold r9;unfold liV at e5 ⊢;simp![bz,bB,bA,bq,aN,aH,aW,aD,aF,aK,aS,aa,ao,bf,aA,ay,ag,av,ar,aU,aM,aE,bu,bp,a8,aV,bc,aC,bt,bo,bj,ba,aB,aG,aj,ak,bg,aT,aZ,aq,aP,aO,aJ,ax,aw,aY,az,aX,aR,aQ,af,bh,ai,bw,e5,e6,e7,e4]
def oP(o:Option Val):Val:=o.getD .non
def E9{kind:Str}{ws:List Int}{bd:Rat}{k:Nat}{b:Bx}{nums:List Int}{v:Val}(h:brg kind ws bd k b nums=some v):∃l,v=.tup l:=by
 have:=(pq h).1
 cases k with
 |zero=>exact this.elim
 |succ k=>rcases this with ⟨_,rfl⟩ |⟨_,_,_,rfl⟩ |⟨_,_,rfl,_⟩ <;> exact⟨_,rfl⟩
def oR(o:Option (Bool×Val)):Val:=match o with
 |some r=>rwV r
 |none=>.non
def Ib{s:PFx [false,false,false]}{c:Str×List Int×List Int}{ws:List Int}{b:Bx}{n m:Nat}{bd:Rat}{kv:Val}{nums:List Int}{f:Bx->List Int->Option Val}(H:Ok51 ws nums b n m)(hw:∀w∈ws,1<=w)(hc:CutOk nums c)(hf:∀x l v,f x l=some v->∃l,v=.tup l)
 (e1:s.G [bV (dP b c.1 (wt ws c.2.1) (wt ws c.2.2)),liV c.2.1,.tup [liV ws,kv,fV bd]]=.ok (.val (oP (f (dP b c.1 (wt ws c.2.1) (wt ws c.2.2)) c.2.1))) [])
 (e2:s.G [bV (d6 b c.1 (wt ws c.2.1) (wt ws c.2.2)),liV c.2.2,.tup [liV ws,kv,fV bd]]=.ok (.val (oP (f (d6 b c.1 (wt ws c.2.1) (wt ws c.2.2)) c.2.2))) []):
 (cM s).G [cuV c,bV b,.tup [liV ws,kv,fV bd]]=.ok (.val (oR (brw f ws b c))) []:=by
 have S:=H.cut hw hc;have nm:=H.nm;have ln:=H.len;have l1:=hc.one.lt;have l2:=hc.two.lt;have pb:=jT H.ok H.sz hc.way S.o1.inr S.o2.inr (by omega) (by omega) S.w1 S.w2 S.sm (by omega);have ff:=hf (dP b c.1 (wt ws c.2.1) (wt ws c.2.2)) c.2.1;have fg:=hf (d6 b c.1 (wt ws c.2.1) (wt ws c.2.2)) c.2.2;unfold brw;generalize dP b c.1 (wt ws c.2.1) (wt ws c.2.2)=b1 at *;generalize d6 b c.1 (wt ws c.2.1) (wt ws c.2.2)=b2 at *;generalize f b1 c.2.1=o1 at *;generalize f b2 c.2.2=o2 at *;have ec:cuV c=.tup [.str c.1,liV c.2.1,liV c.2.2]:=rfl;rw[ec] at pb ⊢;generalize liV c.2.1=x1 at *;generalize liV c.2.2=x2 at *;generalize liV ws=xw at *;generalize bV b1=y1 at *;generalize bV b2=y2 at *;generalize fV bd=z at *;have en:qW 0 [y1,y2]=[.tup [.int 0,y1],.tup [.int 1,y2]]:=rfl;unfold cM;rw[bR];unfold lO jW;cases o1 with
 |some v=>obtain⟨l,rfl⟩:=ff v rfl;unfold oP at e1;simp![bz,bB,bA,bq,aN,aH,aW,aD,aF,aK,aS,aa,ao,bf,aA,ay,ag,av,ar,aU,aM,aE,bu,bp,a8,aV,bc,aC,bt,bo,bj,ba,aB,aG,aj,ak,bg,aT,aZ,aq,aP,aO,aJ,ax,aw,aY,az,aX,aR,aQ,af,bh,ai,bw,pb,en,bZ,e1,Option.getD_some];rfl
 |
  none=>
  unfold oP at e1;cases o2 with
  |some v=>obtain⟨l,rfl⟩:=fg v rfl;unfold oP at e2;simp![bz,bB,bA,bq,aN,aH,aW,aD,aF,aK,aS,aa,ao,bf,aA,ay,ag,av,ar,aU,aM,aE,bu,bp,a8,aV,bc,aC,bt,bo,bj,ba,aB,aG,aj,ak,bg,aT,aZ,aq,aP,aO,aJ,ax,aw,aY,az,aX,aR,aQ,af,bh,ai,bw,pb,en,bZ,e1,e2,Option.getD_some,Qy];rfl
  |none=>unfold oP at e2;simp![bz,bB,bA,bq,aN,aH,aW,aD,aF,aK,aS,aa,ao,bf,aA,ay,ag,av,ar,aU,aM,aE,bu,bp,a8,aV,bc,aC,bt,bo,bj,ba,aB,aG,aj,ak,bg,aT,aZ,aq,aP,aO,aJ,ax,aw,aY,az,aX,aR,aQ,af,bh,ai,bw,pb,en,bZ,e1,e2,Qy];rfl
theorem rG{s:PFx [false,false,false]}{ws nums:List Int}{b:Bx}{n m β:Nat}{bd:Rat}{y:Val}(H:Ok51 ws nums b n m)(hw:∀w∈ws,1<=w)(zb:Sz β bd)(hβ:β<=8000):∀(l:List Int),(∀i∈l,i∈nums)->∀s3:Sl,s3.pl=true->(∃s3':Sl,s3'.pl=true/\(l.find? λi=>!decide (thn ws b i nums<bd))=none/\dU (gtN 3).G (gK s).G (l.map .int) [.sh (bV b),.sh (liV nums),.sh (.tup [liV ws,y,fV bd]),s3,.no,.no,.no]=.nx [.sh (bV b),.sh (liV nums),.sh (.tup [liV ws,y,fV bd]),s3',.no,.no,.no])\/(∃i,(l.find? λi=>!decide (thn ws b i nums<bd))=some i/\dU (gtN 3).G (gK s).G (l.map .int) [.sh (bV b),.sh (liV nums),.sh (.tup [liV ws,y,fV bd]),s3,.no,.no,.no]=.rt (.val (.tup [.str "thin",.int i])) [.sh (bV b),.sh (liV nums),.sh (.tup [liV ws,y,fV bd]),.sh (.int i),.no,.no,.no])
 | [],_,s3,h3=>.inl ⟨s3,h3,rfl,rfl⟩
 |
  i::l,hl,s3,h3=>by
  have e:=oI (y:=y) H hw (hl i (C_ ..)) zb hβ;have ih:=rG H hw zb hβ l (λj hj=>hl j (w_ _ hj)) (s:=s) (y:=y) (.sh (.int i)) rfl;rw[A_,Pq];generalize hd:(!decide (thn ws b i nums<bd))=d at *;have eb:(gK s).G [.sh (bV b),.sh (liV nums),.sh (.tup [liV ws,y,fV bd]),.sh (.int i),.no,.no,.no]=if d=true then .rt (.val (.tup [.str "thin",.int i])) [.sh (bV b),.sh (liV nums),.sh (.tup [liV ws,y,fV bd]),.sh (.int i),.no,.no,.no] else .nx [.sh (bV b),.sh (liV nums),.sh (.tup [liV ws,y,fV bd]),.sh (.int i),.no,.no,.no]:=by unfold gK;cases d <;> simp![bz,bB,bA,bq,aN,aH,aW,aD,aF,aK,aS,aa,ao,bf,aA,ay,ag,av,ar,aU,aM,aE,bu,bp,a8,aV,bc,aC,bt,bo,bj,ba,aB,aG,aj,ak,bg,aT,aZ,aq,aP,aO,aJ,ax,aw,aY,az,aX,aR,aQ,af,bh,ai,bw,e]
  have eg:(gtN 3).G (.int i) [.sh (bV b),.sh (liV nums),.sh (.tup [liV ws,y,fV bd]),s3,.no,.no,.no]=some [.sh (bV b),.sh (liV nums),.sh (.tup [liV ws,y,fV bd]),.sh (.int i),.no,.no,.no]:=by simp![bz,bB,bA,bq,aN,aH,aW,aD,aF,aK,aS,aa,ao,bf,aA,ay,ag,av,ar,aU,aM,aE,bu,bp,a8,aV,bc,aC,bt,bo,bj,ba,aB,aG,aj,ak,bg,aT,aZ,aq,aP,aO,aJ,ax,aw,aY,az,aX,aR,aQ,af,bh,ai,bw,h3]
  cases d with
  |true=>refine .inr ⟨i,rfl,?_⟩;rw[bZ,eg];dsimp only;rw[eb,if_pos rfl];rfl
  |false=>rw[bZ,eg];dsimp only;rw[eb,if_neg z_];exact ih
theorem sy{s:PFx [false,false,false]}{v0 v1 v2:Val}{s3:Sl}{g:Str×List Int×List Int->Option (Bool×Val)}:∀(l:List (Str×List Int×List Int)),(∀c∈l,(cM s).G [cuV c,v0,v2]=.ok (.val (oR (g c))) [])->∀(acc:List Val) (s5 s6:Sl),s5.pl=true->s6.pl=true->acc.length+l.length<=100000->((l.all λc=>(g c).isSome)=true/\∃s5' s6',dU (gtN 5).G (fc s).G (l.map cuV) [.sh v0,.sh v1,.sh v2,s3,.ow (.lst acc),s5,s6]=.nx [.sh v0,.sh v1,.sh v2,s3,.ow (.lst (acc++l.map λc=>rwV ((g c).getD (false,.non)))),s5',s6'])\/((l.all λc=>(g c).isSome)=false/\∃s4 s5' s6',dU (gtN 5).G (fc s).G (l.map cuV) [.sh v0,.sh v1,.sh v2,s3,.ow (.lst acc),s5,s6]=.rt (.val .non) [.sh v0,.sh v1,.sh v2,s3,s4,s5',s6'])
 | [],_,acc,s5,s6,_,_,_=>.inl ⟨rfl,s5,s6,by rw[O3,O3,Pp];rfl⟩
 |
  c::l,hr,acc,s5,s6,h5,h6,hl=>by
  rw[OO] at hl;have e:=hr c (C_ ..);have ll:acc.length<16777216:=by omega
  have eg:(gtN 5).G (cuV c) [.sh v0,.sh v1,.sh v2,s3,.ow (.lst acc),s5,s6]=some [.sh v0,.sh v1,.sh v2,s3,.ow (.lst acc),.sh (cuV c),s6]:=by simp![bz,bB,bA,bq,aN,aH,aW,aD,aF,aK,aS,aa,ao,bf,aA,ay,ag,av,ar,aU,aM,aE,bu,bp,a8,aV,bc,aC,bt,bo,bj,ba,aB,aG,aj,ak,bg,aT,aZ,aq,aP,aO,aJ,ax,aw,aY,az,aX,aR,aQ,af,bh,ai,bw,h5]
  rw[A_,Pm,A_,bZ,eg];dsimp only;cases hg:g c with
  |
   none=>
   rw[hg] at e;have e':(cM s).G [cuV c,v0,v2]=.ok (.val .non) []:=e;have eb:(fc s).G [.sh v0,.sh v1,.sh v2,s3,.ow (.lst acc),.sh (cuV c),s6]=.rt (.val .non) [.sh v0,.sh v1,.sh v2,s3,.ow (.lst acc),.sh (cuV c),.sh .non]:=by unfold fc;generalize cuV c=cv at *;simp![bz,bB,bA,bq,aN,aH,aW,aD,aF,aK,aS,aa,ao,bf,aA,ay,ag,av,ar,aU,aM,aE,bu,bp,a8,aV,bc,aC,bt,bo,bj,ba,aB,aG,aj,ak,bg,aT,aZ,aq,aP,aO,aJ,ax,aw,aY,az,aX,aR,aQ,af,bh,ai,bw,e',h6]
   refine .inr ⟨rfl,.ow (.lst acc),.sh (cuV c),.sh .non,?_⟩;rw[eb];rfl
  |
   some r=>
   rw[hg] at e;have e':(cM s).G [cuV c,v0,v2]=.ok (.val (.tup [.int (if r.1 then 1 else 0),r.2])) []:=e;have eb:(fc s).G [.sh v0,.sh v1,.sh v2,s3,.ow (.lst acc),.sh (cuV c),s6]=.nx [.sh v0,.sh v1,.sh v2,s3,.ow (.lst (acc++[rwV r])),.sh (cuV c),.sh (rwV r)]:=by unfold fc rwV;generalize cuV c=cv at *;generalize (if r.1 then (1:Int) else 0)=z at *;simp![bz,bB,bA,bq,aN,aH,aW,aD,aF,aK,aS,aa,ao,bf,aA,ay,ag,av,ar,aU,aM,aE,bu,bp,a8,aV,bc,aC,bt,bo,bj,ba,aB,aG,aj,ak,bg,aT,aZ,aq,aP,aO,aJ,ax,aw,aY,az,aX,aR,aQ,af,bh,ai,bw,e',h6,ll]
   rw[eb];have ih:=sy (s:=s) (v1:=v1) (s3:=s3) l (λd hd=>hr d (w_ _ hd)) (acc++[rwV r]) (.sh (cuV c)) (.sh (rwV r)) rfl rfl (by rw[F_,List.length_singleton];omega);rw[Ph] at ih;exact ih
def uB{kind:Str}{nums:List Int}(h:nums.length<=10):(bM kind nums).length<=2000:=by
 have h1:=k8 (kind:=kind) h;unfold bM;rw[List.length_flatMap];have:∀l:List (List Int),((l.map λa=>(cQ nums a).length).sum)=2*l.length:=λl=>by
  induction l with
  |nil=>rfl
  |cons a l ih=>rw[A_,O1,ih,OO];show 2+2*l.length=_;omega
 rw[this];omega
theorem kL{kind:Str}{ws:List Int}{m β:Nat}{bd:Rat}(hk:kind="order" \/ kind="any")(hw:∀w∈ws,1<=w)(zb:Sz β bd)(hβ:β<=8000):∀(k:Nat) (nums:List Int) (b:Bx) (n:Nat),Ok51 ws nums b n m->nums.length<=k->(eZ k).G [bV b,liV nums,.tup [liV ws,.str kind,fV bd]]=.ok (.val (oP (brg kind ws bd k b nums))) []
 |0,nums,b,n,H,hl=>absurd (OY.mpr H.ne) (by omega)
 |
  k+1,nums,b,n,H,hl=>by
  have nm:=H.nm;have ln:=H.len;have hp:=OY.mpr H.ne;have fa:=rN (x:=liV ws) (y:=.str kind) H.ok H.sz (by omega) zb hβ;have lq:((nums.map Val.int).length:Nat)=nums.length:=u_ ..;have itl:∀xs:List Val,(Val.lst xs).items=some xs:=λ_=>rfl;show (PFx.of [false,false,false] 7 (jJ (eZ k))).G [bV b,liV nums,.tup [liV ws,.str kind,fV bd]]=_;rw[gY];unfold jJ brg;by_cases h1:nums.length=1
  .have hd:(((nums.length:Nat):Int)==1)=true:=by rw[h1];rfl
   rw[if_pos h1];generalize fI b=q at *;by_cases hq:q<bd
   .rw[if_pos hq];rw[J_ hq] at fa;unfold liV at *;simp![bz,bB,bA,bq,aN,aH,aW,aD,aF,aK,aS,aa,ao,bf,aA,ay,ag,av,ar,aU,aM,aE,bu,bp,a8,aV,bc,aC,bt,bo,bj,ba,aB,aG,aj,ak,bg,aT,aZ,aq,aP,aO,aJ,ax,aw,aY,az,aX,aR,aQ,af,bh,ai,bw,lq,hd,fa];rfl
   .rw[if_neg hq];rw[I_ hq] at fa;unfold liV at *;simp![bz,bB,bA,bq,aN,aH,aW,aD,aF,aK,aS,aa,ao,bf,aA,ay,ag,av,ar,aU,aM,aE,bu,bp,a8,aV,bc,aC,bt,bo,bj,ba,aB,aG,aj,ak,bg,aT,aZ,aq,aP,aO,aJ,ax,aw,aY,az,aX,aR,aQ,af,bh,ai,bw,lq,hd,fa];rfl
  .have hd:(((nums.length:Nat):Int)==1)=false:=by rw[OS];omega
   rw[if_neg h1];rcases rG (s:=eZ k) (y:=.str kind) H hw zb hβ nums (λ_ h=>h) .no rfl with ⟨s3,h3,e,fr⟩ |⟨i,e,fr⟩
   .rw[e];dsimp only;have co:=kK hk H.ne ln;have cl:=uB (kind:=kind) ln;have row:∀c∈bM kind nums,(cM (eZ k)).G [cuV c,bV b,.tup [liV ws,.str kind,fV bd]]=.ok (.val (oR (brw (brg kind ws bd k) ws b c))) []:=λc hc=>by have cc:=i9 H.nd hc;have l1:=cc.one.lt;have l2:=cc.two.lt;have S:=H.cut hw cc;exact Ib H hw cc (λ_ _ _ h=>E9 h) (kL hk hw zb hβ k _ _ _ S.o1 (by omega)) (kL hk hw zb hβ k _ _ _ S.o2 (by omega))
    rcases sy (v1:=liV nums) (s3:=s3) (bM kind nums) row [] .no .no rfl rfl (by rw[O6];omega) with ⟨ha,s5,s6,fr2⟩ |⟨ha,s4,s5,s6,fr2⟩
    .rw[if_pos ha];rw[OZ] at fr2;generalize (bM kind nums).map cuV=cv at *;generalize hR:((bM kind nums).map λc=>rwV ((brw (brg kind ws bd k) ws b c).getD (false,.non)))=rv at *;have lr:rv.length<=16777216:=by rw[<- hR,u_];omega
     generalize fV bd=z at *;unfold liV at *;simp![bz,bB,bA,bq,aN,aH,aW,aD,aF,aK,aS,aa,ao,bf,aA,ay,ag,av,ar,aU,aM,aE,bu,bp,a8,aV,bc,aC,bt,bo,bj,ba,aB,aG,aj,ak,bg,aT,aZ,aq,aP,aO,aJ,ax,aw,aY,az,aX,aR,aQ,af,bh,ai,bw,lq,hd,itl,fr,co,fr2,lr];rfl
    .have hz:¬ (((bM kind nums).all λc=>(brw (brg kind ws bd k) ws b c).isSome)=true):=by rw[ha];exact z_
     rw[if_neg hz];generalize (bM kind nums).map cuV=cv at *;generalize fV bd=z at *;unfold liV at *;simp![bz,bB,bA,bq,aN,aH,aW,aD,aF,aK,aS,aa,ao,bf,aA,ay,ag,av,ar,aU,aM,aE,bu,bp,a8,aV,bc,aC,bt,bo,bj,ba,aB,aG,aj,ak,bg,aT,aZ,aq,aP,aO,aJ,ax,aw,aY,az,aX,aR,aQ,af,bh,ai,bw,lq,hd,itl,fr,co,fr2];rfl
   .rw[e];dsimp only;generalize fV bd=z at *;unfold liV at *;simp![bz,bB,bA,bq,aN,aH,aW,aD,aF,aK,aS,aa,ao,bf,aA,ay,ag,av,ar,aU,aM,aE,bu,bp,a8,aV,bc,aC,bt,bo,bj,ba,aB,aG,aj,ak,bg,aT,aZ,aq,aP,aO,aJ,ax,aw,aY,az,aX,aR,aQ,af,bh,ai,bw,lq,hd,itl,fr];rfl
def eV(xs:List Val):(cD df).G [.tup xs,.ty "tuple"]=.val (.bl true):=rfl
def MK(r:Bool):jP.G (.int (if r then 1 else 0)) (.tup [.int 0,.int 1])=.val (.bl false):=by show aIn true (.int (if r then 1 else 0)) (.tup [.int 0,.int 1])=_;unfold aIn;dsimp only [Val.items];rw[if_pos ⟨rfl,rfl⟩];cases r <;> rfl
def wc{s:PFx [false,false,false,false]}{c:Str×List Int×List Int}{ws nums:List Int}{b:Bx}{n m:Nat}{r t:Bool}{p kv z:Val}(H:Ok51 ws nums b n m)(hw:∀w∈ws,1<=w)(hc:CutOk nums c)(e:s.G [p,bV (iZ ws b c r),liV (iY c r),.tup [liV ws,kv,z]]=.ok (.val (.bl t)) []):(fA s).G [rwV (r,p),cuV c,bV b,.tup [liV ws,kv,z]]=.ok (.val (.bl t)) []:=by
 have S:=H.cut hw hc;have nm:=H.nm;have ln:=H.len;have l1:=hc.one.lt;have l2:=hc.two.lt;have pb:=jT H.ok H.sz hc.way S.o1.inr S.o2.inr (by omega) (by omega) S.w1 S.w2 S.sm (by omega);have ni:=MK r;have iw:=gh (v:=.int (if r then 1 else 0)) rfl;rw[show jg (.int (if r then 1 else 0))=true from rfl] at iw;have ec:cuV c=.tup [.str c.1,liV c.2.1,liV c.2.2]:=rfl;have er:rwV (r,p)=.tup [.int (if r then 1 else 0),p]:=rfl;rw[ec] at pb ⊢;rw[er];unfold iZ iY at e;generalize dP b c.1 (wt ws c.2.1) (wt ws c.2.2)=b1 at *;generalize d6 b c.1 (wt ws c.2.1) (wt ws c.2.2)=b2 at *;unfold fA;rw[bR];unfold pG;cases r with
 |false=>rw[if_neg z_,if_neg z_] at e;rw[if_neg z_] at ni iw ⊢;generalize liV c.2.1=x1 at *;generalize liV c.2.2=x2 at *;generalize liV ws=xw at *;generalize bV b1=y1 at *;generalize bV b2=y2 at *;simp![bz,bB,bA,bq,aN,aH,aW,aD,aF,aK,aS,aa,ao,bf,aA,ay,ag,av,ar,aU,aM,aE,bu,bp,a8,aV,bc,aC,bt,bo,bj,ba,aB,aG,aj,ak,bg,aT,aZ,aq,aP,aO,aJ,ax,aw,aY,az,aX,aR,aQ,af,bh,ai,bw,eV,iw,ni,pb,e]
 |true=>rw[if_pos rfl,if_pos rfl] at e;rw[if_pos rfl] at ni iw ⊢;generalize liV c.2.1=x1 at *;generalize liV c.2.2=x2 at *;generalize liV ws=xw at *;generalize bV b1=y1 at *;generalize bV b2=y2 at *;simp![bz,bB,bA,bq,aN,aH,aW,aD,aF,aK,aS,aa,ao,bf,aA,ay,ag,av,ar,aU,aM,aE,bu,bp,a8,aV,bc,aC,bt,bo,bj,ba,aB,aG,aj,ak,bg,aT,aZ,aq,aP,aO,aJ,ax,aw,aY,az,aX,aR,aQ,af,bh,ai,bw,eV,iw,ni,pb,e]
theorem vn{s:PFx [false,false,false,false]}{v1 v3:Val}{s0 s2 s4:Sl}(g:Str×List Int×List Int->Bool×Val)(t:Str×List Int×List Int->Bool):∀(l:List (Str×List Int×List Int)),(∀c∈l,(fA s).G [rwV (g c),cuV c,v1,v3]=.ok (.val (.bl (t c))) [])->∀(s5 s6:Sl),s5.pl=true->s6.pl=true->(l.all t=true/\∃s5' s6',dU (gtX (gtT 2 (bQ (gtN 5) (bQ (gtN 6) dG)))).G (eB s).G (l.map λc=>.tup [rwV (g c),cuV c]) [s0,.sh v1,s2,.sh v3,s4,s5,s6]=.nx [s0,.sh v1,s2,.sh v3,s4,s5',s6'])\/(l.all t=false/\∃s5' s6',dU (gtX (gtT 2 (bQ (gtN 5) (bQ (gtN 6) dG)))).G (eB s).G (l.map λc=>.tup [rwV (g c),cuV c]) [s0,.sh v1,s2,.sh v3,s4,s5,s6]=.rt (.val (.bl false)) [s0,.sh v1,s2,.sh v3,s4,s5',s6'])
 | [],_,s5,s6,_,_=>.inl ⟨rfl,s5,s6,rfl⟩
 |
  c::l,hr,s5,s6,h5,h6=>by
  have e:=hr c (C_ ..);have ih:=vn (s:=s) (s0:=s0) (s2:=s2) (s4:=s4) g t l (λd hd=>hr d (w_ _ hd)) (.sh (rwV (g c))) (.sh (cuV c)) rfl rfl;rw[A_,Pm];generalize rwV (g c)=rv at *;generalize cuV c=cv at *;have eg:(gtX (gtT 2 (bQ (gtN 5) (bQ (gtN 6) dG)))).G (.tup [rv,cv]) [s0,.sh v1,s2,.sh v3,s4,s5,s6]=some [s0,.sh v1,s2,.sh v3,s4,.sh rv,.sh cv]:=by simp![bz,bB,bA,bq,aN,aH,aW,aD,aF,aK,aS,aa,ao,bf,aA,ay,ag,av,ar,aU,aM,aE,bu,bp,a8,aV,bc,aC,bt,bo,bj,ba,aB,aG,aj,ak,bg,aT,aZ,aq,aP,aO,aJ,ax,aw,aY,az,aX,aR,aQ,af,bh,ai,bw,h5,h6]
  rw[bZ,eg];dsimp only;generalize t c=tc at *;have eb:(eB s).G [s0,.sh v1,s2,.sh v3,s4,.sh rv,.sh cv]=if tc=true then .nx [s0,.sh v1,s2,.sh v3,s4,.sh rv,.sh cv] else .rt (.val (.bl false)) [s0,.sh v1,s2,.sh v3,s4,.sh rv,.sh cv]:=by unfold eB;cases tc <;> simp![bz,bB,bA,bq,aN,aH,aW,aD,aF,aK,aS,aa,ao,bf,aA,ay,ag,av,ar,aU,aM,aE,bu,bp,a8,aV,bc,aC,bt,bo,bj,ba,aB,aG,aj,ak,bg,aT,aZ,aq,aP,aO,aJ,ax,aw,aY,az,aX,aR,aQ,af,bh,ai,bw,e]
  rw[eb];cases tc with
  |true=>rw[if_pos rfl];exact ih
  |false=>rw[if_neg z_];exact .inr ⟨rfl,_,_,rfl⟩
theorem vR(f h:α->Val):∀l:List α,List.zipWith (λx y=>Val.tup [x,y]) (l.map f) (l.map h)=l.map λc=>.tup [f c,h c]
 | []=>rfl
 |c::l=>by rw[A_,A_,A_,List.zipWith_cons_cons,vR f h l]
def u6{s:PFx [false,false,false,false]}{kind:Str}{ws nums:List Int}{b:Bx}{n m:Nat}{z:Val}{g:Str×List Int×List Int->Bool×Val}{t:Str×List Int×List Int->Bool}(hk:kind="order" \/ kind="any")(H:Ok51 ws nums b n m)(row:∀c∈bM kind nums,(fA s).G [rwV (g c),cuV c,bV b,.tup [liV ws,.str kind,z]]=.ok (.val (.bl (t c))) []):(eL s).G [.tup ((bM kind nums).map λc=>rwV (g c)),bV b,liV nums,.tup [liV ws,.str kind,z]]=.ok (.val (.bl ((bM kind nums).all t))) []:=by
 have co:=kK hk H.ne H.len;have zp:=vR (λc=>rwV (g c)) cuV (bM kind nums);have lo:∀xs:List Val,iF (.lst xs)=some xs:=λ_=>rfl;have lt:∀xs:List Val,iF (.tup xs)=some xs:=λ_=>rfl;have l1:((bM kind nums).map λc=>rwV (g c)).length=(bM kind nums).length:=u_ ..;have l2:((bM kind nums).map cuV).length=(bM kind nums).length:=u_ ..;have zl:=vn (s:=s) (v1:=bV b) (v3:=.tup [liV ws,.str kind,z]) (s0:=.sh (.tup ((bM kind nums).map λc=>rwV (g c)))) (s2:=.sh (liV nums)) (s4:=.sh (.lst ((bM kind nums).map cuV))) g t (bM kind nums) row .no .no rfl rfl;rw[<- zp] at zl;generalize ((bM kind nums).map λc=>rwV (g c))=rv at *;generalize (bM kind nums).map cuV=cv at *;generalize (bM kind nums).length=k at *;have hd:((k:Int)==(k:Int))=true:=by rw[Qz]
 unfold eL;rw[bR];unfold jz;generalize liV nums=x2 at *;generalize liV ws=xw at *;rcases zl with ⟨ha,s5,s6,fr⟩ |⟨ha,s5,s6,fr⟩
 .rw[ha];simp![bz,bB,bA,bq,aN,aH,aW,aD,aF,aK,aS,aa,ao,bf,aA,ay,ag,av,ar,aU,aM,aE,bu,bp,a8,aV,bc,aC,bt,bo,bj,ba,aB,aG,aj,ak,bg,aT,aZ,aq,aP,aO,aJ,ax,aw,aY,az,aX,aR,aQ,af,bh,ai,bw,co,l1,l2,hd,lo,lt,fr]
 .rw[ha];simp![bz,bB,bA,bq,aN,aH,aW,aD,aF,aK,aS,aa,ao,bf,aA,ay,ag,av,ar,aU,aM,aE,bu,bp,a8,aV,bc,aC,bt,bo,bj,ba,aB,aG,aj,ak,bg,aT,aZ,aq,aP,aO,aJ,ax,aw,aY,az,aX,aR,aQ,af,bh,ai,bw,co,l1,l2,hd,lo,lt,fr]
def Eg:dg (.str "shape") (.str "shape")=some true:=by rw[L3.eq_str (by decide) (by decide)];exact O4 some (by decide)
def D3:dg (.str "thin") (.str "thin")=some true:=by rw[L3.eq_str (by decide) (by decide)];exact O4 some (by decide)
def yo:dg (.str "cases") (.str "thin")=some false:=by rw[L3.eq_str (by decide) (by decide)];exact O4 some (by decide)
def yS:dg (.str "cases") (.str "cases")=some true:=by rw[L3.eq_str (by decide) (by decide)];exact O4 some (by decide)
def F6{kind:Str}{ws:List Int}{m β:Nat}{bd:Rat}(hk:kind="order" \/ kind="any")(hw:∀w∈ws,1<=w)(zb:Sz β bd)(hβ:β<=8000){k:Nat}{b:Bx}{nums:List Int}{v:Val}{t:Bool}(h:Brs kind ws bd k b nums v t):∀n,Ok51 ws nums b n m->(gM k).G [v,bV b,liV nums,.tup [liV ws,.str kind,fV bd]]=.ok (.val (.bl t)) []:=by
 induction h with
 |
  @sh k b nums h1=>
  intro n H;have nm:=H.nm;have fa:=rN (x:=liV ws) (y:=.str kind) H.ok H.sz (by omega) zb hβ;have lq:((nums.map Val.int).length:Nat)=nums.length:=u_ ..;have hd:(((nums.length:Nat):Int)==1)=true:=by rw[h1];rfl
  show (PFx.of [false,false,false,false] 6 (iM (gM k))).G _=_;rw[gY];unfold iM;unfold liV at *;generalize (!decide (fI b<bd))=d at *;simp![bz,bB,bA,bq,aN,aH,aW,aD,aF,aK,aS,aa,ao,bf,aA,ay,ag,av,ar,aU,aM,aE,bu,bp,a8,aV,bc,aC,bt,bo,bj,ba,aB,aG,aj,ak,bg,aT,aZ,aq,aP,aO,aJ,ax,aw,aY,az,aX,aR,aQ,af,bh,ai,bw,eV,Eg,lq,hd,fa]
 |@th k b nums i h1 hi=>intro n H;have ft:=oI (y:=.str kind) H hw hi zb hβ;have iw:=gh (v:=.int i) rfl;rw[show jg (.int i)=true from rfl] at iw;have ki:=Bt nums i;rw[Pc.mpr hi] at ki;show (PFx.of [false,false,false,false] 6 (iM (gM k))).G _=_;rw[gY];unfold iM;unfold liV at *;generalize (!decide (thn ws b i nums<bd))=d at *;simp![bz,bB,bA,bq,aN,aH,aW,aD,aF,aK,aS,aa,ao,bf,aA,ay,ag,av,ar,aU,aM,aE,bu,bp,a8,aV,bc,aC,bt,bo,bj,ba,aB,aG,aj,ak,bg,aT,aZ,aq,aP,aO,aJ,ax,aw,aY,az,aX,aR,aQ,af,bh,ai,bw,eV,D3,iw,ki,ft]
 |
  @cs k b nums g t h1 hg ih=>
  intro n H;have hp:=OY.mpr H.ne;have lq:((nums.map Val.int).length:Nat)=nums.length:=u_ ..;have hd:decide ((1:Int)<((nums.length:Nat):Int))=true:=J_ (by omega);have ac:=u6 (s:=gM k) (z:=fV bd) (g:=g) (t:=t) hk H λc hc=>by
   have cc:=i9 H.nd hc;have S:=H.cut hw cc;refine wc (r:=(g c).1) (p:=(g c).2) H hw cc (ih c hc (n+(n+m)+1) ?_);unfold iZ iY;split
   .exact S.o2
   .exact S.o1
  show (PFx.of [false,false,false,false] 6 (iM (gM k))).G _=_;rw[gY];unfold iM;unfold liV at *;generalize ((bM kind nums).map λc=>rwV (g c))=rv at *;generalize (bM kind nums).all t=d at *;simp![bz,bB,bA,bq,aN,aH,aW,aD,aF,aK,aS,aa,ao,bf,aA,ay,ag,av,ar,aU,aM,aE,bu,bp,a8,aV,bc,aC,bt,bo,bj,ba,aB,aG,aj,ak,bg,aT,aZ,aq,aP,aO,aJ,ax,aw,aY,az,aX,aR,aQ,af,bh,ai,bw,eV,yo,yS,lq,hd,ac]
def Ha{w h q:Rat}(hw:0<w)(hh:0<h):w*h*q/((if h<w then h else w)*(if h<w then h else w))=(if w<h then h/w else w/h)*q:=by
 have h1:w≠0:=λz=>by rw[z] at hw;exact QU hw
 have h2:h≠0:=λz=>by rw[z] at hh;exact QU hh
 by_cases a:h<w
 .rw[if_pos a,if_neg (P6.mpr (Rat.le_of_lt a))];grind
 .rw[if_neg a];by_cases c:w<h
  .rw[if_pos c];grind
  .have:w=h:=Rat.le_antisymm (P6.mp a) (P6.mp c);subst this;rw[if_neg c];grind
def wa{ws nums:List Int}{b:Bx}{n m:Nat}{i:Int}(H:Ok51 ws nums b n m)(hw:∀w∈ws,1<=w)(hi:i∈nums):gB.G [bV b,.int i,liV nums,liV ws]=.ok (.val (fV (thn ws b i nums))) []:=by
 have nm:=H.nm;have ln:=H.len;have hq:=vp hw H.inr hi;obtain⟨z1,z2⟩:=uq H hw hi;obtain⟨lb,tb,wb,hb⟩:=b;obtain⟨o1,o2⟩:=H.ok;obtain⟨_,_,s1,s2⟩:=H.sz;dsimp only at o1 o2 s1 s2;have ebv:bV (⟨lb,tb,wb,hb⟩:Bx)=.tup [fV lb,fV tb,fV wb,fV hb]:=rfl;have e0:=eQ s2 s1 (by omega) (by omega);have e1:=gk (a:=cG ws i) (b:=wt ws nums) (by omega) (H.mw.mono (by omega));have e2:=dM s1 s2 (by omega);have e3:=dM (s1.mul s2) z1 (by omega);have e6:=yR (H.inr i hi).1 (H.inr i hi).2;obtain⟨sa,la⟩:=mU H.inr (by omega:nums.length<=1000);have c1:((nums.map (cG ws)).map Val.int).length<=16777216:=by rw[u_,u_];omega
 have itl:∀xs:List Val,(Val.lst xs).items=some xs:=λ_=>rfl;have id:=Ha (q:=(cG ws i:Rat)/(wt ws nums:Rat)) o1 o2;have et:thn ws ⟨lb,tb,wb,hb⟩ i nums=(if wb<hb then hb/wb else wb/hb)*((cG ws i:Rat)/(wt ws nums:Rat)):=rfl;rw[et,<- id,ebv];unfold wt at z1 e1 e3 ⊢;generalize hsum:(nums.map (cG ws)).sum=W at *;generalize ((cG ws i:Rat)/(W:Rat))=q at *;unfold gB;rw[bR];unfold oE;unfold liV;by_cases a:hb<wb
 .rw[J_ a] at e0;have e4:=dM s2 s2 (by omega);have p0:0<hb*hb:=Rat.mul_pos o2 o2;have e5:=iL ((s1.mul s2).mul z1) (s2.mul s2) p0 (by omega);rw[if_pos a];simp![bz,bB,bA,bq,aN,aH,aW,aD,aF,aK,aS,aa,ao,bf,aA,ay,ag,av,ar,aU,aM,aE,bu,bp,a8,aV,bc,aC,bt,bo,bj,ba,aB,aG,aj,ak,bg,aT,aZ,aq,aP,aO,aJ,ax,aw,aY,az,aX,aR,aQ,af,bh,ai,bw,itl,c8,la,c1,hsum,e0,e6,e1,e2,e3,e4,e5]
 .rw[I_ a] at e0;have e4:=dM s1 s1 (by omega);have p0:0<wb*wb:=Rat.mul_pos o1 o1;have e5:=iL ((s1.mul s2).mul z1) (s1.mul s1) p0 (by omega);rw[if_neg a];simp![bz,bB,bA,bq,aN,aH,aW,aD,aF,aK,aS,aa,ao,bf,aA,ay,ag,av,ar,aU,aM,aE,bu,bp,a8,aV,bc,aC,bt,bo,bj,ba,aB,aG,aj,ak,bg,aT,aZ,aq,aP,aO,aJ,ax,aw,aY,az,aX,aR,aQ,af,bh,ai,bw,itl,c8,la,c1,hsum,e0,e6,e1,e2,e3,e4,e5]
def eO(k:Nat)(x:Val)(xs:List Val):fK k (x::xs)=(wfV k x&&fK k xs):=by rw[fu,fu,Pm]
def kz(k:Nat)(xs:List Val):wfV (k+1) (.tup xs)=fK k xs:=by simp [wfV]
def lT(k:Nat)(xs:List Val):wfV (k+1) (.lst xs)=fK k xs:=by simp [wfV]
def pV(k:Nat):wfV k (.str "shape")=true/\wfV k (.str "thin")=true/\wfV k (.str "cases")=true:=by refine⟨?_,?_,?_⟩ <;> cases k <;> (simp only[wfV];decide +kernel)
def jY(k:Nat)(i:Int):wfV k (.int i)=true:=by cases k <;> simp [wfV]
theorem Bk{kind:Str}:∀{k:Nat}{nums:List Int}{v:Val},Pap kind k nums v->∀j,wfV (3*k+j) v=true
 |0,_,_,h,_=>h.elim
 |
  k+1,nums,v,h,j=>by
  have e:3*(k+1)+j=(3*k+j)+1+1+1:=by omega
  rw[e];rcases h with ⟨_,rfl⟩ |⟨_,i,_,rfl⟩ |⟨_,g,rfl,hg⟩
  .rw[kz,eO,(pV _).1];rfl
  .rw[kz,eO,eO,(pV _).2.1,jY];rfl
  .rw[kz,eO,eO,(pV _).2.2,kz,fu (3*k+j+1),List.all_map];have:((bM kind nums).all ((wfV (3*k+j+1)) ∘ λc=>rwV (g c)))=true:=by rw[L_];intro c hc;show wfV (3*k+j+1) (.tup [.int (if (g c).1 then 1 else 0),(g c).2])=true;rw[kz,eO,eO,jY,Bk (hg c hc) j];rfl
   rw[this];rfl
theorem oX(f:α->Val):∀l:List α,(∀a∈l,L3.flatV (f a)=true)->flatVs (l.map f)=true
 | [],_=>dC
 |a::l,h=>by rw[A_,cJ,h a (C_ ..),oX f l λx hx=>h x (w_ _ hx)];rfl
theorem zJ{kind:Str}:∀{k:Nat}{nums:List Int}{v:Val},Pap kind k nums v->L3.flatV v=true
 |0,_,_,h=>h.elim
 |
  k+1,nums,v,h=>by
  rcases h with ⟨_,rfl⟩ |⟨_,i,_,rfl⟩ |⟨_,g,rfl,hg⟩
  .simp only[fb,cJ,dC,iS,QT]
  .simp only[fb,cJ,dC,iS,iU,QT]
  .rw[fb,cJ,cJ,fb,oX _ _ λc hc=>by show L3.flatV (.tup [.int (if (g c).1 then 1 else 0),(g c).2])=true;simp only[fb,cJ,dC,iU,zJ (hg c hc),QT]];simp only[iS,dC,QT]
def Fx{x:Val}{xs:List Val}(h:wfV 60 (.lst (x::xs))=true):dg (.lst (x::xs)) (.lst [])=some false:=by rw[yL h (by rw[lT,fu];rfl)];simp [vq,vqs]
def pop0(x:Val)(xs:List Val):pW.G (.lst (x::xs)) [.int 0]=some (.lst xs,x):=by
 show l9 (.lst (x::xs)) [.int 0]=_;unfold l9;dsimp only;rw[if_pos (by decide)];have:seqIndex? 0 (x::xs).length=some 0:=by unfold seqIndex?;rw[OO];simp;try omega
 rw[this];rfl
def qh(i:Int):(cD df).G [.int i,.ty "int"]=.val (.bl true):=rfl
def qP(i:Int):(cD df).G [.int i,.ty "bool"]=.val (.bl false):=rfl
def Ex{s:PFx [false,false,false,false,false,false]}{ws nums l:List Int}{b:Bx}{n m:Nat}{way:Str}{kv z p:Val}{rest:List Val}{r t:Bool}{s5 s11 s12:Sl}(H:Ok51 ws nums b n m)(hw:∀w∈ws,1<=w)(hc:CutOk nums (way,l,rst nums l))(hr:wfV 60 (.lst (rwV (r,p)::rest))=true)(e:s.G [bV (iZ ws b (way,l,rst nums l) r),liV (iY (way,l,rst nums l) r),liV ws,kv,z,p]=.ok (.val (.bl t)) [])(h11:s11.pl=true)(h12:s12.pl=true):
 (jN s).G [.sh (bV b),.sh (liV nums),.sh (liV ws),.sh kv,.sh z,s5,.ow (.lst (rwV (r,p)::rest)),.sh (liV l),.sh (liV (rst nums l)),.sh (.lst [.int (wt ws l),.int (wt ws (rst nums l))]),.sh (.str way),s11,s12]=if t=true then .nx [.sh (bV b),.sh (liV nums),.sh (liV ws),.sh kv,.sh z,s5,.ow (.lst rest),.sh (liV l),.sh (liV (rst nums l)),.sh (.lst [.int (wt ws l),.int (wt ws (rst nums l))]),.sh (.str way),.sh (.int (if r then 1 else 0)),.sh p] else .rt (.val (.bl false)) [.sh (bV b),.sh (liV nums),.sh (liV ws),.sh kv,.sh z,s5,.ow (.lst rest),.sh (liV l),.sh (liV (rst nums l)),.sh (.lst [.int (wt ws l),.int (wt ws (rst nums l))]),.sh (.str way),.sh (.int (if r then 1 else 0)),.sh p]:=by
 have S:=H.cut hw hc;have nm:=H.nm;have cu:=oZ H.ok H.sz hc.way S.w1 S.w2 S.sm (by omega);dsimp only at cu;unfold iZ iY at e;dsimp only at e;have er:=Fx hr;have ew:rwV (r,p)=.tup [.int (if r then 1 else 0),p]:=rfl;rw[ew] at er ⊢;have po:=pop0 (.tup [.int (if r then 1 else 0),p]) rest;generalize dP b way (wt ws l) (wt ws (rst nums l))=b1 at *;generalize d6 b way (wt ws l) (wt ws (rst nums l))=b2 at *;generalize wt ws l=u1 at *;generalize wt ws (rst nums l)=u2 at *;generalize liV ws=xw at *;generalize liV nums=xn at *;unfold jN;cases r with
 |false=>rw[if_neg z_,if_neg z_] at e;rw[if_neg z_] at er po ⊢;generalize liV (rst nums l)=x2 at *;generalize liV l=x1 at *;generalize bV b1=y1 at *;generalize bV b2=y2 at *;cases t <;> simp![bz,bB,bA,bq,aN,aH,aW,aD,aF,aK,aS,aa,ao,bf,aA,ay,ag,av,ar,aU,aM,aE,bu,bp,a8,aV,bc,aC,bt,bo,bj,ba,aB,aG,aj,ak,bg,aT,aZ,aq,aP,aO,aJ,ax,aw,aY,az,aX,aR,aQ,af,bh,ai,bw,er,eV,po,h11,h12,qh,qP,cu,e]
 |true=>rw[if_pos rfl,if_pos rfl] at e;rw[if_pos rfl] at er po ⊢;generalize liV (rst nums l)=x2 at *;generalize liV l=x1 at *;generalize bV b1=y1 at *;generalize bV b2=y2 at *;cases t <;> simp![bz,bB,bA,bq,aN,aH,aW,aD,aF,aK,aS,aa,ao,bf,aA,ay,ag,av,ar,aU,aM,aE,bu,bp,a8,aV,bc,aC,bt,bo,bj,ba,aB,aG,aj,ak,bg,aT,aZ,aq,aP,aO,aJ,ax,aw,aY,az,aX,aR,aQ,af,bh,ai,bw,er,eV,po,h11,h12,qh,qP,cu,e]
def xu{l:List Val}(h:∀x∈l,wfV 59 x=true):wfV 60 (.lst l)=true:=by rw[lT,fu,L_];exact h
theorem sA{s:PFx [false,false,false,false,false,false]}{ws nums:List Int}{b:Bx}{n m:Nat}{kv z:Val}{s5:Sl}(H:Ok51 ws nums b n m)(hw:∀w∈ws,1<=w)(g:Str×List Int×List Int->Bool×Val)(t:Str×List Int×List Int->Bool):∀(L:List (List Int)),(∀l∈L,Lot nums l)->(∀c∈L.flatMap (cQ nums),wfV 59 (rwV (g c))=true)->(∀c∈L.flatMap (cQ nums),s.G [bV (iZ ws b c (g c).1),liV (iY c (g c).1),liV ws,kv,z,(g c).2]=.ok (.val (.bl (t c))) [])->∀s7 s8 s9 s10 s11 s12:Sl,(s7.pl=true/\s8.pl=true/\s9.pl=true/\s10.pl=true/\s11.pl=true/\s12.pl=true)->((L.flatMap (cQ nums)).all t=true/\∃t7 t8 t9 t10 t11 t12,dU (gtN 7).G (gj s).G (L.map liV) [.sh (bV b),.sh (liV nums),.sh (liV ws),.sh kv,.sh z,s5,.ow (.lst ((L.flatMap (cQ nums)).map λc=>rwV (g c))),s7,s8,s9,s10,s11,s12]=.nx [.sh (bV b),.sh (liV nums),.sh (liV ws),.sh kv,.sh z,s5,.ow (.lst []),t7,t8,t9,t10,t11,t12])\/((L.flatMap (cQ nums)).all t=false/\∃t6 t7 t8 t9 t10 t11 t12,dU (gtN 7).G (gj s).G (L.map liV) [.sh (bV b),.sh (liV nums),.sh (liV ws),.sh kv,.sh z,s5,.ow (.lst ((L.flatMap (cQ nums)).map λc=>rwV (g c))),s7,s8,s9,s10,s11,s12]=.rt (.val (.bl false)) [.sh (bV b),.sh (liV nums),.sh (liV ws),.sh kv,.sh z,s5,t6,t7,t8,t9,t10,t11,t12])
 | [],_,_,_,s7,s8,s9,s10,s11,s12,_=>.inl ⟨rfl,s7,s8,s9,s10,s11,s12,rfl⟩
 |
  l::L,hL,hf,he,s7,s8,s9,s10,s11,s12,⟨g7,g8,g9,g10,g11,g12⟩=>by
  have ln:=H.len;have lo:=hL l (C_ ..);have r2:=j5 lo H.nd;have r1':Inr ws l:=λi hi=>H.inr i (lo.sub.subset hi);have r2':Inr ws (rst nums l):=λi hi=>H.inr i (r2.sub.subset hi);have q1:=lo.lt;have q2:=r2.lt;obtain⟨sa,la⟩:=vH nums l (by omega);obtain⟨sb,lb⟩:=mU r1' (by omega);obtain⟨sc,lc⟩:=mU r2' (by omega);have c0:((rst nums l).map Val.int).length<=16777216:=by rw[u_];omega
  have c1:((l.map (cG ws)).map Val.int).length<=16777216:=by rw[u_,u_];omega
  have c2:(((rst nums l).map (cG ws)).map Val.int).length<=16777216:=by rw[u_,u_];omega
  have ef:(l::L).flatMap (cQ nums)=((("across" : Str),l,rst nums l):Str×List Int×List Int)::((("down" : Str),l,rst nums l):Str×List Int×List Int)::L.flatMap (cQ nums):=rfl;rw[ef] at hf he ⊢;have ih:=sA (s5:=s5) H hw g t L (λx hx=>hL x (w_ _ hx)) (λc hc=>hf c (w_ _ (w_ _ hc))) (λc hc=>he c (w_ _ (w_ _ hc)));rw[A_,A_,A_,Pm,Pm];have w2:wfV 60 (.lst (rwV (g ("down",l,rst nums l))::(L.flatMap (cQ nums)).map λc=>rwV (g c)))=true:=xu λx hx=>by
   rcases OP.mp hx with rfl |hx
   .exact hf _ (w_ _ (C_ ..))
   .obtain⟨c,hc,rfl⟩:=Pa.mp hx;exact hf c (w_ _ (w_ _ hc))
  have w1:wfV 60 (.lst (rwV (g ("across",l,rst nums l))::rwV (g ("down",l,rst nums l))::(L.flatMap (cQ nums)).map λc=>rwV (g c)))=true:=xu λx hx=>by
   rcases OP.mp hx with rfl |hx
   .exact hf _ (C_ ..)
   .rw[lT,fu,L_] at w2;exact w2 x hx
  have b1:=Ex (way:="across") (r:=(g ("across",l,rst nums l)).1) (p:=(g ("across",l,rst nums l)).2) (t:=t ("across",l,rst nums l)) (s5:=s5) (s11:=s11) (s12:=s12) H hw ⟨.inl rfl,lo,r2,rfl⟩ w1 (he _ (C_ ..)) g11 g12;have b2:=Ex (way:="down") (r:=(g ("down",l,rst nums l)).1) (p:=(g ("down",l,rst nums l)).2) (t:=t ("down",l,rst nums l)) (s5:=s5) (s11:=.sh (.int (if (g ("across",l,rst nums l)).1 then 1 else 0))) (s12:=.sh (g ("across",l,rst nums l)).2) H hw ⟨.inr rfl,lo,r2,rfl⟩ w2 (he _ (w_ _ (C_ ..))) rfl rfl;clear w1 w2;have e1:((g ("across",l,rst nums l)).1,(g ("across",l,rst nums l)).2)=g ("across",l,rst nums l):=rfl;have e2:((g ("down",l,rst nums l)).1,(g ("down",l,rst nums l)).2)=g ("down",l,rst nums l):=rfl;rw[e1] at b1;rw[e2] at b2;generalize rwV (g ("across",l,rst nums l))=ra at *;generalize rwV (g ("down",l,rst nums l))=rd at *;generalize (Val.int (if (g ("across",l,rst nums l)).1 then 1 else 0))=ia at *;generalize (Val.int (if (g ("down",l,rst nums l)).1 then 1 else 0))=idn at *;generalize (g ("across",l,rst nums l)).2=pa at *;generalize (g ("down",l,rst nums l)).2=pd at *;generalize ((L.flatMap (cQ nums)).map λc=>rwV (g c))=rest at *;have eg:(gtN 7).G (liV l) [.sh (bV b),.sh (liV nums),.sh (liV ws),.sh kv,.sh z,s5,.ow (.lst (ra::rd::rest)),s7,s8,s9,s10,s11,s12]=some [.sh (bV b),.sh (liV nums),.sh (liV ws),.sh kv,.sh z,s5,.ow (.lst (ra::rd::rest)),.sh (liV l),s8,s9,s10,s11,s12]:=by simp![bz,bB,bA,bq,aN,aH,aW,aD,aF,aK,aS,aa,ao,bf,aA,ay,ag,av,ar,aU,aM,aE,bu,bp,a8,aV,bc,aC,bt,bo,bj,ba,aB,aG,aj,ak,bg,aT,aZ,aq,aP,aO,aJ,ax,aw,aY,az,aX,aR,aQ,af,bh,ai,bw,g7]
  rw[bZ,eg];dsimp only;generalize t ("across",l,rst nums l)=ta at *;generalize t ("down",l,rst nums l)=td at *;have eb:(gj s).G [.sh (bV b),.sh (liV nums),.sh (liV ws),.sh kv,.sh z,s5,.ow (.lst (ra::rd::rest)),.sh (liV l),s8,s9,s10,s11,s12]=if ta=true then (if td=true then .nx [.sh (bV b),.sh (liV nums),.sh (liV ws),.sh kv,.sh z,s5,.ow (.lst rest),.sh (liV l),.sh (liV (rst nums l)),.sh (.lst [.int (wt ws l),.int (wt ws (rst nums l))]),.sh (.str "down"),.sh idn,.sh pd] else .rt (.val (.bl false)) [.sh (bV b),.sh (liV nums),.sh (liV ws),.sh kv,.sh z,s5,.ow (.lst rest),.sh (liV l),.sh (liV (rst nums l)),.sh (.lst [.int (wt ws l),.int (wt ws (rst nums l))]),.sh (.str "down"),.sh idn,.sh pd]) else .rt (.val (.bl false)) [.sh (bV b),.sh (liV nums),.sh (liV ws),.sh kv,.sh z,s5,.ow (.lst (rd::rest)),.sh (liV l),.sh (liV (rst nums l)),.sh (.lst [.int (wt ws l),.int (wt ws (rst nums l))]),.sh (.str "across"),.sh ia,.sh pa]:=by clear ih;unfold gj;unfold wt at b1 b2 ⊢;unfold liV at la b1 b2 ⊢;cases ta <;> cases td <;> simp![bz,bB,bA,bq,aN,aH,aW,aD,aF,aK,aS,aa,ao,bf,aA,ay,ag,av,ar,aU,aM,aE,bu,bp,a8,aV,bc,aC,bt,bo,bj,ba,aB,aG,aj,ak,bg,aT,aZ,aq,aP,aO,aJ,ax,aw,aY,az,aX,aR,aQ,af,bh,ai,bw,bZ,g8,g9,g10,c8,la,lb,lc,c0,c1,c2,b1,b2]
  rw[eb];cases ta with
  |false=>rw[if_neg z_];exact .inr ⟨rfl,_,_,_,_,_,_,_,rfl⟩
  |
   true=>
   rw[if_pos rfl];cases td with
   |false=>rw[if_neg z_];exact .inr ⟨rfl,_,_,_,_,_,_,_,rfl⟩
   |true=>rw[if_pos rfl];exact ih (.sh (liV l)) (.sh (liV (rst nums l))) (.sh (.lst [.int (wt ws l),.int (wt ws (rst nums l))])) (.sh (.str "down")) (.sh idn) (.sh pd) ⟨rfl,rfl,rfl,rfl,rfl,rfl⟩
def mX(k:Nat)(is:List Int):wfV (k+1) (.lst (is.map .int))=true:=by rw[lT,fu,L_];intro v hv;obtain⟨i,_,rfl⟩:=Pa.mp hv;exact jY k i
theorem sI(i:Int):∀is:List Int,0<=Spec.countIn (de (.int i)) (is.map λp=>de (.int p))/\(i∈is->0<Spec.countIn (de (.int i)) (is.map λp=>de (.int p)))
 | []=>⟨Int.le_refl 0,λz=>nomatch z⟩
 |
  p::is=>by
  obtain⟨h1,h2⟩:=sI i is;have e:Spec.countIn (de (.int i)) ((p::is).map λp=>de (.int p))=(if Spec.same (de (.int p)) (de (.int i))=true then 1 else 0)+Spec.countIn (de (.int i)) (is.map λp=>de (.int p)):=rfl;rw[e];refine⟨by split <;> omega,λz=>?_⟩;rcases OP.mp z with rfl |z
  .have:Spec.same (de (.int i)) (de (.int i))=true:=by show (i==i)=true;rw[Qz]
   rw[if_pos this];omega
  .have:=h2 z
   split <;> omega
def my{i:Int}{is:List Int}(h:i∈is):yD.G (.int i) (.lst (is.map .int))=.val (.bl false):=by
 show tU true (.int i) (.lst (is.map .int))=_;obtain⟨h1,h2,h3⟩:=kB 60 (.int i) (jY 60 i);obtain⟨i1,i2,i3⟩:=kB 60 (.lst (is.map .int)) (mX 59 is);have e:de (.lst (is.map .int))=.list (is.map λp=>de (.int p)):=by show PyData.list (fo (is.map .int))=_;rw[rZ]
 have c:=(sI i is).2 h;have hv:tH (.int i) (.lst (is.map .int))=some true:=by unfold tH;rw[h1 64 (by omega),i1 64 (by omega)];rw[e] at i2 i3 ⊢;dsimp only;rw[if_pos ⟨ng h2 (by omega),ng i2 (by omega),by rw[List.all_map,L_];intro p _;rfl⟩];congr 1;exact J_ (by omega)
 unfold tU;rw[hv];rfl
def N5:dg (.str "thin") (.str "shape")=some false:=by rw[L3.eq_str (by decide) (by decide)];exact O4 some (by decide)
def DX:dg (.str "cases") (.str "shape")=some false:=by rw[L3.eq_str (by decide) (by decide)];exact O4 some (by decide)
def A5:dg (.lst []) (.lst [])=some true:=by
 have w:wfV 60 (.lst [])=true:=by rw[lT,fu];rfl
 rw[yL w w,qI 60 _ w]
def wJ{kind:Str}{ws:List Int}{bd:Rat}{k:Nat}{b:Bx}{nums:List Int}{v:Val}{t:Bool}(h:Brs kind ws bd k b nums v t):Pap kind k nums v:=by
 induction h with
 |sh h1=>exact .inl ⟨h1,rfl⟩
 |th h1 hi=>exact .inr (.inl ⟨h1,_,hi,rfl⟩)
 |cs g t h1 hg ih=>exact .inr (.inr ⟨h1,g,rfl,ih⟩)
def nA{kind:Str}{ws:List Int}{m β:Nat}{bd:Rat}(hk:kind="order" \/ kind="any")(hw:∀w∈ws,1<=w)(zb:Sz β bd)(hβ:β<=8000){k:Nat}{b:Bx}{nums:List Int}{v:Val}{t:Bool}(h:Brs kind ws bd k b nums v t):∀n,k<=7->Ok51 ws nums b n m->(dD k).G [bV b,liV nums,liV ws,.str kind,fV bd,v]=.ok (.val (.bl t)) []:=by
 induction h with
 |
  @sh k b nums h1=>
  intro n k7 H;have nm:=H.nm;have e1:=lR H.ok H.sz (by omega);have e2:=eQ (j0 H.ok H.sz) zb (by omega) (by omega);have lq:((nums.map Val.int).length:Nat)=nums.length:=u_ ..;have hd:(((nums.length:Nat):Int)==1)=true:=by rw[h1];rfl
  show (PFx.of [false,false,false,false,false,false] 13 (eK (dD k))).G _=_;rw[gY];unfold eK;unfold liV at *;generalize decide (fI b<bd)=d at *;simp![bz,bB,bA,bq,aN,aH,aW,aD,aF,aK,aS,aa,ao,bf,aA,ay,ag,av,ar,aU,aM,aE,bu,bp,a8,aV,bc,aC,bt,bo,bj,ba,aB,aG,aj,ak,bg,aT,aZ,aq,aP,aO,aJ,ax,aw,aY,az,aX,aR,aQ,af,bh,ai,bw,eV,Eg,lq,hd,e1,e2]
 |@th k b nums i h1 hi=>intro n k7 H;have nm:=H.nm;have e1:=wa H hw hi;have e2:=eQ (uq H hw hi).2 zb (by omega) (by omega);have ki:=my hi;show (PFx.of [false,false,false,false,false,false] 13 (eK (dD k))).G _=_;rw[gY];unfold eK;unfold liV at *;generalize decide (thn ws b i nums<bd)=d at *;simp![bz,bB,bA,bq,aN,aH,aW,aD,aF,aK,aS,aa,ao,bf,aA,ay,ag,av,ar,aU,aM,aE,bu,bp,a8,aV,bc,aC,bt,bo,bj,ba,aB,aG,aj,ak,bg,aT,aZ,aq,aP,aO,aJ,ax,aw,aY,az,aX,aR,aQ,af,bh,ai,bw,eV,N5,D3,qh,qP,ki,e1,e2]
 |
  @cs k b nums g t h1 hg ih=>
  intro n k7 H;have lq:((nums.map Val.int).length:Nat)=nums.length:=u_ ..;have hd:(((nums.length:Nat):Int)==1)=false:=by rw[OS];omega
  have lf:=lI hk H.ne H.len;have lb:=sA (s:=dD k) (kv:=.str kind) (z:=fV bd) (s5:=.sh (.tup [.str "cases",.tup ((bM kind nums).map λc=>rwV (g c))])) H hw g t (cS kind nums) (λl hl=>n8 hl) (λc hc=>by
   have e:58=3*k+(58-3*k):=by omega
   show wfV (58+1) (.tup [.int (if (g c).1 then 1 else 0),(g c).2])=true;rw[kz,eO,eO,jY,e,Bk (wJ (hg c hc)) (58-3*k)];rfl) (λc hc=>by
   have cc:=i9 H.nd hc;have S:=H.cut hw cc;refine ih c hc (n+(n+m)+1) (by omega) ?_;unfold iZ iY;split
   .exact S.o2
   .exact S.o1) .no .no .no .no .no .no ⟨rfl,rfl,rfl,rfl,rfl,rfl⟩
  rw[show (cS kind nums).flatMap (cQ nums)=bM kind nums from rfl] at lb;show (PFx.of [false,false,false,false,false,false] 13 (eK (dD k))).G _=_;rw[gY];unfold eK;unfold liV at *;clear hg ih;have lr:((bM kind nums).map λc=>rwV (g c)).length<=16777216:=by
   have:=uB (kind:=kind) H.len
   rw[u_];omega
  generalize ((bM kind nums).map λc=>rwV (g c))=rv at *;rcases lb with ⟨ha,t7,t8,t9,t10,t11,t12,fr⟩ |⟨ha,t6,t7,t8,t9,t10,t11,t12,fr⟩
  .rw[ha];simp![bz,bB,bA,bq,aN,aH,aW,aD,aF,aK,aS,aa,ao,bf,aA,ay,ag,av,ar,aU,aM,aE,bu,bp,a8,aV,bc,aC,bt,bo,bj,ba,aB,aG,aj,ak,bg,aT,aZ,aq,aP,aO,aJ,ax,aw,aY,az,aX,aR,aQ,af,bh,ai,bw,eV,DX,yo,yS,lq,hd,lf,lr,fr,A5]
  .rw[ha];simp![bz,bB,bA,bq,aN,aH,aW,aD,aF,aK,aS,aa,ao,bf,aA,ay,ag,av,ar,aU,aM,aE,bu,bp,a8,aV,bc,aC,bt,bo,bj,ba,aB,aG,aj,ak,bg,aT,aZ,aq,aP,aO,aJ,ax,aw,aY,az,aX,aR,aQ,af,bh,ai,bw,eV,DX,yo,yS,lq,hd,lf,lr,fr,A5]
def oV(o:Option Rat):Val:=match o with
 |none=>.non
 |some q=>fV q
def uK(x y:Val):lQ.G (.lst [x,y]) []=some (.lst [y,x],.non):=rfl
theorem nS{kind:Str}{ws:List Int}{m:Nat}(hk:kind="order" \/ kind="any")(hw:∀w∈ws,1<=w):∀(k:Nat) (nums:List Int) (b:Bx) (n:Nat),Ok51 ws nums b n m->nums.length<=k->(d8 k).G [bV b,liV nums,liV ws,.str kind]=.ok (.val (fV (bst kind ws k b nums))) []/\Sz 4000 (bst kind ws k b nums)
 |0,nums,b,n,H,hl=>absurd (OY.mpr H.ne) (by omega)
 |
  k+1,nums,b,n,H,hl=>by
  have nm:=H.nm;show (PFx.of [false,false,false,false] 12 (gi (d8 k))).G [bV b,liV nums,liV ws,.str kind]=_/\_;by_cases h1:nums.length=1
  .have eb:bst kind ws (k+1) b nums=fI b:=by unfold bst;rw[if_pos h1]
   rw[eb]
   match nums,h1 with
   |[i],_=>have sh:=lR H.ok H.sz (by omega);refine⟨?_,(j0 H.ok H.sz).mono (by omega)⟩;rw[gY];unfold gi;have it:(liV [i])=.lst [.int i]:=rfl;rw[it];simp![bz,bB,bA,bq,aN,aH,aW,aD,aF,aK,aS,aa,ao,bf,aA,ay,ag,av,ar,aU,aM,aE,bu,bp,a8,aV,bc,aC,bt,bo,bj,ba,aB,aG,aj,ak,bg,aT,aZ,aq,aP,aO,aJ,ax,aw,aY,az,aX,aR,aQ,af,bh,ai,bw,sh]
  .have hl2:2<=nums.length:=by have:=OY.mpr H.ne;omega
   have hne:((((nums.map Val.int).length:Nat):Int)==1)=false:=by rw[OS,u_];omega
   have fe:=lI hk H.ne H.len;obtain⟨q,eq⟩:=pZ (λc=>fj (bst kind ws k) ws b c) (qX (kind:=kind) hl2);have eb:bst kind ws (k+1) b nums=q:=by unfold bst;rw[if_neg h1,eq];rfl
   have c_:=H.len;have turn:∀(way:Str) (l:List Int) (o:Option Rat) (s9 s10 s11:Sl),(way="across" \/ way="down")->Lot nums l->(∀q,o=some q->Sz 4000 q)->s9.pl=true->s10.pl=true->s11.pl=true->∃t9 t10 t11,t9.pl=true/\t10.pl=true/\t11.pl=true/\(∀q,cR o (fj (bst kind ws k) ws b (way,l,rst nums l))=some q->Sz 4000 q)/\(gO (d8 k)).G [.sh (bV b),.sh (liV nums),.sh (liV ws),.sh (.str kind),.sh (oV o),.sh (liV l),.sh (liV (rst nums l)),.sh (.lst [.int (wt ws l),.int (wt ws (rst nums l))]),.sh (.str way),s9,s10,s11]=.nx [.sh (bV b),.sh (liV nums),.sh (liV ws),.sh (.str kind),.sh (oV (cR o (fj (bst kind ws k) ws b (way,l,rst nums l)))),.sh (liV l),.sh (liV (rst nums l)),.sh (.lst [.int (wt ws l),.int (wt ws (rst nums l))]),.sh (.str way),t9,t10,t11]:=by
    intro way l o s9 s10 s11 hway hlot ho g9 g10 g11;have co:CutOk nums (way,l,rst nums l):=⟨hway,hlot,j5 hlot H.nd,rfl⟩;have su:=H.cut hw co;have q1:=co.one.lt;have q2:=co.two.lt;have cu:=oZ H.ok H.sz hway su.w1 su.w2 su.sm (by omega);obtain⟨e1,z1⟩:=nS hk hw k l _ _ su.o1 (by have:l.length<nums.length:=q1;omega);obtain⟨e2,z2⟩:=nS hk hw k (rst nums l) _ _ su.o2 (by have:(rst nums l).length<nums.length:=q2;omega);have zz:Sz 4000 (fj (bst kind ws k) ws b (way,l,rst nums l)):=D9 z1 z2;have l1:=eQ z1 z2 (by omega) (by omega);dsimp only at cu e1 e2 z1 z2 l1;have t_:fj (bst kind ws k) ws b (way,l,rst nums l)=mx (bst kind ws k (dP b way (wt ws l) (wt ws (rst nums l))) l) (bst kind ws k (d6 b way (wt ws l) (wt ws (rst nums l))) (rst nums l)):=rfl;rw[t_] at zz ⊢;generalize dP b way (wt ws l) (wt ws (rst nums l))=b1 at *;generalize d6 b way (wt ws l) (wt ws (rst nums l))=b2 at *;generalize bst kind ws k b1 l=x1 at *;generalize bst kind ws k b2 (rst nums l)=x2 at *;have hms:∀q,cR o (mx x1 x2)=some q->Sz 4000 q:=by
     intro q e;cases o with
     |none=>cases e;exact zz
     |
      some p=>
      have e':(if mx x1 x2<p then some (mx x1 x2) else some p)=some q:=e;split at e'
      .cases e';exact zz
      .cases e';exact ho _ rfl
    by_cases hx:x1<x2
    .have em:mx x1 x2=x2:=if_pos hx;rw[em] at zz hms ⊢;rw[J_ hx] at l1;refine⟨.sh (bV b1),.sh (bV b2),.ow (.lst [fV x2,fV x1]),rfl,rfl,rfl,hms,?_⟩;unfold gO;cases o with
     |none=>simp![bz,bB,bA,bq,aN,aH,aW,aD,aF,aK,aS,aa,ao,bf,aA,ay,ag,av,ar,aU,aM,aE,bu,bp,a8,aV,bc,aC,bt,bo,bj,ba,aB,aG,aj,ak,bg,aT,aZ,aq,aP,aO,aJ,ax,aw,aY,az,aX,aR,aQ,af,bh,ai,bw,cu,e1,e2,l1,uK,oV,cR,g9,g10,g11]
     |
      some p=>
      have l2:=eQ z2 (ho p rfl) (by omega) (by omega);have ep:fV p=.tup [.int p.num,.int (p.den:Nat)]:=rfl;rw[ep] at l2;by_cases hy:x2<p
      .have ms:cR (some p) x2=some x2:=if_pos hy;rw[J_ hy] at l2;rw[ms];simp![bz,bB,bA,bq,aN,aH,aW,aD,aF,aK,aS,aa,ao,bf,aA,ay,ag,av,ar,aU,aM,aE,bu,bp,a8,aV,bc,aC,bt,bo,bj,ba,aB,aG,aj,ak,bg,aT,aZ,aq,aP,aO,aJ,ax,aw,aY,az,aX,aR,aQ,af,bh,ai,bw,cu,e1,e2,l1,l2,uK,oV,ep,g9,g10,g11]
      .have ms:cR (some p) x2=some p:=if_neg hy;rw[I_ hy] at l2;rw[ms];simp![bz,bB,bA,bq,aN,aH,aW,aD,aF,aK,aS,aa,ao,bf,aA,ay,ag,av,ar,aU,aM,aE,bu,bp,a8,aV,bc,aC,bt,bo,bj,ba,aB,aG,aj,ak,bg,aT,aZ,aq,aP,aO,aJ,ax,aw,aY,az,aX,aR,aQ,af,bh,ai,bw,cu,e1,e2,l1,l2,uK,oV,ep,g9,g10,g11]
    .have em:mx x1 x2=x1:=if_neg hx;rw[em] at zz hms ⊢;rw[I_ hx] at l1;refine⟨.sh (bV b1),.sh (bV b2),.ow (.lst [fV x1,fV x2]),rfl,rfl,rfl,hms,?_⟩;unfold gO;cases o with
     |none=>simp![bz,bB,bA,bq,aN,aH,aW,aD,aF,aK,aS,aa,ao,bf,aA,ay,ag,av,ar,aU,aM,aE,bu,bp,a8,aV,bc,aC,bt,bo,bj,ba,aB,aG,aj,ak,bg,aT,aZ,aq,aP,aO,aJ,ax,aw,aY,az,aX,aR,aQ,af,bh,ai,bw,cu,e1,e2,l1,oV,cR,g9,g10,g11]
     |
      some p=>
      have l2:=eQ z1 (ho p rfl) (by omega) (by omega);have ep:fV p=.tup [.int p.num,.int (p.den:Nat)]:=rfl;rw[ep] at l2;by_cases hy:x1<p
      .have ms:cR (some p) x1=some x1:=if_pos hy;rw[J_ hy] at l2;rw[ms];simp![bz,bB,bA,bq,aN,aH,aW,aD,aF,aK,aS,aa,ao,bf,aA,ay,ag,av,ar,aU,aM,aE,bu,bp,a8,aV,bc,aC,bt,bo,bj,ba,aB,aG,aj,ak,bg,aT,aZ,aq,aP,aO,aJ,ax,aw,aY,az,aX,aR,aQ,af,bh,ai,bw,cu,e1,e2,l1,l2,oV,ep,g9,g10,g11]
      .have ms:cR (some p) x1=some p:=if_neg hy;rw[I_ hy] at l2;rw[ms];simp![bz,bB,bA,bq,aN,aH,aW,aD,aF,aK,aS,aa,ao,bf,aA,ay,ag,av,ar,aU,aM,aE,bu,bp,a8,aV,bc,aC,bt,bo,bj,ba,aB,aG,aj,ak,bg,aT,aZ,aq,aP,aO,aJ,ax,aw,aY,az,aX,aR,aQ,af,bh,ai,bw,cu,e1,e2,l1,l2,oV,ep,g9,g10,g11]
   obtain⟨e',⟨s5,s6,s7,s8,s9,s10,s11,rfl,_,hso⟩,fr⟩:=lZ (g:=(gtN 5).G) (B:=(jv (d8 k)).G) liV (λo l=>(cQ nums l).foldl (λo c=>cR o (fj (bst kind ws k) ws b c)) o) (λo e=>∃s5 s6 s7 s8 s9 s10 s11,e=[.sh (bV b),.sh (liV nums),.sh (liV ws),.sh (.str kind),.sh (oV o),s5,s6,s7,s8,s9,s10,s11]/\(s5.pl=true/\s6.pl=true/\s7.pl=true/\s8.pl=true/\s9.pl=true/\s10.pl=true/\s11.pl=true)/\∀q,o=some q->Sz 4000 q) (cS kind nums) none [.sh (bV b),.sh (liV nums),.sh (liV ws),.sh (.str kind),.sh .non,.no,.no,.no,.no,.no,.no,.no] ⟨_,_,_,_,_,_,_,rfl,⟨rfl,rfl,rfl,rfl,rfl,rfl,rfl⟩,λq z=>nomatch z⟩ (by
    rintro l hl' o e ⟨s5,s6,s7,s8,s9,s10,s11,rfl,⟨g5,g6,g7,g8,g9,g10,g11⟩,hso⟩;have lo:=n8 hl';have r2:=j5 lo H.nd;have r1':Inr ws l:=λi hi=>H.inr i (lo.sub.subset hi);have r2':Inr ws (rst nums l):=λi hi=>H.inr i (r2.sub.subset hi);have q1:=lo.lt;have q2:=r2.lt;obtain⟨sa,la⟩:=vH nums l (by omega);obtain⟨sb,lb⟩:=mU r1' (by omega);obtain⟨sc,lc⟩:=mU r2' (by omega);obtain⟨t9,t10,t11,k9,k10,k11,hs1,b1⟩:=turn "across" l o s9 s10 s11 (.inl rfl) lo hso g9 g10 g11;obtain⟨u9,u10,u11,m9,m10,m11,hs2,b2⟩:=turn "down" l _ t9 t10 t11 (.inr rfl) lo hs1 k9 k10 k11;have c0:((rst nums l).map Val.int).length<=16777216:=by rw[u_];omega
    have c1:((l.map (cG ws)).map Val.int).length<=16777216:=by rw[u_,u_];omega
    have c2:(((rst nums l).map (cG ws)).map Val.int).length<=16777216:=by rw[u_,u_];omega
    refine⟨[.sh (bV b),.sh (liV nums),.sh (liV ws),.sh (.str kind),.sh (oV o),.sh (liV l),s6,s7,s8,s9,s10,s11],[.sh (bV b),.sh (liV nums),.sh (liV ws),.sh (.str kind),.sh (oV (cR (cR o (fj (bst kind ws k) ws b ("across",l,rst nums l))) (fj (bst kind ws k) ws b ("down",l,rst nums l)))),.sh (liV l),.sh (liV (rst nums l)),.sh (.lst [.int (wt ws l),.int (wt ws (rst nums l))]),.sh (.str "down"),u9,u10,u11],?_,.inl ?_,_,_,_,_,_,_,_,rfl,⟨rfl,rfl,rfl,rfl,m9,m10,m11⟩,hs2⟩
    .simp![bz,bB,bA,bq,aN,aH,aW,aD,aF,aK,aS,aa,ao,bf,aA,ay,ag,av,ar,aU,aM,aE,bu,bp,a8,aV,bc,aC,bt,bo,bj,ba,aB,aG,aj,ak,bg,aT,aZ,aq,aP,aO,aJ,ax,aw,aY,az,aX,aR,aQ,af,bh,ai,bw,g5]
    .unfold jv;generalize hnv:oV o=ov at *;generalize hmv:oV (cR o (fj (bst kind ws k) ws b ("across",l,rst nums l)))=mv at *;unfold wt at b1 b2 ⊢;unfold liV at la b1 b2 ⊢;simp![bz,bB,bA,bq,aN,aH,aW,aD,aF,aK,aS,aa,ao,bf,aA,ay,ag,av,ar,aU,aM,aE,bu,bp,a8,aV,bc,aC,bt,bo,bj,ba,aB,aG,aj,ak,bg,aT,aZ,aq,aP,aO,aJ,ax,aw,aY,az,aX,aR,aQ,af,bh,ai,bw,bZ,g6,g7,g8,c8,la,lb,lc,c0,c1,c2,b1,b2])
   rw[<- List.foldl_flatMap,show (cS kind nums).flatMap (cQ nums)=bM kind nums from rfl,eq] at hso fr;rw[eb];refine⟨?_,hso q rfl⟩;rw[gY];unfold gi;have it:(liV nums)=.lst (nums.map .int):=rfl;rw[it] at fr fe ⊢;simp![bz,bB,bA,bq,aN,aH,aW,aD,aF,aK,aS,aa,ao,bf,aA,ay,ag,av,ar,aU,aM,aE,bu,bp,a8,aV,bc,aC,bt,bo,bj,ba,aB,aG,aj,ak,bg,aT,aZ,aq,aP,aO,aJ,ax,aw,aY,az,aX,aR,aQ,af,bh,ai,bw,hne,fe,fr,oV]
def EN(is:List Int):dg (.lst (is.map .int)) (.lst (is.map .int))=some true:=by rw[yL (mX 59 is) (mX 59 is),qI 60 _ (mX 59 is)]
def bX(n:Nat):List Int:=(List.range n).map λi=>((i:Nat):Int)
def qf(n:Nat):rgV n=(bX n).map Val.int:=by unfold bX rgV;rw[PZ];rfl
def uF{kind:Str}{mo:Int}{ws:List Int}{b:Bx}(hk:kind="order" /\ mo=6\/kind="any" /\ mo=5)(hw:∀w∈ws,1<=w)(h0:ws≠[])(hl:(ws.length:Int)<=mo)(ok:b.Ok):eI.G [bV b,.lst (ws.map .int),.str kind]=.ok (.val .non) []:=by
 have m6:mo<=6:=by rcases hk with ⟨_,rfl⟩ |⟨_,rfl⟩ <;> decide
 have cb:=jl ok;have cw:=zS h0 hw (by omega);have i1:(cD df).G [.str kind,.ty "str"]=.val (.bl true):=rfl;have i2:lkS eu kind=some mo:=by rcases hk with ⟨rfl,rfl⟩ |⟨rfl,rfl⟩ <;> decide +kernel
 have kg:(sX "MOST_THINGS" eu).G (.glb "MOST_THINGS") (.str kind)=.val (.int mo):=JL i2;have lw:((ws.map Val.int).length:Nat)=ws.length:=u_ ..;have hd:decide (mo<((ws.length:Nat):Int))=false:=I_ (by omega);have ko:fP.G [.str kind]=.ok (.val .non) []:=by unfold fP;rw[bR];unfold lY;simp![bz,bB,bA,bq,aN,aH,aW,aD,aF,aK,aS,aa,ao,bf,aA,ay,ag,av,ar,aU,aM,aE,bu,bp,a8,aV,bc,aC,bt,bo,bj,ba,aB,aG,aj,ak,bg,aT,aZ,aq,aP,aO,aJ,ax,aw,aY,az,aX,aR,aQ,af,bh,ai,bw,i1,Ka,i2]
 unfold eI;rw[bR];unfold lN;simp![bz,bB,bA,bq,aN,aH,aW,aD,aF,aK,aS,aa,ao,bf,aA,ay,ag,av,ar,aU,aM,aE,bu,bp,a8,aV,bc,aC,bt,bo,bj,ba,aB,aG,aj,ak,bg,aT,aZ,aq,aP,aO,aJ,ax,aw,aY,az,aX,aR,aQ,af,bh,ai,bw,cb,cw,ko,kg,lw,hd]
def CP{kind:Str}{mo:Int}{ws:List Int}{b:Bx}{n m:Nat}(hk:kind="order" /\ mo=6\/kind="any" /\ mo=5)(hw:∀w∈ws,1<=w)(h0:ws≠[])(hl:(ws.length:Int)<=mo)(H:Ok51 ws (bX ws.length) b n m):∃p,gW.G [bV b,.lst (ws.map .int),.str kind]=.ok (.val p) []/\Brs kind ws (bst kind ws 7 b (bX ws.length)) 7 b (bX ws.length) p true:=by
 have m6:mo<=6:=by rcases hk with ⟨_,rfl⟩ |⟨_,rfl⟩ <;> decide
 have hk':kind="order" \/ kind="any":=hk.imp And.left And.left;have nl:(bX ws.length).length=ws.length:=by unfold bX;rw[u_,Qs]
 obtain⟨t,ls,e,z,_,_,_⟩:=p9 hk' hw 7 (bX ws.length) b n H (by omega);obtain⟨p,hp⟩:=n5 (kind:=kind) (ws:=ws) (bd:=bst kind ws 7 b (bX ws.length)) (k:=7) (b:=b) H.nd H.ne (by omega) QS;have br:=kL hk' hw z (by omega) 7 (bX ws.length) b n H (by omega);rw[hp] at br;refine⟨p,?_,(pq hp).2⟩;have ca:=uF hk hw h0 hl H.ok;have lw:((ws.map Val.int).length:Nat)=ws.length:=u_ ..;have lr:iH.G [.int (ws.length:Nat)]=.new (.lst ((bX ws.length).map Val.int)):=by rw[yt ⟨by omega,by omega⟩,<- qf];rfl
 clear hp;generalize bst kind ws 7 b (bX ws.length)=q at *;unfold liV oP at *;have le:fC.G [bV b,.lst (ws.map .int),.str kind]=.ok (.val (.tup [fV q,t])) []:=by unfold fC;rw[bR];unfold lJ;simp![bz,bB,bA,bq,aN,aH,aW,aD,aF,aK,aS,aa,ao,bf,aA,ay,ag,av,ar,aU,aM,aE,bu,bp,a8,aV,bc,aC,bt,bo,bj,ba,aB,aG,aj,ak,bg,aT,aZ,aq,aP,aO,aJ,ax,aw,aY,az,aX,aR,aQ,af,bh,ai,bw,ca,lw,lr,e]
 unfold gW;rw[bR];unfold ox;simp![bz,bB,bA,bq,aN,aH,aW,aD,aF,aK,aS,aa,ao,bf,aA,ay,ag,av,ar,aU,aM,aE,bu,bp,a8,aV,bc,aC,bt,bo,bj,ba,aB,aG,aj,ak,bg,aT,aZ,aq,aP,aO,aJ,ax,aw,aY,az,aX,aR,aQ,af,bh,ai,bw,le,lw,lr,br,Option.getD_some]
def sF{kind:Str}{mo:Int}{ws:List Int}{b:Bx}{n m β:Nat}{bd:Rat}{p:Val}{t:Bool}(hk:kind="order" /\ mo=6\/kind="any" /\ mo=5)(hw:∀w∈ws,1<=w)(h0:ws≠[])(hl:(ws.length:Int)<=mo)(H:Ok51 ws (bX ws.length) b n m)(zb:Sz β bd)(hβ:β<=8000)(h:Brs kind ws bd 7 b (bX ws.length) p t):iD.G [bV b,.lst (ws.map .int),.str kind,fV bd,p]=.ok (.val (.bl t)) []:=by
 have m6:mo<=6:=by rcases hk with ⟨_,rfl⟩ |⟨_,rfl⟩ <;> decide
 have ca:=uF hk hw h0 hl H.ok;have lw:((ws.map Val.int).length:Nat)=ws.length:=u_ ..;have lr:iH.G [.int (ws.length:Nat)]=.new (.lst ((bX ws.length).map Val.int)):=by rw[yt ⟨by omega,by omega⟩,<- qf];rfl
 have br:=F6 (hk.imp And.left And.left) hw zb hβ h n H;unfold liV at br;unfold iD;rw[bR];unfold tX;simp![bz,bB,bA,bq,aN,aH,aW,aD,aF,aK,aS,aa,ao,bf,aA,ay,ag,av,ar,aU,aM,aE,bu,bp,a8,aV,bc,aC,bt,bo,bj,ba,aB,aG,aj,ak,bg,aT,aZ,aq,aP,aO,aJ,ax,aw,aY,az,aX,aR,aQ,af,bh,ai,bw,ca,lw,lr,br]
def p30:qS.G (.int 10) (.int 30)=.val (.int 1000000000000000000000000000000):=D1 ⟨by decide,by decide,by decide⟩
def jH{β:Nat}{a b:Int}(h0:0<=a)(h:a<=b)(hb:Sm β b):Sm β a:=hb.of_le (by omega)
def xF{n β:Nat}{v:Val}{far:Int}(f:Fd n v)(hn:n<=800000000)(h1:1<=far)(hf:Sm β far)(h60:Sm β 60)(hβ:β<=8000):∃q v',fX.G [v,.int far]=.ok (.val (fV q)) [v']/\Fd (n+13) v'/\0<q/\Sz β q:=by
 obtain⟨w,v1,e1,f1,w0,w5⟩:=bW (m:=5) f (by omega) (by decide) (sm8 (by decide));unfold fX;rw[bR];unfold oT;by_cases h2:w<2
 .obtain⟨a,v2,e2,f2,a0,a1⟩:=bW (m:=12) f1 (by omega) (by decide) (sm8 (by decide));refine⟨((1+a:Int):Rat),v2,?_,f2.mono (by omega),qT (by omega),jH (by show (0:Int)<=1+a;omega) (by show 1+a<=60;omega) h60,jH (a:=1) (by decide) (by decide) h60⟩;have i1:fV ((1+a:Int):Rat)=.tup [.int (1+a),.int 1]:=rfl;rw[i1];simp![bz,bB,bA,bq,aN,aH,aW,aD,aF,aK,aS,aa,ao,bf,aA,ay,ag,av,ar,aU,aM,aE,bu,bp,a8,aV,bc,aC,bt,bo,bj,ba,aB,aG,aj,ak,bg,aT,aZ,aq,aP,aO,aJ,ax,aw,aY,az,aX,aR,aQ,af,bh,ai,bw,e1,e2,J_ h2]
 .have d2:=I_ h2;by_cases h3:w=2
  .subst h3;refine⟨1,v1,?_,f1.mono (by omega),by decide,jH (a:=1) (by decide) (by decide) h60,jH (a:=1) (by decide) (by decide) h60⟩;have i1:fV 1=.tup [.int 1,.int 1]:=rfl;rw[i1];simp![bz,bB,bA,bq,aN,aH,aW,aD,aF,aK,aS,aa,ao,bf,aA,ay,ag,av,ar,aU,aM,aE,bu,bp,a8,aV,bc,aC,bt,bo,bj,ba,aB,aG,aj,ak,bg,aT,aZ,aq,aP,aO,aJ,ax,aw,aY,az,aX,aR,aQ,af,bh,ai,bw,e1,d2]
  .have d3:(w==2)=false:=by rw[OS];exact h3
   by_cases h4:w=3
   .subst h4;obtain⟨a,v2,e2,f2,a0,a1⟩:=bW (m:=60) f1 (by omega) (by decide) (sm8 (by decide));obtain⟨b,v3,e3,f3,b0,b1⟩:=bW (m:=12) f2 (by omega) (by decide) (sm8 (by decide));have sb:Sm β (1+b):=jH (by omega) (by omega) h60;have lo:=gk (a:=1+a) (b:=1+b) (by omega) (sb.mono hβ);refine⟨((1+a:Int):Rat)/((1+b:Int):Rat),v3,?_,f3.mono (by omega),ou (by omega) (by omega),Sz.div (by omega) (jH (by omega) (by omega) h60) sb β (y_ _) (y_ _)⟩;simp![bz,bB,bA,bq,aN,aH,aW,aD,aF,aK,aS,aa,ao,bf,aA,ay,ag,av,ar,aU,aM,aE,bu,bp,a8,aV,bc,aC,bt,bo,bj,ba,aB,aG,aj,ak,bg,aT,aZ,aq,aP,aO,aJ,ax,aw,aY,az,aX,aR,aQ,af,bh,ai,bw,e1,e2,e3,d2,lo]
   .have d4:(w==3)=false:=by rw[OS];exact h4
    obtain⟨a,v2,e2,f2,a0⟩:=uH f1 (by omega);obtain⟨b,v3,e3,f3,b0⟩:=uH f2 (by omega);have m1:∀x:Int,dZ.G (.int x) (.int far)=.val (.int (x.fmod far)):=λx=>iJ (by omega);have r1:=gu (a:=a) (m:=far) (by omega);have r2:=gu (a:=b) (m:=far) (by omega);have sb:Sm β (1+b.fmod far):=jH (by omega) (by omega) hf;have lo:=gk (a:=1+a.fmod far) (b:=1+b.fmod far) (by omega) (sb.mono hβ);refine⟨((1+a.fmod far:Int):Rat)/((1+b.fmod far:Int):Rat),v3,?_,f3.mono (by omega),ou (by omega) (by omega),Sz.div (by omega) (jH (by omega) (by omega) hf) sb β (y_ _) (y_ _)⟩;simp![bz,bB,bA,bq,aN,aH,aW,aD,aF,aK,aS,aa,ao,bf,aA,ay,ag,av,ar,aU,aM,aE,bu,bp,a8,aV,bc,aC,bt,bo,bj,ba,aB,aG,aj,ak,bg,aT,aZ,aq,aP,aO,aJ,ax,aw,aY,az,aX,aR,aQ,af,bh,ai,bw,e1,e2,e3,d2,d3,d4,m1,lo]
def Mo:jo [.int 2]=some [.int 0,.int 1]:=mQ (i:=2) (by decide) (by decide)
structure Ca(mo:Int)(b:Bx)(ws:List Int)(far:Int)(β μ mn:Nat):Prop where
 len:ws.length=mn
 m1:1<=mn
 m5:(mn:Int)<=mo
 m6:mn<=6
 le:∀w∈ws,1<=w/\w<=far
 h60:60<=far
 ok:b.Ok
 sz:b.Sz β
 mu:((mn:Int)*far).natAbs<2^μ
 bd:(β+μ+1)*2^mn<=4000
def caQ(mo:Int)(n:Nat)(r:SR3):Prop:=∃b ws far β μ mn v',Ca mo b ws far β μ mn/\Fd (n+200) v'/\CY [true,false] r=.ok (.pr (bV b) (liV ws)) [v']
theorem Aj{far:Int}:∀{ws:List Int},(∀w∈ws,1<=w/\w<=far)->ws.sum<=(ws.length:Int)*far
 | [],_=>by simp
 |
  x::l,h=>by
  rw[O1,OO];have h1:=h x (C_ ..);have h2:=Aj (ws:=l) λw hw=>h w (w_ _ hw);rw[QE,Int.add_mul];show x+l.sum<=(l.length:Int)*far+1*far;omega
def pw5{i:Nat}(h:i<6):1<=(1:Int)*2^i/\(1:Int)*2^i<=32:=by
 match i,h with
 |0,_=>decide
 |1,_=>decide
 |2,_=>decide
 |3,_=>decide
 |4,_=>decide
 |5,_=>decide
def CB{N mn:Nat}{mo far way same:Int}{sl st sp sq:Sl}(hN:N<=100000)(hmn:mn<=6)(h60:60<=far)(w0:0<=way)(w4:way<4)(s1:1<=same)(s2:same<=60){v:Val}(f:Fd N v):∃e',(∃(v:Val) (ws:List Int) (s11:Sl),Fd (N+8*mn) v/\ws.length=mn/\(∀w∈ws,1<=w/\w<=far)/\s11.pl=true/\e'=[.mu v,.sh (.int mo),.sh (.int far),.sh (.int (mn:Nat)),sp,sq,sl,st,.sh (.int way),.sh (.int same),.ow (.lst (ws.map .int)),s11])/\dU (gtN 11).G cT.G (rgV mn) [.mu v,.sh (.int mo),.sh (.int far),.sh (.int (mn:Nat)),sp,sq,sl,st,.sh (.int way),.sh (.int same),.ow (.lst []),.no]=.nx e':=by
 refine vD (g:=(gtN 11).G) (B:=cT.G) (λi e=>∃(v:Val) (ws:List Int) (s11:Sl),Fd (N+8*i) v/\ws.length=i/\(∀w∈ws,1<=w/\w<=far)/\s11.pl=true/\e=[.mu v,.sh (.int mo),.sh (.int far),.sh (.int (mn:Nat)),sp,sq,sl,st,.sh (.int way),.sh (.int same),.ow (.lst (ws.map .int)),s11]) mn ⟨v,[],.no,f,rfl,(λ_ h=>nomatch h),rfl,rfl⟩ ?_;rintro i hi e ⟨v,ws,s11,f,hl,hw,h11,rfl⟩;obtain⟨a,v1,e1,f1,a0,a1⟩:=bW (m:=3) f (by omega) (by decide) (sm8 (by decide));obtain⟨g,v2,e2,f2,g0⟩:=uH f1 (by omega);have sh:=M3 (i:=1) (j:=(i:Nat)) ⟨by omega,by omega,by decide⟩;rw[show ((i:Nat):Int).toNat=i from rfl] at sh;have m1:dZ.G (.int g) (.int far)=.val (.int (g.fmod far)):=iJ (by omega);have r1:=gu (a:=g) (m:=far) (by omega);have p5:=pw5 (i:=i) (by omega);have ll:(ws.map Val.int).length<16777216:=by rw[u_];omega
 have key:∀w:Int,(1<=w/\w<=far)->cT.G [.mu v,.sh (.int mo),.sh (.int far),.sh (.int (mn:Nat)),sp,sq,sl,st,.sh (.int way),.sh (.int same),.ow (.lst (ws.map .int)),.sh (.int (i:Nat))]=.nx [.mu v2,.sh (.int mo),.sh (.int far),.sh (.int (mn:Nat)),sp,sq,sl,st,.sh (.int way),.sh (.int same),.ow (.lst (ws.map .int++[.int w])),.sh (.int (i:Nat))]->∃e1 e2,(gtN 11).G (.int (i:Nat)) [.mu v,.sh (.int mo),.sh (.int far),.sh (.int (mn:Nat)),sp,sq,sl,st,.sh (.int way),.sh (.int same),.ow (.lst (ws.map .int)),s11]=some e1/\(cT.G e1=.nx e2\/cT.G e1=.ct e2)/\∃(v:Val) (ws:List Int) (s11:Sl),Fd (N+8*(i+1)) v/\ws.length=i+1/\(∀w∈ws,1<=w/\w<=far)/\s11.pl=true/\e2=[.mu v,.sh (.int mo),.sh (.int far),.sh (.int (mn:Nat)),sp,sq,sl,st,.sh (.int way),.sh (.int same),.ow (.lst (ws.map .int)),s11]:=by
  intro w hw1 hB;refine⟨_,_,?_,.inl hB,v2,ws++[w],.sh (.int (i:Nat)),f2.mono (by omega),by rw[F_,hl];rfl,?_,rfl,by rw[O_];rfl⟩
  .simp![bz,bB,bA,bq,aN,aH,aW,aD,aF,aK,aS,aa,ao,bf,aA,ay,ag,av,ar,aU,aM,aE,bu,bp,a8,aV,bc,aC,bt,bo,bj,ba,aB,aG,aj,ak,bg,aT,aZ,aq,aP,aO,aJ,ax,aw,aY,az,aX,aR,aQ,af,bh,ai,bw,h11]
  .intro x hx;rcases Pw.mp hx with hx |hx
   .exact hw x hx
   .rw[Pk] at hx;subst hx;exact hw1
 obtain rfl |rfl |rfl |rfl:way=0\/way=1\/way=2\/way=3:=by omega
 .refine key same (by omega) ?_;unfold cT;simp![bz,bB,bA,bq,aN,aH,aW,aD,aF,aK,aS,aa,ao,bf,aA,ay,ag,av,ar,aU,aM,aE,bu,bp,a8,aV,bc,aC,bt,bo,bj,ba,aB,aG,aj,ak,bg,aT,aZ,aq,aP,aO,aJ,ax,aw,aY,az,aX,aR,aQ,af,bh,ai,bw,e1,e2,sh,m1,ll]
 .refine key (1+a) (by omega) ?_;unfold cT;simp![bz,bB,bA,bq,aN,aH,aW,aD,aF,aK,aS,aa,ao,bf,aA,ay,ag,av,ar,aU,aM,aE,bu,bp,a8,aV,bc,aC,bt,bo,bj,ba,aB,aG,aj,ak,bg,aT,aZ,aq,aP,aO,aJ,ax,aw,aY,az,aX,aR,aQ,af,bh,ai,bw,e1,e2,sh,m1,ll]
 .refine key (1*2^i) (by omega) ?_;unfold cT;simp![bz,bB,bA,bq,aN,aH,aW,aD,aF,aK,aS,aa,ao,bf,aA,ay,ag,av,ar,aU,aM,aE,bu,bp,a8,aV,bc,aC,bt,bo,bj,ba,aB,aG,aj,ak,bg,aT,aZ,aq,aP,aO,aJ,ax,aw,aY,az,aX,aR,aQ,af,bh,ai,bw,e1,e2,sh,m1,ll]
 .refine key (1+g.fmod far) (by omega) ?_;unfold cT;simp![bz,bB,bA,bq,aN,aH,aW,aD,aF,aK,aS,aa,ao,bf,aA,ay,ag,av,ar,aU,aM,aE,bu,bp,a8,aV,bc,aC,bt,bo,bj,ba,aB,aG,aj,ak,bg,aT,aZ,aq,aP,aO,aJ,ax,aw,aY,az,aX,aR,aQ,af,bh,ai,bw,e1,e2,sh,m1,ll]
def Gw{mo:Int}(ho:5<=mo)(ho6:mo<=6){n:Nat}{v:Val}(f:Fd n v)(hn:n<=1000):∃b ws far β μ mn v',Ca mo b ws far β μ mn/\Fd (n+200) v'/\gC.G [v,.int mo]=.ok (.pr (bV b) (liV ws)) [v']:=by
 show ∃b ws far β μ mn v',Ca mo b ws far β μ mn/\Fd (n+200) v'/\(fnP [true,false] 12 i6).G [v,.int mo]=_;rw[Nt rfl];show caQ mo n (i6.G _);unfold i6;rw[show sls [true,false] [v,.int mo]++List.replicate (12-[v,.int mo].length) .no=[.mu v,.sh (.int mo),.no,.no,.no,.no,.no,.no,.no,.no,.no,.no] from rfl];obtain⟨a,v1,e1,f1,a0,a1⟩:=bW (m:=mo) f (by omega) (by omega) (sm8 (by omega));refine gE (λe=>e=[.mu v1,.sh (.int mo),.sh (.int 60),.sh (.int (1+a)),.no,.no,.no,.no,.no,.no,.no,.no]) ⟨_,by simp![bz,bB,bA,bq,aN,aH,aW,aD,aF,aK,aS,aa,ao,bf,aA,ay,ag,av,ar,aU,aM,aE,bu,bp,a8,aV,bc,aC,bt,bo,bj,ba,aB,aG,aj,ak,bg,aT,aZ,aq,aP,aO,aJ,ax,aw,aY,az,aX,aR,aQ,af,bh,ai,bw,e1],rfl⟩ ?_;rintro _ rfl;obtain⟨d,v2,e2,f2,d0,d1⟩:=bW (m:=5) f1 (by omega) (by decide) (sm8 (by decide));refine gE (λe=>∃(v:Val) (far:Int) (mn β μ:Nat),Fd (n+3) v/\60<=far/\Sm β far/\Sm β 60/\β<=100/\1<=mn/\(mn:Int)<=mo/\((mn:Int)*far).natAbs<2^μ/\(β+μ+1)*2^mn<=4000/\e=[.mu v,.sh (.int mo),.sh (.int far),.sh (.int (mn:Nat)),.no,.no,.no,.no,.no,.no,.no,.no]) ?_ ?_
 .by_cases hd:d=0
  .subst hd;obtain⟨k,v3,e3,f3,k0,k1⟩:=bW (m:=3) f2 (by omega) (by decide) (sm8 (by decide));obtain⟨k',rfl⟩:=P1 k0;refine⟨_,by simp![bz,bB,bA,bq,aN,aH,aW,aD,aF,aK,aS,aa,ao,bf,aA,ay,ag,av,ar,aU,aM,aE,bu,bp,a8,aV,bc,aC,bt,bo,bj,ba,aB,aG,aj,ak,bg,aT,aZ,aq,aP,aO,aJ,ax,aw,aY,az,aX,aR,aQ,af,bh,ai,bw,e2,e3,p30];rfl,v3,999999999999999999999999999999,1+k',100,102,f3,by decide,by unfold Sm;decide,by unfold Sm;decide,by omega,by omega,by omega,?_,?_,by rw[QE];rfl⟩
   .have:((1+k':Nat):Int)<=3:=by omega
    have h2:((1+k':Nat):Int)*999999999999999999999999999999<=3*999999999999999999999999999999:=Int.mul_le_mul_of_nonneg_right this (by decide);have h3:(2:Nat)^102=5070602400912917605986812821504:=by decide
    rw[h3];omega
   .have:2^(1+k')<=2^3:=Pb (by decide) (by omega);omega
  .have hd':(d==0)=false:=by rw[OS];exact hd
   obtain⟨k',rfl⟩:=P1 a0;refine⟨[.mu v2,.sh (.int mo),.sh (.int 60),.sh (.int (1+(k':Nat))),.no,.no,.no,.no,.no,.no,.no,.no],by simp![bz,bB,bA,bq,aN,aH,aW,aD,aF,aK,aS,aa,ao,bf,aA,ay,ag,av,ar,aU,aM,aE,bu,bp,a8,aV,bc,aC,bt,bo,bj,ba,aB,aG,aj,ak,bg,aT,aZ,aq,aP,aO,aJ,ax,aw,aY,az,aX,aR,aQ,af,bh,ai,bw,e2,hd'],v2,60,1+k',6,9,f2.mono (by omega),by decide,by unfold Sm;decide,by unfold Sm;decide,by omega,by omega,by omega,?_,?_,by rw[QE];rfl⟩
   .have h3:(2:Nat)^9=512:=by decide
    rw[h3];omega
   .have:2^(1+k')<=2^6:=Pb (by decide) (by omega);omega
 rintro _ ⟨v,far,mn,β,μ,f,h60,hf,hs60,hβ,m1,m6,hμ,hbd,rfl⟩;obtain⟨p,v3,e3,f3,p0,ps⟩:=xF f (by omega) (by omega) hf hs60 (by omega);obtain⟨q,v4,e4,f4,q0,qs⟩:=xF f3 (by omega) (by omega) hf hs60 (by omega);refine gE (λe=>e=[.mu v4,.sh (.int mo),.sh (.int far),.sh (.int (mn:Nat)),.sh (fV p),.sh (fV q),.no,.no,.no,.no,.no,.no]) ⟨_,by simp![bz,bB,bA,bq,aN,aH,aW,aD,aF,aK,aS,aa,ao,bf,aA,ay,ag,av,ar,aU,aM,aE,bu,bp,a8,aV,bc,aC,bt,bo,bj,ba,aB,aG,aj,ak,bg,aT,aZ,aq,aP,aO,aJ,ax,aw,aY,az,aX,aR,aQ,af,bh,ai,bw,e3,e4],rfl⟩ ?_;rintro _ rfl;obtain⟨d2,v5,e5,f5,d20,d21⟩:=bW (m:=5) f4 (by omega) (by decide) (sm8 (by decide));refine gE (λe=>∃q:Rat,0<q/\Sz β q/\e=[.mu v5,.sh (.int mo),.sh (.int far),.sh (.int (mn:Nat)),.sh (fV p),.sh (fV q),.no,.no,.no,.no,.no,.no]) ?_ ?_
 .by_cases hd:d2=0
  .subst hd;exact⟨_,by simp![bz,bB,bA,bq,aN,aH,aW,aD,aF,aK,aS,aa,ao,bf,aA,ay,ag,av,ar,aU,aM,aE,bu,bp,a8,aV,bc,aC,bt,bo,bj,ba,aB,aG,aj,ak,bg,aT,aZ,aq,aP,aO,aJ,ax,aw,aY,az,aX,aR,aQ,af,bh,ai,bw,e5],p,p0,ps,rfl⟩
  .have hd':(d2==0)=false:=by rw[OS];exact hd
   exact⟨_,by simp![bz,bB,bA,bq,aN,aH,aW,aD,aF,aK,aS,aa,ao,bf,aA,ay,ag,av,ar,aU,aM,aE,bu,bp,a8,aV,bc,aC,bt,bo,bj,ba,aB,aG,aj,ak,bg,aT,aZ,aq,aP,aO,aJ,ax,aw,aY,az,aX,aR,aQ,af,bh,ai,bw,e5,hd'],q,q0,qs,rfl⟩
 rintro _ ⟨q,q0,qs,rfl⟩;obtain⟨b1,u1,g1,j1,b10,b11⟩:=bW (m:=41) f5 (by omega) (by decide) (sm8 (by decide));obtain⟨b2,u2,g2,j2,b20,b21⟩:=bW (m:=9) j1 (by omega) (by decide) (sm8 (by decide));obtain⟨b3,u3,g3,j3,b30,b31⟩:=bW (m:=41) j2 (by omega) (by decide) (sm8 (by decide));obtain⟨b4,u4,g4,j4,b40,b41⟩:=bW (m:=9) j3 (by omega) (by decide) (sm8 (by decide));have l1:=gk (a:=b1-20) (b:=1+b2) (by omega) (sm8 (by omega));have l2:=gk (a:=b3-20) (b:=1+b4) (by omega) (sm8 (by omega));have sl:∀a b:Int,0<=a->a<41->0<=b->b<9->Sz β (((a-20:Int):Rat)/((1+b:Int):Rat)):=λa b u1 u2 u3 u4=>Sz.div (by omega) (hs60.of_le (by omega)) (hs60.of_le (by omega)) β (y_ _) (y_ _);have sl1:=sl b1 b2 b10 b11 b20 b21;have sl2:=sl b3 b4 b30 b31 b40 b41;generalize ((b1-20:Int):Rat)/((1+b2:Int):Rat)=lf at *;generalize ((b3-20:Int):Rat)/((1+b4:Int):Rat)=tp at *;refine gE (λe=>e=[.mu u4,.sh (.int mo),.sh (.int far),.sh (.int (mn:Nat)),.sh (fV p),.sh (fV q),.sh (fV lf),.sh (fV tp),.no,.no,.no,.no]) ⟨_,by simp![bz,bB,bA,bq,aN,aH,aW,aD,aF,aK,aS,aa,ao,bf,aA,ay,ag,av,ar,aU,aM,aE,bu,bp,a8,aV,bc,aC,bt,bo,bj,ba,aB,aG,aj,ak,bg,aT,aZ,aq,aP,aO,aJ,ax,aw,aY,az,aX,aR,aQ,af,bh,ai,bw,Mo,c8,lcV,g1,g2,g3,g4,l1,l2],rfl⟩ ?_;rintro _ rfl;obtain⟨w,v6,e6,f6,w0,w1⟩:=bW (m:=4) j4 (by omega) (by decide) (sm8 (by decide));refine gE (λe=>e=[.mu v6,.sh (.int mo),.sh (.int far),.sh (.int (mn:Nat)),.sh (fV p),.sh (fV q),.sh (fV lf),.sh (fV tp),.sh (.int w),.no,.no,.no]) ⟨_,by simp![bz,bB,bA,bq,aN,aH,aW,aD,aF,aK,aS,aa,ao,bf,aA,ay,ag,av,ar,aU,aM,aE,bu,bp,a8,aV,bc,aC,bt,bo,bj,ba,aB,aG,aj,ak,bg,aT,aZ,aq,aP,aO,aJ,ax,aw,aY,az,aX,aR,aQ,af,bh,ai,bw,e6],rfl⟩ ?_;rintro _ rfl;obtain⟨sm,v7,e7,f7,sm0,sm1⟩:=bW (m:=60) f6 (by omega) (by decide) (sm8 (by decide));refine gE (λe=>e=[.mu v7,.sh (.int mo),.sh (.int far),.sh (.int (mn:Nat)),.sh (fV p),.sh (fV q),.sh (fV lf),.sh (fV tp),.sh (.int w),.sh (.int (1+sm)),.no,.no]) ⟨_,by simp![bz,bB,bA,bq,aN,aH,aW,aD,aF,aK,aS,aa,ao,bf,aA,ay,ag,av,ar,aU,aM,aE,bu,bp,a8,aV,bc,aC,bt,bo,bj,ba,aB,aG,aj,ak,bg,aT,aZ,aq,aP,aO,aJ,ax,aw,aY,az,aX,aR,aQ,af,bh,ai,bw,e7],rfl⟩ ?_;rintro _ rfl;refine gE (λe=>e=[.mu v7,.sh (.int mo),.sh (.int far),.sh (.int (mn:Nat)),.sh (fV p),.sh (fV q),.sh (fV lf),.sh (fV tp),.sh (.int w),.sh (.int (1+sm)),.ow (.lst []),.no]) ⟨_,by simp![bz,bB,bA,bq,aN,aH,aW,aD,aF,aK,aS,aa,ao,bf,aA,ay,ag,av,ar,aU,aM,aE,bu,bp,a8,aV,bc,aC,bt,bo,bj,ba,aB,aG,aj,ak,bg,aT,aZ,aq,aP,aO,aJ,ax,aw,aY,az,aX,aR,aQ,af,bh,ai,bw],rfl⟩ ?_;rintro _ rfl;obtain⟨e',he',fr⟩:=CB (mo:=mo) (mn:=mn) (sp:=.sh (fV p)) (sq:=.sh (fV q)) (sl:=.sh (fV lf)) (st:=.sh (fV tp)) (far:=far) (way:=w) (same:=1+sm) (by omega) (by omega) h60 w0 w1 (by omega) (by omega) f7;have rg:jo [.int (mn:Nat)]=some (rgV mn):=mQ (i:=(mn:Nat)) (by omega) (by omega);refine gE (λe=>∃(v:Val) (ws:List Int) (s11:Sl),(Fd (n+200) v/\ws.length=mn/\∀w∈ws,1<=w/\w<=far)/\e=[.mu v,.sh (.int mo),.sh (.int far),.sh (.int (mn:Nat)),.sh (fV p),.sh (fV q),.sh (fV lf),.sh (fV tp),.sh (.int w),.sh (.int (1+sm)),.ow (.lst (ws.map .int)),s11]) ?_ ?_
 .obtain⟨v,ws,s11,fv,hl,hw,_,rfl⟩:=he';exact⟨_,by simp![bz,bB,bA,bq,aN,aH,aW,aD,aF,aK,aS,aa,ao,bf,aA,ay,ag,av,ar,aU,aM,aE,bu,bp,a8,aV,bc,aC,bt,bo,bj,ba,aB,aG,aj,ak,bg,aT,aZ,aq,aP,aO,aJ,ax,aw,aY,az,aX,aR,aQ,af,bh,ai,bw,rg,fr],v,ws,s11,⟨fv.mono (by omega),hl,hw⟩,rfl⟩
 rintro _ ⟨v,ws,s11,⟨fv,hl,hw⟩,rfl⟩;refine⟨⟨lf,tp,p,q⟩,ws,far,β,μ,mn,v,⟨hl,m1,m6,by omega,hw,h60,⟨p0,q0⟩,⟨sl1,sl2,ps,qs⟩,hμ,hbd⟩,fv,?_⟩;have eb:bV (⟨lf,tp,p,q⟩:Bx)=.tup [fV lf,fV tp,fV p,fV q]:=rfl;rw[eb];unfold liV;simp![bz,bB,bA,bq,aN,aH,aW,aD,aF,aK,aS,aa,ao,bf,aA,ay,ag,av,ar,aU,aM,aE,bu,bp,a8,aV,bc,aC,bt,bo,bj,ba,aB,aG,aj,ak,bg,aT,aZ,aq,aP,aO,aJ,ax,aw,aY,az,aX,aR,aQ,af,bh,ai,bw,NH]
def Jx(ws:List Int):wt ws (bX ws.length)=ws.sum:=by unfold wt;congr 1;refine List.ext_getElem (by simp [bX]) λi h1 h2=>?_;simp [bX,cG,Pf,h2]
def Gd(n:Nat):(bX n).Nodup:=by unfold bX;rw[List.nodup_iff_pairwise_ne,List.pairwise_map];exact List.nodup_range.imp λh z=>h (Int.ofNat.inj z)
def Ca.h51{mo:Int}{b:Bx}{ws:List Int}{far:Int}{β μ mn:Nat}(C:Ca mo b ws far β μ mn):Ok51 ws (bX ws.length) b β μ:=by
 have nl:(bX ws.length).length=ws.length:=by unfold bX;rw[u_,Qs]
 have h1:=C.len;have h2:=C.m1;have h3:=C.m6;have hsum:=Aj C.le;have hnn:=iR (l:=ws) λw h=>(C.le w h).1;have hm:=C.mu;rw[h1] at hsum;refine⟨λz=>?_,Gd _,λi hi=>?_,by omega,?_,C.ok,C.sz,by rw[nl,h1];exact C.bd⟩
 .rw[z,O6] at nl;omega
 .obtain⟨j,hj,rfl⟩:=Pa.mp hi;rw[QR] at hj;omega
 .rw[Jx];show ws.sum.natAbs<2^μ;omega
def Ca.set{mo:Int}{b:Bx}{ws:List Int}{far:Int}{β μ mn:Nat}(C:Ca mo b ws far β μ mn){i:Nat}{x:Int}(h1:1<=x)(h2:x<=60):Ca mo b (ws.set i x) far β μ mn:=by
 have h60:=C.h60;refine⟨by rw[N_];exact C.len,C.m1,C.m5,C.m6,λw hw=>?_,h60,C.ok,C.sz,C.mu,C.bd⟩;rcases Qi hw with hw |rfl
 .exact C.le w hw
 .omega
def Hg{d:Int}(h0:0<=d)(h1:d<40):∃q:Rat,fV q=.tup [.int 1,.int (1+d)]/\Sz 6 q:=by
 obtain⟨k,rfl⟩:=P1 h0;refine⟨⟨1,1+k,by omega,Nat.coprime_one_left ..⟩,?_,?_⟩
 .show Val.tup [.int 1,.int ((1+k:Nat):Int)]=_;rw[QE];rfl
 .refine⟨?_,?_⟩
  .show (1:Int).natAbs<2^6;decide
  .show ((1+k:Nat):Int).natAbs<2^6;have:(2:Nat)^6=64:=by decide
   omega
def GD{N:Nat}{v:Val}{kind:Str}{mo:Int}{b:Bx}{ws:List Int}{far:Int}{β μ mn:Nat}{s0 s6 s7 s8 s9 s10 s11:Sl}(hN:N<=100000)(hk:kind="order" /\ mo=6\/kind="any" /\ mo=5)(f:Fd N v)(C:Ca mo b ws far β μ mn)(h7:s7.pl=true)(h8:s8.pl=true)(h9:s9.pl=true)(h10:s10.pl=true)(h11:s11.pl=true):∃v' ws' u7 u8 u9 u10 u11,Fd (N+3) v'/\Ca mo b ws' far β μ mn/\l6.G [s0,.ow v,.sh (.str kind),.sh (bV b),.ow (.lst (ws.map .int)),.sh (.lst ((bX mn).map .int)),s6,s7,s8,s9,s10,s11]=.nx [s0,.ow v',.sh (.str kind),.sh (bV b),.ow (.lst (ws'.map .int)),.sh (.lst ((bX mn).map .int)),s6,.sh u7,.sh u8,.sh u9,.sh u10,.sh u11]:=by
 have c_:=C.len;have hm1:=C.m1;have hm5:=C.m5;have hm6:=C.m6;have hw:∀w∈ws,1<=w:=λw h=>(C.le w h).1;have h0:ws≠[]:=by rintro rfl;rw[O6] at c_;omega
 have hl:(ws.length:Int)<=mo:=by omega
 have H:=C.h51;have nl:(bX ws.length).length=ws.length:=by unfold bX;rw[u_,Qs]
 have hk':kind="order" \/ kind="any":=hk.imp And.left And.left;obtain⟨p,e1,hb⟩:=CP hk hw h0 hl H;obtain⟨e2,z⟩:=nS hk' hw 7 (bX ws.length) b β H (by omega);have pa:=wJ hb;have fp:=zJ pa;have e3:=nA hk' hw z (by omega) hb β (by omega) H;have e4:=sF hk hw h0 hl H z (by omega) hb;have fq:=tF (bst kind ws 7 b (bX ws.length));generalize bst kind ws 7 b (bX ws.length)=q at *;obtain⟨d,v1,e5,f1,d0,d1⟩:=bW (m:=40) f (by omega) (by decide) (sm8 (by decide));obtain⟨r,er,zr⟩:=Hg d0 d1;have e6:=kH z zr (by omega);have zm:=z.add zr;obtain⟨t,ht⟩:=AO (ws:=ws) (bd:=q+r) (b:=b) pa;have e7:=sF hk hw h0 hl H zm (by omega) ht;have e8:=nA hk' hw zm (by omega) ht β (by omega) H;have fm:=tF (q+r);clear ht hb pa;rw[er] at e6;generalize q+r=s at *;have ei:=EN ws;have itl:∀xs:List Val,(Val.lst xs).items=some xs:=λ_=>rfl;obtain⟨y,v2,e9,f2,y0,y1⟩:=bW (m:=60) f1 (by omega) (by decide) (sm8 (by decide));obtain⟨x,v3,e10,f3,x0,x1⟩:=bW (m:=(ws.length:Nat)) f2 (by omega) (by omega) (sm8 (by omega));obtain⟨k,rfl⟩:=P1 x0;have lw:((ws.map Val.int).length:Nat)=ws.length:=u_ ..;have ix:ixN ws.length (k:Nat)=some k:=Jb (i:=(k:Nat)) (by omega) (by show k<_;omega);have st:(ws.map Val.int).set k (.int (1+y))=(ws.set k (1+y)).map .int:=by rw[List.map_set]
 have ib:(cD df).G [.bl t,.ty "bool"]=.val (.bl true):=rfl;have bn:(t==t)=true:=by cases t <;> rfl
 have tt:(true != true)=false:=rfl;have lc:(ws.map Val.int).length<=16777216:=by rw[lw];omega
 refine⟨v3,ws.set k (1+y),.lst (ws.map .int),p,fV q,fV s,.bl t,f3,C.set (by omega) (by omega),?_⟩;rw[c_] at e2 e3 e8;unfold liV at e2 e3 e8;unfold l6;simp![bz,bB,bA,bq,aN,aH,aW,aD,aF,aK,aS,aa,ao,bf,aA,ay,ag,av,ar,aU,aM,aE,bu,bp,a8,aV,bc,aC,bt,bo,bj,ba,aB,aG,aj,ak,bg,aT,aZ,aq,aP,aO,aJ,ax,aw,aY,az,aX,aR,aQ,af,bh,ai,bw,h7,h8,h9,h10,h11,itl,e1,e2,e3,e4,e5,e6,e7,e8,ei,fp,fq,fm,MD,tt,ib,bn,e9,e10,lw,lc,ix,DU,st]
 done
def HC(ns:List Int)(hl:ns.length<=63):tJ.G [.kl (ns.map .int)]=.ok (.val (.bl true)) []:=by
 obtain⟨v,e1,f⟩:=FH hl;obtain⟨c,v1,e2,f1,c0,c1⟩:=bW (m:=2) f (by omega) (by decide) (sm8 (by decide));have rg:jo [.int 2]=some (rgV 2):=mQ (i:=2) (by omega) (by omega);have key:∀(kind:Str) (mo:Int),(kind="order" /\ mo=6\/kind="any" /\ mo=5)->∃b ws v' lw,gC.G [v1,.int mo]=.ok (.pr (bV b) (liV ws)) [v']/\(ws.map Val.int).length=lw/\iH.G [.int (lw:Nat)]=.new (.lst ((bX lw).map Val.int))/\∃e',dU (gtN 6).G l6.G (rgV 2) [.sh (.kl (ns.map .int)),.ow v',.sh (.str kind),.sh (bV b),.ow (.lst (ws.map .int)),.sh (.lst ((bX lw).map .int)),.no,.no,.no,.no,.no,.no]=.nx e'/\muV [false] e'=some []:=by
  intro kind mo hk;have m6:5<=mo/\mo<=6:=by rcases hk with ⟨_,rfl⟩ |⟨_,rfl⟩ <;> decide
  obtain⟨b,ws,far,β,μ,mn,v',C,f2,e3⟩:=Gw m6.1 m6.2 f1 (by omega);have c_:=C.len;have hm6:=C.m6;obtain⟨e',he,fr⟩:=vD (g:=(gtN 6).G) (B:=l6.G) (e:=[.sh (.kl (ns.map .int)),.ow v',.sh (.str kind),.sh (bV b),.ow (.lst (ws.map .int)),.sh (.lst ((bX mn).map .int)),.no,.no,.no,.no,.no,.no]) (λi e=>∃(v:Val) (ws:List Int) (s6 s7 s8 s9 s10 s11:Sl),Fd (1000+3*i) v/\Ca mo b ws far β μ mn/\s6.pl=true/\s7.pl=true/\s8.pl=true/\s9.pl=true/\s10.pl=true/\s11.pl=true/\e=[.sh (.kl (ns.map .int)),.ow v,.sh (.str kind),.sh (bV b),.ow (.lst (ws.map .int)),.sh (.lst ((bX mn).map .int)),s6,s7,s8,s9,s10,s11]) 2 ⟨v',ws,.no,.no,.no,.no,.no,.no,f2.mono (by omega),C,rfl,rfl,rfl,rfl,rfl,rfl,rfl⟩ (by rintro i hi e ⟨v,ws,s6,s7,s8,s9,s10,s11,f,C,h6,h7,h8,h9,h10,h11,rfl⟩;obtain⟨v',ws',u7,u8,u9,u10,u11,f',C',eb⟩:=GD (s0:=.sh (.kl (ns.map .int))) (s6:=.sh (.int (i:Nat))) (by omega) hk f C h7 h8 h9 h10 h11;exact⟨_,_,by simp![bz,bB,bA,bq,aN,aH,aW,aD,aF,aK,aS,aa,ao,bf,aA,ay,ag,av,ar,aU,aM,aE,bu,bp,a8,aV,bc,aC,bt,bo,bj,ba,aB,aG,aj,ak,bg,aT,aZ,aq,aP,aO,aJ,ax,aw,aY,az,aX,aR,aQ,af,bh,ai,bw,h6],.inl eb,v',ws',_,_,_,_,_,_,f'.mono (by omega),C',rfl,rfl,rfl,rfl,rfl,rfl,rfl⟩);have lr:iH.G [.int (mn:Nat)]=.new (.lst ((bX mn).map Val.int)):=by rw[yt ⟨by omega,by omega⟩,<- qf];rfl
  exact⟨b,ws,v',mn,e3,by rw[u_];exact c_,lr,e',fr,by obtain⟨v,ws,s6,s7,s8,s9,s10,s11,_,_,_,_,_,_,_,_,rfl⟩:=he;rfl⟩
 have d1:lkD (κ:=Key) ([Sum.inr ("order" : Str),Sum.inr ("any" : Str)].zip [Val.int 6,Val.int 5]) (Sum.inr ("order" : Str))=some (.int 6):=by kernel_rfl
 have d2:lkD (κ:=Key) ([Sum.inr ("order" : Str),Sum.inr ("any" : Str)].zip [Val.int 6,Val.int 5]) (Sum.inr ("any" : Str))=some (.int 5):=by kernel_rfl
 unfold tJ;rw[bR];unfold Ey;obtain rfl |rfl:c=0\/c=1:=by omega
 .obtain⟨b,ws,v',lw,e3,ew,lr,e',fr,mu⟩:=key "order" 6 (.inl ⟨rfl,rfl⟩);clear key;unfold liV at e3;simp![bz,bB,bA,bq,aN,aH,aW,aD,aF,aK,aS,aa,ao,bf,aA,ay,ag,av,ar,aU,aM,aE,bu,bp,a8,aV,bc,aC,bt,bo,bj,ba,aB,aG,aj,ak,bg,aT,aZ,aq,aP,aO,aJ,ax,aw,aY,az,aX,aR,aQ,af,bh,ai,bw,e1,e2,pL,d1,e3,ew,lr,rg,fr,mu,and_self]
 .obtain⟨b,ws,v',lw,e3,ew,lr,e',fr,mu⟩:=key "any" 5 (.inr ⟨rfl,rfl⟩);clear key;unfold liV at e3;simp![bz,bB,bA,bq,aN,aH,aW,aD,aF,aK,aS,aa,ao,bf,aA,ay,ag,av,ar,aU,aM,aE,bu,bp,a8,aV,bc,aC,bt,bo,bj,ba,aB,aG,aj,ak,bg,aT,aZ,aq,aP,aO,aJ,ax,aw,aY,az,aX,aR,aQ,af,bh,ai,bw,e1,e2,pL,d2,e3,ew,lr,rg,fr,mu,and_self]
end KK
namespace PySem.W.Fast
def q__:=trivial
def tw10013309866148272359:=q__
def tw10014531075970901635:=q__
def tw10042753056669821178:=q__
def tw10112011309216314458:=q__
def tw10139741504519386004:=q__
def tw10153225960026076660:=q__
def tw10154919111023358841:=q__
def tw10185722893404014001:=q__
def tw10204040310615879816:=q__
def tw1027307829088584191:=q__
def tw10280215264780383337:=q__
def tw10289796160659071677:=q__
def tw10300912821091112343:=q__
def tw10368672656095279822:=q__
def tw10376716017581420169:=q__
def tw10401210731766581865:=q__
def tw10425633940513149519:=q__
def tw10428001946834384758:=q__
def tw1051618549560649927:=q__
def tw1054950488456296376:=q__
def tw10633620144099220282:=q__
def tw10663489691797531644:=q__
def tw10726604367085979155:=q__
def tw10730161056869817724:=q__
def tw10806934283395830794:=q__
def tw10809091098530615226:=q__
def tw1094131969169824148:=q__
def tw10942627295458368316:=q__
def tw11005111787304458410:=q__
def tw11036893179731975248:=q__
def tw11053688885720653439:=q__
def tw11077806116840866037:=q__
def tw11212038773736255378:=q__
def tw1126562919366187762:=q__
def tw11291651643287641921:=q__
def tw11319844167351723724:=q__
def tw11337172734335608334:=q__
def tw11339439434901409923:=q__
def tw11470998874375564198:=q__
def tw11576525253708165466:=q__
def tw11596366064244740338:=q__
def tw1160902511851355252:=q__
def tw11634478044937797742:=q__
def tw11690569948215273251:=q__
def tw11734220418432727058:=q__
def tw11779154844498309872:=q__
def tw11786962472782923990:=q__
def tw11801225770296932560:=q__
def tw11831202594196677396:=q__
def tw11835332311603708523:=q__
def tw11861394880533882679:=q__
def tw11897203244227721150:=q__
def tw11941699644662623539:=q__
def tw11989866493250319439:=q__
def tw12027870752350006940:=q__
def tw12050054570638181659:=q__
def tw12067186465062797287:=q__
def tw12094211226749028783:=q__
def tw12101030320561131785:=q__
def tw12111865917632840429:=q__
def tw12218582114224325728:=q__
def tw12219067670493346474:=q__
def tw12227978146082907342:=q__
def tw12242453129809548333:=q__
def tw12338035550098017986:=q__
def tw12450260425702187766:=q__
def tw12484709951759425113:=q__
def tw1251970697973989696:=q__
def tw12596318188349500867:=q__
def tw1262374709078492170:=q__
def tw12659372477958009039:=q__
def tw12662708446794932144:=q__
def tw1278715060796866769:=q__
def tw12790168498317199989:=q__
def tw12826572358356218376:=q__
def tw12877034331523572762:=q__
def tw12912917863150139026:=q__
def tw12956406878184893523:=q__
def tw12984858608299056340:=q__
def tw12990988448471895194:=q__
def tw1305058067738105817:=q__
def tw13151878235482793573:=q__
def tw13235461462172624802:=q__
def tw13281726121093218117:=q__
def tw13287796188332461634:=q__
def tw13318036623156244506:=q__
def tw13352294206446227387:=q__
def tw1337019132493169651:=q__
def tw13378601843670421202:=q__
def tw13390867538216613642:=q__
def tw13432044084278938015:=q__
def tw1352548805680839197:=q__
def tw13527254653965031197:=q__
def tw13721485880845208352:=q__
def tw13992200510224844325:=q__
def tw14021411945045854520:=q__
def tw14022768972729273229:=q__
def tw14028608296960524058:=q__
def tw14072817855436655054:=q__
def tw14079455548424796434:=q__
def tw14131650219354756512:=q__
def tw14148708390373760460:=q__
def tw14178460435651508714:=q__
def tw14206112977334572429:=q__
def tw14247518220193969396:=q__
def tw14248054503583246210:=q__
def tw14299459606132178534:=q__
def tw14361116581617208470:=q__
def tw14386551912551247285:=q__
def tw14401864530691599450:=q__
def tw14416478536895300302:=q__
def tw14602901702322266751:=q__
def tw14611725280168453700:=q__
def tw14622467864246607058:=q__
def tw14630805111451132268:=q__
def tw1465206793301845663:=q__
def tw14660563022460897618:=q__
def tw14678973666109906888:=q__
def tw14716895700909816302:=q__
def tw14829098940009903762:=q__
def tw14847164138940635229:=q__
def tw14877130019886768167:=q__
def tw14895559057255129177:=q__
def tw14915587670658088810:=q__
def tw15095391754414327563:=q__
def tw15104282883159037914:=q__
def tw15128250045232968292:=q__
def tw15178091137240007865:=q__
def tw15219642778343278088:=q__
def tw15221924751847795694:=q__
def tw15352817190873588767:=q__
def tw15353685045088060622:=q__
def tw15406275488877710556:=q__
def tw15447530101659875514:=q__
def tw15469324428501728349:=q__
def tw154780763867830699:=q__
def tw1550668097173746548:=q__
def tw15519369188922338255:=q__
def tw15520623572067285018:=q__
def tw1559383182728829419:=q__
def tw15684192284308174762:=q__
def tw15748428087078561075:=q__
def tw15813731928477227161:=q__
def tw15880389501212979476:=q__
def tw15968200559620671261:=q__
def tw15998247427331382810:=q__
def tw1600585291616343940:=q__
def tw16019025881243173186:=q__
def tw16028875910039153748:=q__
def tw16102426079761088356:=q__
def tw16177932663498789278:=q__
def tw16187949071458352068:=q__
def tw16225099828386603731:=q__
def tw16283229492202963393:=q__
def tw16294262570993446683:=q__
def tw16299215062868236386:=q__
def tw16303665612922898098:=q__
def tw16304584233592408367:=q__
def tw16318479205541469428:=q__
def tw16338288371557210424:=q__
def tw1636396019222859161:=q__
def tw1636742030844758027:=q__
def tw16396283487863480827:=q__
def tw16400067844625850763:=q__
def tw1640966090343520706:=q__
def tw16514568109712258258:=q__
def tw16549702209268038151:=q__
def tw1668536510021468195:=q__
def tw16688718982115134802:=q__
def tw16719773509401181927:=q__
def tw16720493925630872915:=q__
def tw16721591546459207910:=q__
def tw16745023644147452664:=q__
def tw16838642977414081999:=q__
def tw16852031091699461616:=q__
def tw16973242530145556541:=q__
def tw17021670030083273752:=q__
def tw17052101707147320815:=q__
def tw17063591822203731110:=q__
def tw17100310358897414809:=q__
def tw17143259435431540296:=q__
def tw17322682842022764782:=q__
def tw17450593715117730081:=q__
def tw17582540622130304106:=q__
def tw17584763024977242655:=q__
def tw17589640407355720939:=q__
def tw17621032976981316282:=q__
def tw17636137731222308289:=q__
def tw17733565701279702490:=q__
def tw17737777619375649864:=q__
def tw17775751464331367097:=q__
def tw17812022240780592171:=q__
def tw17822928590774900966:=q__
def tw17853148686567401103:=q__
def tw17865473022486819840:=q__
def tw17901347250151184685:=q__
def tw17991680196421398168:=q__
def tw18022035660796546849:=q__
def tw18034464717788363478:=q__
def tw18065241495803228512:=q__
def tw18183661914870798010:=q__
def tw18186359766852919091:=q__
def tw18341524173213257195:=q__
def tw18391655303635456778:=q__
def tw18427521993720548227:=q__
def tw184607947466629403:=q__
def tw1912010206031872379:=q__
def tw1914162175897434732:=q__
def tw1948467439797648084:=q__
def tw1956072881699638806:=q__
def tw2080238554875977355:=q__
def tw2118629835297993212:=q__
def tw2125949741030107944:=q__
def tw2125993629752084825:=q__
def tw2163313128417855003:=q__
def tw224981020285711259:=q__
def tw2294644913323455144:=q__
def tw2300496184402384969:=q__
def tw2312126489478713812:=q__
def tw2320705886386920589:=q__
def tw2387690336874853823:=q__
def tw241673040339794595:=q__
def tw245108741279866364:=q__
def tw2471208078890556666:=q__
def tw250824839450216017:=q__
def tw2546798293412867790:=q__
def tw2573419376253097469:=q__
def tw262536455923120418:=q__
def tw2723907629268320674:=q__
def tw2779329263584832018:=q__
def tw2815383394161419505:=q__
def tw2838978953547945698:=q__
def tw2879850243288507961:=q__
def tw2954283544681334773:=q__
def tw2966413172818729171:=q__
def tw3015214731404906058:=q__
def tw3060367566810812006:=q__
def tw306079112643296729:=q__
def tw307329279663595199:=q__
def tw3120021682232375176:=q__
def tw3123081329830092791:=q__
def tw319544764316867386:=q__
def tw3240022533964464097:=q__
def tw3303139561269135005:=q__
def tw3313828474309776563:=q__
def tw3320589989710844249:=q__
def tw3332977686169463636:=q__
def tw3334583604198823831:=q__
def tw3375406802919159118:=q__
def tw3391075988564729602:=q__
def tw3422727542424271925:=q__
def tw343625537218544579:=q__
def tw349463174604025061:=q__
def tw3514398478163851984:=q__
def tw3516839791251935871:=q__
def tw3537425328923191470:=q__
def tw3566326948287944533:=q__
def tw3580551140097483575:=q__
def tw3669894512496155598:=q__
def tw3680579635586076678:=q__
def tw3687272919818147401:=q__
def tw3692044215429401144:=q__
def tw3702683400644800489:=q__
def tw3755494514853088370:=q__
def tw3805253958219951077:=q__
def tw3839499072683662155:=q__
def tw3910452180364734180:=q__
def tw397873298705430364:=q__
def tw4031938453559972653:=q__
def tw4057695867385443087:=q__
def tw4083551158829736879:=q__
def tw4148361040509878741:=q__
def tw4172754681178548402:=q__
def tw4200022368290024347:=q__
def tw4208645856141404806:=q__
def tw4221996497091327886:=q__
def tw4285361319287370152:=q__
def tw4305314427680488276:=q__
def tw4336592947153681465:=q__
def tw4339787949849968812:=q__
def tw4346684053131280356:=q__
def tw4362018038345427651:=q__
def tw4380877743334552877:=q__
def tw4405086697840617209:=q__
def tw4487673185488045935:=q__
def tw4524656339698701577:=q__
def tw461831381528892842:=q__
def tw4662958820560296922:=q__
def tw4690539418032196116:=q__
def tw4733805283287704721:=q__
def tw4804750757864257913:=q__
def tw4814189683061470468:=q__
def tw4825017811578222511:=q__
def tw4841576439134025634:=q__
def tw487895994437784114:=q__
def tw4879536175912389159:=q__
def tw495375188692262574:=q__
def tw4956000408091033875:=q__
def tw4994827814759876847:=q__
def tw5047417604347454547:=q__
def tw5119400020749523245:=q__
def tw5147045060055975564:=q__
def tw5174705380292614687:=q__
def tw5257742449924757661:=q__
def tw529560335048857887:=q__
def tw5319465143904807740:=q__
def tw536243445704266042:=q__
def tw5391079098665587628:=q__
def tw5402987005998640272:=q__
def tw5463681666120686270:=q__
def tw5597364158639852177:=q__
def tw5600624026081940681:=q__
def tw5615261950475029287:=q__
def tw5642210582953686304:=q__
def tw5649136188529751356:=q__
def tw5680835727438293940:=q__
def tw5712640853907951434:=q__
def tw575405490764942940:=q__
def tw5755144362768056297:=q__
def tw5817244909791076309:=q__
def tw5868820073343980206:=q__
def tw5885657953565165103:=q__
def tw5941342379374389529:=q__
def tw5947837605001508375:=q__
def tw5975359810608546449:=q__
def tw5979752128637349489:=q__
def tw6002104988035441941:=q__
def tw6003840487392290635:=q__
def tw6035644324208183957:=q__
def tw6101323037435153155:=q__
def tw612513484592268132:=q__
def tw6138786696943655252:=q__
def tw6143225304371783067:=q__
def tw6158622984133951620:=q__
def tw6180834555859609669:=q__
def tw6228528242603732187:=q__
def tw6242482500081429001:=q__
def tw6247011911279543089:=q__
def tw6271279596718118572:=q__
def tw6389759946517816523:=q__
def tw640847636721831169:=q__
def tw6410225026209946059:=q__
def tw6413904348730864769:=q__
def tw6430890532235852862:=q__
def tw6455459076282701737:=q__
def tw6673549674424938908:=q__
def tw6678852825048483772:=q__
def tw6758728645048248121:=q__
def tw6773666795777588180:=q__
def tw6778746270987596922:=q__
def tw682105458828878504:=q__
def tw6911684371533631158:=q__
def tw6975976279546247639:=q__
def tw6994674894581005661:=q__
def tw7089477539777997296:=q__
def tw713902976522237757:=q__
def tw718161299881748831:=q__
def tw7235008364755487415:=q__
def tw7317797454345386008:=q__
def tw7391353580784316547:=q__
def tw7428635213932490554:=q__
def tw7465638156468167375:=q__
def tw7468250226699189933:=q__
def tw7477912255331558355:=q__
def tw7527225169069545633:=q__
def tw7556678167492478389:=q__
def tw7556715726943796405:=q__
def tw7569357560874056507:=q__
def tw7583560636277619771:=q__
def tw7596151105919220279:=q__
def tw7618988177375721600:=q__
def tw7638782411815352098:=q__
def tw7648800447217276489:=q__
def tw7657705971894892431:=q__
def tw7766858152461551079:=q__
def tw7839365131467711800:=q__
def tw7918032240881178956:=q__
def tw8001502284810858430:=q__
def tw8036891450257988821:=q__
def tw8067656401635662562:=q__
def tw8074523371789146251:=q__
def tw8081591557990360510:=q__
def tw808692809591270515:=q__
def tw8089435314709880358:=q__
def tw8120883652969164317:=q__
def tw8127268149977529093:=q__
def tw8170729860801408332:=q__
def tw82770976691594316:=q__
def tw8337154533147121342:=q__
def tw8341806802551504360:=q__
def tw8361806475821273434:=q__
def tw8366136265077846582:=q__
def tw8371452077830915256:=q__
def tw8431928468139945115:=q__
def tw8467722428010493997:=q__
def tw852058312253321061:=q__
def tw8598617359904693791:=q__
def tw8610777887756509307:=q__
def tw8618557712573272060:=q__
def tw870891395384389533:=q__
def tw884596890895028763:=q__
def tw8871337674466903042:=q__
def tw8904127198457123594:=q__
def tw8934684739452855918:=q__
def tw8986813072333490143:=q__
def tw9003883787413972763:=q__
def tw9003920948872202938:=q__
def tw906356788450585508:=q__
def tw9088194084509404192:=q__
def tw9116899323009775487:=q__
def tw9117783019125157843:=q__
def tw9174490282565024577:=q__
def tw9245703638524931715:=q__
def tw9278797571577569895:=q__
def tw928308363045638278:=q__
def tw9331953743786599236:=q__
def tw9380988134307453161:=q__
def tw9385573047751241073:=q__
def tw9424463223892996543:=q__
def tw9459455779089336570:=q__
def tw9476812732641792627:=q__
def tw9501079711336365049:=q__
def tw9586905157721234162:=q__
def tw9599520119760800141:=q__
def tw9610576229096910350:=q__
def tw9660235915361501458:=q__
def tw9662596159662836352:=q__
def tw9662712889499246745:=q__
def tw9707318417383593511:=q__
def tw971375260872886716:=q__
def tw9718776963093695661:=q__
def tw9740829600823710277:=q__
def tw9834622122701227605:=q__
def tw9966182805903094312:=q__
def tw9983373759465829379:=q__
end PySem.W.Fast
open PySem PySem.W PyProof.Rows L2 L3 KK
set_option maxRecDepth 100000 in
set_option maxHeartbeats 0 in
theorem PySem.Challenge.cw_weightrooms_k57_papers_told_holds : PySem.Challenge.rw_weightrooms_k57_papers_told.Holds := by
 w_on;o_law;k_head;(case hw=>w_witness2)
 k_fill
 refine L2.walk_lawD (l:=PySem.Challenge.rw_weightrooms_k57_papers_told) (x:="_law_script") (k:=33) rfl rfl ⟨rfl,by decide,by decide⟩ (λw h Y=>W.kIn_of Y) ?F ?D
 case F=>
  intro w mg h KX G base kb nb;refine B0 (Fq ⟨⟨Mz KX G (by kernel_rfl),?_⟩,(by refine' Dr (kvs:=eu) KX G ?a9 ?b9 ?c9 ?d9 ?e9;(case a9=>exact rfl);(case b9=>exact rfl);(case c9=>exact rfl);(case d9=>exact (.cons rfl rfl rfl (.cons rfl rfl rfl .nil)));(case e9=>decide))⟩) (Ju KX G (by kernel_rfl)) (law3 tJ rfl HC);repeat first
   |exact trivial
   |refine⟨by refine' AK KX G ?a ?l ?c ?k;(case a=>k_is);(case l=>k_is);(case c=>k_is);(case k=>k_is),?_⟩
 case D=>
  intro w mg h KX G;refine⟨top 70,?_,(λ_ _ _ _ _ _=>ar1 λ_=>rfl)⟩;refine' AK KX G ?a ?l ?c ?k;case a|l|c|k=>k_is
