import PyProof.Rows.All
import Wide.All
import OpenK.AllK
import Wide.FinOn
import Lean
import PyProof.EqAt
import PyProof.EqKinds
import PyProof.TupleCall
import PyProof.Rows.SumAny
import PyProof.EnumMake
import PyProof.Draws
import PyProof.ZipIter
import KE.KNestM
import KE.KUnpack
import KE.KxIndex
import PyProof.SetRoads
import PyProof.SetNew
import PyProof.AutoSeq1
import KE.KRevSl
import PyProof.SeqI3
import PyProof.Rows.SortWalk
import PyProof.Rows.Range3
import KE.KSortTup
import KE.KLam
import PyProof.Rows.SetFrom
import PyProof.FactsAll.list_2
import PySem.Challenge.RW_weightrooms_k60_whole_a_paper_bars
local macro_rules|`(tactic|trivial)=>`(tactic|first|exact Or.inl rfl|exact Or.inr rfl)
local macro_rules|`(tactic|decide)=>`(tactic|decide +kernel)
set_option genSizeOf false
set_option genInjectivity false
set_option bootstrap.genMatcherCode false
noncomputable section
set_option Elab.async false
set_option linter.all false
def v_:=@List.length_map
def w_:=@PySem.wpAny_bind
def x_:=@List.getElem?_eq_some_iff
def y_:=@List.mem_cons_of_mem
def z_:=@Nat.le_refl
def A_:=@Bool.false_ne_true
def B_:=@List.map_cons
def C_:=@List.mem_cons_self
def D_:=@Bool.and_eq_true
def Em:=@PySem.Heap.get?_push_of_some
def E_:=@PySem.Heap.lt_size
def F_:=@decide_eq_false
def G_:=@PySem.wpAny_pure
def H_:=@List.length_append
def I_:=@Nat.le_trans
def J_:=@decide_eq_true
def K_:=@Nat.lt_of_lt_of_le
def L_:=@List.length_cons
def M_:=@PySem.Heap.get?_push_size
def N_:=@List.mem_cons
def Ox:=@List.length_pos_iff
def Oy:=@beq_eq_false_iff_ne
def Oz:=@List.size_toArray
def OA:=@List.all_eq_true
def OB:=@List.length_set
def OC:=@List.getElem?_eq_getElem
def OD:=@List.getElem?_append_left
def OE:=@Option.some.inj
def OF:=@Nat.ne_of_lt
def OG:=@List.mem_singleton
def OH:=@Option.map_eq_some_iff
def OI:=@List.getElem?_map
def OJ:=@List.sum_cons
def OK:=@List.mem_append_right
def OL:=@List.nil_append
def OM:=@List.length_nil
def ON:=@Nat.zero_le
def OO:=@List.getElem?_append_right
def OP:=@List.map_nil
def OQ:=@List.mem_map
def OR:=@List.nodup_cons
def OS:=@Nat.pow_le_pow_right
def OT:=@Rat.not_lt
def OU:=@congrArg
def OV:=@PySem.wpAny_mono
def OW:=@Rat.le_of_lt
def OX:=@beq_iff_eq
def OY:=@PyProof.Rows.callWith_type1
def OZ:=@Option.bind_eq_some_iff
def O0:=@List.map_append
def O1:=@List.append_assoc
def O2:=@List.contains_iff_mem
def O3:=@Rat.le_trans
def O4:=@List.mem_append
def O5:=@PySem.wpAny_field
def O6:=@List.getElem?_replicate
def O7:=@List.getD_eq_getElem?_getD
def O8:=@Nat.lt_irrefl
def O9:=@List.append_nil
def O_:=@Rat.mul_le_mul_of_nonneg_right
def Pa:=@List.length_replicate
def Pb:=@Option.isSome_iff_exists
def Pc:=@PySem.wpAny_newObj_type
def Pd:=@List.find?_cons
def Pe:=@PySem.mem_of_lookup
def Pf:=@Rat.div_def
def Pg:=@List.any_cons
def Ph:=@List.getElem?_eq_none_iff
def Pj:=@Int.mul_assoc
def Pk:=@Rat.mul_le_mul_of_nonneg_left
def Pl:=@PySem.wpAny_callSpecial?_slot
def Pm:=@List.filterMap_cons
def Pn:=@And.left
def Pp:=@List.length_take
def Pq:=@List.lookup_cons
def Pr:=@PySem.wpAny_seqItems
def Pt:=@List.take_of_length_le
def Pu:=@PySem.wpAny_setField_rec
def Pw:=@Int.mul_ne_zero
def Px:=@List.getElem?_zipWith
def Py:=@Nat.not_lt_zero
def Pz:=@PySem.wpAny_passesOwn
def PB:=@PySem.F.slot_tuple_iterator_next
def PC:=@List.all_cons
def PD:=@List.length_range
def PF:=@List.reverse_cons
def PH:=@List.mem_of_getElem?
def PJ:=@Rat.le_refl
def PK:=@PySem.Heap.size_push
def PL:=@Int.natAbs_mul
def PM:=@if_true
def PN:=@List.map_map
def PQ:=@List.length_zipWith
def PR:=@List.take_nil
def PU:=@PySem.wpAny_holding
def PV:=@Bool.false_eq_true
def PX:=@List.foldl_cons
def PY:=@PySem.wpAny_Call_Name_kw
def PZ:=@Int.mul_left_comm
def P0:=@List.nodup_append
def P1:=@decide_eq_true_eq
def P2:=@PySem.wpAny_truthy_bool
def P4:=@List.length_singleton
def P5:=@List.mapM_cons
def P6:=@List.getElem?_set_ne
def P7:=@PySem.wpAny_call_entry
def P8:=@Int.eq_of_mul_eq_mul_right
def P9:=@List.drop_nil
def P_:=@Nat.mul_le_mul_left
def Qa:=@Classical.byContradiction
def Qb:=@List.mem_of_find?_eq_some
def Qc:=@PySem.AutoSeq1.wpAny_loadPart'
def Qd:=@Int.mul_comm
def Qe:=@Int.mul_right_comm
def Qf:=@Nat.ne_of_gt
def Qg:=@PySem.F.args_tuple_add_2
def Qh:=@Rat.mul_inv_cancel
def Qi:=@PySem.wpAny_pyIter_tuple
def Qj:=@PySem.F.entry_tuple_add
def Qk:=@Int.toNat_natCast
def Ql:=@List.getElem?_set
def Qm:=@PySem.F.slot_tuple_add
def Qn:=@Rat.mul_pos
def Qo:=@PyProof.Rows.subscriptTail_builtinR
def Qp:=@PySem.wpAny_standAt
def Qq:=@Nat.le_add_right
def Qr:=@Option.getD_none
def Qs:=@if_false
def Qt:=@List.take_append_drop
def Qu:=@PySem.F.slot_zip_next
def Qv:=@PySem.Heap.get?_none_of_le
def Qw:=@List.forIn_cons
def Qx:=@List.getElem?_append
def Qy:=@Nat.lt_trans
def Qz:=@Nat.mul_comm
def QA:=@Nat.sub_self
def QB:=@Rat.intCast_mul
def QC:=@Rat.num_eq_zero
def QD:=@PySem.wpAny_execs_nil
def QE:=@PySem.wpAny_updateSeq_pair
def QF:=@Array.length_toList
def QG:=@List.mem_map_of_mem
def QH:=@List.forIn_nil
def QI:=@List.mem_range
def QJ:=@List.nodup_nil
def QK:=@Bool.and_self
def QL:=@Rat.mul_assoc
def QM:=@PySem.wpAny_attempt
def QN:=@PySem.wpAny_onRaise
set_option maxRecDepth 100000
namespace L2
open PySem PySem.Spec PyProof.Rows
abbrev _root_.Ra:=Str->Option Value
abbrev _root_.Rb:=List (Addr×Obj)
abbrev _root_.Rf:=Value->Shared->Prop
abbrev _root_.Rg:=List (Option Nat)
abbrev Key:=Sum Int Str
noncomputable def mz:Key->Value->Bool
 |.inl k,v=>Value.isInt k v
 |.inr x,v=>Value.isStrOf x v
noncomputable def keyH(w:World):Key->Int
 |.inl k=>hashInt k
 |.inr x=>hashStr w x
theorem dB:∀{k:Key}{v:Value},mz k v=true->(∃i t,k=Sum.inl i/\v=Value.int i t)\/(∃x t,k=Sum.inr x/\v=Value.str x t)
 |
  .inl i,v,h=>by
  obtain⟨t,e⟩:=Value.isInt_shape (k:=i) (v:=v) h;exact .inl ⟨i,t,rfl,e⟩
 |
  .inr x,v,h=>by
  obtain⟨t,e⟩:=Value.isStrOf_shape (x:=x) (v:=v) h;exact .inr ⟨x,t,rfl,e⟩
def As(i:Int)(t:Tok):mz (.inl i) (.int i t)=true:=by simp [mz,Value.isInt]
def zL(x:Str)(t:Tok):mz (.inr x) (.str x t)=true:=by simp [mz,Value.isStrOf]
def JS(a b:Int):decide ((Sum.inl a:Key)=Sum.inl b)=(a==b):=by
 by_cases e:a=b
 .subst e;simp
 .have h:¬ (Sum.inl a:Key)=Sum.inl b:=λq=>e (Sum.inl.inj q);rw[F_ h];exact (Oy.mpr e).symm
def Lj(a b:Str):decide ((Sum.inr a:Key)=Sum.inr b)=decide (a=b):=by
 by_cases e:a=b
 .subst e;simp
 .have h:¬ (Sum.inr a:Key)=Sum.inr b:=λq=>e (Sum.inr.inj q);rw[F_ h,F_ e]
def Jt(a:Int)(b:Str):decide ((Sum.inl a:Key)=Sum.inr b)=false:=F_ (λq=>nomatch q)
def IG(a:Str)(b:Int):decide ((Sum.inr a:Key)=Sum.inl b)=false:=F_ (λq=>nomatch q)
noncomputable def cz(prog:Program)(w:World):PySem.KeyKind prog w Key where
 is:=mz
 hash:=keyH w
 inj
  := λv a b ha hb=>by
  rcases dB ha with ⟨i,t,rfl,rfl⟩ |⟨x,t,rfl,rfl⟩
  .rcases dB hb with ⟨j,u,rfl,e⟩ |⟨y,u,rfl,e⟩
   .injection e with e1 _;rw[e1]
   .exact nomatch e
  .rcases dB hb with ⟨j,u,rfl,e⟩ |⟨y,u,rfl,e⟩
   .exact nomatch e
   .injection e with e1 _;rw[e1]
 byValue:=λk v h=>by rcases dB h with ⟨i,t,rfl,rfl⟩ |⟨x,t,rfl,rfl⟩ <;> rfl
 pyHash:=λhv h=>by
  rcases dB hv with ⟨i,t,rfl,rfl⟩ |⟨x,t,rfl,rfl⟩
  .exact wpAny_pyHash_int h
  .exact wpAny_pyHash_str h
 eqBool:=λhu hv h=>by
  rcases dB hu with ⟨i,t,rfl,rfl⟩ |⟨x,t,rfl,rfl⟩
  .rcases dB hv with ⟨j,u,rfl,rfl⟩ |⟨y,u,rfl,rfl⟩
   .rw[JS] at h;exact wpAny_eqBool_int h
   .rw[Jt] at h;exact SeqAt.EqAt.int_str i t y u _ _ _ _ h
  .rcases dB hv with ⟨j,u,rfl,rfl⟩ |⟨y,u,rfl,rfl⟩
   .rw[IG] at h;exact SeqAt.EqAt.str_int x t j u _ _ _ _ h
   .rw[Lj] at h;exact wpAny_eqBool_str h
 «strs»:=λk x t v h=>by
  rcases dB h with ⟨i,u,rfl,e⟩ |⟨y,u,rfl,e⟩
  .exact nomatch e
  .injection e with e1 _;subst e1;cases v <;> rfl
def vS(prog:Program)(w:World)(i:Int)(t:Tok):(cz prog w).is (.inl i) (.int i t)=true:=As i t
def nc(prog:Program)(w:World)(x:Str)(t:Tok):(cz prog w).is (.inr x) (.str x t)=true:=zL x t
inductive V where
 |non |bl (b:Bool) |int (i:Int) |str (x:Str) |byt (b:Array UInt8) |flt (b:UInt64) |ref (a:Addr) |ty (n:String)
 deriving DecidableEq
def RelV:V->Value->Prop
 |.non,u=>u=Value.none
 |.bl b,u=>u=Value.bool b
 |.int i,u=>∃t,u=Value.int i t
 |.str x,u=>∃t,u=Value.str x t
 |.byt b,u=>∃t,u=Value.bytes b t
 |.flt b,u=>∃t,u=Value.float b t
 |.ref a,u=>u=Value.ref a
 |.ty n,u=>u=Value.type n
abbrev Vals:List V->List Value->Prop:=Paired RelV
def Vals.length(r:Vals xs us):xs.length=us.length:=Paired.length r
def Vals.get{xs:List V}{us:List Value}{i:Nat}{x:V}(r:Vals xs us)(e:xs[i]?=some x):∃u,us[i]?=some u/\RelV x u:=by
 induction r generalizing i with
 |nil=>rw[List.getElem?_nil] at e;cases e
 |
  cons r t ih=>
  cases i with
  |zero=>cases e;exact⟨_,rfl,r⟩
  |succ i=>exact ih (i:=i) e
def Vals.append(r:Vals xs us)(s:Vals ys ws):Vals (xs++ys) (us++ws):=by
 induction r with
 |nil=>exact s
 |cons r t ih=>exact .cons r ih
def Vals.take(n:Nat)(r:Vals xs us):Vals (xs.take n) (us.take n):=by
 induction r generalizing n with
 |nil=>rw[PR,PR];exact .nil
 |
  cons r t ih=>
  cases n with
  |zero=>exact .nil
  |succ n=>exact .cons r (ih n)
def Vals.drop(n:Nat)(r:Vals xs us):Vals (xs.drop n) (us.drop n):=by
 induction r generalizing n with
 |nil=>rw[P9,P9];exact .nil
 |
  cons r t ih=>
  cases n with
  |zero=>exact .cons r t
  |succ n=>exact ih n
def RelO:Option V->Option Value->Prop
 |some v,some u=>RelV v u
 |none,none=>True
 |_,_=>False
def KV{κ:Type}:List (κ×V)->List (κ×Value)->Prop:=Paired λ(p:κ×V) (q:κ×Value)=>p.1=q.1/\RelV p.2 q.2
noncomputable def kV:Key->V
 |.inl i=>.int i
 |.inr x=>.str x
inductive HO where
 |lst (xs:List V)
 |tup (xs:List V)
 |dK (kvs:List (Key×V)) |dT (kvs:List (List Key×V))
 |set (S:Int->Bool) (n:Nat)
 |ins (C dx:Addr) (fs:List (Str×V))
 |own (x:Addr)
 |xd (fs:List (Str×V))
 |met (f x:Addr)
 |rng (lo hi:Int)
 |frz (o:Obj) (u:HO)
 |tbl (ps:Array Value)
 |ext (φ:Heap->Prop)
abbrev Hp:=Addr->Option HO
noncomputable def upd(H:Hp)(a:Addr)(o:HO):Hp:=λb=>if b=a then some o else H b
def eB:upd H a o a=some o:=by unfold upd;rw[if_pos rfl]
def bR(h:b≠a):upd H a o b=H b:=by unfold upd;rw[if_neg h]
def NL{H:Hp}{a b:Addr}{o u:HO}(h:H a=some o)(h':H b=some u)(d:o≠u):a≠b:=by intro e;subst e;rw[h] at h';exact d (OE h')
def cQ{H:Hp}{a b:Addr}{o:HO}(h:H a=some o)(h':H b=none):a≠b:=by intro e;subst e;rw[h] at h';cases h'
section
variable(P:Program)(w:World)
def ObjOk(H:Hp)(h:Heap)(a:Addr):HO->Prop
 |.lst xs=>xs.length<=sizeLine/\∃(its:List Value) (n:Nat),Vals xs its/\h.get? a=some { cls:=.type "list",data:=.seq its.toArray n }
 |.tup xs=>xs.length<=sizeLine/\∃its:List Value,Vals xs its/\IsTup h a its.toArray
 |.dK kvs=>kvs.length<=sizeLine/\(a==sysModules)=false/\∃vs,KV kvs vs/\h.DictOf (cz P w) a vs
 |.dT kvs=>kvs.length<=sizeLine/\(a==sysModules)=false/\∃xs:List (List Key×Addr×Value),
  Paired (λ(p:List Key×V) (q:List Key×Addr×Value)=>p.1=q.1/\H q.2.1=some (.tup (p.1.map kV))/\RelV p.2 q.2.2) kvs xs/\
  ∃o es ep,h.get? a=some o/\o.ExactDict/\o.data=.dict es ep/\es.toList=xs.map (entryOfKey (tupleKind (cz P w)))/\(xs.map (·.1)).Nodup
 |.set S n=>h.SetOf (intKind P w) a S n
 |.ins C dx fs=>H dx=some (.own a)/\fs.length<=1000/\dx≠a/\h.get? a=some (W.instObj C dx)/\
  ∃mA,h.Ns1 dx mA/\(∀f,RelO (fs.lookup f) (mA f))/\PySem.Within mA (fs.map (·.1))
 |.own _=>∃o,h.get? a=some o
 |.xd fs=>∃mA,h.Ns1 a mA/\∀f,RelO (fs.lookup f) (mA f)
 |.rng lo hi=>∃t u v,h.get? a=some { cls:=.type "range",data:=.fields #[.int lo t,.int hi u,.int 1 v] }
 |.frz o u=>h.get? a=some o/\ObjOk H h a u
 |.tbl ps=>h.get? a=some { cls:=.none,data:=.fields ps }
 |.met f x=>h.get? a=some (W.methodObj (.ref f) (.ref x))
 |.ext φ=>φ h/\(∃o,h.get? a=some o)/\∀h1 h2:Heap,φ h1->(∀o,h1.get? a=some o->h2.get? a=some o)->φ h2
def HOk(H:Hp)(h:Heap):Prop:=∀a o,H a=some o->ObjOk P w H h a o
end
section
variable{P:Program}{w:World}{H H':Hp}{h h':Heap}{a:Addr}{o:HO}
def ObjOk.lt(x:ObjOk P w H h a o):a<h.objs.size:=by
 cases o with
 |lst xs=>obtain⟨_,_,_,_,e⟩:=x;exact E_ e
 |tup xs=>obtain⟨_,_,_,p⟩:=x;exact p.lt
 |dK kvs=>obtain⟨_,_,_,_,o,_,_,e,_⟩:=x;exact E_ e
 |dT kvs=>obtain⟨_,_,_,_,o,_,_,e,_⟩:=x;exact E_ e
 |set S n=>obtain⟨o,_,_,_,e,_⟩:=x;exact E_ e
 |ins C dx fs=>obtain⟨_,_,_,e,_⟩:=x;exact E_ e
 |own y=>obtain⟨_,e⟩:=x;exact E_ e
 |xd fs=>obtain⟨_,⟨_,_,_,e,_⟩,_⟩:=x;exact E_ e
 |rng lo hi=>obtain⟨_,_,_,e⟩:=x;exact E_ e
 |frz ob u=>obtain⟨e,_⟩:=x;exact E_ e
 |tbl ps=>exact E_ (show h.get? a=some _ from x)
 |met f y=>exact E_ (show h.get? a=some _ from x)
 |ext φ=>obtain⟨_,⟨_,e⟩,_⟩:=x;exact E_ e
def Paired.mapP(r:Paired F l₁ l₂)(f:∀a b,F a b->G a b):Paired G l₁ l₂:=by
 induction r with
 |nil=>exact .nil
 |cons r t ih=>exact .cons (f _ _ r) ih
def ObjOk.stay(x:ObjOk P w H h a o)(k:∀b u,(b=a\/H b=some (.own a))->h.get? b=some u->h'.get? b=some u)
 (ho:∀b,H b=some (.own a)->H' b=some (.own a)) (ht:∀b xs,H b=some (.tup xs)->H' b=some (.tup xs)):ObjOk P w H' h' a o:=by
 induction o with
 |lst xs=>obtain⟨z,its,n,r,e⟩:=x;exact⟨z,its,n,r,k _ _ (.inl rfl) e⟩
 |tup xs=>obtain⟨z,its,r,ob,e,c⟩:=x;exact⟨z,its,r,ob,k _ _ (.inl rfl) e,c⟩
 |dK kvs=>obtain⟨z,y,vs,r,ob,es,ep,e,c⟩:=x;exact⟨z,y,vs,r,ob,es,ep,k _ _ (.inl rfl) e,c⟩
 |dT kvs=>obtain⟨z,y,xs,r,ob,es,ep,e,c⟩:=x;exact⟨z,y,xs,Paired.mapP r λp q z=>⟨z.1,ht _ _ z.2.1,z.2.2⟩,ob,es,ep,k _ _ (.inl rfl) e,c⟩
 |set S n=>obtain⟨ob,es,ep,t,e,c⟩:=x;exact⟨ob,es,ep,t,k _ _ (.inl rfl) e,c⟩
 |ins C dx fs=>obtain⟨d,z,ne,e,mA,⟨od,es,ep,e2,c⟩,r⟩:=x;exact⟨ho _ d,z,ne,k _ _ (.inl rfl) e,mA,⟨od,es,ep,k _ _ (.inr d) e2,c⟩,r⟩
 |own y=>obtain⟨ob,e⟩:=x;exact⟨ob,k _ _ (.inl rfl) e⟩
 |xd fs=>obtain⟨mA,⟨od,es,ep,e,c⟩,r⟩:=x;exact⟨mA,⟨od,es,ep,k _ _ (.inl rfl) e,c⟩,r⟩
 |rng lo hi=>obtain⟨t,u,v,e⟩:=x;exact⟨t,u,v,k _ _ (.inl rfl) e⟩
 |frz ob u ih=>obtain⟨e,q⟩:=x;exact⟨k _ _ (.inl rfl) e,ih q⟩
 |tbl ps=>have e:h.get? a=some { cls:=.none,data:=.fields ps }:=x;show h'.get? a=some { cls:=.none,data:=.fields ps };exact k a _ (.inl rfl) e
 |met f y=>have e:h.get? a=some (W.methodObj (.ref f) (.ref y)):=x;show h'.get? a=some (W.methodObj (.ref f) (.ref y));exact k a _ (.inl rfl) e
 |ext φ=>obtain⟨p,⟨o,e⟩,st⟩:=x;exact⟨st _ _ p λo q=>k _ _ (.inl rfl) q,⟨o,k _ _ (.inl rfl) e⟩,st⟩
def HOk.lt(x:HOk P w H h)(e:H a=some o):a<h.objs.size:=(x a o e).lt
def HOk.fresh(x:HOk P w H h)(e:h.objs.size<=a):H a=none:=by
 cases q:H a with
 |none=>rfl
 |some u=>exact absurd (K_ (x.lt q) e) (O8 _)
def HOk.kept(x:HOk P w H h)(k:∀b u,h.get? b=some u->h'.get? b=some u):HOk P w H h':=λa o e=>
 (x a o e).stay (λb u _ q=>k b u q) (λ_ q=>q) λ_ _ q=>q
def HOk.laid(x:HOk P w H h)(k:∀b u,h.get? b=some u->h'.get? b=some u)(hp:h.objs.size<=a)(new:ObjOk P w (upd H a o) h' a o):HOk P w (upd H a o) h':=λb u e=>by
 have hn:=x.fresh hp;by_cases hb:b=a
 .subst hb;rw[eB] at e;cases e;exact new
 .rw[bR hb] at e;exact (x b u e).stay (λc v _ q=>k c v q) (λc q=>by rw[bR (cQ q hn)];exact q) λc xs q=>by rw[bR (cQ q hn)];exact q
end
def Rd(H:Hp)(a:Addr)(u:HO):Prop:=H a=some u\/∃o,H a=some (.frz o u)
def Rd.ok(r:Rd H a u)(x:HOk P w H h):ObjOk P w H h a u:=by
 rcases r with r |⟨o,r⟩
 .exact x a u r
 .obtain⟨_,q⟩:=x a _ r;exact q
def Mut:Option HO->Prop
 |some (.lst _)=>True
 |some (.dK _)=>True
 |some (.dT _)=>True
 |some (.set _ _)=>True
 |some (.ins _ _ _)=>True
 |some (.ext _)=>True
 |_=>False
section
variable{P:Program}{w:World}{H:Hp}{h h':Heap}{x e:Addr}{o':HO}
def HOk.write(ok:HOk P w H h)(mu:Mut (H x))(he:e=x\/H e=some (.own x))(k:∀b u,b≠e->h.get? b=some u->h'.get? b=some u)(heo:∃u,h'.get? e=some u)
 (new:ObjOk P w (upd H x o') h' x o'):HOk P w (upd H x o') h':=λb u q=>by
 have nown:∀c y,H c=some (.own y)->c≠x:=λc y r z=>by subst z;rw[r] at mu;exact mu
 have ntup:∀c xs,H c=some (.tup xs)->c≠x:=λc xs r z=>by subst z;rw[r] at mu;exact mu
 by_cases hb:b=x
 .subst hb;rw[eB] at q;cases q;exact new
 .rw[bR hb] at q;by_cases hbe:b=e
  .have q':H b=some (.own x):=by
    rcases he with z |z
    .exact absurd (hbe.trans z) hb
    .rw[hbe];exact z
   rw[q] at q';cases q';obtain⟨v,hv⟩:=heo;exact⟨v,by rw[hbe];exact hv⟩
  .refine (ok b u q).stay (λc v hc r=>k c v ?_ r) (λc r=>by rw[bR (nown c b r)];exact r) λc xs r=>by rw[bR (ntup c xs r)];exact r
   rcases hc with rfl |hc
   .exact hbe
   .rintro rfl;rcases he with z |z
    .exact nown c b hc z
    .rw[hc] at z;cases z;exact hb rfl
end
structure Un(fs ex:List Addr)(H H':Hp)(h h':Heap):Prop where
 keep:∀b o,h.get? b=some o->H b=none->b∉fs->b∉ex->h'.get? b=some o
 slot:∀b o,h.get? b=some o->H b=none->b∈fs->b∉ex->∃sl,h'.get? b=some { o with slots:=sl }
 free:∀b o,h.get? b=some o->H b=none->b∉ex->H' b=none
 there:∀b o,h.get? b=some o->b∉ex->∃o',h'.get? b=some o'
 tups:∀b xs,H b=some (.tup xs)->H' b=some (.tup xs)
 frzs:∀b o u,H b=some (.frz o u)->H' b=some (.frz o u)
 tbls:∀b ps,H b=some (.tbl ps)->∃more,H' b=some (.tbl (ps++more))
section
variable{fs ex:List Addr}{H H1:Hp}{h h1 h':Heap}{a x e:Addr}{o:HO}
def Un.any(u:Un fs ex H H1 h h1)(q:h.get? b=some ob)(n:H b=none)(hx:b∉ex):∃sl,h1.get? b=some { ob with slots:=sl }:=by
 by_cases hb:b∈fs
 .exact u.slot b ob q n hb hx
 .exact⟨ob.slots,u.keep b ob q n hb hx⟩
def Un.kept(k:∀b u,h.get? b=some u->h'.get? b=some u):Un fs ex H H h h':=
 ⟨λb ob q _ _ _=>k b ob q,λb ob q _ _ _=>⟨ob.slots,k b ob q⟩,λ_ _ _ n _=>n,λb ob q _=>⟨ob,k b ob q⟩,λ_ _ q=>q,λ_ _ _ q=>q,λ_ ps q=>⟨#[],by rw[q];simp⟩⟩
def Un.refl:Un fs ex H H h h:=Un.kept λ_ _ q=>q
def Un.laid(k:∀b u,h.get? b=some u->h'.get? b=some u)(hp:h.objs.size<=a)(hn:H a=none):Un fs ex H (upd H a o) h h' where
 keep:=λb u q _ _ _=>k b u q
 slot:=λb u q _ _ _=>⟨u.slots,k b u q⟩
 free:=λb u q n _=>by rw[bR (OF (K_ (E_ q) hp))];exact n
 there:=λb u q _=>⟨u,k b u q⟩
 tups:=λb xs q=>by rw[bR (cQ q hn)];exact q
 frzs:=λb u xs q=>by rw[bR (cQ q hn)];exact q
 tbls:=λb ps q=>⟨#[],by rw[bR (cQ q hn),q];simp⟩
def Un.write(mu:Mut (H x))(he:e=x\/H e=some (.own x))(k:∀b u,b≠e->h.get? b=some u->h'.get? b=some u)(heo:∃u,h'.get? e=some u):Un fs ex H (upd H x o) h h':=by
 have hx:∀b,H b=none->b≠x:=λb n z=>by subst z;rw[n] at mu;exact mu
 have hb:∀b,H b=none->b≠e:=λb n z=>by
  subst z;rcases he with r |r
  .exact hx b n r
  .rw[n] at r;cases r
 have hm:∀b u,H b=some u->¬ Mut (some u)->b≠x:=λb u q nm z=>by subst z;rw[q] at mu;exact nm mu
 refine⟨λb u q n _ _=>k b u (hb b n) q,λb u q n _ _=>⟨u.slots,k b u (hb b n) q⟩,λb u q n _=>by rw[bR (hx b n)];exact n,λb u q _=>?_,
  λb xs q=>by rw[bR (hm b _ q λz=>z)];exact q,λb u xs q=>by rw[bR (hm b _ q λz=>z)];exact q,λb ps q=>⟨#[],by rw[bR (hm b _ q λz=>z),q];simp⟩⟩
 by_cases hbe:b=e
 .subst hbe;exact heo
 .exact⟨u,k b u hbe q⟩
end
noncomputable def trk(h:Heap)(H:Hp):List Addr:=(List.range h.objs.size).filter λa=>(H a).isSome
noncomputable def kP(h:Heap)(H:Hp):Heap:=W.hideAll h (trk h H)
def za(h:Heap)(H:Hp):(kP h H).objs.size=h.objs.size:=W.hideAll_size _ _
def Bz(e:h.get? b=some o)(n:H b=none):(kP h H).get? b=some o:=
 W.hideAll_get _ e λhm=>by have q:(H b).isSome=true:=(List.mem_filter.mp hm).2;rw[n] at q;simp at q
def Gj(e:(kP h H).get? b=some o):h.get? b=some o/\H b=none:=by
 have e':h.get? b=some o:=W.of_hideAll (trk h H) e;refine⟨e',?_⟩;cases q:H b with
 |none=>rfl
 |some x=>have hm:b∈trk h H:=List.mem_filter.mpr ⟨QI.mpr (E_ e'),by simp [q]⟩;have z:(kP h H).get? b=none:=W.hideAll_none (trk h H) hm;rw[z] at e;cases e
noncomputable def EI(g h:Heap)(L:Addr):List (Addr×Obj):=(List.range h.objs.size).filterMap λa=>if a=L\/(g.get? a).isSome=true then none else (h.get? a).map λo=>(a,o)
noncomputable def rest(g h:Heap)(L d:Addr):List (Addr×Obj):=(EI g h L).filter λp=>decide (p.1≠d)
structure Mod(K:W.Frag)(mg:Ra)(base:Heap):Prop where
 kin:K.In base
 glob:base.Ns mainGlobals mg
 blt:∃mb,base.Ns builtinsNs mb/\∀x:Str,x ≠ "__name__"->mb x=bootBuiltins x
 nolimit:base.NoLimit
structure Cx where
 prog:Program
 w:World
 K:W.Frag
 mg:Str->Option Value
 base:Heap
 A:Around
 N:List Str
 s₀:Shared
 H₀:Hp
 env:Env
 outer:List Env
 stack:List Env
 ex:List Addr
 fn:Str->Bool
 calm:Bool
 pn:List (Addr×Obj)
 xe:Value->Shared->Prop
noncomputable def frs(l:List Env):List Addr:=l.filterMap (·.frame)
abbrev Cx.fs(X:Cx):List Addr:=frs X.outer
def Vis(sc:Scope)(x:Str):Prop:=sc.names.lookup x=some .local\/sc.names.lookup x=some .cell\/sc.names.lookup x=some .free
def Loc(sc:Scope)(x:Str):Prop:=sc.names.lookup x=some .local\/sc.names.lookup x=some .cell
def Look(env:Env)(h:Heap)(m:Ra)(x:Str)(u:Value):Prop:=
 (env.kindOf x=some .local/\m x=some u)\/((env.kindOf x=some .cell\/env.kindOf x=some .free)/\∃c,env.cells.lookup x=some c/\h.IsCell c (some u))
structure Cx.Ok(X:Cx):Prop where
 mod:Mod X.K X.mg X.base
 kind:X.env.scope.kind=.function
 glob:X.env.globals=mainGlobals
 blt:X.env.builtins=builtinsNs
 above:X.s₀.heap.objs.size<=X.env.locals
 inj:∀x y c,X.env.cells.lookup x=some c->X.env.cells.lookup y=some c->x=y
 has:∀x,(X.env.kindOf x=some .cell\/X.env.kindOf x=some .free)->∃c,X.env.cells.lookup x=some c
 cab:∀x c,X.fn x=true->X.env.cells.lookup x=some c->X.s₀.heap.objs.size<=c
 hd:X.calm=true->X.A.handled=none
 frames:X.A.frames=some X.stack
 stk:X.stack=X.outer\/(X.stack=X.env::X.outer/\X.env.frame=some X.env.locals)
 exf:∀b∈X.ex,b≠X.env.locals/\∀x c,X.env.cells.lookup x=some c->c≠b
 bs:∀b o,X.base.get? b=some o->X.s₀.heap.get? b=some o/\X.H₀ b=none
 bsz:X.base.objs.size<=X.s₀.heap.objs.size
 noex:∀b o,X.base.get? b=some o->b∉X.ex
 exfs:∀b∈X.ex,b∉X.fs
 funs:X.s₀.heap.FunFrames X.base X.outer
 frf:∀b∈X.fs,X.H₀ b=none
structure Inv(X:Cx)(pins:Rb)(σ:List (Option V))(H:Hp)(s:Shared):Prop where
 ok:X.Ok
 os:s.os=X.s₀.os
 bare:AllBare s.gens
 base:Un X.fs X.ex X.H₀ H X.s₀.heap s.heap
 loc:∃m,s.heap.Ns X.env.locals m/\∀(i:Nat) (x:Str) (v:V),X.N[i]?=some x->σ[i]?=some (some v)->Vis X.env.scope x->∃u,RelV v u/\Look X.env s.heap m x u
 cell:∀x c,X.env.cells.lookup x=some c->∃v,s.heap.IsCell c v
 free:H X.env.locals=none
 freeC:∀x c,X.env.cells.lookup x=some c->H c=none
 pin:∀p∈X.pn++pins,s.heap.get? p.1=some p.2/\H p.1=none/\p.1≠X.env.locals/\p.1∉X.fs/\∀v,p.2.data ≠ .cell v
 hok:HOk X.prog X.w H s.heap
 len:σ.length=X.N.length
section
variable{X:Cx}{pins:Rb}{σ:List (Option V)}{H H':Hp}{s:Shared}{h':Heap}
def Cx.Ok.nofr(ok:X.Ok)(e:X.base.get? b=some o):b∉X.fs:=λhb=>by
 have:=(ok.funs.mem hb).1
 rw[e] at this;cases this
def Inv.bs(I:Inv X pins σ H s):∀b o,X.base.get? b=some o->s.heap.get? b=some o/\H b=none:=λb o e=>
 ⟨I.base.keep b o (I.ok.bs b o e).1 (I.ok.bs b o e).2 (I.ok.nofr e) (I.ok.noex b o e),I.base.free b o (I.ok.bs b o e).1 (I.ok.bs b o e).2 (I.ok.noex b o e)⟩
def Inv.bk(I:Inv X pins σ H s):∀b o,X.base.get? b=some o->s.heap.get? b=some o:=λb o e=>(I.bs b o e).1
def Inv.mod(I:Inv X pins σ H s):Mod X.K X.mg X.base:=I.ok.mod
def Inv.kIn(I:Inv X pins σ H s):X.K.In s.heap:=I.ok.mod.kin.keeps I.bk
def Inv.lt(I:Inv X pins σ H s):X.env.locals<s.heap.objs.size:=let ⟨_,hn,_⟩:=I.loc;hn.lt
def Inv.sz(I:Inv X pins σ H s):X.s₀.heap.objs.size<=s.heap.objs.size:=I_ I.ok.above (Nat.le_of_lt I.lt)
def Inv.nofs(I:Inv X pins σ H s)(h:s.heap.objs.size<=a):a∉X.fs:=λhb=>by obtain⟨_,o,ho,_⟩:=I.ok.funs.mem hb;exact absurd (K_ (E_ ho) (I_ I.sz h)) (O8 _)
def Inv.cne(I:Inv X pins σ H s):∀x c,X.env.cells.lookup x=some c->c≠X.env.locals:=λx c e z=>by obtain⟨v,o,ho,hd⟩:=I.cell x c e;obtain⟨m,⟨o',es,ep,ho',hd',_⟩,_⟩:=I.loc;rw[z,ho'] at ho;cases ho;rw[hd'] at hd;cases hd
def Inv.funs(I:Inv X pins σ H s):s.heap.FunFrames X.base X.outer:=by
 have all:∀(l:List Env),(∀b∈frs l,b∈X.fs)->X.s₀.heap.FunFrames X.base l->s.heap.FunFrames X.base l:=by
  intro l;induction l with
  |nil=>intro _ _;trivial
  |cons env r ih=>intro hs hl;obtain⟨hk,⟨L,o,hf,hn,ho,hd⟩,hr⟩:=hl;have hL:L∈X.fs:=hs L (by unfold frs;rw[Pm,hf];exact C_);obtain⟨sl,e⟩:=I.base.slot L o ho (I.ok.frf L hL) hL λz=>I.ok.exfs L z hL;exact⟨hk,⟨L,_,hf,hn,e,hd⟩,ih (λb hb=>hs b (by unfold frs;rw[Pm,hf];exact y_ _ hb)) hr⟩
 exact all X.outer (λ_ hb=>hb) I.ok.funs
def Inv.stack(I:Inv X pins σ H s):s.heap.FunFrames X.base X.stack:=by
 rcases I.ok.stk with e |⟨e,hf⟩
 .rw[e];exact I.funs
 .rw[e];obtain⟨m,hn,_⟩:=I.loc;refine .cons (by rw[I.ok.kind];decide) hf hn ?_ I.funs;exact Qv (I_ I.ok.bsz I.ok.above)
def Inv.stkSub(I:Inv X pins σ H s):∀b∈frs X.stack,b∈X.env.locals::X.fs:=λb hb=>by
 rcases I.ok.stk with e |⟨e,hf⟩
 .rw[e] at hb;exact y_ _ hb
 .rw[e] at hb;unfold frs at hb;rw[Pm,hf] at hb;exact hb
def Inv.stkFree(I:Inv X pins σ H s):∀b∈frs X.stack,H b=none:=λb hb=>by
 rcases N_.mp (I.stkSub b hb) with e |hb
 .rw[e];exact I.free
 .obtain⟨_,o,ho,_⟩:=I.ok.funs.mem hb;exact I.base.free b o ho (I.ok.frf b hb) λz=>I.ok.exfs b z hb
def Inv.step{g':Array GenState}{t':Nat}{d':Drawn}{ch:List Addr}(I:Inv X pins σ H s)
 (hch:∀b∈ch,(b∈X.ex\/X.s₀.heap.objs.size<=b)/\b≠X.env.locals/\(∀x c,X.env.cells.lookup x=some c->c≠b)/\∀p∈X.pn++pins,p.1≠b)
 (keep:∀b o,b≠X.env.locals->b∉X.fs->b∉ch->s.heap.get? b=some o->H b=none->h'.get? b=some o)
 (slot:∀b o,b≠X.env.locals->b∈X.fs->b∉ch->s.heap.get? b=some o->H b=none->∃sl,h'.get? b=some { o with slots:=sl }) (free:∀b o,b∉ch->s.heap.get? b=some o->H b=none->H' b=none)
 (there:∀b o,b∉ch->s.heap.get? b=some o->∃o',h'.get? b=some o')
 (tups:∀b xs,H b=some (.tup xs)->H' b=some (.tup xs)) (frzs:∀b o u,H b=some (.frz o u)->H' b=some (.frz o u)) (tbls:∀b ps,H b=some (.tbl ps)->∃more,H' b=some (.tbl (ps++more)))
 (ns:∀m,s.heap.Ns X.env.locals m->h'.Ns X.env.locals m) (hok:HOk X.prog X.w H' h') (hg:AllBare g'):
 Inv X pins σ H' { s with heap:=h',gens:=g',drawn:=d',toks:=t' }:=by
 have neL:∀b o,X.s₀.heap.get? b=some o->b≠X.env.locals:=λb o e=>OF (K_ (E_ e) I.ok.above);have neC:∀b o,X.s₀.heap.get? b=some o->b∉X.ex->b∉ch:=λb o e hx hb=>by
  rcases (hch b hb).1 with z |z
  .exact hx z
  .exact absurd (K_ (E_ e) z) (O8 _)
 have cellK:∀x c,X.env.cells.lookup x=some c->∀v,s.heap.IsCell c v->h'.IsCell c v:=λx c e v ⟨o,ho,hd⟩=>by
  have nch:c∉ch:=λz=>(hch c z).2.2.1 x c e rfl;by_cases hc:c∈X.fs
  .obtain⟨sl,q⟩:=slot c o (I.cne x c e) hc nch ho (I.freeC x c e);exact⟨_,q,hd⟩
  .exact⟨o,keep c o (I.cne x c e) hc nch ho (I.freeC x c e),hd⟩
 refine⟨I.ok,I.os,hg,⟨λb o e n hb hx=>?_,λb o e n hb hx=>?_,λb o e n hx=>?_,λb o e hx=>?_,λb xs e=>tups b xs (I.base.tups b xs e),λb o xs e=>frzs b o xs (I.base.frzs b o xs e),λb ps e=>?_⟩,?_,λx c e=>?_,?_,λx c e=>?_,λp hp=>?_,hok,I.len⟩
 .exact keep b o (neL b o e) hb (neC b o e hx) (I.base.keep b o e n hb hx) (I.base.free b o e n hx)
 .obtain⟨sl,e1⟩:=I.base.slot b o e n hb hx;obtain⟨sl',e2⟩:=slot b _ (neL b o e) hb (neC b o e hx) e1 (I.base.free b o e n hx);exact⟨sl',e2⟩
 .obtain⟨o',e1⟩:=I.base.there b o e hx;exact free b o' (neC b o e hx) e1 (I.base.free b o e n hx)
 .obtain⟨o',e1⟩:=I.base.there b o e hx;exact there b o' (neC b o e hx) e1
 .obtain⟨m1,e1⟩:=I.base.tbls b ps e;obtain⟨m2,e2⟩:=tbls b _ e1;exact⟨m1++m2,by rw[e2,Array.append_assoc]⟩
 .obtain⟨m,hn,hl⟩:=I.loc;refine⟨m,ns m hn,λi x v e1 e2 e3=>?_⟩;obtain⟨u,r,l⟩:=hl i x v e1 e2 e3;refine⟨u,r,?_⟩;rcases l with l |⟨k,c,e,z⟩
  .exact .inl l
  .exact .inr ⟨k,c,e,cellK x c e _ z⟩
 .obtain⟨v,z⟩:=I.cell x c e;exact⟨v,cellK x c e v z⟩
 .obtain⟨m,⟨o,_,_,ho,_⟩,_⟩:=I.loc;exact free _ o (λz=>(hch _ z).2.1 rfl) ho I.free
 .obtain⟨v,o,ho,hd⟩:=I.cell x c e;exact free c o (λz=>(hch c z).2.2.1 x c e rfl) ho (I.freeC x c e)
 .obtain⟨e,n,ne,nf,d⟩:=I.pin p hp;have nch:p.1∉ch:=λz=>(hch p.1 z).2.2.2 p hp rfl;exact⟨keep p.1 p.2 ne nf nch e n,free p.1 p.2 nch e n,ne,nf,d⟩
def Inv.un{t':Nat}(I:Inv X pins σ H s)(u:Un X.fs [] H H' s.heap h')(hok:HOk X.prog X.w H' h'):Inv X pins σ H' { s with heap:=h',toks:=t' }:=by obtain⟨m,⟨o,es,ep,ho,r⟩,_⟩:=id I.loc;obtain⟨sl,hL⟩:=u.any ho I.free (by simp);exact I.step (g':=s.gens) (d':=s.drawn) (ch:=[]) (λ_ z=>nomatch z) (λb o _ hb _ e n=>u.keep b o e n hb (by simp)) (λb o _ hb _ e n=>u.slot b o e n hb (by simp)) (λb o _ e n=>u.free b o e n (by simp)) (λb o _ e=>u.there b o e (by simp)) u.tups u.frzs u.tbls (λm' hm=>by obtain⟨o',es',ep',ho',r'⟩:=hm;rw[ho] at ho';cases ho';exact⟨_,es',ep',hL,r'⟩) hok I.bare
def Inv.call{g':Array GenState}{t':Nat}{d':Drawn}{ch:List Addr}(I:Inv X pins σ H s)(u:Un (frs X.stack) ch H H' s.heap h')(hok:HOk X.prog X.w H' h')(hg:AllBare g')
 (hch:∀b∈ch,(b∈X.ex\/X.s₀.heap.objs.size<=b)/\b≠X.env.locals/\(∀x c,X.env.cells.lookup x=some c->c≠b)/\∀p∈X.pn++pins,p.1≠b):
 Inv X pins σ H' { s with heap:=h',gens:=g',drawn:=d',toks:=t' }:=by
 obtain⟨m,⟨o,es,ep,ho,r⟩,_⟩:=id I.loc;obtain⟨sl,hL⟩:=u.any ho I.free λz=>(hch _ z).2.1 rfl;exact I.step (ch:=ch) hch (λb o hL hb hc e n=>u.keep b o e n (λz=>(N_.mp (I.stkSub b z)).elim hL hb) hc) (λb o _ _ hc e n=>u.any e n hc) (λb o hc e n=>u.free b o e n hc) (λb o hc e=>u.there b o e hc) u.tups u.frzs u.tbls (λm' hm=>by obtain⟨o',es',ep',ho',r'⟩:=hm;rw[ho] at ho';cases ho';exact⟨_,es',ep',hL,r'⟩) hok hg
def Inv.turned{t':Nat}{it:Addr}(I:Inv X pins σ H s)(k:∀b o,b≠it->s.heap.get? b=some o->h'.get? b=some o)(hn:H it=none)(hL:it≠X.env.locals)
 (h1:it∈X.ex\/X.s₀.heap.objs.size<=it) (h2:∀x c,X.env.cells.lookup x=some c->c≠it) (h3:∀p∈X.pn++pins,p.1≠it):Inv X pins σ H { s with heap:=h',toks:=t' }:=by
 have nit:∀b u,H b=some u->b≠it:=λb u e z=>by rw[z,hn] at e;cases e
 refine I.step (g':=s.gens) (d':=s.drawn) (ch:=[it]) (λb hb=>?_) (λb o _ _ hc e _=>k b o (λz=>hc (by simp [z])) e) (λb o _ _ hc e _=>⟨o.slots,k b o (λz=>hc (by simp [z])) e⟩) (λ_ _ _ _ n=>n)
  (λb o hc e=>⟨o,k b o (λz=>hc (by simp [z])) e⟩) (λ_ _ e=>e) (λ_ _ _ e=>e) (λb ps e=>⟨#[],by rw[e];simp⟩) (λm hm=>?_) (λb u e=>?_) I.bare
 .have e:b=it:=by simpa using hb
  subst e;exact⟨h1,hL,h2,h3⟩
 .obtain⟨o,es,ep,ho,r⟩:=hm;exact⟨o,es,ep,k _ o (Ne.symm hL) ho,r⟩
 .refine (I.hok b u e).stay (λc v hc q=>k c v ?_ q) (λ_ q=>q) λ_ _ q=>q;rcases hc with z |z
  .rw[z];exact nit b u e
  .exact nit c _ z
def Inv.tok(I:Inv X pins σ H s)(t:Nat):Inv X pins σ H { s with toks:=t }:=I.un (h':=s.heap) (t':=t) Un.refl I.hok
def Inv.kept(I:Inv X pins σ H s)(k:∀b u,s.heap.get? b=some u->h'.get? b=some u):Inv X pins σ H { s with heap:=h',toks:=t' }:=I.un (Un.kept k) (I.hok.kept k)
def Inv.laid(I:Inv X pins σ H s)(k:∀b u,s.heap.get? b=some u->h'.get? b=some u)(hp:s.heap.objs.size<=a)(new:ObjOk X.prog X.w (upd H a o) h' a o):
 Inv X pins σ (upd H a o) { s with heap:=h',toks:=t' }:=I.un (Un.laid k hp (I.hok.fresh hp)) (I.hok.laid k hp new)
def Inv.write(I:Inv X pins σ H s)(mu:Mut (H x))(he:e=x\/H e=some (.own x))(k:∀b u,b≠e->s.heap.get? b=some u->h'.get? b=some u)(heo:∃u,h'.get? e=some u)
 (new:ObjOk X.prog X.w (upd H x o) h' x o):Inv X pins σ (upd H x o) { s with heap:=h',toks:=t' }:=I.un (Un.write mu he k heo) (I.hok.write mu he k heo new)
def Inv.pins_of(I:Inv X pins σ H s)(h:∀p∈pins',s.heap.get? p.1=some p.2/\H p.1=none/\p.1≠X.env.locals/\p.1∉X.fs/\∀v,p.2.data ≠ .cell v):Inv X pins' σ H s:=
 ⟨I.ok,I.os,I.bare,I.base,I.loc,I.cell,I.free,I.freeC,λp hp=>(O4.mp hp).elim (λz=>I.pin p (List.mem_append_left _ z)) (h p),I.hok,I.len⟩
def uo{N:List Str}(hN:N.Nodup){i j:Nat}{x:Str}(a:N[i]?=some x)(b:N[j]?=some x):i=j:=by obtain⟨h1,e1⟩:=x_.mp a;obtain⟨h2,e2⟩:=x_.mp b;exact (List.getElem_inj hN).mp (e1.trans e2.symm)
def r9(I:Inv X pins σ H s)(hN:X.N.Nodup)(hi:X.N[i]?=some x)(hx:Loc X.env.scope x)(r:RelV v u)
 (h:∀s',Inv X pins (σ.set i (some v)) H s'->(∃a,Heap.SameBut a s.heap s'.heap/\(a=X.env.locals\/X.env.cells.lookup x=some a))->Q () s') (hf:X.fn x=true\/X.env.scope.names.lookup x=some .local):wpAny M A (storeName X.env x u) Q E s:=by
 obtain⟨m,hn,hl⟩:=id I.loc;have hcls:(X.env.scope.kind == .class || (X.env.scope.kind == .module&&X.env.locals != X.env.globals))=false:=by rw[I.ok.kind];rfl
 have hiσ:i<σ.length:=by rw[I.len];exact (x_.mp hi).1
 have cne:=I.cne;have tracked:∀{a:Addr}{h':Heap},(∃o,s.heap.get? a=some o/\H a=none)->Heap.SameBut a s.heap h'->HOk X.prog X.w H h':=λ{a h'} ha hs b ob e=>by
  obtain⟨_,_,hfree⟩:=ha;refine (I.hok b ob e).stay (λc w' hc q=>(hs.2 c ?_).trans q) (λ_ q=>q) λ_ _ q=>q;rintro rfl;rcases hc with rfl |hc
  .rw[hfree] at e;cases e
  .rw[hfree] at hc;cases hc
 rcases hx with hk |hk
 .refine wpAny_storeName_local hk hn (λh' hn' hs=>?_) hcls;obtain⟨oL,_,_,hoL,_⟩:=id hn;refine h _ ⟨I.ok,I.os,I.bare,⟨λb o e n hb hx=>?_,λb o e n hb hx=>?_,I.base.free,λb o e hx=>?_,I.base.tups,I.base.frzs,I.base.tbls⟩,⟨_,hn',λj y v' e1 e2 e3=>?_⟩,λy c e=>?_,I.free,I.freeC,λp hp=>?_,tracked ⟨oL,hoL,I.free⟩ hs,by simpa using I.len⟩ ⟨_,hs,.inl rfl⟩
  .exact (hs.2 b (OF (K_ (E_ e) I.ok.above))).trans (I.base.keep b o e n hb hx)
  .obtain⟨sl,e1⟩:=I.base.slot b o e n hb hx;exact⟨sl,(hs.2 b (OF (K_ (E_ e) I.ok.above))).trans e1⟩
  .obtain⟨o',e1⟩:=I.base.there b o e hx;exact⟨o',(hs.2 b (OF (K_ (E_ e) I.ok.above))).trans e1⟩
  .by_cases hj:j=i
   .subst hj;rw[hi] at e1;cases e1;rw[List.getElem?_set_self hiσ] at e2;cases e2;exact⟨u,r,.inl ⟨hk,by simp⟩⟩
   .rw[P6 (Ne.symm hj)] at e2;obtain⟨u',r',q⟩:=hl j y v' e1 e2 e3;refine⟨u',r',?_⟩;rcases q with ⟨k,e⟩ |⟨k,c,e,z⟩
    .refine .inl ⟨k,?_⟩;have:y≠x:=λe=>hj (uo hN e1 (e ▸ hi));simp [this,e]
    .exact .inr ⟨k,c,e,z.sameBut hs (cne y c e)⟩
  .obtain⟨w',z⟩:=I.cell y c e;exact⟨w',z.sameBut hs (cne y c e)⟩
  .obtain⟨e,n,ne,nf,d⟩:=I.pin p hp;exact⟨(hs.2 p.1 ne).trans e,n,ne,nf,d⟩
 .have hfn:X.fn x=true:=by
   rcases hf with z |z
   .exact z
   .rw[z] at hk;cases hk
  obtain⟨c,hc⟩:=I.ok.has x (.inl hk);obtain⟨w',z⟩:=I.cell x c hc;refine wpAny_storeName_cell I.ok.kind hk hc z (λh' hc' hs=>?_);obtain⟨oc,hoc,hocd⟩:=id z;refine h { s with heap:=h' } ⟨I.ok,I.os,I.bare,⟨λb o e n hb hx=>?_,λb o e n hb hx=>?_,I.base.free,λb o e hx=>?_,I.base.tups,I.base.frzs,I.base.tbls⟩,⟨m,hn.sameBut hs (Ne.symm (cne x c hc)),λj y v' e1 e2 e3=>?_⟩,λy c' e=>?_,I.free,I.freeC,λp hp=>?_,tracked ⟨oc,hoc,I.freeC x c hc⟩ hs,by simpa using I.len⟩ ⟨c,hs,.inr hc⟩
  .exact (hs.2 b (OF (K_ (E_ e) (I.ok.cab x c hfn hc)))).trans (I.base.keep b o e n hb hx)
  .obtain⟨sl,e1⟩:=I.base.slot b o e n hb hx;exact⟨sl,(hs.2 b (OF (K_ (E_ e) (I.ok.cab x c hfn hc)))).trans e1⟩
  .obtain⟨o',e1⟩:=I.base.there b o e hx;exact⟨o',(hs.2 b (OF (K_ (E_ e) (I.ok.cab x c hfn hc)))).trans e1⟩
  .by_cases hj:j=i
   .subst hj;rw[hi] at e1;cases e1;rw[List.getElem?_set_self hiσ] at e2;cases e2;exact⟨u,r,.inr ⟨.inl hk,c,hc,hc'⟩⟩
   .rw[P6 (Ne.symm hj)] at e2;obtain⟨u',r',q⟩:=hl j y v' e1 e2 e3;refine⟨u',r',?_⟩;rcases q with q |⟨k,c',e,z'⟩
    .exact .inl q
    .refine .inr ⟨k,c',e,z'.sameBut hs ?_⟩;rintro rfl;exact hj (uo hN e1 (I.ok.inj _ _ _ e hc ▸ hi))
  .by_cases hcc:c'=c
   .subst hcc;exact⟨_,hc'⟩
   .obtain⟨w2,z2⟩:=I.cell y c' e;exact⟨w2,z2.sameBut hs hcc⟩
  .obtain⟨e,n,ne,nf,d⟩:=I.pin p hp;refine⟨(hs.2 p.1 ?_).trans e,n,ne,nf,d⟩;intro q;rw[q,hoc] at e;have q':oc=p.2:=OE e;exact d w' (by rw[<- q'];exact hocd)
def ju(I:Inv X pins σ H s)(hN:X.N.Nodup)(hi:X.N[i]?=some x)(hx:Loc X.env.scope x)(r:RelV v u)
 (h:∀s',Inv X pins (σ.set i (some v)) H s'->Q () s') (hf:X.fn x=true\/X.env.scope.names.lookup x=some .local):wpAny M A (storeName X.env x u) Q E s:=
 r9 I hN hi hx r (λs' I' _=>h s' I') hf
def Inv.call'(I:Inv X pins σ H s)(ho:s'.os=s.os)(u:Un (frs X.stack) ch H H' s.heap s'.heap)(hok:HOk X.prog X.w H' s'.heap)(hg:AllBare s'.gens)
 (hch:∀b∈ch,(b∈X.ex\/X.s₀.heap.objs.size<=b)/\b≠X.env.locals/\(∀x c,X.env.cells.lookup x=some c->c≠b)/\∀p∈X.pn++pins,p.1≠b):Inv X pins σ H' s':=by
 obtain⟨h',g',d',t',o'⟩:=s';have e:o'=s.os:=ho;subst e;exact I.call (g':=g') (t':=t') (d':=d') u hok hg hch
end
abbrev XK:=Value->Option Addr->Hp->Prop
abbrev St:=List (Option V)
abbrev VK:=V->Hp->Prop
abbrev TE:=St->Hp->VK->Prop
abbrev TT:=St->Hp->(Bool->Hp->Prop)->Prop
abbrev TA:=St->Hp->(List V->Hp->Prop)->Prop
structure Ends where
 nx:St->Hp->Prop
 rt:VK
 bk:St->Hp->Prop:=λ_ _=>False
 ct:St->Hp->Prop:=λ_ _=>False
abbrev TS:=Ends->St->Hp->Prop
def EP(X:Cx)(pins:Rb)(σ:St)(Q:VK)(u:Value)(s':Shared):Prop:=∃v H',Inv X pins σ H' s'/\RelV v u/\Q v H'
def TP(X:Cx)(pins:Rb)(σ:St)(Q:Bool->Hp->Prop)(b:Bool)(s':Shared):Prop:=∃H',Inv X pins σ H' s'/\Q b H'
def AP(X:Cx)(pins:Rb)(σ:St)(Q:List V->Hp->Prop)(us:List Value)(s':Shared):Prop:=∃vs H',Inv X pins σ H' s'/\Vals vs us/\Q vs H'
def SP(X:Cx)(pins:Rb)(D:Ends)(f:Flow)(s':Shared):Prop:=
 match f with
 |.next=>∃σ' H',Inv X pins σ' H' s'/\D.nx σ' H'
 |.brk=>∃σ' H',Inv X pins σ' H' s'/\D.bk σ' H'
 |.cont=>∃σ' H',Inv X pins σ' H' s'/\D.ct σ' H'
 |.ret u=>∃v σ' H',Inv X pins σ' H' s'/\RelV v u/\D.rt v H'
def PE(X:Cx)(e:Expr)(t:TE):Prop:=
 ∀(pins:Rb) (s:Shared) (σ:St) (H:Hp) (Q:VK),Inv X pins σ H s->t σ H Q->wpAny (model X.prog X.w) X.A (eval e X.env) (EP X pins σ Q) X.xe s
def PT(X:Cx)(e:Expr)(t:TT):Prop:=
 ∀(pins:Rb) (s:Shared) (σ:St) (H:Hp) (Q:Bool->Hp->Prop),Inv X pins σ H s->t σ H Q->wpAny (model X.prog X.w) X.A (isTrue e X.env (eval e X.env)) (TP X pins σ Q) X.xe s
def PW(X:Cx)(e:Expr)(t:TT):Prop:=
 ∀(u_:Sem Value) (pins:Rb) (s:Shared) (σ:St) (H:Hp) (Q:Bool->Hp->Prop),Inv X pins σ H s->t σ H Q->wpAny (model X.prog X.w) X.A (isTrue e X.env u_) (TP X pins σ Q) X.xe s
def PW.pt(h:PW X e t):PT X e t:=h _
def PA(X:Cx)(es:List Expr)(t:TA):Prop:=
 ∀(pos:Pos) (pins:Rb) (s:Shared) (σ:St) (H:Hp) (Q:List V->Hp->Prop),Inv X pins σ H s->t σ H Q->wpAny (model X.prog X.w) X.A (spliced (backTo pos (starEach es X.env))) (AP X pins σ Q) X.xe s
def PS(X:Cx)(st:Stmt)(t:TS):Prop:=
 ∀(pins:Rb) (s:Shared) (σ:St) (H:Hp) (D:Ends),Inv X pins σ H s->t D σ H->wpAny (model X.prog X.w) X.A (exec st X.env) (SP X pins D) X.xe s
def PSs(X:Cx)(st:List Stmt)(t:TS):Prop:=
 ∀(pins:Rb) (s:Shared) (σ:St) (H:Hp) (D:Ends),Inv X pins σ H s->t D σ H->wpAny (model X.prog X.w) X.A (execs st X.env) (SP X pins D) X.xe s
def thn(h:wpAny M A t Q E s)(hQ:∀a s,Q a s->Q' a s):wpAny M A t Q' E s:=OV h hQ λ_ _ x=>x
section
variable{X:Cx}
def tVar(i:Nat):TE:=λσ H Q=>∃v,σ[i]?=some (some v)/\Q v H
def tC(v:V):TE:=λ_ H Q=>Q v H
def Hy(hN:X.N[i]?=some x)(hv:Vis X.env.scope x)(hd:(x==("__debug__" : Str))=false)(hcd:(x==("__classdict__" : Str))=false):PE X (.Name x pos) (tVar i):=by
 intro pins s σ H Q I h;obtain⟨v,e,h⟩:=h;obtain⟨m,hn,hl⟩:=I.loc;obtain⟨u,r,l⟩:=hl i x v hN e hv;have i_:EP X pins σ Q u s:=⟨v,H,I,r,h⟩;rcases l with ⟨hk,hm⟩ |⟨hk,c,hc,hcell⟩
 .exact wpAny_Name (wpAny_loadName_local I.ok.kind hk hn hm i_) hd
 .rcases hk with hk |hk
  .exact wpAny_Name (wpAny_loadName_cell I.ok.kind hk hc hcell i_) hd
  .exact wpAny_Name (wpAny_loadName_free I.ok.kind hk hc hcell i_ hcd) hd
def Js{i j pos}:PE X (.Constant (.int i) j pos) (tC (.int i)):=λ_ _ _ H _ I h=>wpAny_Constant_int ⟨.int i,H,I.tok _,⟨_,rfl⟩,h⟩
def Od{b j pos}:PE X (.Constant (.bool b) j pos) (tC (.bl b)):=λ_ _ _ H _ I h=>Constant_bool ⟨.bl b,H,I,rfl,h⟩
def Lk{j pos}:PE X (.Constant .none j pos) (tC .non):=λ_ _ _ H _ I h=>Constant_none ⟨.non,H,I,rfl,h⟩
def Ap{x j pos}:PE X (.Constant (.str x) j pos) (tC (.str x)):=λ_ _ _ H _ I h=>Calls.Constant_str ⟨.str x,H,I.tok _,⟨_,rfl⟩,h⟩
def Gl(X:Cx)(x:Str):Prop:=X.env.kindOf x=some .globalImplicit
def qP(I:Inv X pins σ H s)(hg:Gl X x)(hm:X.mg x=some u)(h:Q u s)
 (hd:(x==("__debug__" : Str))=false):wpAny (model X.prog X.w) X.A (eval (.Name x pos) X.env) Q E s:=
 Calls.Name_function_global I.ok.kind hg (Calls.loadGlobal_global (by rw[I.ok.glob];exact I.mod.glob.keeps I.bk) hm h) hd
def gH(I:Inv X pins σ H s)(hg:Gl X x)(hm:X.mg x=none)(hv:bootBuiltins x=some u)(h:Q u s)
 (hn:x ≠ "__name__":=by decide) (hd:(x==("__debug__" : Str))=false:=by decide):wpAny (model X.prog X.w) X.A (eval (.Name x pos) X.env) Q E s:=by
 obtain⟨mb,h1,h2⟩:=I.mod.blt;exact Calls.Name_function_global I.ok.kind hg (Calls.loadGlobal_builtin (by rw[I.ok.glob];exact I.mod.glob.keeps I.bk) hm (by rw[I.ok.blt];exact h1.keeps I.bk) ((h2 x hn).trans hv) h) hd
def wZ(hg:Gl X x)(hm:X.mg x=some u)(r:RelV v u)(hd:(x==("__debug__" : Str))=false):PE X (.Name x pos) (tC v):=
 λ_ _ _ H _ I h=>qP I hg hm ⟨v,H,I,r,h⟩ hd
def Fo(hg:Gl X x)(hm:X.mg x=none)(hv:bootBuiltins x=some u)(r:RelV v u)(hn:x ≠ "__name__")(hd:(x==("__debug__" : Str))=false):PE X (.Name x pos) (tC v):=
 λ_ _ _ H _ I h=>gH I hg hm hv ⟨v,H,I,r,h⟩ hn hd
variable{a b:Expr}{ta tb:TE}{pos:Pos}
def tB(t:TE):TT:=λσ H Q=>t σ H λx H1=>∃c,x=.bl c/\Q c H1
def Jl(h:PE X e t)(he:∀u_,isTrue e X.env u_=(do let v <- u_;standAt e.pos;holding [v] (truthy v))):PT X e (tB t):=by intro pins s σ H Q I hw;refine isTrue_plain (thn (h pins s σ H _ I hw) λv s1 ⟨x,H1,I1,r1,q1⟩=>?_) (he _);obtain⟨d,rfl,q⟩:=q1;cases r1;exact P2 ⟨H1,I1,q⟩
variable{tA tB':TT}{rest:List Expr}
def tAnd(t u:TT):TT:=λσ H Q=>t σ H λc H1=>if c=true then u σ H1 Q else Q false H1
def tOr(t u:TT):TT:=λσ H Q=>t σ H λc H1=>if c=true then Q true H1 else u σ H1 Q
def tNot(t:TT):TT:=λσ H Q=>t σ H λc H1=>Q (!c) H1
def Eo(ha:PT X a tA):PW X (.BoolOp .And [a] pos) tA:=by
 intro wh pins s σ H Q I h;refine isTrue_and (thn (ha pins s σ H Q I h) λc s1 e=>?_);cases c with
 |true=>exact isTrue_and_nil e
 |false=>exact e
def IP(ha:PT X a tA):PW X (.BoolOp .Or [a] pos) tA:=by
 intro wh pins s σ H Q I h;refine isTrue_or (thn (ha pins s σ H Q I h) λc s1 e=>?_);cases c with
 |false=>exact isTrue_or_nil e
 |true=>exact e
def Kp(ha:PT X a tA)(hb:PW X (.BoolOp .And (b::rest) pos) tB'):PW X (.BoolOp .And (a::b::rest) pos) (tAnd tA tB'):=by
 intro wh pins s σ H Q I h;refine isTrue_and (thn (ha pins s σ H _ I h) λc s1 ⟨H1,I1,q1⟩=>?_);cases c with
 |true=>exact hb wh pins s1 σ H1 Q I1 q1
 |false=>exact⟨H1,I1,q1⟩
def Nb(ha:PT X a tA)(hb:PW X (.BoolOp .Or (b::rest) pos) tB'):PW X (.BoolOp .Or (a::b::rest) pos) (tOr tA tB'):=by
 intro wh pins s σ H Q I h;refine isTrue_or (thn (ha pins s σ H _ I h) λc s1 ⟨H1,I1,q1⟩=>?_);cases c with
 |true=>exact⟨H1,I1,q1⟩
 |false=>exact hb wh pins s1 σ H1 Q I1 q1
def Ie(ha:PT X a tA):PT X (.UnaryOp .Not a pos) (tNot tA):=by intro pins s σ H Q I h;exact isTrue_not (ha pins s σ H (λc H1=>Q (!c) H1) I h)
def Mu(ta tb:TE):TE:=λσ H Q=>ta σ H λx H1=>∃c,x=.bl c/\if c=true then tb σ H1 Q else Q (.bl false) H1
def L6(ta:TE):TE:=λσ H Q=>ta σ H λx H1=>∃c,x=.bl c/\Q (.bl (!c)) H1
def G6{op}(h:PE X a t):PE X (.BoolOp op [a] pos) t:=λpins s σ H Q I hw=>BoolOp_one (h pins s σ H Q I hw)
def Jd(ha:PE X a ta)(hb:PE X (.BoolOp .And (b::rest) pos) tb):PE X (.BoolOp .And (a::b::rest) pos) (Mu ta tb):=by
 intro pins s σ H Q I h;refine BoolOp_and (thn (ha pins s σ H _ I h) λv s1 ⟨x,H1,I1,r1,q1⟩=>?_);obtain⟨c,rfl,q1⟩:=q1;cases r1;refine P2 ?_;cases c with
 |true=>exact hb pins s1 σ H1 Q I1 q1
 |false=>exact⟨.bl false,H1,I1,rfl,q1⟩
def Hs(ha:PE X a ta):PE X (.UnaryOp .Not a pos) (L6 ta):=by intro pins s σ H Q I h;refine UnaryOp_ (thn (ha pins s σ H _ I h) λv s1 ⟨x,H1,I1,r1,q1⟩=>?_);obtain⟨c,rfl,q1⟩:=q1;cases r1;exact not_of (P2 ⟨.bl (!c),H1,I1,rfl,q1⟩)
def tIf(t:TT)(ta tb:TE):TE:=λσ H Q=>t σ H λc H1=>if c=true then ta σ H1 Q else tb σ H1 Q
def Bd(hc:PT X c tA)(ha:PE X a ta)(hb:PE X b tb):PE X (.IfExp c a b pos) (tIf tA ta tb):=by
 intro pins s σ H Q I h;refine wpAny_IfExp (thn (hc pins s σ H _ I h) λd s1 ⟨H1,I1,q1⟩=>?_);cases d with
 |true=>exact ha pins s1 σ H1 Q I1 q1
 |false=>exact hb pins s1 σ H1 Q I1 q1
end
def SqL(K:W.Frag)(H:Hp)(a:Addr)(xs:List V):Prop:=
 Rd H a (.lst xs)\/
  ∃(o:Obj) (its:Array Value) (n:Nat),K.lookup a=some o/\o.cls=.type "list" /\ o.dict=none/\o.data=.seq its n/\its.size<=sizeLine/\Vals xs its.toList
def SqT(K:W.Frag)(H:Hp)(a:Addr)(xs:List V):Prop:=
 Rd H a (.tup xs)\/
  ∃(o:Obj) (its:Array Value) (n:Nat),K.lookup a=some o/\o.cls=.type "tuple" /\ o.data=.seq its n/\its.size<=sizeLine/\Vals xs its.toList
noncomputable def absV:Value->Option V
 |.none=>some .non
 |.bool b=>some (.bl b)
 |.int i _=>some (.int i)
 |.str x _=>some (.str x)
 |.bytes b _=>some (.byt b)
 |.float b _=>some (.flt b)
 |.ref a=>some (.ref a)
 |.type n=>some (.ty n)
 |_=>none
def RelV.abs(r:RelV x u):absV u=some x:=by
 cases x with
 |non=>cases r;rfl
 |bl _=>cases r;rfl
 |int _=>obtain⟨t,rfl⟩:=r;rfl
 |str _=>obtain⟨t,rfl⟩:=r;rfl
 |byt _=>obtain⟨t,rfl⟩:=r;rfl
 |flt _=>obtain⟨t,rfl⟩:=r;rfl
 |ref _=>cases r;rfl
 |ty _=>cases r;rfl
def RelV.inj(r:RelV x u)(q:RelV y u):x=y:=OE (r.abs.symm.trans q.abs)
def Vals.inj(r:Vals xs us)(q:Vals ys us):xs=ys:=by
 induction r generalizing ys with
 |nil=>cases q;rfl
 |
  cons r t ih=>
  cases q with
  |cons q t'=>rw[r.inj q,ih t']
section
variable{X:Cx}{pins:Rb}{σ:St}{H:Hp}{s:Shared}{a:Addr}{xs ys:List V}
def SqL.of{K:W.Frag}(h:H a=some (.lst xs)):SqL K H a xs:=.inl (.inl h)
def SqT.of{K:W.Frag}(h:H a=some (.tup xs)):SqT K H a xs:=.inl (.inl h)
def Inv.list(I:Inv X pins σ H s)(h:SqL X.K H a xs):∃its:List Value,Vals xs its/\PlainL s.heap a its.toArray/\xs.length<=sizeLine:=by
 rcases h with h |⟨o,its,n,hk,hc,hd,hs,hz,r⟩
 .obtain⟨z,its,n,r,e⟩:=h.ok I.hok;exact⟨its,r,⟨_,n,e,rfl,rfl,rfl⟩,z⟩
 .refine⟨its.toList,r,⟨o,n,I.kIn a o hk,hc,hd,by simpa using hs⟩,?_⟩;have e:=r.length;simp only[QF] at e;omega
def Inv.tuple(I:Inv X pins σ H s)(h:SqT X.K H a xs):∃its:List Value,Vals xs its/\IsTup s.heap a its.toArray/\xs.length<=sizeLine:=by
 rcases h with h |⟨o,its,n,hk,hc,hs,hz,r⟩
 .obtain⟨z,its,r,p⟩:=h.ok I.hok;exact⟨its,r,p,z⟩
 .refine⟨its.toList,r,⟨o,I.kIn a o hk,hc,n,by simpa using hs⟩,?_⟩;have e:=r.length;simp only[QF] at e;omega
def Inv.list_inj(I:Inv X pins σ H s)(h:SqL X.K H a xs)(h':SqL X.K H a ys):xs=ys:=by
 obtain⟨its,r,⟨o,n,e,_,_,d⟩,_⟩:=I.list h;obtain⟨its',r',⟨o',n',e',_,_,d'⟩,_⟩:=I.list h';rw[e] at e';cases e';rw[d] at d';injection d' with d1 _;have:its=its':=by simpa using OU Array.toList d1
 subst this;exact r.inj r'
def Inv.tuple_inj(I:Inv X pins σ H s)(h:SqT X.K H a xs)(h':SqT X.K H a ys):xs=ys:=by
 obtain⟨its,r,⟨o,e,_,n,d⟩,_⟩:=I.tuple h;obtain⟨its',r',⟨o',e',_,n',d'⟩,_⟩:=I.tuple h';rw[e] at e';cases e';rw[d] at d';injection d' with d1 _;have:its=its':=by simpa using OU Array.toList d1
 subst this;exact r.inj r'
end
section
variable{X:Cx}{st:Stmt}{rest:List Stmt}{t u:TS}{e:Expr}{te:TE}{pos:Pos}
def MY:TS:=λD σ H=>D.nx σ H
def tSeq(t u:TS):TS:=λD σ H=>t { D with nx:=u D } σ H
def EL:PSs X [] MY:=λ_ _ σ H _ I h=>QD ⟨σ,H,I,h⟩
def Bb(h1:PS X st t)(h2:PSs X rest u):PSs X (st::rest) (tSeq t u):=by
 intro pins s σ H D I h;refine wpAny_execs_cons (thn (h1 pins s σ H { D with nx:=u D } I h) λf s1 q=>?_);cases f with
 |next=>obtain⟨σ',H',I',q⟩:=q;exact h2 pins s1 σ' H' D I' q
 |ret v=>exact q
 |brk=>exact q
 |cont=>exact q
def FI(h1:PS X st t):PSs X [st] t:=by
 intro pins s σ H D I h;refine wpAny_execs_cons (thn (h1 pins s σ H D I h) λf s1 q=>?_);cases f with
 |next=>exact QD q
 |ret v=>exact q
 |brk=>exact q
 |cont=>exact q
def Mp:TS:=λD σ H=>D.ct σ H
def vR:PS X (.Continue pos) Mp:=λ_ _ σ H _ I h=>wpAny_Continue ⟨σ,H,I,h⟩
def Inv.quiet(I:Inv X pins σ H s):interactive X.env=false:=by simp [interactive,I.ok.kind]
def M7(te:TE):TS:=λD σ H=>te σ H λ_ H1=>D.nx σ H1
def FN(he:PE X e te)(hs:swapsWith e none pos.line X.env=pure false):PS X (.Expr e pos) (M7 te):=by intro pins s σ H D I h;exact wpAny_Expr_any (thn (he pins s σ H _ I h) λv s1 ⟨x,H1,I1,r1,q1⟩=>⟨σ,H1,I1,q1⟩) I.quiet hs
def tRet(te:TE):TS:=λD σ H=>te σ H D.rt
def Ji(he:PE X e te):PS X (.Return (some e) pos) (tRet te):=by intro pins s σ H D I h;exact wpAny_Return_some (thn (he pins s σ H _ I h) λv s1 ⟨x,H1,I1,r1,q1⟩=>⟨x,σ,H1,I1,r1,q1⟩)
def tIfS(c:TT)(t u:TS):TS:=λD σ H=>c σ H λb H1=>if b=true then t D σ H1 else u D σ H1
def LO(hc:PT X c tc)(ha:PSs X a t)(hb:PSs X b u):PS X (.If c a b pos) (tIfS tc t u):=by
 intro pins s σ H D I h;refine wpAny_If (thn (hc pins s σ H _ I h) λd s1 ⟨H1,I1,q1⟩=>?_);cases d with
 |true=>exact ha pins s1 σ H1 D I1 q1
 |false=>exact hb pins s1 σ H1 D I1 q1
end
abbrev TG:=V->St->Hp->(St->Hp->Prop)->Prop
abbrev TGs:=List V->St->Hp->(St->Hp->Prop)->Prop
def PG(X:Cx)(target:Expr)(t:TG):Prop:=
 ∀
  (pins:Rb) (s:Shared) (σ:St) (H:Hp) (v:V) (u:Value) (Q:St->Hp->Prop),Inv X pins σ H s->RelV v u->t v σ H Q->
  wpAny (model X.prog X.w) X.A (assign target X.env u) (λ_ s'=>∃σ' H',Inv X pins σ' H' s'/\Q σ' H') X.xe s
def PGs(X:Cx)(ts:List Expr)(t:TGs):Prop:=
 ∀
  (pins:Rb) (s:Shared) (σ:St) (H:Hp) (vs:List V) (us:List Value) (Q:St->Hp->Prop),Inv X pins σ H s->Vals vs us->t vs σ H Q->
  wpAny (model X.prog X.w) X.A (assignInOrder ((assignEach ts X.env).map (·.2)) us) (λ_ s'=>∃σ' H',Inv X pins σ' H' s'/\Q σ' H') X.xe s
abbrev yU:=V->V->V->Hp->(Hp->Prop)->Prop
def xA(X:Cx)(t:yU):Prop:=
 ∀
  (pins:Rb) (s:Shared) (σ:St) (H:Hp) (o i v:V) (ov iv u:Value) (Q:Hp->Prop),Inv X pins σ H s->RelV o ov->RelV i iv->RelV v u->t o i v H Q->
  wpAny (model X.prog X.w) X.A (setItem ov iv u) (λ_ s'=>∃H',Inv X pins σ H' s'/\Q H') X.xe s
abbrev TIp:=V->V->Hp->VK->Prop
def PIp(X:Cx)(op:Operator)(t:TIp):Prop:=
 ∀
  (pins:Rb) (s:Shared) (σ:St) (H:Hp) (x y:V) (v u:Value) (Q:VK),Inv X pins σ H s->RelV x v->RelV y u->t x y H Q->
  wpAny (model X.prog X.w) X.A (inplaceOp op v u) (EP X pins σ Q) X.xe s
section
variable{X:Cx}{pos:Pos}
def oT(i:Nat):TG:=λv σ H Q=>Q (σ.set i (some v)) H
def Ey(hN:X.N.Nodup)(hi:X.N[i]?=some x)(hx:Loc X.env.scope x)(hf:X.fn x=true\/X.env.scope.names.lookup x=some .local):PG X (.Name x pos) (oT i):=by intro pins s σ H v u Q I r h;exact wpAny_assign_Name (ju I hN hi hx r (λs' I'=>⟨_,H,I',h⟩) hf)
def gNil:TGs:=λvs σ H Q=>vs=[]/\Q σ H
def NH(t:TG)(u:TGs):TGs:=λvs σ H Q=>∃v r,vs=v::r/\t v σ H λσ' H'=>u r σ' H' Q
def EM:PGs X [] gNil:=by intro pins s σ H vs us Q I r h;obtain⟨e,h⟩:=h;subst e;cases r;exact assignInOrder_nil ⟨σ,H,I,h⟩
def Be(h1:PG X e t)(h2:PGs X es u)
 (hs:(assignEach (e::es) X.env).map (·.2)=assign e X.env::(assignEach es X.env).map (·.2)):PGs X (e::es) (NH t u):=by
 intro pins s σ H vs us Q I r h;obtain⟨v,vr,e1,h⟩:=h;subst e1;cases r with
 |cons r rr=>rw[hs];refine assignInOrder_cons (thn (h1 pins s σ H _ _ _ I r h) λ_ s1 ⟨σ1,H1,I1,q1⟩=>?_);exact h2 pins s1 σ1 H1 _ _ Q I1 rr q1
def gTup(K:W.Frag)(n:Nat)(t:TGs):TG:=λv σ H Q=>∃a xs,v=.ref a/\SqT K H a xs/\xs.length=n/\t xs σ H Q
def Aa(hc:X.calm=true)(h:PGs X es t)
 (hn:(assignEach es X.env).length=n) (hst:(assignEach es X.env).findIdx? (·.1)=none):PG X (.Tuple es k pos) (gTup X.K n t):=by
 intro pins s σ H v u Q I r hw;obtain⟨a,xs,e1,hq,hl,hw⟩:=hw;subst e1;cases r;obtain⟨its,rv,ht,hz⟩:=I.tuple hq;refine assign_Tuple_tuple (I.ok.hd hc) ht (by simp [hn,<- hl,rv.length]) hst λh' hx=>?_;have I1:Inv X pins σ H { s with heap:=h' }:=I.kept (t':=s.toks) λb o e=>hx b o (OF (E_ e)) e;exact h pins _ σ H xs _ Q I1 (by simpa using rv) hw
def gSub(to ti:TE)(t:yU):TG:=λv σ H Q=>to σ H λo H1=>ti σ H1 λi H2=>t o i v H2 λH3=>Q σ H3
def Ho(ho:PE X o to)(hi:PE X i ti)(hs:xA X t)
 (ha:∀v,assign (.Subscript o i pos) X.env v=(do
  let ov <- holding [v] (eval o X.env)
  let iv <- holding [v,ov] (eval i X.env)
  standAt pos
  holding [v,ov,iv] (setItem ov iv v)
  release [v,ov,iv] [])):PG X (.Subscript o i pos) (gSub to ti t):=by
 intro pins s σ H v u Q I r h;rw[ha];refine w_ (PU (thn (ho pins s σ H _ I h) λov s1 ⟨x,H1,I1,r1,q1⟩=>?_));refine w_ (PU (thn (hi pins s1 σ H1 _ I1 q1) λiv s2 ⟨y,H2,I2,r2,q2⟩=>?_));refine w_ (Qp (w_ (PU (thn (hs pins s2 σ H2 x y v ov iv u _ I2 r1 r2 r q2) λ_ s3 ⟨H3,I3,q3⟩=>?_))));exact wpAny_release ⟨σ,H3,I3,q3⟩
def vI(te:TE)(g:TG):TS:=λD σ H=>te σ H λx H1=>g x σ H1 D.nx
def JY(he:PE X e te)(hg:PG X tg g)(hs:swapsWithSole [tg] e pos.line X.env=pure false)(hw:swappedStores [tg] e X.env=pure none)
 (h1:(assignEach [tg] X.env).map (·.2)=[assign tg X.env]):PS X (.Assign [tg] e pos) (vI te g):=by
 intro pins s σ H D I h;refine wpAny_Assign_stores (thn (he pins s σ H _ I h) λv s1 ⟨x,H1,I1,r1,q1⟩=>?_) hs hw;rw[h1];exact thn (hg pins s1 σ H1 x v _ I1 r1 q1) λ_ s2 q=>q
def HG(hN:X.N.Nodup)(hi:X.N[i]?=some x)(hx:Loc X.env.scope x)(he:PE X e te)(hs:swapsWith e (some (.Name x t_)) pos.line X.env=pure false)(hf:X.fn x=true\/X.env.scope.names.lookup x=some .local):
 PS X (.Assign [.Name x t_] e pos) (vI te (oT i)):=by
 intro pins s σ H D I h;refine wpAny_Assign_Name (thn (he pins s σ H _ I h) λv s1 ⟨y,H1,I1,r1,q1⟩=>?_) hs;exact ju I1 hN hi hx r1 (λs2 I2=>⟨_,H1,I2,q1⟩) hf
def tPar(i j:Nat)(ta:TA):TS:=λD σ H=>ta σ H λvs H1=>∃v w,vs=[v,w]/\D.nx ((σ.set i (some v)).set j (some w)) H1
def GP{kt k2 pt2}(hc:X.calm=true)(hN:X.N.Nodup)(hi:X.N[i]?=some x)(hj:X.N[j]?=some y)(hij:i≠j)
 (hx:X.env.scope.names.lookup x=some .local) (hy:X.env.scope.names.lookup y=some .local) (ha:PA X [a,b] ta)
 (hw:swappedStores [.Tuple [.Name x px,.Name y py] kt pt] (.Tuple [a,b] k2 pt2) X.env=pure (some [x,y]))
 (hs:swapsWithSole [.Tuple [.Name x px,.Name y py] kt pt] (.Tuple [a,b] k2 pt2) pos.line X.env=pure false):
 PS X (.Assign [.Tuple [.Name x px,.Name y py] kt pt] (.Tuple [a,b] k2 pt2) pos) (tPar i j ta):=by
 intro pins s σ H D I h;rw[exec_Assign_arm];refine w_ (Qp ?_);rw[hs];refine w_ (G_ ?_);rw[if_neg (by decide)];refine w_ (Tuple_ (thn (ha _ pins s σ H _ I h) λus s1 ⟨vs,H1,I1,r1,q1⟩=>?_));obtain⟨v,w,e1,q1⟩:=q1;subst e1;obtain⟨u1,u2,rfl,rv,rw'⟩:∃u1 u2,us=[u1,u2]/\RelV v u1/\RelV w u2:=by
  cases r1 with
  |
   cons p q=>
   cases q with
   |cons p' q'=>cases q';exact⟨_,_,rfl,p,p'⟩
 refine Pc ?_ (by show 2<=sizeLine;decide);have I2:Inv X pins σ H1 { s1 with heap:=s1.heap.push { cls:=.type "tuple",data:=.seq [u1,u2].toArray } }:=I1.kept (t':=s1.toks) λb o e=>Em _ e;rw[hw];refine w_ (G_ ?_);show wpAny (model X.prog X.w) X.A (do rule "assign.swapped-stores";let items <- unpackItems (.ref s1.heap.objs.size) 2 none;assignInOrder [λv=>bindName X.env y v,λv=>bindName X.env x v] items.reverse;pure Flow.next) _ _ _;refine w_ (wpAny_rule (w_ (unpackItems_tuple (items:=#[u1,u2]) (I.ok.hd hc) (IsTup.new s1.heap _) λh' hx'=>?_)));have I3:=I2.kept (h':=h') (t':=s1.toks) λb o e=>hx' b o (OF (E_ e)) e;show wpAny _ _ (assignInOrder [λv=>bindName X.env y v,λv=>bindName X.env x v] [u2,u1] >>= λ_=>pure Flow.next) _ _ _;refine w_ (assignInOrder_cons (wpAny_bindName (ju I3 hN hj (.inl hy) rw' (λs2 I4=>?_) (.inr hy))));refine assignInOrder_cons (wpAny_bindName (ju I4 hN hi (.inl hx) rv (λs3 I5=>assignInOrder_nil (G_ ?_)) (.inr hx)));rw[List.set_comm _ _ (Ne.symm hij)] at I5;exact⟨_,H1,I5,q1⟩
def tAug(i:Nat)(te:TE)(ti:TIp):TS:=λD σ H=>∃x,σ[i]?=some (some x)/\te σ H λy H1=>ti x y H1 λz H2=>D.nx (σ.set i (some z)) H2
def HI(hN:X.N.Nodup)(hi:X.N[i]?=some x)(hx:Loc X.env.scope x)(he:PE X e te)(ho:PIp X op ti)(hf:X.fn x=true\/X.env.scope.names.lookup x=some .local):
 PS X (.AugAssign (.Name x t_) op e pos) (tAug i te ti):=by
 intro pins s σ H D I h;obtain⟨v,e1,h⟩:=h;obtain⟨m,hn,hl⟩:=I.loc;have vis:Vis X.env.scope x:=by rcases hx with k |k;exact .inl k;exact .inr (.inl k)
 obtain⟨u,r,l⟩:=hl i x v hi e1 vis;refine wpAny_AugAssign_Name ?_;have go:wpAny (model X.prog X.w) X.A (eval e X.env) (λw s₂=>wpAny (model X.prog X.w) X.A (inplaceOp op u w) (λr s₃=>wpAny (model X.prog X.w) X.A (storeName X.env x r) (λ_=>SP X pins D .next) X.xe s₃) X.xe s₂) X.xe s:=by refine thn (he pins s σ H _ I h) λw s1 ⟨y,H1,I1,r1,q1⟩=>?_;refine thn (ho pins s1 σ H1 v y u w _ I1 r r1 q1) λz s2 ⟨zv,H2,I2,r2,q2⟩=>?_;exact ju I2 hN hi hx r2 (λs3 I3=>⟨_,H2,I3,q2⟩) hf
 rcases l with ⟨hk,hm⟩ |⟨hk,c,hc,hcell⟩
 .exact wpAny_loadName_local I.ok.kind hk hn hm go
 .rcases hk with hk |hk
  .exact wpAny_loadName_cell I.ok.kind hk hc hcell go
  .rcases hx with k |k
   .have:X.env.scope.names.lookup x=some .free:=hk;rw[k] at this;cases this
   .have:X.env.scope.names.lookup x=some .free:=hk;rw[k] at this;cases this
def ipI(f:Int->Int->Int):TIp:=λx y H Q=>∃i j,x=.int i/\y=.int j/\Q (.int (f i j)) H
def Ja:PIp X .Add (ipI λi j=>i+j):=by intro pins s σ H x y v u Q I r1 r2 h;obtain⟨i,j,e1,e2,q⟩:=h;subst e1;subst e2;obtain⟨t,rfl⟩:=r1;obtain⟨t',rfl⟩:=r2;exact iadd_int ⟨.int _,H,I.tok _,⟨_,rfl⟩,q⟩
def K2(c:TT)(tb:TS):TS:=λD σ H=>∃W:Nat->St->Hp->Prop,(∃m,W m σ H)/\∀m σ H,W m σ H->
 c σ H λb H1=>if b=true then ∃N:St->Hp->Prop,(∀σ' H',N σ' H'->∃m',m'<m/\W m' σ' H')/\tb { D with nx:=N,ct:=N,bk:=D.nx } σ H1 else D.nx σ H1
def C2(hp:PassesOwn (model X.prog X.w) X.A X.env X.xe)(hc:PT X c tc)(hb:PSs X body tb):PS X (.While c body [] pos) (K2 tc tb):=by
 intro pins s σ H D I h;obtain⟨W,⟨m0,w0⟩,turn⟩:=h;refine wpAny_While (codeAny_whileLoop (λn s'=>∃σ' H',Inv X pins σ' H' s'/\W n σ' H') ?_ m0 ⟨σ,H,I,w0⟩);rintro n s1 ⟨σ1,H1,I1,w1⟩;refine Pz hp (thn (hc pins s1 σ1 H1 _ I1 (turn n σ1 H1 w1)) λb s2 ⟨H2,I2,q2⟩=>?_);cases b with
 |
  true=>
  obtain⟨N,hN,q2⟩:=q2;rw[if_pos rfl];refine Pz hp (thn (hb pins s2 σ1 H2 _ I2 q2) λf s3 q3=>?_);cases f with
  |next=>obtain⟨σ3,H3,I3,n3⟩:=q3;obtain⟨m',hm,w3⟩:=hN σ3 H3 n3;exact⟨m',hm,σ3,H3,I3,w3⟩
  |cont=>obtain⟨σ3,H3,I3,n3⟩:=q3;obtain⟨m',hm,w3⟩:=hN σ3 H3 n3;exact⟨m',hm,σ3,H3,I3,w3⟩
  |brk=>exact q3
  |ret v=>exact q3
 |false=>rw[if_neg A_];exact QD ⟨σ1,H2,I2,q2⟩
end
structure It where
 go:Nat->Hp->Prop
 yld:Nat->Hp->V->Hp->Prop
 stop:Nat->Hp->Prop
def FpOk(X:Cx)(pins:Rb)(H:Hp)(b:Addr):Prop:=
 H b=none/\b≠X.env.locals/\b∉X.fs/\(b∈X.ex\/X.s₀.heap.objs.size<=b)/\(∀x c,X.env.cells.lookup x=some c->c≠b)/\∀p∈X.pn++pins,p.1≠b
def Inv.fpOk(I:Inv X pins σ H s)(hb:s.heap.objs.size<=b)(hn:H' b=none):FpOk X pins H' b:=by
 refine⟨hn,Qf (K_ I.lt hb),I.nofs hb,.inr (I_ I.sz hb),λx c e z=>?_,λp hp z=>?_⟩
 .obtain⟨v,q⟩:=I.cell x c e;exact absurd (K_ q.lt (by rw[z];exact hb)) (O8 _)
 .exact absurd (K_ (E_ (I.pin p hp).1) (by rw[z];exact hb)) (O8 _)
structure Turn(P:Program)(w:World)(K:W.Frag)(tg:Expr)(J:It)(fp:List Addr)(it:Addr)(tn:Nat->Heap->Prop):Prop where
 mem:it∈fp
 obj:∀i h,tn i h->∀b∈fp,∃o,h.get? b=some o/\∀v,o.data ≠ .cell v
 keep:∀i h h',tn i h->(∀b∈fp,∀o,h.get? b=some o->h'.get? b=some o)->tn i h'
 item:∀(X:Cx),X.prog=P->X.w=w->X.K=K->X.calm=true->∀(i:Nat) (pins:Rb) (s:Shared) (σ:St) (H:Hp) (E:Rf),Inv X pins σ H s->(∀b∈fp,FpOk X pins H b)->tn i s.heap->J.go i H->
  wpAny (model P w) X.A (pyNext (.ref it)) (λr s1=>∃u,r=some u/\
   wpAny (model P w) X.A (letOwnedTupleGo tg (.ref it) u) (λ_ s2=>∃x H',Inv X pins σ H' s2/\RelV x u/\J.yld i H x H'/\tn (i+1) s2.heap/\∀b∈fp,H' b=none) E s1) E s
 done:∀(X:Cx),X.prog=P->X.w=w->X.K=K->X.calm=true->∀(i:Nat) (pins:Rb) (s:Shared) (σ:St) (H:Hp) (E:Rf),Inv X pins σ H s->(∀b∈fp,FpOk X pins H b)->tn i s.heap->J.stop i H->
  wpAny (model P w) X.A (pyNext (.ref it)) (λr s1=>r=none/\Inv X pins σ H s1) E s
 self:∀(A:Around) (i:Nat) (s:Shared) (Q:Rf) (E:Rf),tn i s.heap->Q (.ref it) s->wpAny (model P w) A (pyIter (.ref it)) Q E s
abbrev TI:=St->Hp->(It->Hp->Prop)->Prop
def PIE(X:Cx)(pins:Rb)(σ:St)(tg:Expr)(R:It->Hp->Prop)(itv:Value)(s2:Shared):Prop:=
 ∃(it:Addr) (fp:List Addr) (tn:Nat->Heap->Prop) (J:It) (H':Hp),itv=.ref it/\Inv X pins σ H' s2/\Turn X.prog X.w X.K tg J fp it tn/\tn 0 s2.heap/\(∀b∈fp,FpOk X pins H' b)/\R J H'
def PI(X:Cx)(tg a_:Expr)(wi:TI):Prop:=
 ∀
  (pins:Rb) (s:Shared) (σ:St) (H:Hp) (R:It->Hp->Prop),Inv X pins σ H s->wi σ H R->
  wpAny (model X.prog X.w) X.A (eval a_ X.env) (λv s1=>wpAny (model X.prog X.w) X.A (pyIter v) (PIE X pins σ tg R) X.xe s1) X.xe s
def yo(ho:s.heap.get? it=some o)(hc:o.cls=.type n)(hd:o.data=.fields vs)
 (hn:["enumerate", "zip", "dict_itemiterator", "dict_reverseitemiterator", "odict_iterator", "itertools.zip_longest", "itertools.pairwise"].contains n=false) (hQ:Q () s):wpAny M A (letOwnedTupleGo tg (.ref it) u) Q E s:=by
 unfold letOwnedTupleGo;cases tg
  <;> first
  |exact G_ hQ
  |(cases u <;> first
   |exact G_ hQ
   |(
    refine w_ (wpAny_load ho ?_);rw[hc,hd];show wpAny M A (if (["enumerate", "zip", "dict_itemiterator", "dict_reverseitemiterator", "odict_iterator", "itertools.zip_longest", "itertools.pairwise"].contains n&&vs[0]?==some (rawInt _))=true then _ else _) Q E s;rw[if_neg (by intro h;rw[hn,Bool.false_and] at h;cases h)];exact G_ hQ))
noncomputable def Itl(K:W.Frag)(a:Addr):It:=
 ⟨λi H=>∃xs x,SqL K H a xs/\xs[i]?=some x,λi H x H'=>H'=H/\∀xs,SqL K H a xs->xs[i]?=some x,λi H=>∃xs,SqL K H a xs/\xs.length<=i⟩
noncomputable def Itt(K:W.Frag)(a:Addr):It:=
 ⟨λi H=>∃xs x,SqT K H a xs/\xs[i]?=some x,λi H x H'=>H'=H/\∀xs,SqT K H a xs->xs[i]?=some x,λi H=>∃xs,SqT K H a xs/\xs.length<=i⟩
noncomputable def Itr(lo:Int)(n:Nat):It:=⟨λi _=>i<n,λi H x H'=>H'=H/\x=.int (lo+i),λi _=>n<=i⟩
def zO{P:Program}{w:World}{K:W.Frag}{tg:Expr}(a it:Addr):Turn P w K tg (Itl K a) [it] it (λi h=>h.IsListIter it a i) where
 mem:=by simp
 obj:=λi h st b hb=>by
  have e:b=it:=by simpa using hb
  subst e;obtain⟨o,e,c,d⟩:=st;exact⟨o,e,λv z=>by rw[d] at z;cases z⟩
 keep:=λi h h' st k=>st.at λo e=>k it (by simp) o e
 item:=by intro X hP hw hK hc i pins s σ H E I hf st hg;subst hP hw hK;obtain⟨xs,x,hq,hx⟩:=hg;obtain⟨its,rv,p,hz⟩:=I.list hq;obtain⟨u,hu,ru⟩:=rv.get hx;obtain⟨f0,f1,f2,f3,f4,f5⟩:=hf it (by simp);refine wpAny_pyNext_list_item st p.isList (x:=u) (by simpa using hu) λh' st' sb=>?_;have I1:Inv X pins σ H { s with heap:=h' }:=I.turned (t':=s.toks) (λb o hb e=>(sb.2 b hb).trans e) f0 f1 f3 f4 f5;obtain⟨o,e,c,d⟩:=id st';exact⟨u,rfl,yo (s:={ s with heap:=h' }) e c d (by decide) ⟨x,H,I1,ru,⟨rfl,λys hy=>by rw[I.list_inj hy hq];exact hx⟩,st',λb hb=>(hf b hb).1⟩⟩
 done:=by intro X hP hw hK hc i pins s σ H E I hf st hg;subst hP hw hK;obtain⟨xs,hq,hx⟩:=hg;obtain⟨its,rv,p,hz⟩:=I.list hq;obtain⟨f0,f1,f2,f3,f4,f5⟩:=hf it (by simp);have hl:=rv.length;exact wpAny_pyNext_list_end (I.ok.hd hc) st p.isList (by simp;omega) λh' eb=>⟨rfl,I.turned (t':=s.toks) (λb o hb e=>eb b o hb e) f0 f1 f3 f4 f5⟩
 self:=λ_ _ _ _ _ st h=>wpAny_pyIter_listiter st h
def yx{P:Program}{w:World}{K:W.Frag}{tg:Expr}(a it:Addr):Turn P w K tg (Itt K a) [it] it (λi h=>h.IsTupleIter it a i) where
 mem:=by simp
 obj:=λi h st b hb=>by
  have e:b=it:=by simpa using hb
  subst e;obtain⟨o,e,c,d⟩:=st;exact⟨o,e,λv z=>by rw[d] at z;cases z⟩
 keep:=λi h h' st k=>st.at λo e=>k it (by simp) o e
 item:=by intro X hP hw hK hc i pins s σ H E I hf st hg;subst hP hw hK;obtain⟨xs,x,hq,hx⟩:=hg;obtain⟨its,rv,p,hz⟩:=I.tuple hq;obtain⟨u,hu,ru⟩:=rv.get hx;obtain⟨f0,f1,f2,f3,f4,f5⟩:=hf it (by simp);refine wpAny_pyNext_tuple_item st (show s.heap.IsTuple a its.toArray from p) (x:=u) (by simpa using hu) λh' st' sb=>?_;have I1:Inv X pins σ H { s with heap:=h' }:=I.turned (t':=s.toks) (λb o hb e=>(sb.2 b hb).trans e) f0 f1 f3 f4 f5;obtain⟨o,e,c,d⟩:=id st';exact⟨u,rfl,yo (s:={ s with heap:=h' }) e c d (by decide) ⟨x,H,I1,ru,⟨rfl,λys hy=>by rw[I.tuple_inj hy hq];exact hx⟩,st',λb hb=>(hf b hb).1⟩⟩
 done:=by intro X hP hw hK hc i pins s σ H E I hf st hg;subst hP hw hK;obtain⟨xs,hq,hx⟩:=hg;obtain⟨its,rv,p,hz⟩:=I.tuple hq;obtain⟨f0,f1,f2,f3,f4,f5⟩:=hf it (by simp);have hl:=rv.length;exact wpAny_pyNext_tuple_end (I.ok.hd hc) st (show s.heap.IsTuple a its.toArray from p) (by simp;omega) λh' eb=>⟨rfl,I.turned (t':=s.toks) (λb o hb e=>eb b o hb e) f0 f1 f3 f4 f5⟩
 self:=λ_ _ _ _ _ st h=>wpAny_pyIter_tupleiter st h
def xB{P:Program}{w:World}{K:W.Frag}{tg:Expr}(it:Addr)(lo:Int)(n:Nat):Turn P w K tg (Itr lo n) [it] it (λi h=>IsRangeIter h it (lo+(i:Nat)*1) ((n:Int)-(i:Nat)) 1) where
 mem:=by simp
 obj
  := λi h st b hb=>by
  have e:b=it:=by simpa using hb
  subst e;exact⟨_,st,λv z=>by have z':Data.fields _=Data.cell v:=z;cases z'⟩
 keep:=λi h h' st k=>k it (by simp) _ st
 item:=by intro X hP hw hK hc i pins s σ H E I hf st hg;subst hP hw hK;obtain⟨f0,f1,f2,f3,f4,f5⟩:=hf it (by simp);have W:=Walks.range (prog:=X.prog) (w:=X.w) (I.ok.hd hc) it lo 1 n;refine W.item i s _ _ hg st λv h' tk hv st' kk=>?_;obtain⟨t,rfl⟩:=hv;have I1:Inv X pins σ H { s with heap:=h',toks:=tk }:=I.turned (λb o hb e=>kk b o (by simpa using hb) e) f0 f1 f3 f4 f5;refine⟨_,rfl,yo (s:={ s with heap:=h',toks:=tk }) (n:="range_iterator") st' rfl rfl (by decide) ⟨.int (lo+i),H,I1,⟨t,?_⟩,⟨rfl,rfl⟩,st',λb hb=>(hf b hb).1⟩⟩;rw[Int.mul_one]
 done:=by intro X hP hw hK hc i pins s σ H E I hf st hg;subst hP hw hK;obtain⟨f0,f1,f2,f3,f4,f5⟩:=hf it (by simp);exact wpAny_pyNext_range_end (I.ok.hd hc) st (by have:n<=i:=hg;omega) λh' eb=>⟨rfl,I.turned (t':=s.toks) (λb o hb e=>eb b o hb e) f0 f1 f3 f4 f5⟩
 self:=λ_ _ _ _ _ st h=>wpAny_pyIter_rangeiter st h
section
variable{X:Cx}{tg:Expr}
def u5{pins:Rb}{σ:St}{H:Hp}{s:Shared}{R:It->Hp->Prop}{E:Rf}{lo hi:Int}{t u v:Tok}{tk:Nat}(I:Inv X pins σ H s)(h1:-(2^62)<=lo)(h2:lo<2^62)(h3:-(2^62)<=hi)(h4:hi<2^62)
 (q:R (Itr lo (hi-lo).toNat) H):wpAny (model X.prog X.w) X.A (pyIter (.ref s.heap.objs.size)) (PIE X pins σ tg R) E { s with heap:=s.heap.push { cls:=.type "range",data:=.fields #[.int lo t,.int hi u,.int 1 v] },toks:=tk }:=by
 refine wpAny_pyIter_range (IsRange.new ..) (small_one h1 h2 h3 h4) ?_;have I1:Inv X pins σ H { s with heap:=s.heap.push { cls:=.type "range",data:=.fields #[.int lo t,.int hi u,.int 1 v] },toks:=tk }:=I.kept λb o e=>Em _ e;refine⟨(s.heap.push { cls:=.type "range",data:=.fields #[.int lo t,.int hi u,.int 1 v] }).objs.size,[(s.heap.push { cls:=.type "range",data:=.fields #[.int lo t,.int hi u,.int 1 v] }).objs.size],_,_,H,rfl,
  I1.kept (t':=tk) λb o e=>Em _ e,xB _ lo (hi-lo).toNat,?_,λb hb=>?_,q⟩
 .have e1:lo+((0:Nat):Int)*1=lo:=by simp
  have e2:(((hi-lo).toNat:Nat):Int)-((0:Nat):Int)=Builtin.Range.rangeSize lo hi 1:=by rw[rangeSize_one];split <;> omega
  show IsRangeIter _ _ (lo+((0:Nat):Int)*1) ((((hi-lo).toNat:Nat):Int)-((0:Nat):Int)) 1;rw[e1,e2];exact M_ _ rfl
 .have e:b=(s.heap.push { cls:=.type "range",data:=.fields #[.int lo t,.int hi u,.int 1 v] }).objs.size:=by simpa using hb
  subst e;exact I1.fpOk (z_ _) (I1.hok.fresh (z_ _))
def Nm(ta:TA):TI:=λσ H R=>ta σ H λvs H1=>∃j:Int,vs=[.int j]/\-(2^62)<=j/\j<2^62/\R (Itr 0 j.toNat) H1
def MR(ta:TA):TI:=λσ H R=>ta σ H λvs H1=>∃i j:Int,vs=[.int i,.int j]/\(-(2^62)<=i/\i<2^62/\-(2^62)<=j/\j<2^62)/\R (Itr i (j-i).toNat) H1
def Ao(hg:Gl X "range")(hm:X.mg "range"=none)(ha:PA X [a] ta)(hs:starEach [a] X.env=[(false,eval a X.env)]):PI X tg (.Call (.Name "range" p) [a] [] pos) (Nm ta):=by
 intro pins s σ H R I h;refine Call_ (gH I hg hm boot_range (OY (thn (ha pos pins s σ H _ I h) λus s1 ⟨vs,H1,I1,r1,q1⟩=>?_) hs rfl));obtain⟨j,e,q1,q2,q⟩:=q1;subst e;cases r1 with
 |cons r rr=>cases rr;obtain⟨t,rfl⟩:=r;exact call_range_1 (u5 I1 (by omega) (by omega) q1 q2 (by simpa using q))
def yY(hg:Gl X "range")(hm:X.mg "range"=none)(ha:PA X [a,b] ta)(hs:starEach [a,b] X.env=[(false,eval a X.env),(false,eval b X.env)])(hs2:starEach [b] X.env=[(false,eval b X.env)]):
 PI X tg (.Call (.Name "range" p) [a,b] [] pos) (MR ta):=by
 intro pins s σ H R I h;refine Call_ (gH I hg hm boot_range (OY (thn (ha pos pins s σ H _ I h) λus s1 ⟨vs,H1,I1,r1,q1⟩=>?_) (by rw[hs,hs2]) (by rw[hs2];rfl)));obtain⟨i,j,e,⟨q1,q2,q3,q4⟩,q⟩:=q1;subst e;cases r1 with
 |
  cons r rr=>
  cases rr with
  |cons r' rr=>cases rr;obtain⟨t,rfl⟩:=r;obtain⟨t',rfl⟩:=r';exact call_range_2 (u5 I1 q1 q2 q3 q4 q)
def tFor(wi:TI)(g:TG)(tb:TS):TS:=λD σ H=>wi σ H λJ H1=>∃W:Nat->Nat->St->Hp->Prop,(∃m,W 0 m σ H1)/\∀i m σ H,W i m σ H->
 (J.stop i H/\D.nx σ H)\/(J.go i H/\∃N:St->Hp->Prop,(∀σ' H',N σ' H'->∃m',m'<m/\W (i+1) m' σ' H')/\∀x H',J.yld i H x H'->g x σ H' λσ2 H2=>tb { D with nx:=N,ct:=N,bk:=D.nx } σ2 H2)
noncomputable def lY(fp:List Addr)(h:Heap):List (Addr×Obj):=fp.filterMap λb=>(h.get? b).map λo=>(b,o)
def je(hb:b∈fp)(e:h.get? b=some o):(b,o)∈lY fp h:=List.mem_filterMap.mpr ⟨b,hb,by rw[e];rfl⟩
def zZ(hp:p∈lY fp h):p.1∈fp/\h.get? p.1=some p.2:=by
 obtain⟨b,hb,e⟩:=List.mem_filterMap.mp hp;cases q:h.get? b with
 |none=>rw[q] at e;cases e
 |some o=>rw[q] at e;have e':(b,o)=p:=OE e;subst e';exact⟨hb,q⟩
def Inv.pinned(I:Inv X pins σ H s)(hf:∀b∈fp,FpOk X pins H b)(ho:∀b∈fp,∃o,s.heap.get? b=some o/\∀v,o.data ≠ .cell v):Inv X (pins++lY fp s.heap) σ H s:=
 I.pins_of λp hp=>(O4.mp hp).elim (λz=>I.pin p (OK _ z)) λz=>by obtain⟨hb,e⟩:=zZ z;obtain⟨f0,f1,f2,_⟩:=hf p.1 hb;obtain⟨o,e',d⟩:=ho p.1 hb;rw[e] at e';cases e';exact⟨e,f0,f1,f2,d⟩
def Inv.unpinned(I:Inv X (pins++pl) σ H s):Inv X pins σ H s:=I.pins_of λp hp=>I.pin p (OK _ (List.mem_append_left _ hp))
def ID(hp:PassesOwn (model X.prog X.w) X.A X.env X.xe)(hc:X.calm=true)(hi:PI X tg a_ wi)(hg:PG X tg g)(hb:PSs X body tb)
 (hs:∀x,foldedSetIterable a_ X.env x=pure x):PS X (.For tg a_ body [] pos) (tFor wi g tb):=by
 intro pins s σ H D I h;refine wpAny_For (thn (hi pins s σ H _ I h) λv s1 h1=>thn h1 λitv s2 h2=>?_) hs;obtain⟨it,fp,tn,J,H2,e,I2,T,st2,f2,W,⟨m0,w0⟩,turn⟩:=h2;subst e;have stat:∀{H':Hp},(∀b∈fp,H' b=none)->∀b∈fp,FpOk X pins H' b:=λhn b hb=>⟨hn b hb,(f2 b hb).2⟩;refine codeAny_forLoop_any (λn s'=>∃i σ' H',Inv X pins σ' H' s'/\tn i s'.heap/\(∀b∈fp,H' b=none)/\W i n σ' H') ?_ m0 ⟨0,σ,H2,I2,st2,λb hb=>(f2 b hb).1,w0⟩;rintro n s3 ⟨i,σ3,H3,I3,st3,fr3,w3⟩;rcases turn i n σ3 H3 w3 with ⟨stop,qn⟩ |⟨go,N,hN,step⟩
 .refine Pz hp (thn (T.done X rfl rfl rfl hc i pins s3 σ3 H3 X.xe I3 (stat fr3) st3 stop) λr s4 ⟨hr,I4⟩=>?_);subst hr;exact QD ⟨σ3,H3,I4,qn⟩
 .refine Pz hp (thn (T.item X rfl rfl rfl hc i pins s3 σ3 H3 X.xe I3 (stat fr3) st3 go) λr s4 ⟨u,hr,h4⟩=>?_);subst hr;refine Pz hp (thn h4 λ_ s5 ⟨x,H5,I5,r5,y5,st5,fr5⟩=>?_);have I5':=I5.pinned (stat fr5) (T.obj _ _ st5);refine Pz hp (thn (hg _ s5 σ3 H5 x u _ I5' r5 (step x H5 y5)) λ_ s6 ⟨σ6,H6,I6,q6⟩=>?_);refine Pz hp (thn (hb _ s6 σ6 H6 _ I6 q6) λf s7 q7=>?_);have again:∀{σ7:St}{H7:Hp},Inv X (pins++lY fp s5.heap) σ7 H7 s7->N σ7 H7->∃m,m<n/\∃i σ' H',Inv X pins σ' H' s7/\tn i s7.heap/\(∀b∈fp,H' b=none)/\W i m σ' H':=λ{σ7 H7} I7 n7=>by obtain⟨m',hm,w7⟩:=hN σ7 H7 n7;refine⟨m',hm,i+1,σ7,H7,I7.unpinned,T.keep _ _ _ st5 λb hb o e=>(I7.pin (b,o) (OK _ (OK _ (je hb e)))).1,λb hb=>?_,w7⟩;obtain⟨o,e,d⟩:=T.obj _ _ st5 b hb;exact (I7.pin (b,o) (OK _ (OK _ (je hb e)))).2.1
  cases f with
  |next=>obtain⟨σ7,H7,I7,n7⟩:=q7;exact again I7 n7
  |cont=>obtain⟨σ7,H7,I7,n7⟩:=q7;exact again I7 n7
  |brk=>obtain⟨σ7,H7,I7,q7⟩:=q7;exact⟨σ7,H7,I7.unpinned,q7⟩
  |ret v=>obtain⟨x7,σ7,H7,I7,r7,q7⟩:=q7;exact⟨x7,σ7,H7,I7.unpinned,r7,q7⟩
end
abbrev R2:=V->V->Hp->VK->Prop
def OpR(X:Cx)(f:Value->Value->Sem Value)(r:R2):Prop:=
 ∀
  (pins:Rb) (s:Shared) (σ:St) (H:Hp) (x y:V) (v u:Value) (Q:VK),Inv X pins σ H s->RelV x v->RelV y u->r x y H Q->
  wpAny (model X.prog X.w) X.A (f v u) (EP X pins σ Q) X.xe s
def UnR(X:Cx)(f:Value->Sem Value)(r:V->Hp->VK->Prop):Prop:=
 ∀
  (pins:Rb) (s:Shared) (σ:St) (H:Hp) (x:V) (v:Value) (Q:VK),Inv X pins σ H s->RelV x v->r x H Q->
  wpAny (model X.prog X.w) X.A (f v) (EP X pins σ Q) X.xe s
def CallR(X:Cx)(f:Value)(r:List V->Hp->VK->Prop):Prop:=
 ∀
  (pins:Rb) (s:Shared) (σ:St) (H:Hp) (xs:List V) (us:List Value) (Q:VK),Inv X pins σ H s->Vals xs us->r xs H Q->
  wpAny (model X.prog X.w) X.A (call f us) (EP X pins σ Q) X.xe s
def tOp(r:R2)(ta tb:TE):TE:=λσ H Q=>ta σ H λx H1=>tb σ H1 λy H2=>r x y H2 Q
def tUn(r:V->Hp->VK->Prop)(ta:TE):TE:=λσ H Q=>ta σ H λx H1=>r x H1 Q
def rI(C:Int->Int->Prop)(g:Int->Int->V):R2:=λx y H Q=>∃i j,x=.int i/\y=.int j/\C i j/\Q (g i j) H
def rI0(g:Int->Int->V):R2:=λx y H Q=>∃i j,x=.int i/\y=.int j/\Q (g i j) H
def rU(g:Int->V):V->Hp->VK->Prop:=λx H Q=>∃i,x=.int i/\Q (g i) H
section
variable{X:Cx}{a b:Expr}{ta tb:TE}{pos:Pos}
def Cg(ha:PE X a ta)(hb:PE X b tb){pins:Rb}{s:Shared}{σ:St}{H:Hp}{R:V->V->Hp->Prop}(I:Inv X pins σ H s)
 (h:ta σ H λx H1=>tb σ H1 λy H2=>R x y H2) {Q:Rf}{f:Value->Value->Sem Value}
 (hf:∀v u s2 x y H2,Inv X pins σ H2 s2->RelV x v->RelV y u->R x y H2->wpAny (model X.prog X.w) X.A (f v u) Q X.xe s2):
 wpAny (model X.prog X.w) X.A (eval a X.env) (λv s₁=>wpAny (model X.prog X.w) X.A (eval b X.env) (λu s₂=>wpAny (model X.prog X.w) X.A (f v u) Q X.xe s₂) X.xe s₁) X.xe s:=by
 refine thn (ha pins s σ H _ I h) λv s1 ⟨x,H1,I1,r1,q1⟩=>?_;refine thn (hb pins s1 σ H1 _ I1 q1) λu s2 ⟨y,H2,I2,r2,q2⟩=>?_;exact hf v u s2 x y H2 I2 r1 r2 q2
def Nf(ho:OpR X (binaryOp op) r)(ha:PE X a ta)(hb:PE X b tb):PE X (.BinOp a op b pos) (tOp r ta tb):=by intro pins s σ H Q I h;exact wpAny_BinOp (Cg ha hb I h λv u s2 x y H2 I2 rx ry q=>ho pins s2 σ H2 x y v u Q I2 rx ry q)
def Ov(ho:UnR X (unaryOp op) r)(ha:PE X a ta):PE X (.UnaryOp op a pos) (tUn r ta):=by intro pins s σ H Q I h;exact UnaryOp_ (thn (ha pins s σ H _ I h) λv s1 ⟨x,H1,I1,r1,q1⟩=>ho pins s1 σ H1 x v Q I1 r1 q1)
def opI{f:Value->Value->Sem Value}{C:Int->Int->Prop}{g:Int->Int->Int}
 (rule:∀(i j:Int) (t u:Tok) (s:Shared) (Q:Rf) (E:Rf),C i j->Q (.int (g i j) s.toks) { s with toks:=s.toks+1 }->wpAny (model X.prog X.w) X.A (f (.int i t) (.int j u)) Q E s):
 OpR X f (rI C λi j=>.int (g i j)):=by
 intro pins s σ H x y v u Q I rx ry h;obtain⟨i,j,rfl,rfl,hc,q⟩:=h;obtain⟨t,rfl⟩:=rx;obtain⟨t',rfl⟩:=ry;exact rule i j t t' s _ _ hc ⟨.int (g i j),H,I.tok _,⟨_,rfl⟩,q⟩
def opI0{f:Value->Value->Sem Value}{g:Int->Int->Int}
 (rule:∀(i j:Int) (t u:Tok) (s:Shared) (Q:Rf) (E:Rf),Q (.int (g i j) s.toks) { s with toks:=s.toks+1 }->wpAny (model X.prog X.w) X.A (f (.int i t) (.int j u)) Q E s):
 OpR X f (rI0 λi j=>.int (g i j)):=by
 intro pins s σ H x y v u Q I rx ry h;obtain⟨i,j,rfl,rfl,q⟩:=h;obtain⟨t,rfl⟩:=rx;obtain⟨t',rfl⟩:=ry;exact rule i j t t' s _ _ ⟨.int (g i j),H,I.tok _,⟨_,rfl⟩,q⟩
def Bq{f:Value->Value->Sem Value}{g:Int->Int->Bool}
 (rule:∀(i j:Int) (t u:Tok) (s:Shared) (Q:Rf) (E:Rf),Q (.bool (g i j)) s->wpAny (model X.prog X.w) X.A (f (.int i t) (.int j u)) Q E s):
 OpR X f (rI0 λi j=>.bl (g i j)):=by
 intro pins s σ H x y v u Q I rx ry h;obtain⟨i,j,rfl,rfl,q⟩:=h;obtain⟨t,rfl⟩:=rx;obtain⟨t',rfl⟩:=ry;exact rule i j t t' s _ _ ⟨.bl (g i j),H,I,rfl,q⟩
def iS(i j:Int):Prop:=0<=j/\j<=1000000/\i.natAbs<2^64
def CMul(i j:Int):Prop:=(-(2^64)<i/\i<2^64)\/(-(2^64)<j/\j<2^64)
def CMul.ok(h:CMul i j):IntMulOk i j:=by
 rcases h with ⟨h1,h2⟩ |⟨h1,h2⟩
 .exact .of_left (intBits_le_64 h1 h2)
 .exact .of_right (intBits_le_64 h1 h2)
def HF:OpR X (binaryOp .Add) (rI0 λi j=>.int (i+j)):=opI0 λ_ _ _ _ _ _ _ q=>add_int q
def Io:OpR X (binaryOp .Sub) (rI0 λi j=>.int (i-j)):=opI0 λ_ _ _ _ _ _ _ q=>sub_int q
def La:OpR X (binaryOp .Mult) (rI CMul λi j=>.int (i*j)):=opI λ_ _ _ _ _ _ _ hc q=>mul_int q hc.ok
def Ex:OpR X (binaryOp .Mod) (rI (λ_ j=>j≠0) λi j=>.int (i.fmod j)):=opI λ_ _ _ _ _ _ _ hc q=>mod_int' hc q
def K1:OpR X (binaryOp .Pow) (rI iS λi j=>.int (i^j.toNat)):=opI λ_ _ _ _ _ _ _ hc q=>pow_int_small hc.1 hc.2.1 hc.2.2 q
def JV:OpR X (binaryOp .LShift) (rI iS λi j=>.int (i*2^j.toNat)):=opI λ_ _ _ _ _ _ _ hc q=>lshift_int_small hc.1 hc.2.1 hc.2.2 q
def unI{f:Value->Sem Value}{g:Int->Int}
 (rule:∀(i:Int) (t:Tok) (s:Shared) (Q:Rf) (E:Rf),Q (.int (g i) s.toks) { s with toks:=s.toks+1 }->wpAny (model X.prog X.w) X.A (f (.int i t)) Q E s):
 UnR X f (rU λi=>.int (g i)):=by
 intro pins s σ H x v Q I rx h;obtain⟨i,rfl,q⟩:=h;obtain⟨t,rfl⟩:=rx;exact rule i t s _ _ ⟨.int (g i),H,I.tok _,⟨_,rfl⟩,q⟩
def IT:UnR X (unaryOp .USub) (rU λi=>.int (-i)):=unI λ_ _ _ _ _ q=>neg_int q
end
section
variable{X:Cx}{a b c:Expr}{ta tb:TE}{pos:Pos}
def ml(I:Inv X pins σ H s)(q:Q (.bl k) H)(e:k=k'):EP X pins σ Q (.bool k') s:=by subst e;exact⟨.bl k,H,I,rfl,q⟩
def DM:OpR X (compareOp .Lt) (rI0 λi j=>.bl (decide (i<j))):=Bq λ_ _ _ _ _ _ _ q=>lt_int q
def Ee:OpR X (compareOp .Gt) (rI0 λi j=>.bl (decide (j<i))):=Bq λ_ _ _ _ _ _ _ q=>gt_int q
def Du:OpR X (compareOp .GtE) (rI0 λi j=>.bl (decide (j<=i))):=Bq λ_ _ _ _ _ _ _ q=>ge_int q
def G9:OpR X (compareOp .Is) (λx y H Q=>y=.non/\Q (.bl (decide (x=.non))) H):=by
 intro pins s σ H x y v u Q I rx ry h;obtain⟨rfl,q⟩:=h;cases ry;refine is_none_gen (ml I q ?_);cases x <;> first
  |(cases rx;rfl)
  |(obtain⟨t,rfl⟩:=rx;rfl)
def GK:OpR X (compareOp .IsNot) (λx y H Q=>y=.non/\Q (.bl (!decide (x=.non))) H):=by
 intro pins s σ H x y v u Q I rx ry h;obtain⟨rfl,q⟩:=h;cases ry;refine isnot_none_gen (ml I q ?_);cases x <;> first
  |(cases rx;rfl)
  |(obtain⟨t,rfl⟩:=rx;rfl)
def OpR.or(h:OpR X f r)(h':OpR X f r'):OpR X f (λx y H Q=>r x y H Q\/r' x y H Q):=by
 intro pins s σ H x y v u Q I rx ry q;rcases q with q |q
 .exact h pins s σ H x y v u Q I rx ry q
 .exact h' pins s σ H x y v u Q I rx ry q
def An(b:Expr)(h:op ≠ .In:=by decide)(h2:op ≠ .NotIn:=by decide):behindInMarks op b=false:=by
 have e1:(op==CmpOp.In)=false:=by cases op <;> first |rfl |exact absurd rfl h
 have e2:(op==CmpOp.NotIn)=false:=by cases op <;> first |rfl |exact absurd rfl h2
 cases b <;> simp [behindInMarks,e1,e2]
def Fm(ho:OpR X (compareOp op) r)(ha:PE X a ta)(hb:PE X b tb)(hm:behindInMarks op b=false):PE X (.Compare a [op] [b] pos) (tOp r ta tb):=by intro pins s σ H Q I h;exact wpAny_Compare1 (Cg ha hb I h λv u s2 x y H2 I2 rx ry q=>ho pins s2 σ H2 x y v u Q I2 rx ry q) hm
def Ly(t:TE):TT:=λσ H Q=>t σ H λx H'=>∃k,x=.bl k/\Q k H'
def Fy(ho:OpR X (compareOp op) r)(ha:PE X a ta)(hb:PE X b tb)(hm:behindInMarks op b=false):PT X (.Compare a [op] [b] pos) (Ly (tOp r ta tb)):=by
 intro pins s σ H Q I h;refine wpAny_isTrue_Compare1 (thn (ha pins s σ H _ I h) λv s1 ⟨x,H1,I1,r1,q1⟩=>thn (hb pins s1 σ H1 _ I1 q1) λu s2 ⟨y,H2,I2,r2,q2⟩=>
  thn (ho pins s2 σ H2 x y v u _ I2 r1 r2 q2) λc s3 ⟨z,H3,I3,r3,k,e,q3⟩=>?_) hm
 subst e;cases r3;exact P2 ⟨H3,I3,q3⟩
def oH:(sizeLine:Nat)<2^63:=by rw[sizeLine_eq];decide
def k8(r:Vals [x] us):∃u,us=[u]/\RelV x u:=by
 cases r with
 |cons r1 r2=>cases r2;exact⟨_,rfl,r1⟩
def xF(r:Vals [x,y] us):∃u w',us=[u,w']/\RelV x u/\RelV y w':=by
 cases r with
 |
  cons r1 r2=>
  cases r2 with
  |cons r3 r4=>cases r4;exact⟨_,_,rfl,r1,r3⟩
def CY:CallR X (.builtin "abs") (λxs H Q=>∃i,xs=[.int i]/\Q (.int (if i<0 then -i else i)) H):=by intro pins s σ H xs us Q I r h;obtain⟨i,rfl,q⟩:=h;obtain⟨u,rfl,t,rfl⟩:=k8 r;exact call_abs_int λu tk=>⟨.int (if i<0 then -i else i),H,I.tok _,⟨_,rfl⟩,q⟩
def Am(hc:X.calm=true):CallR X (.builtin "min") (λxs H Q=>∃i j,xs=[.int i,.int j]/\Q (.int (if j<i then j else i)) H):=by
 intro pins s σ H xs us Q I r h;obtain⟨i,j,rfl,q⟩:=h;obtain⟨u,w',rfl,⟨t,rfl⟩,⟨t',rfl⟩⟩:=xF r;refine min_two_ints (I.ok.hd hc) λh' tk k=>⟨_,H,I.kept k,?_,q⟩;by_cases hj:j<i
 .rw[if_pos hj,if_pos hj];exact⟨_,rfl⟩
 .rw[if_neg hj,if_neg hj];exact⟨_,rfl⟩
end
structure ObjM(h:Heap)(x dx C:Addr)(mA:Ra):Prop where
 obj:h.get? x=some (W.instObj C dx)
 ns:h.Ns1 dx mA
 ne:dx≠x
def AG{h:Heap}{dx:Addr}{mA:Ra}(n:h.Ns1 dx mA):∃od,h.get? dx=some od/\∀name,W.lookIn name od=some (mA name):=by
 obtain⟨o,es,ep,ho,hd,hk,_,hm⟩:=n;refine⟨o,ho,λname=>?_⟩;have e:=hm name;unfold nsFind findBy at e;rw[<- Array.find?_toList] at e;unfold W.lookIn;rw[hd];dsimp only;split
 .rename_i y q;rw[q] at e;exact OU some e
 .rename_i q;rw[q] at e;have a:es.toList.any (·.refKey)=false:=by rw[List.any_eq_false];intro y hy;obtain⟨z,t,hkey⟩:=hk y (Array.mem_toList_iff.mp hy);simp [DictEntry.refKey,hkey]
  have a':¬ es.toList.any (·.refKey)=true:=by rw[a];exact A_
  rw[if_neg a'];exact OU some e
def ObjM.look(I:ObjM h x dx C mA):∃od,W.InstAt h x (W.instObj C dx) C (some od)/\∀name,W.lookIn name od=some (mA name):=
 let ⟨od,ho,hl⟩:=AG I.ns
 ⟨od,⟨I.obj,rfl,rfl,ho⟩,hl⟩
def RelO.some_of(r:RelO (some v) o):∃u,o=some u/\RelV v u:=by
 cases o with
 |none=>exact (show False from r).elim
 |some u=>exact⟨u,rfl,r⟩
section
variable{P:Program}{w:World}{H:Hp}{h:Heap}{a C dx:Addr}{fs:List (Str×V)}
def EE(hok:HOk P w H h)(e:H a=some (.ins C dx fs)):∃mA,ObjM h a dx C mA/\(∀f,RelO (fs.lookup f) (mA f))/\PySem.Within mA (fs.map (·.1))/\fs.length<=1000/\H dx=some (.own a):=by obtain⟨d,z,ne,ob,mA,n,r,q⟩:=(show ObjOk P w H h a (.ins C dx fs) from hok a _ e);exact⟨mA,⟨ob,n,ne⟩,r,q,z,d⟩
end
structure Cls(K:W.Frag)(C:Addr):Prop where
 pg:W.plainGet K C Str.empty=true
 hd:W.hasDictIn K C=true
 po:W.plainOver K C=true
 sa:W.findIn K (.ref C) "__setattr__"=some (some (.builtin "object.__setattr__"))
def Cls.get{K:W.Frag}{C:Addr}(c:Cls K C)(f:Str):W.plainGet K C f=true:=c.pg
section
variable{H:Hp}
inductive TyOf(K:W.Frag)(H:Hp):V->Value->Prop where
 |non:TyOf K H .non (.type "NoneType")
 |bl (x:Bool):TyOf K H (.bl x) (.type "bool")
 |int (i:Int):TyOf K H (.int i) (.type "int")
 |str (x:Str):TyOf K H (.str x) (.type "str")
 |flt (x:UInt64):TyOf K H (.flt x) (.type "float")
 |lst {a:Addr}{xs:List V} (e:H a=some (.lst xs)):TyOf K H (.ref a) (.type "list")
 |frz {a:Addr}{o:Obj}{xs:List V} (e:H a=some (.frz o (.lst xs))):TyOf K H (.ref a) (.type "list")
 |tup {a:Addr}{xs:List V} (e:H a=some (.tup xs)):TyOf K H (.ref a) (.type "tuple")
 |dK {a:Addr}{kvs:List (Key×V)} (e:H a=some (.dK kvs)):TyOf K H (.ref a) (.type "dict")
 |dT {a:Addr}{kvs:List (List Key×V)} (e:H a=some (.dT kvs)):TyOf K H (.ref a) (.type "dict")
 |ins {a C dx:Addr}{fs:List (Str×V)} (e:H a=some (.ins C dx fs)) (cl:Cls K C) (ha:W.findIn K (.ref C) "__class__"=some (some (.builtin "object.__class__")))
  (hn:W.specialIn K (.builtin "object.__class__") "__get__"=some (some (.builtin "getset_descriptor.__get__"))) (htk:W.takesIn K (.builtin "object.__class__")=some true)
  (hm:W.mroIn K C (.type "object")=some true):TyOf K H (.ref a) (.ref C)
end
structure Room(k:Nat)(A:Around):Prop where
 hd:A.handled=none
 dp:A.depth+3*k+5<recursionLimit
 un:A.units+16*k+200<cLine
def Room.mono(r:Room k A)(h:j<=k):Room j A:=⟨r.hd,by have:=r.dp;omega,by have:=r.un;omega⟩
def Room.deeper(r:Room (k+1) A)(env:Env):Room k (A.deeper env):=
 ⟨r.hd,by have:=r.dp;show A.depth+1+3*k+5<_;omega,by have:=r.un;show A.units+3+16*k+200<_;omega⟩
def Room.depth(r:Room k A):A.depth<recursionLimit:=by have:=r.dp;omega
def Room.units(r:Room k A):A.units+64<cLine:=by have:=r.un;omega
def tNil:TA:=λ_ H Q=>Q [] H
def N5(ta:TE)(tr:TA):TA:=λσ H Q=>ta σ H λx H1=>tr σ H1 λxs H2=>Q (x::xs) H2
section
variable{X:Cx}{e:Expr}{es:List Expr}{te:TE}{t:TA}{pos:Pos}
def Kh:PA X [] tNil:=λ_ _ _ _ H Q I h=>Calls.spliced_nil ⟨[],H,I,.nil,h⟩
def EN(ha:PE X e te)(hr:PA X es t)(hs:starEach (e::es) X.env=(false,eval e X.env)::starEach es X.env):PA X (e::es) (N5 te t):=by intro pos pins s σ H Q I h;rw[hs];show wpAny _ _ (spliced ((false,eval e X.env)::backTo pos (starEach es X.env))) _ _ s;refine Calls.spliced_cons (thn (ha pins s σ H _ I h) λu s1 ⟨x,H1,I1,r1,q1⟩=>?_);exact thn (hr pos pins s1 σ H1 _ I1 q1) λus s2 ⟨xs,H2,I2,r2,q2⟩=>⟨x::xs,H2,I2,.cons r1 r2,q2⟩
def tTup(t:TA):TE:=λσ H Q=>t σ H λxs H1=>xs.length<=sizeLine/\∀p,H1 p=none->Q (.ref p) (upd H1 p (.tup xs))
def tLst(t:TA):TE:=λσ H Q=>t σ H λxs H1=>xs.length<=sizeLine/\∀p,H1 p=none->Q (.ref p) (upd H1 p (.lst xs))
def KH{x1}(h:PA X es t):PE X (.Tuple es x1 pos) (tTup t):=by intro pins s σ H Q I hq;refine wpAny_Tuple_spliced (thn (h pos pins s σ H _ I hq) λus s1 ⟨xs,H1,I1,r,z,q⟩=>⟨by rw[<- r.length];exact z,?_⟩);have hf:H1 s1.heap.objs.size=none:=I1.hok.fresh (z_ _);refine⟨.ref s1.heap.objs.size,upd H1 s1.heap.objs.size (.tup xs),I1.laid (t':=s1.toks) (λb u e=>Em _ e) (z_ _) ?_,rfl,q _ hf⟩;exact⟨z,us,r,⟨_,M_ _ rfl,rfl,_,rfl⟩⟩
def KD(h:PA X es t):PE X (.List es pos) (tLst t):=by intro pins s σ H Q I hq;refine wpAny_List_spliced (thn (h pos pins s σ H _ I hq) λus s1 ⟨xs,H1,I1,r,z,q⟩=>⟨by rw[<- r.length];exact z,?_⟩);have hf:H1 s1.heap.objs.size=none:=I1.hok.fresh (z_ _);refine⟨.ref s1.heap.objs.size,upd H1 s1.heap.objs.size (.lst xs),I1.laid (t':=s1.toks) (λb u e=>Em _ e) (z_ _) ?_,rfl,q _ hf⟩;exact⟨z,us,0,r,M_ _ rfl⟩
end
abbrev Sp:=List V->Hp->VK->XK->Prop
abbrev CXT:=List Env->Hp->Shared->XK->Value->Shared->Prop
structure Env0(P:Program)(w:World)(K:W.Frag)(mg:Ra)(base:Heap)(A:Around)(outer:List Env)(s:Shared)(H:Hp):Prop where
 frames:A.frames=some outer
 mod:Mod K mg base
 bs:∀b o,base.get? b=some o->s.heap.get? b=some o/\H b=none
 bsz:base.objs.size<=s.heap.objs.size
 funs:s.heap.FunFrames base outer
 frf:∀b∈frs outer,H b=none
 hok:HOk P w H s.heap
 bare:AllBare s.gens
def CE(outer:List Env)(P:Program)(w:World)(H:Hp)(s:Shared)(Q:VK)(u:Value)(s':Shared):Prop:=
 ∃v H',s'.os=s.os/\AllBare s'.gens/\Un (frs outer) [] H H' s.heap s'.heap/\HOk P w H' s'.heap/\RelV v u/\Q v H'
def CR(CX:CXT)(outer:List Env)(P:Program)(w:World)(H:Hp)(s:Shared)(Q:VK)(E:XK)(r:Result)(s':Shared):Prop:=
 match r with
 |.ok (.ret u)=>CE outer P w H s Q u s'
 |.ok _=>False
 |.error e=>CX outer H s E e s'
structure FnOk(P:Program)(w:World)(K:W.Frag)(mg:Ra)(base:Heap)(CX:CXT)(k:Nat)(f:Addr)(fd:FuncData)(ps:List Str)(sp:Sp):Prop where
 len:∀vs H Q E,sp vs H Q E->vs.length=ps.length
 run:∀(A:Around) (outer:List Env) (s:Shared) (H:Hp) (args:Args) (us:List Value) (vs:List V) (Q:VK) (E:XK),Room k A->Env0 P w K mg base A outer s H->BindsTo s fd args (ps.zip us)->Vals vs us->sp vs H Q E->
  codeAny (model P w) A (.call (.ref f) args) (CR CX outer P w H s Q E) s
def FnOk.imp{P:Program}{w:World}{K:W.Frag}{mg:Ra}{base:Heap}{CX:CXT}{k:Nat}{f:Addr}{fd:FuncData}{ps:List Str}{sp sp':Sp}(F:FnOk P w K mg base CX k f fd ps sp)
 (h:∀vs H Q E,sp' vs H Q E->sp vs H Q E):FnOk P w K mg base CX k f fd ps sp':=
 ⟨λvs H Q E q=>F.len vs H Q E (h _ _ _ _ q),λA outer s H args us vs Q E hr he hb hv hs=>F.run A outer s H args us vs Q E hr he hb hv (h _ _ _ _ hs)⟩
section
variable{X:Cx}{pins:Rb}{σ:St}{H:Hp}{s s':Shared}
def Inv.env0(I:Inv X pins σ H s):Env0 X.prog X.w X.K X.mg X.base X.A X.stack s H:=
 ⟨I.ok.frames,I.ok.mod,I.bs,I_ I.ok.bsz I.sz,I.stack,I.stkFree,I.hok,I.bare⟩
def Inv.after(I:Inv X pins σ H s)(h:CE X.stack X.prog X.w H s Q u s'):EP X pins σ Q u s':=by obtain⟨v,H',os,bare,un,hok,r,q⟩:=h;obtain⟨hh,g,d,t,os'⟩:=s';obtain rfl:os'=s.os:=os;exact⟨v,H',I.call (h':=hh) (g':=g) (d':=d) (t':=t) (ch:=[]) un hok bare (λb z=>absurd z (by simp)),r,q⟩
end
def Binds(K:W.Frag)(fd:FuncData)(ps:List Str)(ds:List Value):Prop:=
 ∀(s:Shared) (us:List Value),K.In s.heap->(us++ds).length=ps.length->BindsTo s fd ⟨us,[]⟩ (ps.zip (us++ds))
def Binds.all{K:W.Frag}{fd:FuncData}{ps:List Str}(h:∀us:List Value,us.length=ps.length->bindArgs fd ⟨us,[]⟩=pure (ps.zip us)):Binds K fd ps []:=λs us _ hl=>by rw[O9] at hl ⊢;exact .of_eq (h us hl)
def uQ(CX:CXT)(X:Cx)(E:XK):Prop:=∀(pins:Rb) (σ:St) (H:Hp) (s:Shared) (e:Value) (s':Shared),Inv X pins σ H s->CX X.stack H s E e s'->X.xe e s'
structure FnScope(N P:List Str)(sc:Scope):Prop where
 kind:sc.kind=.function
 co:sc.isCoroutine=false
 gen:sc.isGenerator=false
 nd:N.Nodup
 pre:N.take P.length=P
 par:∀x∈P,sc.names.lookup x=some .local\/sc.names.lookup x=some .cell
 nofree:∀y∈sc.names,y.2 ≠ .free
theorem rC{kindOf:Str->Option NameKind}{x:Str}:∀{binds:List (Str×Value)}{m:Ra},(∀v,(x,v)∉binds)->bindL kindOf binds m x=m x
 | [],_,_=>rfl
 |
  (n,v)::r,m,h=>by
  unfold bindL;rw[rC λw hw=>h w (y_ _ hw)];split
  .have:x≠n:=by rintro rfl;exact h v C_
   simp [this]
  .rfl
theorem sf{kindOf:Str->Option NameKind}{x:Str}:∀{binds:List (Str×Value)}{m:Ra},(∀v,(x,v)∉binds)->bindC kindOf binds m x=m x
 | [],_,_=>rfl
 |
  (n,v)::r,m,h=>by
  unfold bindC;rw[sf λw hw=>h w (y_ _ hw)];split
  .rfl
  .have:x≠n:=by rintro rfl;exact h v C_
   simp [this]
theorem rn{kindOf:Str->Option NameKind}{x:Str}{v:Value}:∀{P:List Str}{vs:List Value}{i:Nat}{m:Ra},P.Nodup->P[i]?=some x->vs[i]?=some v->kindOf x=some .local->
 bindL kindOf (P.zip vs) m x=some v
 | [],_,_,_,_,h,_,_=>by simp at h
 |_::_,[],_,_,_,_,h,_=>by simp at h
 |
  p::P,w::vs,0,m,nd,h1,h2,hk=>by
  simp at h1 h2;subst h1;subst h2;show bindL kindOf ((p,w)::P.zip vs) m p=_;unfold bindL;rw[rC λv hv=>(OR.mp nd).1 (List.of_mem_zip hv).1,if_pos hk];simp
 |
  p::P,w::vs,i+1,m,nd,h1,h2,hk=>by
  show bindL kindOf ((p,w)::P.zip vs) m x=_;unfold bindL;exact rn (i:=i) (OR.mp nd).2 (by simpa using h1) (by simpa using h2) hk
theorem rV{kindOf:Str->Option NameKind}{x:Str}{v:Value}:∀{P:List Str}{vs:List Value}{i:Nat}{m:Ra},P.Nodup->P[i]?=some x->vs[i]?=some v->kindOf x≠some .local->
 bindC kindOf (P.zip vs) m x=some v
 | [],_,_,_,_,h,_,_=>by simp at h
 |_::_,[],_,_,_,_,h,_=>by simp at h
 |
  p::P,w::vs,0,m,nd,h1,h2,hk=>by
  simp at h1 h2;subst h1;subst h2;show bindC kindOf ((p,w)::P.zip vs) m p=_;unfold bindC;rw[sf λv hv=>(OR.mp nd).1 (List.of_mem_zip hv).1,if_neg hk];simp
 |
  p::P,w::vs,i+1,m,nd,h1,h2,hk=>by
  show bindC kindOf ((p,w)::P.zip vs) m x=_;unfold bindC;exact rV (i:=i) (OR.mp nd).2 (by simpa using h1) (by simpa using h2) hk
noncomputable def gQ(N:List Str)(vs:List V):St:=vs.map some++List.replicate (N.length-vs.length) none
noncomputable def fJ(CX:CXT)(P:Program)(w:World)(K:W.Frag)(mg:Ra)(base:Heap)(N:List Str)(qual:Str)(scope:Scope)(f:Addr)(cd:Value)(A:Around)(outer:List Env)(s:Shared)(H:Hp)(E:XK):Cx where
 prog:=P
 w:=w
 K:=K
 mg:=mg
 base:=base
 A:=A.deeper (envOfC qual scope s.heap.objs.size f cd)
 N:=N
 s₀:=s
 H₀:=H
 env:=envOfC qual scope s.heap.objs.size f cd
 outer:=outer
 stack:=envOfC qual scope s.heap.objs.size f cd::outer
 ex:=[]
 calm:=true
 fn:=λ_=>true
 pn:=[]
 xe:=λe s'=>wpAny (model P w) (A.deeper (envOfC qual scope s.heap.objs.size f cd)) (leaving (envOfC qual scope s.heap.objs.size f cd) e) (λ_ s''=>CX outer H s E e s'') (λe' s''=>CX outer H s E e' s'') s'
def vG{sc:Scope}{n:Nat}{x:Str}(h:sc.names.lookup x=some .cell):∃c,(cellsFrom n sc.names []).lookup x=some c:=by have q:=W.cellsFrom_some sc.names n [] (.inl h);exact Pb.mp q
def AO{CX:CXT}{P:Program}{w:World}{K:W.Frag}{mg:Ra}{base:Heap}{N ps:List Str}{qual:Str}{scope:Scope}{f:Addr}{cd:Value}{A:Around}{outer:List Env}{s s1:Shared}{H:Hp}{E:XK}{us:List Value}{vs:List V}
 (S:FnScope N ps scope) (hd:A.handled=none) (e0:Env0 P w K mg base A outer s H) (hl:vs.length=ps.length) (r:Vals vs us)
 (x:InCallC s s.heap.objs.size (bindL (envOfC qual scope s.heap.objs.size f cd).kindOf (ps.zip us) λ_=>none) (cellsFrom (s.heap.objs.size+1) scope.names []) (bindC (envOfC qual scope s.heap.objs.size f cd).kindOf (ps.zip us) λ_=>none) s1):
 Inv (fJ CX P w K mg base N qual scope f cd A outer s H E) [] (gQ N vs) H s1:=by
 have hpl:ps.length<=N.length:=by have:=OU List.length S.pre;rw[Pp] at this;omega
 obtain⟨h1,tk,rfl,hk⟩:=x.done;have noA:∀b:Addr,b∉(fJ CX P w K mg base N qual scope f cd A outer s H E).ex:=λb z=>absurd (show b∈([]:List Addr) from z) (by simp);refine⟨⟨e0.mod,S.kind,rfl,rfl,z_ _,λy z c h1 h2=>?_,λy hy=>?_,λy c _ h=>?_,λ_=>hd,Around.frames_deeper e0.frames,.inr ⟨rfl,rfl⟩,λb z=>absurd z (noA b),e0.bs,e0.bsz,λb _ _=>noA b,λb z=>absurd z (noA b),e0.funs,e0.frf⟩,
  rfl,e0.bare,Un.kept hk,⟨_,x.toInCall.ns,λi y v h1 h2 h3=>?_⟩,λy c h=>⟨_,x.cell y c h⟩,e0.hok.fresh (z_ _),λy c h=>?_,λp hp=>absurd (show p∈([]:Rb) from hp) (by simp),e0.hok.kept hk,?_⟩
 .exact name_of_addr x.apart (Pe h1) (Pe h2)
 .have hy:scope.names.lookup y=some .cell\/scope.names.lookup y=some .free:=hy;rcases hy with hy |hy
  .exact vG hy
  .exact absurd rfl (S.nofree _ (Pe hy))
 .exact Nat.le_of_lt (x.above y c (Pe h))
 .have hi:i<vs.length:=by
   unfold gQ at h2;by_cases hi:i<vs.length
   .exact hi
   .rw[OO (by simpa using hi)] at h2;rw[O6] at h2;split at h2 <;> cases h2
  have ha:vs[i]?=some v:=by
   unfold gQ at h2;rw[OD (by simpa using hi),OI] at h2;cases e:vs[i]? with
   |none=>rw[e] at h2;cases h2
   |some a=>rw[e] at h2;cases h2;rfl
  obtain⟨u,hu,rv⟩:=r.get ha;have hp:ps[i]?=some y:=by rw[<- S.pre,List.getElem?_take_of_lt (by omega)];exact h1
  have ndP:ps.Nodup:=by rw[<- S.pre];exact S.nd.sublist (List.take_sublist _ _)
  refine⟨u,rv,?_⟩;rcases S.par y (PH hp) with k |k
  .exact .inl ⟨k,rn ndP hp hu k⟩
  .obtain⟨c,e⟩:=vG (n:=s.heap.objs.size+1) k;refine .inr ⟨.inl k,c,e,?_⟩;have q:=x.cell y c e;rw[rV ndP hp hu (by show scope.names.lookup y≠_;rw[k];decide)] at q;exact q
 .exact e0.hok.fresh (Nat.le_of_lt (x.above y c (Pe h)))
 .unfold gQ;show _=N.length;rw[H_,v_,Pa];omega
def Mx{CX:CXT}{P:Program}{w:World}{K:W.Frag}{mg:Ra}{base:Heap}{k:Nat}{f:Addr}{name qual:Str}{params:Arguments}{body:List Stmt}{scope:Scope}{dV kV doc pm cdv ct oc:Value}{an od:Option Addr}
 {osl:Array (Option Value)}{N ps:List Str}{sp:Sp} (lk:K.lookup f=some ⟨oc,od,.func (W.fnOf name qual params body scope dV kV doc pm an cdv ct),osl⟩) (hcd:W.codeIn K cdv qual=true) (S:FnScope N ps scope)
 (len:∀vs H Q E,sp vs H Q E->vs.length=ps.length)
 (j_:∀(A:Around) (outer:List Env) (s:Shared) (H:Hp) (vs:List V) (Q:VK) (E:XK),Room k (A.deeper (envOfC qual scope s.heap.objs.size f cdv))->sp vs H Q E->
  ∃t,PSs (fJ CX P w K mg base N qual scope f cdv A outer s H E) body t/\t { nx:=λ_ H'=>Q .non H',rt:=Q } (gQ N vs) H):
 FnOk P w K mg base CX (k+1) f (W.fnOf name qual params body scope dV kV doc pm an cdv ct) ps sp:=by
 refine⟨len,λA outer s H args us vs Q E hr e0 hb r hsp=>?_⟩;have hl:=len _ _ _ _ hsp;have KX:K.In s.heap:=e0.mod.kin.keeps λb o e=>(e0.bs b o e).1;have lim:s.heap.NoLimit:=e0.mod.nolimit.keeps λb o e=>(e0.bs b o e).1;have hkind:∀y∈ps.zip us,scope.names.lookup y.1=some .local\/(scope.names.lookup y.1=some .cell/\((cellsFrom (s.heap.objs.size+1) scope.names []).lookup y.1).isSome=true):=λ⟨n,v⟩ hy=>by
  rcases S.par n (List.of_mem_zip hy).1 with q |q
  .exact .inl q
  .exact .inr ⟨q,W.cellsFrom_some _ _ _ (.inl q)⟩
 refine codeAny_call_function hr.depth (KX _ _ lk) rfl S.co S.gen rfl (W.codeRec_of KX hcd) (hb _ _ _ _ ?_);refine wpAny_newFunctionEnv_cells S.kind hkind λenv he s1 x=>?_;subst he;refine⟨lim.keeps x.toInCall.keep,codeAny_func ?_⟩;obtain⟨t,ht,hq⟩:=j_ A outer s H vs Q E (hr.deeper _) hsp;have I:Inv (fJ CX P w K mg base N qual scope f cdv A outer s H E) [] (gQ N vs) H s1:=AO S hr.hd e0 hl r x;refine OV (ht [] s1 (gQ N vs) H _ I hq) (λfl s' hs=>?_) λe s' hs=>hs;have i_:∀{σ':St}{H':Hp}{v:V}{u:Value},Inv (fJ CX P w K mg base N qual scope f cdv A outer s H E) [] σ' H' s'->RelV v u->Q v H'->CE outer P w H s Q u s':=
  λ{σ' H' v u} J rv q=>⟨v,H',J.os,J.bare,J.base,J.hok,rv,q⟩
 cases fl with
 |ret u=>obtain⟨v,σ',H',J,rv,q⟩:=hs;exact i_ J rv q
 |next=>obtain⟨σ',H',J,q⟩:=hs;exact i_ (v:=V.non) (u:=Value.none) J rfl q
 |brk=>obtain⟨_,_,_,q⟩:=hs;exact False.elim q
 |cont=>obtain⟨_,_,_,q⟩:=hs;exact False.elim q
section
variable{X:Cx}{x:Str}{p pos:Pos}{e:Expr}{es:List Expr}{t:TA}{id T:String}{r:List V->Hp->VK->Prop}
def tCB(r:List V->Hp->VK->Prop)(t:TA):TE:=λσ H Q=>t σ H λvs H1=>r vs H1 Q
def Bg(hc:CallR X (.builtin id) r)(hg:Gl X x)(hm:X.mg x=none)(hv:bootBuiltins x=some (.builtin id))(ha:PA X (e::es) t)(hn:x ≠ "__name__")(hdb:(x==("__debug__" : Str))=false)
 (he:starEach (e::es) X.env=(false,eval e X.env)::starEach es X.env) (hpl:(backTo pos (starEach es X.env)).any (·.1)=false):PE X (.Call (.Name x p) (e::es) [] pos) (tCB r t):=by
 intro pins s σ H Q I h;refine PY (gH I hg hm hv ?_ hn hdb);exact PyProof.Rows.callWith_builtin1 (thn (ha pos pins s σ H _ I h) λus s1 ⟨vs,H1,I1,r1,q1⟩=>hc pins s1 σ H1 vs us Q I1 r1 q1) he hpl
def zq(hc:CallR X (.type T) r)(hg:Gl X x)(hm:X.mg x=none)(hv:bootBuiltins x=some (.type T))(ha:PA X (e::es) t)(hn:x ≠ "__name__")(hdb:(x==("__debug__" : Str))=false)
 (he:starEach (e::es) X.env=(false,eval e X.env)::starEach es X.env) (hpl:(backTo pos (starEach es X.env)).any (·.1)=false):PE X (.Call (.Name x p) (e::es) [] pos) (tCB r t):=by
 intro pins s σ H Q I h;refine PY (gH I hg hm hv ?_ hn hdb);exact OY (thn (ha pos pins s σ H _ I h) λus s1 ⟨vs,H1,I1,r1,q1⟩=>hc pins s1 σ H1 vs us Q I1 r1 q1) he hpl
end
end L2
namespace HT
open PySem PyProof.Rows
section
variable{prog:Program}{w:World}{A:Around}{E:Rf}{s:Shared}
def cat_tup(ht:IsTup s.heap t vs.toArray)(hb:IsTup s.heap b ws.toArray)(hv:vs≠[])
 (h1:ws=[]->Q (.ref t) s) (h2:ws≠[]->Q (.ref s.heap.objs.size) { s with heap:=s.heap.push { cls:=.type "tuple",data:=.seq (vs++ws).toArray } })
 (hsz:vs.length+ws.length<=sizeLine):wpAny (model prog w) A (binaryOp .Add (.ref t) (.ref b)) Q E s:=by
 obtain⟨⟨cls,dd,data,sl⟩,ho,hc,n,hd⟩:=id ht;obtain⟨⟨cls2,dd2,data2,sl2⟩,ho2,hc2,n2,hd2⟩:=id hb;simp only at hc hd hc2 hd2;subst hc hd hc2 hd2;have e:vs.toArray++ws.toArray=(vs++ws).toArray:=by simp
 by_cases hw:ws=[]
 .exact concat_meets ⟨_,ho,rfl⟩ ⟨_,ho2,rfl⟩ noFill_tuple_add seq_tuple_add Qm Qj (Qg _ _)
   (tuple_addW1 t b vs.toArray ws.toArray n n2 dd dd2 sl sl2 (by simpa using hv) (by simp [hw])) ⟨ho,ho2,h1 hw⟩
 .refine concat_meets ⟨_,ho,rfl⟩ ⟨_,ho2,rfl⟩ noFill_tuple_add seq_tuple_add Qm Qj (Qg _ _)
   (tuple_addW2 t b vs.toArray ws.toArray n n2 dd dd2 sl sl2 (by simpa using hv) (by simpa using hw) (by rw[Oz,Oz];exact hsz)) ⟨ho,ho2,?_⟩
  rw[e];exact h2 hw
noncomputable def sIx(n d:Nat):Option Int->Nat
 |none=>d
 |some v=>if v<0 then (v+(n:Int)).toNat else min v.toNat n
def sIx_none(n d:Nat):sIx n d none=d:=rfl
def sIx_nat(n d k:Nat):sIx n d (some (k:Int))=min k n:=by show (if (k:Int)<0 then ((k:Int)+(n:Int)).toNat else min (k:Int).toNat n)=min k n;rw[if_neg (by omega),Qk]
def Jm(n d:Nat)(hd:d<=n)(o:Option Int):sIx n d o<=n:=by
 cases o with
 |none=>exact hd
 |
  some v=>
  show (if v<0 then (v+(n:Int)).toNat else min v.toNat n)<=n;by_cases hv:v<0
  .rw[if_pos hv];omega
  .rw[if_neg hv];exact Nat.min_le_right _ _
def wB(v:Int)(n d:Nat):(if v<0 then max (v+(n:Int)) 0 else min v (n:Int))=((sIx n d (some v):Nat):Int):=by
 show (if v<0 then max (v+(n:Int)) 0 else min v (n:Int))=(((if v<0 then (v+(n:Int)).toNat else min v.toNat n):Nat):Int);by_cases hv:v<0
 .simp only[if_pos hv];omega
 .simp only[if_neg hv];omega
def xK(lo hi:Option Int)(n:Nat):Builtin.Slice.sliceAdjust lo hi 1 (n:Int)=(((sIx n 0 lo:Nat):Int),((sIx n n hi:Nat):Int)):=by
 have h1:¬ ((1:Int)<0):=by omega
 unfold Builtin.Slice.sliceAdjust;simp only[h1,Qs];refine Prod.ext ?_ ?_
 .cases lo with
  |none=>rfl
  |some v=>exact wB v n 0
 .cases hi with
  |none=>rfl
  |some v=>exact wB v n n
def xC(i j:Nat):Builtin.Slice.slicePlaces (i:Int) (j:Int) 1=j-i:=by
 unfold Builtin.Slice.slicePlaces;have h1:(1:Int)>0:=by omega
 simp only[h1,PM,Int.ediv_one];split <;> omega
def pG(p:IsPart v o)(h:Q o s):wpAny (model prog w) A (Builtin.Slice.slicePartIndex v) Q E s:=by
 cases p with
 |none=>exact slicePart_none h
 |int i t=>exact slicePart_int h
def nK{sl:Addr}{vl vu:Value}{lo hi:Option Int}{n:Nat}{Q:Int×Int×Nat->Shared->Prop}(hs:s.heap.IsSliceOf sl vl vu .none)(pl:IsPart vl lo)(pu:IsPart vu hi)
 (h:Q (((sIx n 0 lo:Nat):Int),1,sIx n n hi-sIx n 0 lo) s):wpAny (model prog w) A (Builtin.Slice.sliceApplied (.ref sl) (pure (n:Int))) Q E s:=by
 obtain⟨os,hos,hcs,hds⟩:=id hs;unfold Builtin.Slice.sliceApplied Builtin.Slice.sliceFields;refine w_ (w_ (O5 hos hds (x:=vl) rfl (w_ (O5 hos hds (x:=vu) rfl (w_ (O5 hos hds (x:=.none) rfl (G_ ?_)))))));refine w_ (slicePart_none ?_);show wpAny _ _ (if ((1:Int)==0)=true then _ else _) _ _ s;rw[if_neg (by decide)];refine w_ (pG pl (w_ (pG pu (w_ (G_ ?_)))));show wpAny _ _ (match Builtin.Slice.sliceAdjust lo hi 1 (n:Int) with |(lo,hi)=>pure (lo,(1:Int),Builtin.Slice.slicePlaces lo hi 1)) _ _ s;rw[xK lo hi n];show wpAny _ _ (pure (((sIx n 0 lo:Nat):Int),(1:Int),Builtin.Slice.slicePlaces ((sIx n 0 lo:Nat):Int) ((sIx n n hi:Nat):Int) 1)) _ _ s;rw[xC];exact G_ h
def C5(xs:Array Value)(i k:Nat):((List.range k).filterMap λ(m:Nat)=>xs[((i:Int)+(m:Int)*1).toNat]?).toArray=((xs.toList.drop i).take k).toArray:=by
 have e:(λ(m:Nat)=>xs[((i:Int)+(m:Int)*1).toNat]?)=λm=>xs[i+m]?:=by
  funext m;have:((i:Int)+(m:Int)*1).toNat=i+m:=by omega
  rw[this]
 rw[e]
 have:=pick_run xs i k
 rw[List.filterMap_map] at this;have e2:((λx=>xs[x]?) ∘ λx=>i+x)=λm=>xs[i+m]?:=rfl;rw[e2] at this;rw[this]
def getItem_tuple_cut{t sl:Addr}{items:Array Value}{vl vu:Value}{lo hi:Option Int}{Q:Rf}(ht:IsTup s.heap t items)(hs:s.heap.IsSliceOf sl vl vu .none)(pl:IsPart vl lo)(pu:IsPart vu hi)
 (hw:¬ (sIx items.size 0 lo=0/\sIx items.size items.size hi=items.size))
 (h:Q (.ref s.heap.objs.size) { s with heap:=s.heap.push { cls:=.type "tuple",data:=.seq ((items.toList.drop (sIx items.size 0 lo)).take (sIx items.size items.size hi-sIx items.size 0 lo)).toArray } })
 (hsz:items.size<=sizeLine):wpAny (model prog w) A (getItem (.ref t) (.ref sl)) Q E s:=by
 have htake:sizeOk (.seq ((items.toList.drop (sIx items.size 0 lo)).take (sIx items.size items.size hi-sIx items.size 0 lo)).toArray):=by show ((items.toList.drop (sIx items.size 0 lo)).take (sIx items.size items.size hi-sIx items.size 0 lo)).toArray.size<=sizeLine;rw[Oz,Pp,List.length_drop,QF];omega
 have hj:sIx items.size items.size hi<=items.size:=Jm _ _ (z_ _) hi;obtain⟨os,hos,hcs,hds⟩:=id hs;have hTs:s.TypeIs (.ref sl) "slice":=⟨os,hos,hcs⟩;unfold getItem;try with_reducible refine PU ?_
 first |refine w_ (G_ ?_) |skip
 refine w_ (wpAny_sequenceKey ht.typeIs (by decide) ?_);refine w_ (Pl (name:=Str.ofString "__getitem__") ht.typeIs PyProof.Rows.slot_tuple_getitem
  (P7 PyProof.Rows.slot_tuple_getitem ht.typeIs entry_tuple_getitem ?_ (args_tuple_getitem _ _)))
 show wpAny _ _ (Builtin.Tuple.tupleItemsOf (.ref t) >>= _) _ _ s;refine w_ (tupleItemsOf_ ht ?_);refine w_ (wpAny_typeOf hTs ?_);rw[if_pos (by decide)];refine w_ (nK hs pl pu ?_);have hno:¬ ((((sIx items.size 0 lo:Nat):Int)==0&&(1:Int)==1&&(sIx items.size items.size hi-sIx items.size 0 lo)==items.size)=true):=by intro q;rw[D_,D_] at q;have q1:((sIx items.size 0 lo:Nat):Int)=0:=eq_of_beq q.1.1;have q2:sIx items.size items.size hi-sIx items.size 0 lo=items.size:=eq_of_beq q.2;exact hw ⟨by omega,by omega⟩
 show wpAny _ _ (if (((sIx items.size 0 lo:Nat):Int)==0&&(1:Int)==1&&(sIx items.size items.size hi-sIx items.size 0 lo)==items.size)=true then _ else _) _ _ s;rw[if_neg hno,C5];first
  |exact w_ (m:=Builtin.Tuple.tupleExact _) (Pc (G_ ⟨_,rfl,G_ h⟩) htake)
  |exact w_ (m:=Builtin.Tuple.tupleExact _) (Pc (w_ (G_ (G_ ⟨_,rfl,G_ h⟩))) htake)
  |exact w_ (w_ (m:=Builtin.Tuple.tupleExact _) (Pc (G_ (G_ ⟨_,rfl,G_ h⟩)) htake))
  |exact w_ (w_ (m:=Builtin.Tuple.tupleExact _) (Pc (G_ ⟨_,rfl,G_ h⟩) htake))
end
end HT
namespace L2
open PySem PySem.Spec PyProof.Rows
abbrev TO:=St->Hp->(Option Int->Hp->Prop)->Prop
def PO(X:Cx)(e:Option Expr)(t:TO):Prop:=
 ∀
  (pins:Rb) (s:Shared) (σ:St) (H:Hp) (Q:Option Int->Hp->Prop),Inv X pins σ H s->t σ H Q->
  wpAny (model X.prog X.w) X.A (evalPart e X.env) (λu s'=>∃o H',Inv X pins σ H' s'/\IsPart u o/\Q o H') X.xe s
def FG:TO:=λ_ H Q=>Q none H
def Oj(t:TE):TO:=λσ H Q=>t σ H λx H1=>∃i,x=.int i/\Q (some i) H1
section
variable{X:Cx}{e:Expr}{te:TE}{lo hi:Option Expr}{tl th:TO}{pos p2:Pos}
def ET:PO X none FG:=by intro pins s σ H Q I h;rw[evalPart_none];exact G_ ⟨none,H,I,.none,h⟩
def F9(h:PE X e te):PO X (some e) (Oj te):=by intro pins s σ H Q I hw;rw[evalPart_some];refine thn (h pins s σ H _ I hw) λu s1 ⟨x,H1,I1,r1,q1⟩=>?_;obtain⟨i,rfl,q⟩:=q1;obtain⟨t,rfl⟩:=r1;exact⟨some i,H1,I1,.int i t,q⟩
def SlR(X:Cx)(r:V->Option Int->Option Int->Hp->VK->Prop):Prop:=
 ∀
  (pins:Rb) (s:Shared) (σ:St) (H:Hp) (x:V) (v vl vu:Value) (lo hi:Option Int) (sl:Addr) (Q:VK),Inv X pins σ H s->RelV x v->s.heap.IsSliceOf sl vl vu .none->IsPart vl lo->IsPart vu hi->r x lo hi H Q->
  ∃T id,typeLookup (.type T) "__getitem__"=pure (some (.builtin id))/\s.TypeIs v T/\wpAny (model X.prog X.w) X.A (getItem v (.ref sl)) (EP X pins σ Q) X.xe s
def SlR.or(h:SlR X r)(h':SlR X r'):SlR X (λx lo hi H Q=>r x lo hi H Q\/r' x lo hi H Q):=by
 intro pins s σ H x v vl vu lo hi sl Q I rx hs pl pu q;rcases q with q |q
 .exact h pins s σ H x v vl vu lo hi sl Q I rx hs pl pu q
 .exact h' pins s σ H x v vl vu lo hi sl Q I rx hs pl pu q
def tSl(r:V->Option Int->Option Int->Hp->VK->Prop)(te:TE)(tl th:TO):TE:=λσ H Q=>te σ H λx H1=>tl σ H1 λl H2=>th σ H2 λu H3=>r x l u H3 Q
def B2(hr:SlR X r)(he:PE X e te)(hl:PO X lo tl)(hu:PO X hi th):PE X (.Subscript e (.Slice lo hi none p2) pos) (tSl r te tl th):=by intro pins s σ H Q I h;refine Subscript_ (thn (he pins s σ H _ I h) λv s1 ⟨x,H1,I1,r1,q1⟩=>?_);refine wpAny_Slice (thn (hl pins s1 σ H1 _ I1 q1) λvl s2 ⟨l,H2,I2,pl,q2⟩=>thn (hu pins s2 σ H2 _ I2 q2) λvu s3 ⟨u,H3,I3,pu,q3⟩=>?_);rw[evalPart_none];refine G_ ?_;have I4:Inv X pins σ H3 { s3 with heap:=s3.heap.push { cls:=.type "slice",data:=.fields #[vl,vu,.none] } }:=I3.kept (t':=s3.toks) λb ob q=>Em _ q;obtain⟨T,id,hT,ht,hg⟩:=hr pins { s3 with heap:=s3.heap.push { cls:=.type "slice",data:=.fields #[vl,vu,.none] } } σ H3 x v vl vu l u s3.heap.objs.size Q I4 r1 (Heap.IsSliceOf.new ..) pl pu q3;show wpAny (model X.prog X.w) X.A (subscriptTail e (.Slice lo hi none p2) v (.ref s3.heap.objs.size)) (EP X pins σ Q) X.xe { s3 with heap:=s3.heap.push { cls:=.type "slice",data:=.fields #[vl,vu,.none] } };exact tail_any (ops:=[.ref s3.heap.objs.size,v]) ht hT hg (by with_unfolding_all rfl)
noncomputable def mi(xs:List V)(lo hi:Option Int):List V:=(xs.drop (HT.sIx xs.length 0 lo)).take (HT.sIx xs.length xs.length hi-HT.sIx xs.length 0 lo)
def nh(xs:List V)(lo hi:Option Int):(mi xs lo hi).length<=xs.length:=by unfold mi;rw[Pp,List.length_drop];omega
def rSlT(K:W.Frag):V->Option Int->Option Int->Hp->VK->Prop:=λx lo hi H Q=>∃a xs,x=.ref a/\SqT K H a xs/\
 ¬ (HT.sIx xs.length 0 lo=0/\HT.sIx xs.length xs.length hi=xs.length)/\∀p,H p=none->Q (.ref p) (upd H p (.tup (mi xs lo hi)))
def Lc:SlR X (rSlT X.K):=by
 intro pins s σ H x v vl vu lo hi sl Q I rx hs pl pu h;obtain⟨a,xs,rfl,hx,hw,q⟩:=h;cases rx;obtain⟨its,r,ht,hz⟩:=I.tuple hx;have c_:its.toArray.size=xs.length:=by rw[Oz];exact r.length.symm
 refine⟨"tuple",_,PyProof.Rows.slot_tuple_getitem.lookup,ht.typeIs,?_⟩;refine HT.getItem_tuple_cut ht hs pl pu (by rw[c_];exact hw) ?_ (by rw[c_];exact hz);rw[c_];refine⟨.ref s.heap.objs.size,_,I.laid (t':=s.toks) (o:=.tup (mi xs lo hi)) (λb ob q=>Em _ q) (z_ _) ?_,rfl,q _ (I.hok.fresh (z_ _))⟩;exact⟨I_ (nh xs lo hi) hz,_,(r.drop (HT.sIx xs.length 0 lo)).take (HT.sIx xs.length xs.length hi-HT.sIx xs.length 0 lo),IsTup.new _ _⟩
def mF(K:W.Frag):R2:=λx y H Q=>∃a b xs ys,x=.ref a/\y=.ref b/\SqT K H a xs/\SqT K H b ys/\xs≠[]/\xs.length+ys.length<=sizeLine/\
 (ys=[]->Q (.ref a) H)/\(ys≠[]->∀p,H p=none->Q (.ref p) (upd H p (.tup (xs++ys))))
def Vals.nil_iff(r:Vals xs us):us=[] ↔ xs=[]:=by
 cases r with
 |nil=>simp
 |cons _ _=>simp
def Gd:OpR X (binaryOp .Add) (mF X.K):=by intro pins s σ H x y v u Q I rx ry h;obtain⟨a,b,xs,ys,rfl,rfl,ha,hb,hx,hz,q1,q2⟩:=h;cases rx;cases ry;obtain⟨its,r1,p1,_⟩:=I.tuple ha;obtain⟨its2,r2,p2,_⟩:=I.tuple hb;refine HT.cat_tup p1 p2 (λz=>hx (r1.nil_iff.mp z)) (λz=>⟨.ref a,H,I,rfl,q1 (r2.nil_iff.mp z)⟩) (λz=>?_) (by rw[<- r1.length,<- r2.length];exact hz);refine⟨.ref s.heap.objs.size,_,I.laid (t':=s.toks) (o:=.tup (xs++ys)) (λb ob q=>Em _ q) (z_ _) ?_,rfl,q2 (λw=>z (r2.nil_iff.mpr w)) _ (I.hok.fresh (z_ _))⟩;exact⟨by rw[H_];exact hz,_,r1.append r2,IsTup.new _ _⟩
end
noncomputable def ixN(n:Nat)(i:Int):Option Nat:=if 0<=i then (if i<n then some i.toNat else none) else if -(n:Int)<=i then some (i+n).toNat else none
noncomputable def atI{α:Type}(xs:List α)(i:Int):Option α:=(ixN xs.length i).bind λj=>xs[j]?
def F2(h:ixN n i=some j):seqIndex? i n=some j/\j<n/\-(n:Int)<=i/\i<n:=by
 unfold ixN at h;by_cases h0:0<=i
 .rw[if_pos h0] at h;by_cases h1:i<n
  .rw[if_pos h1] at h;have e:i.toNat=j:=OE h;exact⟨by rw[seqIndex_of h0 h1,e],by omega,by omega,h1⟩
  .rw[if_neg h1] at h;cases h
 .rw[if_neg h0] at h;by_cases h1:-(n:Int)<=i
  .rw[if_pos h1] at h;have e:(i+n).toNat=j:=OE h;exact⟨by rw[seqIndex_neg (by omega) h1,e],by omega,h1,by omega⟩
  .rw[if_neg h1] at h;cases h
def xr(h:atI xs i=some v):∃j,seqIndex? i xs.length=some j/\xs[j]?=some v/\j<xs.length/\-(xs.length:Int)<=i/\i<xs.length:=by
 unfold atI at h;cases e:ixN xs.length i with
 |none=>rw[e] at h;cases h
 |some j=>rw[e] at h;obtain⟨h1,h2,h3,h4⟩:=F2 e;exact⟨j,h1,h,h2,h3,h4⟩
def pP(b:Expr):Prop:=∀o i,subscripted b false o i=operate [o,i] (getItem o i)
def IxR(X:Cx)(r:R2):Prop:=
 ∀
  (value m_:Expr) (pins:Rb) (s:Shared) (σ:St) (H:Hp) (x y:V) (v u:Value) (Q:VK),Inv X pins σ H s->RelV x v->RelV y u->r x y H Q->
  subscripted m_ false v u=operate [v,u] (getItem v u)->wpAny (model X.prog X.w) X.A (subscriptTail value m_ v u) (EP X pins σ Q) X.xe s
def MtR(X:Cx)(id:String)(r:V->List V->Hp->VK->Prop):Prop:=
 ∀
  (pins:Rb) (s:Shared) (σ:St) (H:Hp) (x:V) (xs:List V) (v:Value) (us:List Value) (Q:VK),Inv X pins σ H s->RelV x v->Vals xs us->r x xs H Q->
  wpAny (model X.prog X.w) X.A (call (.builtin id) (v::us)) (EP X pins σ Q) X.xe s
section
variable{X:Cx}{a b:Expr}{ta tb:TE}{pos:Pos}
def IxR.or(h:IxR X r)(h':IxR X r'):IxR X (λx y H Q=>r x y H Q\/r' x y H Q):=by
 intro value m_ pins s σ H x y v u Q I rx ry q hs;rcases q with q |q
 .exact h value m_ pins s σ H x y v u Q I rx ry q hs
 .exact h' value m_ pins s σ H x y v u Q I rx ry q hs
def Ms(hr:IxR X r)(ha:PE X a ta)(hb:PE X b tb)(hs:pP b):PE X (.Subscript a b pos) (tOp r ta tb):=by intro pins s σ H Q I h;exact Subscript_ (Cg ha hb I h λv u s2 x y H2 I2 rx ry q=>hr a b pins s2 σ H2 x y v u Q I2 rx ry q (hs _ _))
def xW(K:W.Frag):R2:=λx y H Q=>∃p xs i v,x=.ref p/\y=.int i/\SqL K H p xs/\atI xs i=some v/\Q v H
def yQ(K:W.Frag):R2:=λx y H Q=>∃p xs i v,x=.ref p/\y=.int i/\SqT K H p xs/\atI xs i=some v/\Q v H
def Fi:IxR X (xW X.K):=by
 intro value m_ pins s σ H x y v u Q I rx ry h hs;obtain⟨p,xs,i,z,rfl,rfl,hq,he,q⟩:=h;cases rx;obtain⟨t,rfl⟩:=ry;obtain⟨its,r,pl,hz⟩:=I.list hq;obtain⟨j,h1,h2,h3,h4,h5⟩:=xr he;obtain⟨w,ew,rw'⟩:=r.get h2;have hl:=r.length;have hn:=oH;have i_:EP X pins σ Q w s:=⟨z,H,I,rw',q⟩;by_cases h0:0<=i
 .have hj:i.toNat=j:=by rw[seqIndex_of h0 h5] at h1;exact OE h1
  exact item_listR pl.isList h0 (by omega) (by rw[hj];simpa using ew) i_ hs
 .have hj:(i+(its.toArray.size:Int)).toNat=j:=by rw[seqIndex_neg (by omega) h4] at h1;rw[Oz,<- hl];exact OE h1
  exact Qo (x:=w) pl.isList.typeIs slot_list_getitem.lookup
   (wpAny_getItem_list_neg (Q:=λr s'=>r=w/\EP X pins σ Q r s') pl.isList (by omega) (by rw[Oz] <;> omega) (by omega) (by rw[hj];simpa using ew) ⟨rfl,i_⟩) hs
def JU:IxR X (yQ X.K):=by
 intro value m_ pins s σ H x y v u Q I rx ry h hs;obtain⟨p,xs,i,z,rfl,rfl,hq,he,q⟩:=h;cases rx;obtain⟨t,rfl⟩:=ry;obtain⟨its,r,pl,hz⟩:=I.tuple hq;obtain⟨j,h1,h2,h3,h4,h5⟩:=xr he;obtain⟨w,ew,rw'⟩:=r.get h2;have hl:=r.length;have hn:=oH;have i_:EP X pins σ Q w s:=⟨z,H,I,rw',q⟩;exact Qo (x:=w) pl.typeIs slot_tuple_getitem.lookup
  (getItem_tuple (j:=j) (Q:=λr s'=>r=w/\EP X pins σ Q r s') pl (by omega) (by omega) (by rw[Oz,<- hl];exact h1) (by simpa using ew) ⟨rfl,i_⟩) hs
def uf(lo hi:Option Int)(n:Nat):(sliceBounds lo hi none n).1=((HT.sIx n 0 lo:Nat):Int)/\(sliceBounds lo hi none n).2.1=((HT.sIx n n hi:Nat):Int)/\(sliceBounds lo hi none n).2.2=1:=by
 refine⟨?_,?_,rfl⟩
 .cases lo with
  |none=>simp [sliceBounds,HT.sIx]
  |
   some i=>
   simp only[sliceBounds,HT.sIx,Qr,show (1:Int)>0 by decide,PM];by_cases h:i<0
   .simp only[h,PM] <;> omega
   .simp only[h,Qs] <;> omega
 .cases hi with
  |none=>simp [sliceBounds,HT.sIx]
  |
   some i=>
   simp only[sliceBounds,HT.sIx,Qr,show (1:Int)>0 by decide,PM];by_cases h:i<0
   .simp only[h,PM] <;> omega
   .simp only[h,Qs] <;> omega
def sI(its:List Value)(lo hi:Option Int):slicePick its.toArray lo hi none=((its.drop (HT.sIx its.length 0 lo)).take (HT.sIx its.length its.length hi-HT.sIx its.length 0 lo)).toArray:=by obtain⟨h1,h2,h3⟩:=uf lo hi its.toArray.size;unfold slicePick;rw[h1,h2,h3];simp only[sliceRange_one,pick_run,Oz] <;> rfl
def rSlL(K:W.Frag):V->Option Int->Option Int->Hp->VK->Prop:=λx lo hi H Q=>∃a xs,x=.ref a/\SqL K H a xs/\∀p,H p=none->Q (.ref p) (upd H p (.lst (mi xs lo hi)))
def GH:SlR X (rSlL X.K):=by intro pins s σ H x v vl vu lo hi sl Q I rx hs pl pu h;obtain⟨a,xs,rfl,hx,q⟩:=h;cases rx;obtain⟨its,r,ht,hz⟩:=I.list hx;have c_:=r.length;refine⟨"list",_,slot_list_getitem.lookup,ht.isList.typeIs,?_⟩;refine wpAny_getItem_list_slice ht.isList hs pl pu .none (by simp) ?_ (by rw[Oz] <;> omega);rw[sI,<- c_];refine⟨.ref s.heap.objs.size,_,I.laid (t':=s.toks) (o:=.lst (mi xs lo hi)) (λb ob q=>Em _ q) (z_ _) ?_,rfl,q _ (I.hok.fresh (z_ _))⟩;exact⟨I_ (nh xs lo hi) hz,_,0,(r.drop (HT.sIx xs.length 0 lo)).take (HT.sIx xs.length xs.length hi-HT.sIx xs.length 0 lo),M_ _ rfl⟩
noncomputable def flatV:V->Bool
 |.non=>true
 |.bl _=>true
 |.int _=>true
 |.str _=>true
 |_=>false
noncomputable def eqV:V->V->Bool
 |.non,.non=>true
 |.bl a,.bl b=>a==b
 |.bl a,.int b=>(if a then 1 else 0)==b
 |.int a,.bl b=>a==(if b then 1 else 0)
 |.int a,.int b=>a==b
 |.str a,.str b=>a==b
 |_,_=>false
def JB(ry:RelV y u)(rx:RelV x v)(fy:flatV y=true)(fx:flatV x=true):SeqAt.EqAt A s u v (eqV y x):=by
 cases y with
 |
  non=>
  cases ry;cases x with
  |non=>cases rx;exact SeqAt.EqAt.same _
  |bl b=>cases rx;exact SeqAt.EqAt.none_bool b
  |int b=>obtain⟨t,rfl⟩:=rx;exact SeqAt.EqAt.none_int b t
  |str b=>obtain⟨t,rfl⟩:=rx;exact SeqAt.EqAt.none_str b t
  |_=>exact absurd (show false=true from fx) A_
 |
  bl a=>
  cases ry;cases x with
  |non=>cases rx;exact SeqAt.EqAt.bool_none a
  |bl b=>cases rx;exact SeqAt.EqAt.bool_bool a b
  |int b=>obtain⟨t,rfl⟩:=rx;exact SeqAt.EqAt.bool_int a b t
  |str b=>obtain⟨t,rfl⟩:=rx;exact SeqAt.EqAt.bool_str a b t
  |_=>exact absurd (show false=true from fx) A_
 |
  int a=>
  obtain⟨t',rfl⟩:=ry;cases x with
  |non=>cases rx;exact SeqAt.EqAt.int_none a t'
  |bl b=>cases rx;exact SeqAt.EqAt.int_bool a t' b
  |int b=>obtain⟨t,rfl⟩:=rx;exact SeqAt.EqAt.int_int a t' b t
  |str b=>obtain⟨t,rfl⟩:=rx;exact SeqAt.EqAt.int_str a t' b t
  |_=>exact absurd (show false=true from fx) A_
 |
  str a=>
  obtain⟨t',rfl⟩:=ry;cases x with
  |non=>cases rx;exact SeqAt.EqAt.str_none a t'
  |bl b=>cases rx;exact SeqAt.EqAt.str_bool a t' b
  |int b=>obtain⟨t,rfl⟩:=rx;exact SeqAt.EqAt.str_int a t' b t
  |str b=>obtain⟨t,rfl⟩:=rx;exact SeqAt.EqAt.str_str a t' b t
  |_=>exact absurd (show false=true from fx) A_
 |_=>exact absurd (show false=true from fy) A_
noncomputable def eqU(x:V)(u:Value):Bool:=match u with
 |.none=>eqV .non x
 |.bool b=>eqV (.bl b) x
 |.int i _=>eqV (.int i) x
 |.str z _=>eqV (.str z) x
 |_=>false
def y0(r:RelV y u)(f:flatV y=true):eqU x u=eqV y x:=by
 cases y with
 |non=>cases r;rfl
 |bl b=>cases r;rfl
 |int i=>obtain⟨t,rfl⟩:=r;rfl
 |str z=>obtain⟨t,rfl⟩:=r;rfl
 |_=>exact absurd (show false=true from f) A_
theorem kE:∀{xs:List V}{us:List Value},Vals xs us->xs.all flatV=true->us.any (eqU x)=xs.any λy=>eqV y x
 |_,_,.nil,_=>rfl
 |
  y::xs,u::us,.cons r t,f=>by
  rw[PC,D_] at f;rw[Pg,Pg,y0 r f.1,kE t f.2]
theorem jj(rx:RelV x v)(fx:flatV x=true):∀{xs:List V}{us:List Value},Vals xs us->xs.all flatV=true->∀u∈us,SeqAt.EqAt A s u v (eqU x u)
 |_,_,.nil,_=>λu hu=>by cases hu
 |
  y::xs,u::us,.cons r t,f=>λu' hu=>by
  rw[PC,D_] at f;rcases N_.mp hu with rfl |hu
  .rw[y0 r f.1];exact JB r rx f.1 fx
  .exact jj rx fx t f.2 u' hu
noncomputable def inV(x:V)(xs:List V):Bool:=xs.any λy=>eqV y x
def rIn(K:W.Frag)(n_:Bool):R2:=λx y H Q=>∃p xs,y=.ref p/\(SqL K H p xs\/SqT K H p xs)/\flatV x=true/\xs.all flatV=true/\Q (.bl (if n_ then !inV x xs else inV x xs)) H
def Ai:OpR X (compareOp .In) (rIn X.K false):=by
 intro pins s σ H x y v u Q I rx ry h;obtain⟨p,xs,rfl,hq,fx,fs,q⟩:=h;cases ry;rcases hq with hq |hq
 .obtain⟨its,r,pl,hz⟩:=I.list hq;refine SeqAt.in_listAt (eqU x) pl.isList (λw hw=>jj rx fx r fs w (by simpa using hw)) ⟨.bl _,H,I,rfl,?_⟩;rw[show its.toArray.any (eqU x)=its.any (eqU x) by simp,kE r fs];exact q
 .obtain⟨its,r,pl,hz⟩:=I.tuple hq;refine SeqAt.in_tupleAt (eqU x) pl (λw hw=>jj rx fx r fs w (by simpa using hw)) ⟨.bl _,H,I,rfl,?_⟩;rw[show its.toArray.any (eqU x)=its.any (eqU x) by simp,kE r fs];exact q
def tw:OpR X (compareOp .NotIn) (rIn X.K true):=by
 intro pins s σ H x y v u Q I rx ry h;obtain⟨p,xs,rfl,hq,fx,fs,q⟩:=h;cases ry;rcases hq with hq |hq
 .obtain⟨its,r,pl,hz⟩:=I.list hq;refine SeqAt.notIn_listAt (eqU x) pl.isList (λw hw=>jj rx fx r fs w (by simpa using hw)) ⟨.bl _,H,I,rfl,?_⟩;rw[show its.toArray.any (eqU x)=its.any (eqU x) by simp,kE r fs];exact q
 .obtain⟨its,r,pl,hz⟩:=I.tuple hq;refine SeqAt.notIn_tupleAt (eqU x) pl (λw hw=>jj rx fx r fs w (by simpa using hw)) ⟨.bl _,H,I,rfl,?_⟩;rw[show its.toArray.any (eqU x)=its.any (eqU x) by simp,kE r fs];exact q
def u7:CallR X (.builtin "len") (λxs H Q=>∃p ys,xs=[.ref p]/\(SqL X.K H p ys\/SqT X.K H p ys)/\Q (.int ys.length) H):=by
 intro pins s σ H xs us Q I r h;obtain⟨p,ys,rfl,hq,q⟩:=h;obtain⟨u,rfl,rx⟩:=k8 r;cases rx;have hn:=oH;rcases hq with hq |hq
 .obtain⟨its,r',pl,hz⟩:=I.list hq;have c_:=r'.length;exact Calls.call_len_list pl.isList (by simp only[Oz] <;> omega) ⟨.int ys.length,H,I.tok _,⟨s.toks+1,by rw[Oz,c_]⟩,q⟩
 .obtain⟨its,r',pl,hz⟩:=I.tuple hq;have c_:=r'.length;exact len_tuple pl (by simp only[Oz] <;> omega) ⟨.int ys.length,H,I.tok _,⟨s.toks+1,by rw[Oz,c_]⟩,q⟩
def uk:CallR X (.builtin "len") (λxs H Q=>∃z,xs=[.str z]/\z.length<=sizeLine/\Q (.int z.length) H):=by intro pins s σ H xs us Q I r h;obtain⟨z,rfl,hz,q⟩:=h;obtain⟨u,rfl,t,rfl⟩:=k8 r;have hn:=oH;exact len_str (by omega) ⟨.int z.length,H,I.tok _,⟨_,rfl⟩,q⟩
def CallR.or(h:CallR X f r)(h':CallR X f r'):CallR X f (λxs H Q=>r xs H Q\/r' xs H Q):=by
 intro pins s σ H xs us Q I rs q;rcases q with q |q
 .exact h pins s σ H xs us Q I rs q
 .exact h' pins s σ H xs us Q I rs q
def tj:CallR X (.type "list") (λxs H Q=>∃p ys,xs=[.ref p]/\(SqL X.K H p ys\/SqT X.K H p ys)/\∀l,H l=none->Q (.ref l) (upd H l (.lst ys))):=by
 intro pins s σ H xs us Q I r h;obtain⟨p,ys,rfl,hq,q⟩:=h;obtain⟨u,rfl,rx⟩:=k8 r;cases rx;have i_:∀(its:List Value),Vals ys its->ys.length<=sizeLine->∀(h':Heap) (c':Nat),(∀b o',s.heap.get? b=some o'->h'.get? b=some o')->
  h'.get? s.heap.objs.size=some { cls:=.type "list",dict:=none,data:=.seq its.toArray c',slots:=#[] }->EP X pins σ Q (.ref s.heap.objs.size) { s with heap:=h' }:=λits r' hz h' c' kp e=>
  ⟨.ref s.heap.objs.size,_,I.laid (t':=s.toks) kp (z_ _) (show ObjOk X.prog X.w _ h' _ (.lst ys) from ⟨hz,its,c',r',e⟩),rfl,q _ (I.hok.fresh (z_ _))⟩
 rcases hq with hq |hq
 .obtain⟨its,r',pl,hz⟩:=I.list hq;have c_:=r'.length;obtain⟨o,ho,hc,n,hd⟩:=pl.isList;exact call_list_seq p (.inl rfl) ho hc hd (λh' c' kp e=>i_ its r' hz h' c' kp e) (by simp only[Oz] <;> omega)
 .obtain⟨its,r',pl,hz⟩:=I.tuple hq;have c_:=r'.length;obtain⟨o,ho,hc,n,hd⟩:=pl;exact call_list_seq p (.inr rfl) ho hc hd (λh' c' kp e=>i_ its r' hz h' c' kp e) (by simp only[Oz] <;> omega)
def sk:CallR X (.type "tuple") (λxs H Q=>∃p ys,xs=[.ref p]/\((SqL X.K H p ys/\∀l,H l=none->Q (.ref l) (upd H l (.tup ys)))\/(SqT X.K H p ys/\Q (.ref p) H))):=by
 intro pins s σ H xs us Q I r h;obtain⟨p,ys,rfl,h⟩:=h;obtain⟨u,rfl,rx⟩:=k8 r;cases rx;rcases h with ⟨hq,q⟩ |⟨hq,q⟩
 .obtain⟨its,r',pl,hz⟩:=I.list hq;have c_:=r'.length;refine call_tuple_list pl.isList (λh' kp=>?_) (by simp only[Oz] <;> omega);have I1:Inv X pins σ H { s with heap:=h' }:=I.kept (t':=s.toks) kp;have I2:Inv X pins σ (upd H h'.objs.size (.tup ys)) { s with heap:=h'.push { cls:=.type "tuple",data:=.seq its.toArray } }:=
   I1.laid (t':=s.toks) (λb o e=>Em _ e) (z_ _) (show ObjOk X.prog X.w _ _ _ (.tup ys) from ⟨hz,its,r',IsTup.new _ _⟩)
  exact⟨.ref h'.objs.size,_,I2,rfl,q _ (I1.hok.fresh (z_ _))⟩
 .obtain⟨its,r',pl,hz⟩:=I.tuple hq;exact call_tuple_same pl ⟨.ref p,H,I,rfl,q⟩
def tyV(K:W.Frag)(T:String)(x:V)(H:Hp):Prop:=match x with
 |.str _=>T="str"
 |.int _=>T="int"
 |.ref p=>(T="list" /\ ∃xs,SqL K H p xs)\/(T="tuple" /\ ∃o,K.lookup p=some o/\o.cls=.type "tuple" /\ o.dict=none)\/
  (T="dict" /\ ((∃kvs,H p=some (.dK kvs))\/∃kvs,H p=some (.dT kvs)))\/(T="set" /\ ∃S n,H p=some (.set S n))
 |_=>False
def AF(I:Inv X pins σ H s)(r:RelV x v)(ty:tyV X.K T x H):
 s.TypeIs v T/\∀a,v=.ref a->∃ob,s.heap.get? a=some ob/\ob.dict=none:=by
 cases x with
 |str z=>obtain⟨t,rfl⟩:=r;cases (show T="str" from ty);exact⟨typeIs_str s z t,λ_ e=>nomatch e⟩
 |int i=>obtain⟨t,rfl⟩:=r;cases (show T="int" from ty);exact⟨typeIs_int s i t,λ_ e=>nomatch e⟩
 |
  ref p=>
  cases r;rcases ty with ⟨rfl,xs,hq⟩ |⟨rfl,o,hk,hc,hd⟩ |⟨rfl,hk⟩ |⟨rfl,S,n,hk⟩
  .obtain⟨its,_,pl,_⟩:=I.list hq;refine⟨pl.isList.typeIs,λa e=>?_⟩;cases e;obtain⟨o,n,e,c,hd,_⟩:=pl;exact⟨o,e,hd⟩
  .refine⟨⟨o,I.kIn p o hk,hc⟩,λa e=>?_⟩;cases e;exact⟨o,I.kIn _ o hk,hd⟩
  .have z:∃o,s.heap.get? p=some o/\o.ExactDict:=by
    rcases hk with ⟨kvs,hk⟩ |⟨kvs,hk⟩
    .obtain⟨_,_,_,_,o,_,_,e,ex,_⟩:=I.hok p _ hk;exact⟨o,e,ex⟩
    .obtain⟨_,_,_,_,o,_,_,e,ex,_⟩:=I.hok p _ hk;exact⟨o,e,ex⟩
   obtain⟨o,e,ex⟩:=z;refine⟨⟨o,e,ex.1⟩,λa e2=>?_⟩;cases e2;exact⟨o,e,ex.2.1⟩
  .obtain⟨o,_,_,_,e,ex,_⟩:=I.hok p _ hk;refine⟨⟨o,e,ex.1⟩,λa e2=>?_⟩;cases e2;exact⟨o,e,ex.2.1⟩
 |_=>exact False.elim ty
def tBM0(K:W.Frag)(T:String)(r:V->List V->Hp->VK->Prop)(to:TE):TE:=λσ H Q=>to σ H λx H1=>tyV K T x H1/\r x [] H1 Q
def tBM(K:W.Frag)(T:String)(r:V->List V->Hp->VK->Prop)(to:TE)(t:TA):TE:=λσ H Q=>to σ H λx H1=>tyV K T x H1/\t σ H1 λxs H2=>r x xs H2 Q
variable{o e:Expr}{es:List Expr}{to:TE}{t:TA}{name:Str}{apos cpos:Pos}{T id:String}{r:V->List V->Hp->VK->Prop}
def HA(pa:PlainAttrs T)(slot:Slot T name id)(hty:typeOf (.builtin id)=pure (.type "method_descriptor"))(hm:MtR X id r)(ho:PE X o to)
 (r_:attributeBase o name X.env (eval o X.env)=eval o X.env) (s_:(apos.endLine==cpos.line)=true):PE X (.Call (.Attribute o name apos) [] [] cpos) (tBM0 X.K T r to):=by
 intro pins s σ H Q I h;refine wpAny_Call_method0_late r_ s_ (thn (ho pins s σ H _ I h) λv s1 ⟨x,H1,I1,r1,ty,q1⟩=>?_);obtain⟨h1,h2⟩:=AF I1 r1 ty;exact⟨T,id,pa,slot,hty,h1,h2,Calls.callWith_builtin rfl (PySem.evalArgs_none (hm pins s1 σ H1 x [] v [] Q I1 r1 .nil q1))⟩
def M6(pa:PlainAttrs T)(slot:Slot T name id)(hty:typeOf (.builtin id)=pure (.type "method_descriptor"))(hm:MtR X id r)(ho:PE X o to)(ha:PA X (e::es) t)
 (r_:attributeBase o name X.env (eval o X.env)=eval o X.env)
 (hfew:((backTo cpos (starEach (e::es) X.env)).all (λx=>!x.1)&&(backToKw cpos (keywordEach [] X.env)).all (λx=>x.1.isSome)
  && decide ((e::es).length+([]:List Keyword).length+(if ([]:List Keyword).isEmpty then 0 else 1)<30))=true)
 (s_:(apos.endLine==cpos.line)=true) (hs:starEach (e::es) X.env=(false,eval e X.env)::starEach es X.env) (j':(backTo cpos (starEach es X.env)).any (·.1)=false):
 PE X (.Call (.Attribute o name apos) (e::es) [] cpos) (tBM X.K T r to t):=by
 intro pins s σ H Q I h;refine wpAny_Call_method_late r_ hfew s_ rfl (thn (ho pins s σ H _ I h) λv s1 ⟨x,H1,I1,r1,ty,q1⟩=>?_);obtain⟨h1,h2⟩:=AF I1 r1 ty;refine⟨T,id,pa,slot,hty,h1,h2,?_⟩;have hA:=ha cpos pins s1 σ H1 _ I1 q1;rw[hs] at hA ⊢;refine Calls.callWith_builtin (by show (false || (backTo cpos (starEach es X.env)).any (·.1))=false;rw[j'] <;> rfl) (Calls.evalArgs_plain ?_);exact thn hA λus s2 ⟨vs,H2,I2,r2,q2⟩=>hm pins s2 σ H2 x vs v us Q I2 r1 r2 q2
end
def MtM(X:Cx)(id:String)(r:V->List V->Hp->VK->Prop):Prop:=
 ∀
  (pins:Rb) (s:Shared) (σ:St) (H:Hp) (x:V) (xs:List V) (v:Value) (us:List Value) (Q:VK),Inv X pins σ H s->RelV x v->Vals xs us->r x xs H Q->
  wpAny (model X.prog X.w) X.A (call (.builtin id) (v::us)) (EP X pins σ Q) X.xe s
def Vals.one(r:Vals [x] us):∃u,us=[u]/\RelV x u:=by
 cases r with
 |cons r t=>cases t;exact⟨_,rfl,r⟩
theorem Vals.zero:∀{us:List Value},Vals [] us->us=[]
 |_,.nil=>rfl
def Vals.reverse(h:Vals xs us):Vals xs.reverse us.reverse:=by
 induction h with
 |nil=>exact .nil
 |cons r t ih=>rw[PF,PF];exact Vals.append ih (.cons r .nil)
section
variable{X:Cx}{pins:Rb}{σ:St}{H:Hp}{s:Shared}{l:Addr}{xs ys:List V}
def Inv.lset{its its':List Value}{n:Nat}{f:Array Value->Array Value}{t':Nat}(I:Inv X pins σ H s)(hH:H l=some (.lst xs))
 (e:s.heap.get? l=some { cls:=.type "list",data:=.seq its.toArray n }) (hf:f its.toArray=its'.toArray) (hv:Vals ys its') (hz:ys.length<=sizeLine):
 Inv X pins σ (upd H l (.lst ys)) { s with heap:=s.heap.update l (Obj.mapSeq f),toks:=t' }:=by
 have q:=PySem.IsL.update e f;rw[hf] at q;refine I.write (x:=l) (e:=l) (by rw[hH];exact trivial) (.inl rfl) (λb' u hb hu=>(Heap.get?_update_other s.heap (Obj.mapSeq f) (Ne.symm hb)).trans hu) ⟨_,q⟩ ?_;exact⟨hz,its',_,hv,q⟩
def Inv.lnew(I:Inv X pins σ H s)(hv:Vals ys its)(hz:ys.length<=sizeLine):
 Inv X pins σ (upd H s.heap.objs.size (.lst ys)) { s with heap:=s.heap.push { cls:=.type "list",data:=.seq its.toArray },toks:=t' }:=
 I.laid (λ_ _ q=>Em _ q) (z_ _) ⟨hz,its,0,hv,M_ _ rfl⟩
def Inv.fresh(I:Inv X pins σ H s):H s.heap.objs.size=none:=I.hok.fresh (z_ _)
def Inv.lstM(I:Inv X pins σ H s)(hH:H l=some (.lst xs)):xs.length<=sizeLine/\∃(its:List Value) (n:Nat),Vals xs its/\xs.length=its.length/\s.heap.get? l=some { cls:=.type "list",data:=.seq its.toArray n }:=by obtain⟨z,its,n,r,e⟩:=I.hok l _ hH;exact⟨z,its,n,r,r.length,e⟩
end
section
variable{X:Cx}
def pQ:V->List V->Hp->VK->Prop:=λx vs H Q=>∃l xs y,x=.ref l/\vs=[y]/\H l=some (.lst xs)/\xs.length<sizeLine/\Q .non (upd H l (.lst (xs++[y])))
def rL:MtM X "list.append" pQ:=by intro pins s σ H x vs v us Q I rx rv h;obtain⟨l,xs,y,rfl,rfl,hH,hz,q⟩:=h;cases rx;obtain⟨u,rfl,ru⟩:=rv.one;obtain⟨z,its,n,r,hl,e⟩:=I.lstM hH;refine call_meets F.slot_list_append ⟨_,e,rfl⟩ F.entry_list_append (F.args_list_append_2 _ _) (PySem.list_append l its.toArray n u (by rw[Oz];omega)) ⟨e,?_⟩;refine⟨.non,_,I.lset (its':=its++[u]) hH e (by simp) (r.append (.cons ru .nil)) ?_,rfl,q⟩;rw[H_,P4];omega
def nU:V->List V->Hp->VK->Prop:=λx vs H Q=>∃l xs,x=.ref l/\vs=[]/\H l=some (.lst xs)/\Q .non (upd H l (.lst xs.reverse))
def yd:MtM X "list.reverse" nU:=by intro pins s σ H x vs v us Q I rx rv h;obtain⟨l,xs,rfl,rfl,hH,q⟩:=h;cases rx;have hus:=rv.zero;subst hus;obtain⟨z,its,n,r,hl,e⟩:=I.lstM hH;refine call_meets F.slot_list_reverse ⟨_,e,rfl⟩ F.entry_list_reverse (F.args_list_reverse_1 _) (AutoSeq1.list_reverse_list_0 l its.toArray n (by rw[Oz];omega)) ⟨e,?_⟩;refine⟨.non,_,I.lset (its':=its.reverse) hH e (by simp) r.reverse ?_,rfl,q⟩;rw[List.length_reverse];omega
def pV:R2:=λx y H Q=>∃l b xs zs,x=.ref l/\y=.ref b/\H l=some (.lst xs)/\H b=some (.lst zs)/\xs.length+zs.length<=sizeLine/\∀p,H p=none->Q (.ref p) (upd H p (.lst (xs++zs)))
def II:OpR X (binaryOp .Add) pV:=by
 intro pins s σ H x y v u Q I rx ry h;obtain⟨l,b,xs,zs,rfl,rfl,hH,hB,hz,q⟩:=h;cases rx;cases ry;obtain⟨z,its,n,r,hl,e⟩:=I.lstM hH;obtain⟨z2,its2,n2,r2,hl2,e2⟩:=I.lstM hB;refine PySem.P.add_list e e2 ?_ (by rw[Oz,Oz];omega);have ea:its.toArray++its2.toArray=(its++its2).toArray:=by simp
 rw[ea];exact⟨.ref _,_,I.lnew (t':=s.toks) (r.append r2) (by rw[H_];omega),rfl,q _ I.fresh⟩
end
section
set_option maxRecDepth 100000 in
end
end L2
namespace Att
open PySem PySem.W PySem.Calls PyProof.Rows
def oU:∀(ns:List Int) (vs:List Value),WellAll P h vs (ns.map WData.int)->IntsAre vs ns:=by
 intro ns;induction ns with
 |nil=>intro vs w;rw[OP] at w;cases w;exact .nil
 |
  cons n ns ih=>
  intro vs w;rw[B_] at w;cases w with
  |cons a b=>cases a;exact .cons _ _ (ih _ b)
def AN{l:OpenLaw}{n:Nat}(hn:l.most=some n){P:Params}{h:Heap}{args:List WData}{vals:List Value}
 (hpre:l.row.toRowW.claim.pre args=true) (hwl:WellAll P h vals args):
 ∃a vs ns,vals=[Value.ref a]/\args=[WData.list (ns.map WData.int)]/\h.get? a=some { cls:=.type "list",data:=.seq vs.toArray }/\IntsAre vs ns/\ns.length<=n:=by
 have hsh:WShape.hasAll [] args [.list .int]=true:=(pre_splitW hpre).1;have hc:l.pre.holds [] { args:=args }=true:=(pre_splitW hpre).2;obtain⟨d,r,rfl,h1,h2⟩:=hasAllW_cons hsh;obtain rfl:=hasAllW_nil h2;obtain⟨xs,rfl,h3⟩:=hasW_list h1;obtain⟨ns,rfl⟩:=items_int h3;have c_:ns.length<=n:=by
  unfold OpenLaw.pre at hc;have h4:(WTm.not (.lt (.lit (.int (n:Int))) (.len (.arg 0)))).holds [] { args:=[.list (ns.map .int)] }=true:=by have h4:=(holds_andW hc).1;rw[hn] at h4;exact h4
  have h5:=condW_of h4 (w_not (w_lt w_lit (w_len_list (w_arg rfl))));rw[v_] at h5;refine Nat.le_of_not_lt λq=>?_;have q':(n:Int)<((ns.length:Nat):Int):=by omega
  first
   |(rw[J_ q'] at h5;exact absurd h5 (by decide))
   |(simp at h5;omega)
 cases hwl with
 |
  cons w1 w2=>
  cases w2;cases w1 with
  |list ho hall=>exact⟨_,_,ns,rfl,rfl,ho,oU ns _ hall,c_⟩
def zc(l:OpenLaw)(args:List WData):l.row.toRowW.claim.post args (.bool true) args=true:=
 postW_of (r:=l.row.toRowW) (X:=(true==true))
  (show WShape.has [] (.bool true) .bool=true by first |rfl |decide |simp [WShape.has,WShape.arms,WShape.armsAll])
  (show (WTm.eq .res (.lit (.bool true))).value [] { args:=args,res:=some (.bool true),after:=args }=some (.bool (true==true)) from w_eq_bool (w_res rfl) w_lit) rfl
def attach_call{l:OpenLaw}{n:Nat}{q:Program}{loose:List Str}{XP:(Str->Option Value)->Heap->Prop}{YP:World->Heap->Prop}{d:DefRec}
 (hn:l.most=some n) (hdf:d.params.defaults=[])
 (call:∀(w:World) (s₀ s₁:Shared) (mg mb:Ra) (fa:Addr) (o:Obj) (pm cd doc:Value) (a:Addr) (vs:List Value) (ns:List Int),
  Ground q loose [] XP w s₀ mg mb s₁.heap->YP w s₁.heap->
  s₁.heap.get? fa=some o->o.data=.func (docDef d.name d.params d.body d.scope pm cd doc)->s₁.heap.CodeRec cd d.name->mg d.name=some (.ref fa)->
  s₁.heap.get? a=some { cls:=.type "list",data:=.seq vs.toArray }->IntsAre vs ns->ns.length<=n->s₁.gens=#[]->
  codeAny (model l.prog w) callerA (.call (.ref fa) ⟨[.ref a],[]⟩) (λr s'=>r=.ok (.ret (.bool true))/\OldK s₁.heap s'.heap/\s'.os=s₁.os/\AllBare s'.gens) s₁):
 WalkO q loose XP YP l.row.toRowW d [] (λf vs=>PySem.call f vs):=by
 intro w s₀ s₁ mg mb G Y fa o pm cd doc dV kV ho hd hcd hD hmg hg args vals as hpre hlay hrd hwl hlo;obtain rfl:dV=.none:=Dflts.none hD hdf;obtain rfl:kV=.none:=Dflts.noKw hD;obtain⟨a,vs,ns,rfl,rfl,hobj,hints,c_⟩:=AN hn hpre hwl;refine enter_call (codeAny_mono (call w s₀ s₁ mg mb fa o pm cd doc a vs ns G Y ho (fd_plain hd) hcd hmg hobj hints c_ hg) λr s' hq=>?_);obtain⟨rfl,h2,h3,h4⟩:=hq;exact⟨.inl ⟨.bool true,.bool true,[],rfl,λ_=>rfl,.bool true,zc l _,λ_=>⟨List.Pairwise.nil,λ_ hm=>(nomatch hm)⟩⟩,h2,h3,h4⟩
section
def uF(h:Heap):Heap:={ h with objs:=#[] }
def yc(h:Heap)(b:Addr):(uF h).get? b=none:=by
 cases e:(uF h).get? b with
 |none=>rfl
 |some o=>exact absurd (E_ e) (Py _)
def ledger(h:Heap)(L d:Addr):List (Addr×Obj):=(List.range h.objs.size).filterMap λa=>if a=L\/a=d then none else (h.get? a).map λo=>(a,o)
def fr_all(n:h.Ns L m):Fr (uF h) L h m:=
 ⟨n,λb o e=>(by rw[yc] at e;cases e),ON _⟩
end
end Att
namespace L2
open PySem PySem.Spec PyProof.Rows
theorem rE:∀{vs:List Value}{ns:List Int},IntsAre vs ns->Vals (ns.map V.int) vs
 |_,_,.nil=>.nil
 |_,_,.cons n t h=>.cons ⟨t,rfl⟩ (rE h)
def qh(H:Hp):Prop:=∀b,H b=none\/∃o xs,H b=some (.frz o (.lst xs))
def Ds{P:Program}{w:World}{K:W.Frag}{mg mb:Ra}{CX:CXT}{k:Nat}{fa a:Addr}{fd:FuncData}{x:Str}{sp:Sp}{s₁:Shared}{vs:List Value}{ns:List Int}
 (KX:K.In s₁.heap) (hns:s₁.heap.Ns mainGlobals mg) (hb:s₁.heap.Ns builtinsNs mb) (hbb:∀x:Str,x ≠ "__name__"->mb x=bootBuiltins x) (hlim:s₁.heap.NoLimit) (hg:s₁.gens=#[])
 (ha:s₁.heap.get? a=some { cls:=.type "list",data:=.seq vs.toArray }) (hi:IntsAre vs ns) (hl:ns.length<=sizeLine) (hr:Room k callerA)
 (F:∀base:Heap,K.In base->base.Ns mainGlobals mg->FnOk P w K mg base CX k fa fd [x] sp) (hbind:∀(s:Shared) (u:Value),BindsTo s fd ⟨[u],[]⟩ [(x,u)])
 (hsp:∀H:Hp,qh H->SqL K H a (ns.map V.int)->sp [.ref a] H (λv _=>v=.bl true) λ_ _ _=>False)
 (hCX:∀H e s',CX [] H s₁ (λ_ _ _=>False) e s'->False):
 codeAny (model P w) callerA (.call (.ref fa) ⟨[.ref a],[]⟩) (λr s'=>r=.ok (.ret (.bool true))/\OldK s₁.heap s'.heap/\s'.os=s₁.os/\AllBare s'.gens) s₁:=by
 have rv:=rE hi;have lenV:=hi.length;have core
  : ∀H:Hp,qh H->SqL K H a (ns.map V.int)->HOk P w H s₁.heap->(∀b,H b≠none->b=a)->(H a≠none->K.lookup a=none)->
  codeAny (model P w) callerA (.call (.ref fa) ⟨[.ref a],[]⟩) (λr s'=>r=.ok (.ret (.bool true))/\OldK s₁.heap s'.heap/\s'.os=s₁.os/\AllBare s'.gens) s₁:=by
  intro H hO hS hok hA hK;have base_of:∀{b:Addr}{o:Obj},s₁.heap.get? b=some o->H b=none->(kP s₁.heap H).get? b=some o:=λe n=>Bz e n;have noA:∀{b:Addr}{o:Obj}{es:Array DictEntry}{ep:Nat},s₁.heap.get? b=some o->o.data=.dict es ep->H b=none:=λ{b o es ep} e d=>by
   cases q:H b with
   |none=>rfl
   |some u=>have e':b=a:=hA b (by rw[q];simp);subst e';rw[ha] at e;cases e;have d':Data.seq vs.toArray _=Data.dict es ep:=d;cases d'
  have nsK:∀{b:Addr}{m:Ra},s₁.heap.Ns b m->(kP s₁.heap H).Ns b m:=λ{b m} ⟨o,es,ep,e,d,r⟩=>⟨o,es,ep,base_of e (noA e d),d,r⟩;have hKb:K.In (kP s₁.heap H):=λb o e=>base_of (KX b o e) (by
   cases q:H b with
   |none=>rfl
   |some u=>have e':b=a:=hA b (by rw[q];simp);subst e';rw[hK (by rw[q];simp)] at e;cases e)
  have hM:Mod K mg (kP s₁.heap H):=⟨hKb,nsK hns,⟨mb,nsK hb,hbb⟩,let ⟨mc,h1,h2⟩:=hlim;⟨mc,nsK h1,h2⟩⟩;have e0:Env0 P w K mg (kP s₁.heap H) callerA [] s₁ H:=⟨rfl,hM,λb o e=>Gj e,Nat.le_of_eq (za _ _),trivial,λb hb=>absurd (show b∈([]:List Addr) from hb) (by simp),hok,.of_eq hg⟩;refine codeAny_mono ((F _ hKb (nsK hns)).run callerA [] s₁ H ⟨[.ref a],[]⟩ [.ref a] [.ref a] _ _ hr e0 (hbind s₁ (.ref a)) (.cons rfl .nil) (hsp H hO hS)) λr s' h=>?_;cases r with
  |error e=>exact (hCX H e s' h).elim
  |
   ok fl=>
   cases fl with
   |next=>exact False.elim h
   |brk=>exact False.elim h
   |cont=>exact False.elim h
   |
    ret u=>
    obtain⟨v,H',os,bare,un,hok',r',q⟩:=h;have q':v=.bl true:=q;subst q';obtain rfl:u=Value.bool true:=r';refine⟨rfl,OldK.of_keep λb o e=>?_,os,bare⟩;cases q:H b with
    |none=>exact un.keep b o e q (by intro z;exact absurd (show b∈([]:List Addr) from z) (by simp)) (by simp)
    |
     some u=>
     rcases hO b with z |⟨ob,xs,z⟩
     .rw[q] at z;cases z
     .have z2:=un.frzs b ob _ z;obtain⟨e1,_⟩:=hok b _ z;obtain⟨e2,_⟩:=hok' b _ z2;rw[e] at e1;cases e1;exact e2
 cases hk:K.lookup a with
 |some o=>have e:=KX a o hk;rw[ha] at e;cases e;refine core (λ_=>none) (λ_=>.inl rfl) (.inr ⟨_,vs.toArray,_,hk,rfl,rfl,rfl,by rw[Oz,lenV];exact hl,by simpa using rv⟩) (λb u z=>by have z':(none:Option HO)=some u:=z;cases z') (λb z=>absurd rfl z) λz=>absurd rfl z
 |
  none=>
  refine core (λb=>if b=a then some (.frz { cls:=.type "list",data:=.seq vs.toArray } (.lst (ns.map V.int))) else none) (λb=>?_) (.inl (.inr ⟨{ cls:=.type "list",data:=.seq vs.toArray },if_pos rfl⟩)) (λb u z=>?_) (λb z=>?_) λ_=>hk
  .by_cases hb:b=a
   .exact .inr ⟨_,_,if_pos hb⟩
   .exact .inl (if_neg hb)
  .by_cases hb:b=a
   .have z':=(if_pos hb).symm.trans z;cases z';subst hb;exact⟨ha,by rw[v_];exact hl,vs,_,rv,ha⟩
   .have z':=(if_neg hb).symm.trans z;cases z'
  .by_cases hb:b=a
   .exact hb
   .exact absurd (if_neg hb) z
abbrev KOf{K:W.Frag}{h:Heap}(_:K.In h):W.Frag:=K
def walk_of{l:W.OpenLaw}{n k:Nat}{q:Program}{loose:List Str}{XP:(Str->Option Value)->Heap->Prop}{YP:World->Heap->Prop}{d:DefRec}{K:Params->W.Frag}{CX:World->CXT}{sp:World->Sp}{x:Str}
 (hn:l.most=some n) (hn2:n<=sizeLine) (hdf:d.params.defaults=[]) (hr:Room k callerA)
 (hY:∀(w:World) (h:Heap),YP w h->(K w.params).In h)
 (F:∀(w:World) (mg:Ra) (fa:Addr) (h:Heap),(K w.params).In h->h.Ns mainGlobals mg->mg d.name=some (.ref fa)->
  ∃
   fd:FuncData,(∀(s:Shared) (u:Value),BindsTo s fd ⟨[u],[]⟩ [(x,u)])/\
   ∀base:Heap,(K w.params).In base->base.Ns mainGlobals mg->FnOk l.prog w (K w.params) mg base (CX w) k fa fd [x] (sp w))
 (hsp:∀(w:World) (H:Hp) (a:Addr) (ns:List Int),ns.length<=n->qh H->SqL (K w.params) H a (ns.map V.int)->sp w [.ref a] H (λv _=>v=.bl true) λ_ _ _=>False)
 (hCX:∀(w:World) (H:Hp) (s:Shared) (e:Value) (s':Shared),CX w [] H s (λ_ _ _=>False) e s'->False):
 W.WalkO q loose XP YP l.row.toRowW d [] (λf vs=>PySem.call f vs):=by
 refine Att.attach_call hn hdf λw s₀ s₁ mg mb fa o pm cd doc a vs ns G Y ho hd hcd hmg hobj hints c_ hg=>?_;have KX:=hY w _ Y;obtain⟨fd,hb,hF⟩:=F w mg fa _ KX G.T.g hmg;exact Ds KX G.T.g G.T.b G.T.builtins G.T.nolimit hg hobj hints (I_ c_ hn2) hr hF hb (λH hO hS=>hsp w H a ns c_ hO hS) λH e s'=>hCX w H s₁ e s'
noncomputable def ee(s:Stmt):Arguments:=match s with
 |.FunctionDef _ a _ _ _ _ _ _ _ _=>a
 |_=>{ posonlyargs:=[],args:=[],vararg:=none,kwonlyargs:=[],kw_defaults:=[],kwarg:=none,defaults:=[] }
noncomputable def cC(s:Stmt):List Stmt:=match s with
 |.FunctionDef _ _ b _ _ _ _ _ _ _=>b
 |_=>[]
noncomputable def bF(s:Stmt):Scope:=match s with
 |.FunctionDef _ _ _ _ _ _ sc _ _ _=>sc
 |_=>{ kind:=.function,names:=[],isGenerator:=false,isCoroutine:=false }
abbrev E0:XK:=λ_ _ _=>False
structure Fun(K:W.Frag)(x qual:Str)(st:Stmt)(f:Addr)(fd:FuncData):Prop where
 ex:∃(oc:Value) (od:Option Addr) (kV doc pm:Value) (an:Option Addr) (cdv ct:Value) (osl:Array (Option Value)),
  fd=W.fnOf x qual (ee st) (cC st) (bF st) .none kV doc pm an cdv ct/\K.lookup f=some ⟨oc,od,.func fd,osl⟩/\W.codeIn K cdv qual=true
 kp:W.keepIn K (.ref f)=true
section
variable{K:W.Frag}
def Fun.binds{x qual:Str}{st:Stmt}{f:Addr}{fd:FuncData}{ps:List Str}(F:Fun K x qual st f fd)
 (h:∀(kV doc pm:Value) (an:Option Addr) (cdv ct:Value) (us:List Value),us.length=ps.length->bindArgs (W.fnOf x qual (ee st) (cC st) (bF st) .none kV doc pm an cdv ct) ⟨us,[]⟩=pure (ps.zip us)):Binds K fd ps []:=by
 obtain⟨oc,od,kV,doc,pm,an,cdv,ct,osl,rfl,lk,hcd⟩:=F.ex;exact .all (h kV doc pm an cdv ct)
def Lr{x qual:Str}{st:Stmt}{f:Addr}{oc:Value}{od an:Option Addr}{osl:Array (Option Value)}{kV doc pm cdv ct:Value}(l:K.lookup f=some ⟨oc,od,.func (W.fnOf x qual (ee st) (cC st) (bF st) .none kV doc pm an cdv ct),osl⟩)
 (c:W.codeIn K cdv qual=true) (k:W.keepIn K (.ref f)=true):Fun K x qual st f (W.fnOf x qual (ee st) (cC st) (bF st) .none kV doc pm an cdv ct):=⟨⟨oc,od,kV,doc,pm,an,cdv,ct,osl,rfl,l,c⟩,k⟩
end
def MJ(hr:Room k A):A.units+1<cLine:=Nat.lt_of_le_of_lt (Nat.add_le_add_left (by decide:1<=64) _) hr.units
section
variable{X:Cx}{pins:Rb}{σ:St}{H:Hp}{s:Shared}
def Inv.track{a:Addr}{o:HO}(I:Inv X pins σ H s)(hn:H a=none)(h0:X.s₀.heap.get? a=none)(hL:a≠X.env.locals)(hc:∀x c,X.env.cells.lookup x=some c->c≠a)
 (hp:∀p∈X.pn++pins,p.1≠a) (new:ObjOk X.prog X.w (upd H a o) s.heap a o):Inv X pins σ (upd H a o) s:=by
 have ne:∀b u,H b=some u->b≠a:=λb u e z=>by rw[z,hn] at e;cases e
 have ne0:∀b u,X.s₀.heap.get? b=some u->b≠a:=λb u e z=>by rw[z,h0] at e;cases e
 refine⟨I.ok,I.os,I.bare,⟨I.base.keep,I.base.slot,λb u e n hx=>?_,I.base.there,λb xs e=>?_,λb u xs e=>?_,λb ps e=>?_⟩,I.loc,I.cell,?_,λx c e=>?_,λp hp'=>?_,λb u e=>?_,I.len⟩
 .rw[bR (ne0 b u e)];exact I.base.free b u e n hx
 .have q:=I.base.tups b xs e;rw[bR (ne _ _ q)];exact q
 .have q:=I.base.frzs b u xs e;rw[bR (ne _ _ q)];exact q
 .obtain⟨m,q⟩:=I.base.tbls b ps e;exact⟨m,by rw[bR (ne _ _ q)];exact q⟩
 .rw[bR (Ne.symm hL)];exact I.free
 .rw[bR (hc x c e)];exact I.freeC x c e
 .obtain⟨e,n,r⟩:=I.pin p hp';exact⟨e,by rw[bR (hp p hp')];exact n,r⟩
 .by_cases hb:b=a
  .subst hb;rw[eB] at e;cases e;exact new
  .rw[bR hb] at e;exact (I.hok b u e).stay (λc v _ q=>q) (λc q=>by rw[bR (ne _ _ q)];exact q) λc xs q=>by rw[bR (ne _ _ q)];exact q
end
theorem lp{env:Env}:∀{names:List (Str×NameKind)} (cs:List (Str×Addr)),(∀x∈names,x.2=.free->∃c,env.cells.lookup x.1=some c)->(∀x c,cs.lookup x=some c->env.cells.lookup x=some c)->
 ∃
  cl,(forIn names cs λ(x:Str×NameKind) (r:List (Str×Addr))=>if (x.2==NameKind.free)=true then do let a <- cellOf env x.1;pure (ForInStep.yield ((x.1,a)::r)) else pure (ForInStep.yield r):Sem (List (Str×Addr)))=pure cl/\
  (∀x c,cl.lookup x=some c->env.cells.lookup x=some c)/\(∀x c,cs.lookup x=some c->∃c',cl.lookup x=some c')/\∀x∈names,x.2=.free->∃c,cl.lookup x.1=some c
 | [],cs,_,h=>⟨cs,by simp,h,λx c e=>⟨c,e⟩,λ_ hx=>nomatch hx⟩
 |
  (n,k)::r,cs,hf,h=>by
  rw[Qw];by_cases hk:k=.free
  .subst hk;obtain⟨c,hc⟩:=hf (n,.free) C_ rfl;have hcell:cellOf env n=pure c:=by unfold cellOf;rw[hc]
   have h':∀x d,((n,c)::cs).lookup x=some d->env.cells.lookup x=some d:=λx d e=>by
    rw[Pq] at e;cases q:x==n with
    |true=>rw[q] at e;cases e;rw[OX.mp q];exact hc
    |false=>rw[q] at e;exact h x d e
   obtain⟨cl,e1,e2,e3,e4⟩:=lp (env:=env) (names:=r) ((n,c)::cs) (λx hx=>hf x (y_ _ hx)) h';have top:∃c',cl.lookup n=some c':=e3 n c (by rw[Pq];simp);refine⟨cl,?_,e2,λx d e=>?_,λx hx l_=>?_⟩
   .simp only[beq_self_eq_true,PM,hcell];exact e1
   .by_cases q:x=n
    .rw[q];exact top
    .exact e3 x d (by rw[Pq,(Oy.mpr q:(x==n)=false)];exact e)
   .rcases N_.mp hx with rfl |hx
    .exact top
    .exact e4 x hx l_
  .have hb:(k==NameKind.free)=false:=by simpa using hk
   obtain⟨cl,e1,e2,e3,e4⟩:=lp (env:=env) (names:=r) cs (λx hx=>hf x (y_ _ hx)) h;refine⟨cl,?_,e2,e3,λx hx l_=>?_⟩
   .simp only[hb,PV,Qs];exact e1
   .rcases N_.mp hx with rfl |hx
    .exact absurd l_ hk
    .exact e4 x hx l_
def sE{env:Env}{scope:Scope}(hf:∀x∈scope.names,x.2=.free->∃c,env.cells.lookup x.1=some c):
 ∃cl,closureFor scope env=pure cl/\(∀x c,cl.lookup x=some c->env.cells.lookup x=some c)/\∀x∈scope.names,x.2=.free->∃c,cl.lookup x.1=some c:=by
 obtain⟨cl,e1,e2,_,e4⟩:=lp (env:=env) (names:=scope.names) [] hf (λx c e=>by simp at e);refine⟨cl,?_,e2,e4⟩;unfold closureFor;simp only[e1];rfl
noncomputable def bL(X:Cx)(N:List Str)(scope:Scope)(cl:List (Str×Addr))(C:Addr)(s₂:Shared)(H:Hp)(fp:List Addr):Cx:=
 { X with N:=N,s₀:=s₂,H₀:=H,env:=compEnvC scope cl C X.env,outer:=X.stack,stack:=X.stack,ex:=fp,fn:=λ_=>false,pn:=[],xe:=λ_ _=>False }
noncomputable def iE(sub:Rg)(σ:St):St:=sub.map λo=>o.bind λi=>(σ[i]?).bind id
def LcW(J:It)(sub:Rg)(g:TG)(tc:TT)(te:TE)(σ:St)(H1:Hp)(Q:VK):Prop:=∃W:Nat->Nat->List V->St->Hp->Prop,(∃m,W 0 m [] (iE sub σ) H1)/\∀i m ys σ H,W i m ys σ H->
 (J.stop i H/\ys.length<=sizeLine/\∀D,H D=none->Q (.ref D) (upd H D (.lst ys)))\/
 (J.go i H/\ys.length<sizeLine/\∃Nx:List V->St->Hp->Prop,(∀ys' σ' H',Nx ys' σ' H'->∃m',m'<m/\W (i+1) m' ys' σ' H')/\
  ∀x H',J.yld i H x H'->g x σ H' λσ2 H2=>tc σ2 H2 λb H3=>if b=true then te σ2 H3 λy H4=>Nx (ys++[y]) σ2 H4 else Nx ys σ2 H3)
def jF(wi:TI)(sub:Rg)(g:TG)(tc:TT)(te:TE):TE:=λσ H Q=>wi σ H λJ H1=>LcW J sub g tc te σ H1 Q
abbrev A5:TT:=λ_ H Q=>Q true H
section
variable{prog:Program}{w:World}{A:Around}{R:Result->Shared->Prop}{s:Shared}
def vf{g_ target a_:Expr}{ifs:List Expr}{scope:Scope}{pos:Pos}{it acc:Value}{env:Env}(I:Nat->Shared->Prop)
 (turn
  : ∀n s,I n s->wpAny (model prog w) A (pyNext it) (λr s₁=>match r with
  |none=>R (.ok .next) s₁
  |some v=>wpAny (model prog w) A (letOwnedTupleGo target it v) (λ_ s₁'=>wpAny (model prog w) A (assign target env v) (λ_ s₂=>
   wpAny (model prog w) A (forIn ifs true λc r=>if r=true then do let ok <- isTrue c env (eval c env);pure (ForInStep.yield ok) else pure (ForInStep.yield r))
    (λok s₃=>if ok=true then wpAny (model prog w) A (eval g_ env) (λx s₄=>wpAny (model prog w) A (call (.builtin "list.append") [acc,x]) (λ_ s₅=>∃m,m<n/\I m s₅) (λ_ _=>False) s₄) (λ_ _=>False) s₃
     else ∃m,m<n/\I m s₃) (λ_ _=>False) s₂) (λ_ _=>False) s₁') (λ_ _=>False) s₁) (λ_ _=>False) s)
 (n:Nat) (h:I n s):
 codeAny (model prog w) A (.compLoop (.ListComp g_ [⟨target,a_,ifs,0⟩] scope pos) 0 it acc env) R s:=by
 refine codeAny_loop rfl I (λn s hI=>?_) n h;show wpAny _ _ ((compTurn (.ListComp g_ [⟨target,a_,ifs,0⟩] scope pos) 0 it acc env).onRaise (λx=>do noteFrame x env;theTreesLotGoes x)) _ _ s;refine wpAny_noted ?_;rw[compTurn_list];refine OV (E:=λ_ _=>False) ?_ (λ_ _ q=>q) λ_ _ q=>q.elim;refine w_ (Qp (w_ (OV (turn n s hI) (λr s₁ h₁=>?_) λ_ _ h'=>h')));cases r with
 |none=>exact G_ h₁
 |
  some v=>
  refine w_ (OV h₁ (λ_ s₁' h₁'=>?_) λ_ _ h'=>h');refine w_ (OV h₁' (λ_ s₂ h₂=>?_) λ_ _ h'=>h');refine w_ (OV h₂ (λok s₃ h₃=>?_) λ_ _ h'=>h');cases ok with
  |true=>simp only[PM] at h₃ ⊢;refine w_ (w_ (OV h₃ (λx s₄ h₄=>?_) λ_ _ h'=>h'));refine w_ (OV h₄ (λ_ s₅ h₅=>?_) λ_ _ h'=>h');exact G_ (G_ ⟨rfl,h₅⟩)
  |
   false=>
   simp only[PV,Qs] at h₃ ⊢;first
    |exact w_ (G_ (G_ ⟨rfl,h₃⟩))
    |exact G_ ⟨rfl,h₃⟩
end
section
variable{X:Cx}
def PTs(X:Cx)(ifs:List Expr)(t:TT):Prop:=
 ∀
  (pins:Rb) (s:Shared) (σ:St) (H:Hp) (Q:Bool->Hp->Prop),Inv X pins σ H s->t σ H Q->
  wpAny (model X.prog X.w) X.A (forIn ifs true λc r=>if r=true then do let ok <- isTrue c X.env (eval c X.env);pure (ForInStep.yield ok) else pure (ForInStep.yield r)) (TP X pins σ Q) X.xe s
def xa:PTs X [] (λ_ H Q=>Q true H):=λpins s σ H Q I h=>by rw[QH];exact G_ ⟨H,I,h⟩
def wg{c:Expr}{tc:TT}(hc:PT X c tc):PTs X [c] tc:=λpins s σ H Q I h=>by rw[Qw];simp only[PM];refine w_ (w_ (thn (hc pins s σ H Q I h) λb s1 q=>G_ ?_));dsimp only;rw[QH];exact G_ q
structure LcEnd(X:Cx)(pins:Rb)(σ:St)(Q:VK)(D C:Addr)(s4:Shared):Prop where
 ns:∃m,s4.heap.Ns C m
 dc:D<C
 fr:X.env.locals<D
 cell:∀x c,X.env.cells.lookup x=some c->c<D
 pin:∀p∈X.pn++pins,p.1<D
 sz:X.s₀.heap.objs.size<=D
 inv:∃H',H' C=none/\Q (.ref D) H'/\∀h',Heap.SameBut C s4.heap h'->Inv X pins σ H' { s4 with heap:=h' }
def v8{g_ a_ tg:Expr}{ifs:List Expr}{scope:Scope}{pos:Pos}{wi:TI}{g:TG}{tc:TT}{te:TE}{N:List Str}{sub:Rg}{use:Option (Value->Sem Unit)}{R:Rf}{pins:Rb}{s:Shared}{σ:St}{H:Hp}{Q:VK}{fpos:Pos}
 (hc:X.calm=true) (hi:PI X tg a_ wi)
 (hk:scope.kind=.function) (o_:∀x∈scope.names,x.2 ≠ .cell) (b_:∀x∈scope.names,x.2=.local->scope.names.lookup x.1=some .local)
 (l_:∀x∈scope.names,x.2=.free->X.env.kindOf x.1=some .cell\/X.env.kindOf x.1=some .free)
 (p_:sub.length=N.length) (f_:∀(j i:Nat) (x:Str),sub[j]?=some (some i)->N[j]?=some x->X.N[i]?=some x/\scope.names.lookup x=some .free)
 (hg:∀cl C s₂ H fp,PG (bL X N scope cl C s₂ H fp) tg g) (ht:∀cl C s₂ H fp,PTs (bL X N scope cl C s₂ H fp) ifs tc) (he:∀cl C s₂ H fp,PE (bL X N scope cl C s₂ H fp) g_ te)
 (hs:∀x,foldedSetIterable a_ X.env x=pure x) (I:Inv X pins σ H s) (h:jF wi sub g tc te σ H Q)
 (i_:∀D C s4,LcEnd X pins σ Q D C s4->compPost (model X.prog X.w) X.A X.xe use R (.ref D) C (.ok .next) s4):
 wpAny (model X.prog X.w) X.A (comprehension (.ListComp g_ [⟨tg,a_,ifs,0⟩] scope pos) scope X.env fpos (newList []) false (eval a_ X.env) use) R X.xe s:=by
 obtain⟨cl,hclos,hcl,hclf⟩:=sE (env:=X.env) (scope:=scope) λx hx hf=>I.ok.has x.1 (l_ x hx hf);refine wpAny_comprehension_free rfl hs hclos hk b_ ?_;show wpAny _ _ (eval a_ X.env) _ _ _;refine thn (hi pins s σ H _ I h) λv s1 h1=>thn h1 λitv s2 h2=>?_;obtain⟨it,fp,tn,J,H2,e,I2,T,st2,f2,W,⟨m0,w0⟩,turn⟩:=h2;subst e;refine Pc (wpAny_newFunctionEnv o_ (by intro y hy;simp at hy) (λh₁ hns₁ hsb₁=>?_) hk);dsimp only at hns₁ hsb₁ ⊢;generalize hH2:s2.heap.push { cls:=.type "list",dict:=none,data:=.seq ([]:List Value).toArray }=G2 at hns₁ hsb₁ ⊢;have hC:G2.objs.size=s2.heap.objs.size+1:=by rw[<- hH2,PK]
 have hDC:s2.heap.objs.size≠G2.objs.size:=by omega
 have below:∀b,b<s2.heap.objs.size->b≠G2.objs.size/\b≠s2.heap.objs.size:=λb hb=>⟨by omega,by omega⟩;have old:∀b o,s2.heap.get? b=some o->h₁.get? b=some o:=λb o e=>hsb₁.extBut b o (below b (E_ e)).1 (Em _ (hH2 ▸ Em _ e));have hD₁:h₁.get? s2.heap.objs.size=some { cls:=.type "list",dict:=none,data:=.seq ([]:List Value).toArray }:=hsb₁.extBut _ _ hDC (Em _ (hH2 ▸ M_ _ rfl));have fresh:∀a,s2.heap.objs.size<=a->s2.heap.get? a=none:=λa ha=>Qv ha;have cellOld:∀x c,cl.lookup x=some c->c<s2.heap.objs.size:=λx c e=>by obtain⟨v,z⟩:=I2.cell x c (hcl x c e);exact z.lt
 have fpOld:∀b∈fp,b<s2.heap.objs.size:=λb hb=>by obtain⟨o,e,_⟩:=T.obj _ _ st2 b hb;exact E_ e
 let Y:Cx:=bL X N scope cl G2.objs.size s2 H2 fp
 have okY:Y.Ok
  := by
  refine⟨I2.ok.mod,?_,I2.ok.glob,I2.ok.blt,?_,λx y c e1 e2=>I2.ok.inj x y c (hcl x c e1) (hcl y c e2),λx hx=>?_,λx c hfn _=>absurd hfn A_,I2.ok.hd,I2.ok.frames,.inl rfl,
   λb hb=>⟨?_,λx c e z=>?_⟩,I2.bs,I_ I2.ok.bsz I2.sz,λb o e hb=>?_,λb hb hf=>?_,I2.stack,I2.stkFree⟩
  .show (relabel scope X.env).kind=.function;exact hk
  .show s2.heap.objs.size<=G2.objs.size;omega
  .have hx':(
    relabel scope X.env).names.lookup x=some .cell\/(relabel scope X.env).names.lookup x=some .free:=hx
   have:∃k,
    (x,k)∈scope.names/\k=.free:=by
    have gen:∀(names:List (Str×NameKind)),(∀y∈names,y.2 ≠ .cell)->∀kk,(kk=NameKind.cell\/kk=NameKind.free)->(names.map λ(n,k)=>if (k==NameKind.free&&X.env.scope.kind == .function&&X.env.kindOf n==some .cell) then (n,NameKind.cell) else (n,k)).lookup x=some kk->∃k,(x,k)∈names/\k=.free:=by
     intro names;induction names with
     |nil=>intro _ kk _ e;simp at e
     |
      cons y r ih=>
      intro hn kk hkk e;obtain⟨n,k⟩:=y;rw[B_,Pq] at e;by_cases hkf:k=.free
      .subst hkf;by_cases hxn:x=n
       .exact⟨.free,by rw[hxn];exact C_,rfl⟩
       .have hb:(x==(if (NameKind.free==NameKind.free&&X.env.scope.kind == .function&&X.env.kindOf n==some .cell)=true then (n,NameKind.cell) else (n,NameKind.free)).1)=false:=by split <;> exact Oy.mpr hxn
        rw[hb] at e;obtain⟨k',m,q⟩:=ih (λz hz=>hn z (y_ _ hz)) kk hkk e;exact⟨k',y_ _ m,q⟩
      .have hb0:(k==NameKind.free&&X.env.scope.kind == .function&&X.env.kindOf n==some .cell)=false:=by
        have:(k==NameKind.free)=false:=by simpa using hkf
        rw[this];rfl
       rw[hb0] at e;simp only[PV,Qs] at e;cases q:x==n with
       |
        true=>
        rw[q] at e;have e':k=kk:=OE e;subst e';rcases hkk with z |z
        .exact absurd z (hn (n,k) C_)
        .exact absurd z hkf
       |false=>rw[q] at e;obtain⟨k',m,q⟩:=ih (λz hz=>hn z (y_ _ hz)) kk hkk e;exact⟨k',y_ _ m,q⟩
    rcases hx' with z |z
    .exact gen scope.names o_ _ (.inl rfl) z
    .exact gen scope.names o_ _ (.inr rfl) z
   obtain⟨k,m,q⟩:=this;exact hclf (x,k) m q
  .show b≠G2.objs.size;exact (below b (fpOld b hb)).1
  .exact (f2 b hb).2.2.2.2.1 x c (hcl x c e) z
  .rcases (f2 b hb).2.2.2.1 with z |z
   .exact I2.ok.noex b o e z
   .exact absurd (K_ (E_ e) (I_ I2.ok.bsz z)) (O8 _)
  .have hf':b∈frs X.stack:=hf;rcases N_.mp (I2.stkSub b hf') with z |z
   .exact (f2 b hb).2.1 z
   .exact (f2 b hb).2.2.1 z
 have startLoc
  : ∃m,h₁.Ns G2.objs.size m/\∀(i:Nat) (x:Str) (v:V),N[i]?=some x->(iE sub σ)[i]?=some (some v)->Vis (relabel scope X.env) x->∃u,RelV v u/\Look Y.env h₁ m x u:=by
  refine⟨_,hns₁,λj x v e1 e2 e3=>?_⟩;unfold iE at e2;rw[OI] at e2;cases q:sub[j]? with
  |none=>rw[q] at e2;cases e2
  |
   some o=>
   rw[q] at e2;cases o with
   |none=>cases e2
   |
    some i=>
    obtain⟨hNi,hfree⟩:=f_ j i x q e1;have e2':(σ[i]?).bind id=some v:=OE e2;have e2'':σ[i]?=some (some v):=by
     cases z:σ[i]? with
     |none=>rw[z] at e2';cases e2'
     |some y=>rw[z] at e2';rw[show y=some v from e2']
    obtain⟨m2,hn2,hl2⟩:=I2.loc;have hkx:=l_ (x,.free) (Pe hfree) rfl;obtain⟨u,r,l⟩:=hl2 i x v hNi e2'' (by rcases hkx with z |z;exact .inr (.inl z);exact .inr (.inr z));refine⟨u,r,.inr ⟨?_,?_⟩⟩
    .rcases e3
      with z |z |z
     .exfalso;have gen:∀(names:List (Str×NameKind)),names.lookup x=some .free->(names.map λ(n,k)=>if (k==NameKind.free&&X.env.scope.kind == .function&&X.env.kindOf n==some .cell) then (n,NameKind.cell) else (n,k)).lookup x=some .local->False:=by
       intro names;induction names with
       |nil=>intro e _;simp at e
       |
        cons y r ih=>
        intro e1 e2;obtain⟨n,k⟩:=y;rw[Pq] at e1;rw[B_,Pq] at e2;by_cases hxn:x=n
        .have hb1:(x==n)=true:=OX.mpr hxn;rw[hb1] at e1;have:k=.free:=OE e1;subst this;split at e2
         .rename_i hq;split at e2 <;> cases e2
         .rename_i hq;split at hq <;> (rw[hb1] at hq;cases hq)
        .have hb1:(x==n)=false:=Oy.mpr hxn;rw[hb1] at e1;refine ih e1 ?_;split at e2
         .rename_i hq;split at hq <;> (rw[hb1] at hq;cases hq)
         .exact e2
      exact gen scope.names hfree z
     .exact .inl z
     .exact .inr z
    .obtain⟨c,hc'⟩:=hclf (x,.free) (Pe hfree) rfl;refine⟨c,hc',?_⟩;rcases l with ⟨k,_⟩ |⟨_,c2,ec2,z⟩
     .rcases hkx with z |z <;> (rw[k] at z;cases z)
     .have:=hcl x c hc'
      rw[ec2] at this;cases this;obtain⟨oc,hoc,hd⟩:=z;exact⟨oc,old _ _ hoc,hd⟩
 have pinD:∀{σ':St}{H':Hp}{s':Shared}{pl:Rb}{o:Obj},Inv Y pl σ' H' s'->s'.heap.get? s2.heap.objs.size=some o->(∀v,o.data ≠ .cell v)->H' s2.heap.objs.size=none->Inv Y [(s2.heap.objs.size,o)] σ' H' s':=λ{σ' H' s' pl o} IY e d n=>
  IY.pins_of λp hp=>by
   have e':p=(s2.heap.objs.size,o):=by simpa using hp
   subst e';refine⟨e,n,?_,?_,d⟩
   .show s2.heap.objs.size≠G2.objs.size;omega
   .intro hf;have hf':s2.heap.objs.size∈frs X.stack:=hf;obtain⟨_,o',ho',_⟩:=I2.stack.mem hf';exact absurd (E_ ho') (O8 _)
 have fpY:∀{H':Hp}{pl:Rb},(∀b∈fp,H' b=none)->(∀p∈pl,p.1∉fp)->∀b∈fp,FpOk Y pl H' b:=λ{H' pl} hn hp b hb=>by
  refine⟨hn b hb,?_,?_,.inl hb,λx c e=>?_,λp hp'=>?_⟩
  .exact (okY.exf b hb).1
  .exact okY.exfs b hb
  .exact (okY.exf b hb).2 x c e
  .intro z;have hp'':p∈pl:=by simpa [Y,bL] using hp'
   exact hp p hp'' (by rw[z];exact hb)
 have hDfp:s2.heap.objs.size∉fp:=λz=>O8 _ (fpOld _ z);have loop
  : ∀s₃:Shared,s₃={ s2 with heap:=h₁,toks:=s2.toks+([]:List (Str×Value)).length }->
  codeAny (model X.prog X.w) X.A (.compLoop (.ListComp g_ [⟨tg,a_,ifs,0⟩] scope pos) 0 (.ref it) (.ref s2.heap.objs.size) (compEnvC scope cl G2.objs.size X.env))
   (compPost (model X.prog X.w) X.A X.xe use R (.ref s2.heap.objs.size) G2.objs.size) s₃:=by
  rintro s₃ rfl;have IY0:Inv Y [(s2.heap.objs.size,{ cls:=.type "list",dict:=none,data:=.seq ([]:List Value).toArray })] (iE sub σ) H2 { s2 with heap:=h₁,toks:=s2.toks+([]:List (Str×Value)).length }:=by
   have J0:Inv Y [] (iE sub σ) H2 { s2 with heap:=h₁,toks:=s2.toks+([]:List (Str×Value)).length }:=by
    refine⟨okY,rfl,I2.bare,Un.kept old,startLoc,λx c e=>?_,I2.hok.fresh (by show s2.heap.objs.size<=G2.objs.size;omega),λx c e=>I2.freeC x c (hcl x c e),λp hp=>absurd (show p∈([]:Rb) from hp) (by simp),I2.hok.kept old,?_⟩
    .obtain⟨v,oc,hoc,hd⟩:=I2.cell x c (hcl x c e);exact⟨v,oc,old _ _ hoc,hd⟩
    .show (iE sub σ).length=N.length;unfold iE;rw[v_];exact p_
   exact pinD J0 hD₁ (λv z=>by cases z) I2.fresh
  refine vf (λn s'=>∃(i:Nat) (ys:List V) (its:List Value) (k:Nat) (σ':St) (H':Hp),Inv Y [(s2.heap.objs.size,{ cls:=.type "list",dict:=none,data:=.seq its.toArray k })] σ' H' s'/\Vals ys its/\tn i s'.heap/\(∀b∈fp,H' b=none)/\W i n ys σ' H') ?_ m0
   ⟨0,[],[],0,iE sub σ,H2,IY0,.nil,T.keep _ _ _ st2 (λb hb o e=>old b o e),λb hb=>(f2 b hb).1,w0⟩
  rintro n s3 ⟨i,ys,its,k,σ3,H3,I3,rv,st3,fr3,w3⟩;have npl:∀(o:Obj),∀p∈[(s2.heap.objs.size,o)],p.1∉fp:=λo p hp=>by
   have e':p=(s2.heap.objs.size,o):=by simpa using hp
   subst e';exact hDfp
  rcases turn i n ys σ3 H3 w3 with ⟨stop,hz,qn⟩ |⟨go,hz,Nx,hNx,step⟩
  .refine OV (T.done Y rfl rfl rfl hc i _ s3 σ3 H3 (λ_ _=>False) I3 (fpY fr3 (npl _)) st3 stop) (λr s4 ⟨hr,I4⟩=>?_) λ_ _ z=>z;subst hr;obtain⟨m4,hn4,_⟩:=I4.loc;have hCfree:H3 G2.objs.size=none:=I4.free;have hD4:=I4.pin (s2.heap.objs.size,{ cls:=.type "list",dict:=none,data:=.seq its.toArray k }) (OK _ C_);have un4:Un (frs X.stack) fp H2 H3 s2.heap s4.heap:=I4.base;have ne2:∀b o,s2.heap.get? b=some o->b≠G2.objs.size:=λb o e=>(below b (E_ e)).1;have hDfree:H3 s2.heap.objs.size=none:=hD4.2.1;have sz0:X.s₀.heap.objs.size<=s2.heap.objs.size:=I2.sz;refine i_ s2.heap.objs.size G2.objs.size s4 ⟨⟨m4,hn4⟩,by rw[hC];exact Nat.lt_succ_self _,I2.lt,λx c e=>?_,λp hp=>E_ (I2.pin p hp).1,sz0,upd H3 s2.heap.objs.size (.lst ys),by rw[bR (Ne.symm hDC)];exact hCfree,qn _ hDfree,λh' hs'=>?_⟩
   .obtain⟨v,q⟩:=I2.cell x c e;exact q.lt
   have up:∀b o,b≠G2.objs.size->s4.heap.get? b=some o->h'.get? b=some o:=λb o hb e=>hs'.extBut b o hb e;have un5:Un (frs X.stack) fp H2 H3 s2.heap h':=by
    refine⟨λb o e n hb hx=>up b o (ne2 b o e) (un4.keep b o e n hb hx),λb o e n hb hx=>?_,un4.free,λb o e hx=>?_,un4.tups,un4.frzs,un4.tbls⟩
    .obtain⟨sl,q⟩:=un4.slot b o e n hb hx;exact⟨sl,up b _ (ne2 b o e) q⟩
    .obtain⟨o',q⟩:=un4.there b o e hx;exact⟨o',up b _ (ne2 b o e) q⟩
   have hok5:HOk X.prog X.w H3 h':=λb u e=>(I4.hok b u e).stay (λc v hcc q=>up c v (λz=>by
    rcases hcc with zz |zz
    .rw[zz] at z;rw[z,hCfree] at e;cases e
    .rw[z,hCfree] at zz;cases zz) q) (λ_ q=>q) λ_ _ q=>q
   have I5:Inv X pins σ H3 { s4 with heap:=h' }:=I2.call' (s':={ s4 with heap:=h' }) (ch:=fp) I4.os un5 hok5 I4.bare λb hb=>by obtain⟨_,g1,_,g3,g4,g5⟩:=f2 b hb;exact⟨g3,g1,g4,g5⟩
   refine I5.track (o:=.lst ys) hDfree (Qv sz0) (Qf I2.lt) (λx c e z=>?_) (λp hp z=>?_) ?_
   .obtain⟨v,q⟩:=I2.cell x c e;exact absurd q.lt (by rw[z];exact O8 _)
   .exact absurd (E_ (I2.pin p hp).1) (by rw[z];exact O8 _)
   .exact⟨hz,its,k,rv,up _ _ hDC hD4.1⟩
  .refine OV (T.item Y rfl rfl rfl hc i _ s3 σ3 H3 (λ_ _=>False) I3 (fpY fr3 (npl _)) st3 go) (λr s4 ⟨u,hr,h4⟩=>?_) λ_ _ z=>z;subst hr;refine OV h4 (λ_ s5 ⟨x,H5,I5,r5,y5,st5,fr5⟩=>?_) λ_ _ z=>z;have I5':=I5.pinned (fpY fr5 (npl _)) (T.obj _ _ st5);refine OV (hg cl G2.objs.size s2 H2 fp _ s5 σ3 H5 x u _ I5' r5 (step x H5 y5)) (λ_ s6 ⟨σ6,H6,I6,q6⟩=>?_) λ_ _ z=>z;refine OV (ht cl G2.objs.size s2 H2 fp _ s6 σ6 H6 _ I6 q6) (λok s7 ⟨H7,I7,q7⟩=>?_) λ_ _ z=>z;have back:∀{σ':St}{H':Hp}{s':Shared},Inv Y ([(s2.heap.objs.size,{ cls:=.type "list",dict:=none,data:=.seq its.toArray k })]++lY fp s5.heap) σ' H' s'->tn (i+1) s'.heap/\∀b∈fp,H' b=none:=λ{σ' H' s'} IB=>by refine⟨T.keep _ _ _ st5 λb hb o e=>(IB.pin (b,o) (OK _ (OK _ (je hb e)))).1,λb hb=>?_⟩;obtain⟨o,e,d⟩:=T.obj _ _ st5 b hb;exact (IB.pin (b,o) (OK _ (OK _ (je hb e)))).2.1
   cases ok with
   |false=>rw[if_neg A_] at q7;obtain⟨m',hm,w7⟩:=hNx _ _ _ q7;rw[if_neg A_];obtain⟨t7,f7⟩:=back I7;exact⟨m',hm,i+1,ys,its,k,σ6,H7,I7.unpinned,rv,t7,f7,w7⟩
   |
    true=>
    rw[if_pos rfl] at q7;rw[if_pos rfl];refine OV (he cl G2.objs.size s2 H2 fp _ s7 σ6 H7 _ I7 q7) (λy s8 ⟨yv,H8,I8,r8,q8⟩=>?_) λ_ _ z=>z;obtain⟨m',hm,w8⟩:=hNx _ _ _ q8;obtain⟨t8,f8⟩:=back I8;have I9:=I8.unpinned;have hD9:=I9.pin (s2.heap.objs.size,{ cls:=.type "list",dict:=none,data:=.seq its.toArray k }) (OK _ C_);have e9:s8.heap.get? s2.heap.objs.size=some { cls:=.type "list",dict:=none,data:=.seq its.toArray k }:=hD9.1;have c_:=rv.length;refine call_meets F.slot_list_append ⟨_,e9,rfl⟩ F.entry_list_append (F.args_list_append_2 _ _) (PySem.list_append _ its.toArray k y (by rw[Oz];omega)) ⟨e9,?_⟩;have q9:=PySem.IsL.update e9 (λxs=>xs.push y);have ea:its.toArray.push y=(its++[y]).toArray:=by simp
    rw[ea] at q9;have k9:∀b o,b≠s2.heap.objs.size->s8.heap.get? b=some o->(s8.heap.update s2.heap.objs.size (Obj.mapSeq λxs=>xs.push y)).get? b=some o:=λb o hb e=>(Heap.get?_update_other _ _ (Ne.symm hb)).trans e;have I10:Inv Y [] σ6 H8 { s8 with heap:=s8.heap.update s2.heap.objs.size (Obj.mapSeq λxs=>xs.push y) }:=
     (I9.pins_of (pins':=[]) (λp hp=>nomatch hp)).turned (t':=s8.toks) k9 hD9.2.1 hD9.2.2.1 (.inr (z_ _)) (λx c e z=>absurd (cellOld x c e) (by rw[z];exact O8 _))
      (λp hp=>absurd (show p∈([]:Rb) from hp) (by simp))
    refine⟨m',hm,i+1,ys++[yv],its++[y],_,σ6,H8,pinD I10 q9 (λv z=>by cases z) hD9.2.1,rv.append (.cons r8 .nil),?_,f8,w8⟩;exact T.keep _ _ _ t8 λb hb o e=>k9 b o (λz=>hDfp (by rw[<- z];exact hb)) e
 exact codeAny_compStart_list (loop _ rfl) (T.self _ 0 _ _ _ (T.keep _ _ _ st2 λb hb o e=>old b o e) (loop _ rfl))
def zd{g_ a_ tg:Expr}{ifs:List Expr}{scope:Scope}{pos:Pos}{wi:TI}{g:TG}{tc:TT}{te:TE}{N:List Str}{sub:Rg}
 (hc:X.calm=true) (hi:PI X tg a_ wi)
 (hk:scope.kind=.function) (o_:∀x∈scope.names,x.2 ≠ .cell) (b_:∀x∈scope.names,x.2=.local->scope.names.lookup x.1=some .local)
 (l_:∀x∈scope.names,x.2=.free->X.env.kindOf x.1=some .cell\/X.env.kindOf x.1=some .free)
 (p_:sub.length=N.length) (f_:∀(j i:Nat) (x:Str),sub[j]?=some (some i)->N[j]?=some x->X.N[i]?=some x/\scope.names.lookup x=some .free)
 (hg:∀cl C s₂ H fp,PG (bL X N scope cl C s₂ H fp) tg g) (ht:∀cl C s₂ H fp,PTs (bL X N scope cl C s₂ H fp) ifs tc) (he:∀cl C s₂ H fp,PE (bL X N scope cl C s₂ H fp) g_ te)
 (hs:∀x,foldedSetIterable a_ X.env x=pure x):
 PE X (.ListComp g_ [⟨tg,a_,ifs,0⟩] scope pos) (jF wi sub g tc te):=by
 intro pins s σ H Q I h;rw[eval_ListComp];refine v8 hc hi hk o_ b_ l_ p_ f_ hg ht he hs I h λD C s4 e=>?_;obtain⟨m,hm⟩:=e.ns;obtain⟨H',_,q,i⟩:=e.inv;exact⟨m,hm,λh' hs'=>⟨.ref D,H',i h' hs',rfl,q⟩⟩
noncomputable def eI(M:List Str)(names:List (Str×NameKind))(sub:Rg)(N:List Str):Bool:=(sub.zip N).all λp=>match p.1 with
 |none=>true
 |some i=>M[i]?==some p.2&&names.lookup p.2==some .free
def kW{M:List Str}{names:List (Str×NameKind)}{sub:Rg}{N:List Str}(h:eI M names sub N=true)(j i:Nat)(x:Str)(h1:sub[j]?=some (some i))(h2:N[j]?=some x):
 M[i]?=some x/\names.lookup x=some .free:=by
 unfold eI at h;rw[OA] at h;have hm:(some i,x)∈sub.zip N:=by refine PH (i:=j) ?_;rw[List.getElem?_zip_eq_some];exact⟨h1,h2⟩
 have q:=h _ hm;simp only[D_,OX] at q;exact q
noncomputable def fP(kn names:List (Str×NameKind)):Bool:=names.all λx=>x.2 != .free || kn.lookup x.1==some .cell || kn.lookup x.1==some .free
def mX{kn names:List (Str×NameKind)}(h:fP kn names=true):∀x∈names,x.2=.free->kn.lookup x.1=some .cell\/kn.lookup x.1=some .free:=λx hx hf=>by unfold fP at h;rw[OA] at h;have q:=h x hx;rw[hf] at q;simpa using q
def FT{g_ a_ tg c:Expr}{scope:Scope}{pos:Pos}{wi:TI}{g:TG}{tc:TT}{te:TE}(M:List Str)(kn:List (Str×NameKind))(N:List Str)(sub:Rg)
 (hc:X.calm=true) (hi:PI X tg a_ wi)
 (hg:∀cl C s₂ H fp,PG (bL X N scope cl C s₂ H fp) tg g) (ht:∀cl C s₂ H fp,PT (bL X N scope cl C s₂ H fp) c tc) (he:∀cl C s₂ H fp,PE (bL X N scope cl C s₂ H fp) g_ te)
 (hM:X.N=M) (hkn:X.env.scope.names=kn) (f_:eI M scope.names sub N=true)
 (hk:scope.kind=.function) (o_:∀x∈scope.names,x.2 ≠ .cell) (b_:∀x∈scope.names,x.2=.local->scope.names.lookup x.1=some .local)
 (l_:fP kn scope.names=true)
 (p_:sub.length=N.length) (hs:∀x,foldedSetIterable a_ X.env x=pure x):
 PE X (.ListComp g_ [⟨tg,a_,[c],0⟩] scope pos) (jF wi sub g tc te):=
 zd hc hi hk o_ b_ (by subst hkn;exact mX l_) p_ (by subst hM;exact kW f_) hg (λcl C s₂ H fp=>wg (ht cl C s₂ H fp)) he hs
def Ls{g_ a_ tg:Expr}{scope:Scope}{pos:Pos}{wi:TI}{g:TG}{te:TE}(M:List Str)(kn:List (Str×NameKind))(N:List Str)(sub:Rg)
 (hc:X.calm=true) (hi:PI X tg a_ wi)
 (hg:∀cl C s₂ H fp,PG (bL X N scope cl C s₂ H fp) tg g) (he:∀cl C s₂ H fp,PE (bL X N scope cl C s₂ H fp) g_ te)
 (hM:X.N=M) (hkn:X.env.scope.names=kn) (f_:eI M scope.names sub N=true)
 (hk:scope.kind=.function) (o_:∀x∈scope.names,x.2 ≠ .cell) (b_:∀x∈scope.names,x.2=.local->scope.names.lookup x.1=some .local)
 (l_:fP kn scope.names=true)
 (p_:sub.length=N.length) (hs:∀x,foldedSetIterable a_ X.env x=pure x):
 PE X (.ListComp g_ [⟨tg,a_,[],0⟩] scope pos) (jF wi sub g A5 te):=
 zd hc hi hk o_ b_ (by subst hkn;exact mX l_) p_ (by subst hM;exact kW f_) hg (λcl C s₂ H fp=>xa) he hs
end
open PySem PySem.Spec PyProof.Rows PySem.W PySem.Builtin PySem.Builtin.ObjectAttr PySem.Builtin.Getset_descriptor
structure XCls(K:W.Frag)(C:Addr):Prop where
 cls:(clsIn K C).isSome=true
 ga:findIn K (.ref C) "__getattribute__"=some (some (.builtin "BaseException.__getattribute__"))
 gt:findIn K (.ref C) "__getattr__"=some none
 at_:findIn K (.ref C) "__class__"=some (some (.builtin "object.__class__"))
 gs:specialIn K (.builtin "object.__class__") "__get__"=some (some (.builtin "getset_descriptor.__get__"))
 tk:takesIn K (.builtin "object.__class__")=some true
 mo:mroIn K C (.type "object")=some true
 mb:mroIn K C (.type "BaseException")=some true
section
variable{prog:Program}{w:World}{A:Around}{E:Rf}{K:W.Frag}{x C:Addr}{o:Obj}
def lu(hx:h.get? x=some o)(hc:o.cls=.ref C):Looks M h (typeOf (.ref x)) (.ref C):=hc ▸ (Looks.ld hx).andThen .now
def CF(X:K.In h)(T:XCls K C):Looks M h (find (.ref x) (.ref C) "__class__") (.bind (.builtin "getset_descriptor.__get__") (.builtin "object.__class__")):=by have L1:=looks_findIn (M:=M) X T.at_;have L2:Looks M h (getOf (some (.builtin "object.__class__"))) (some (.builtin "getset_descriptor.__get__")):=looks_specialIn X T.gs;have L3:=looks_takesIn (M:=M) X T.tk;refine L1.andThen (L2.andThen ?_);exact (show Looks M h (dataDescriptor? (some (.builtin "object.__class__")) (some (.builtin "getset_descriptor.__get__"))) (some (.builtin "getset_descriptor.__get__",.builtin "object.__class__")) from L3.andThen .now).andThen (Looks.tag .now)
def sx(X:K.In s.heap)(hx:s.heap.get? x=some o)(hc:o.cls=.ref C)(T:XCls K C)
 (h:R (.ok (.ret (.ref C))) s):codeAny (model prog w) A (.call (.builtin "getset_descriptor.__get__") ⟨[.builtin "object.__class__",.ref x,tp],[]⟩) R s:=by
 obtain⟨hh,g,dr,t,os⟩:=s;have L0:=lu (M:=model prog w) hx hc;have L1:=looks_mroIn (M:=model prog w) X T.mo;refine codeAny_call_builtin KF.slot_gs.plain KF.entry_gs (KF.slot_gs.check _ _ _ _ _ _ _ _ KF.type_class (KF.args_gs _ _ _) ?_);unfold Builtin.«getset_descriptor.__get__» descrGet;rw[dga_obj];refine w_ (G_ ?_);unfold descrGetter descrCheckInstance descrNameAndClass isInstance;simp only[KF.owner_class];repeat lk
 refine⟨Code.quiet_builtin _ (by decide),codeAny_builtin KF.entry_class ?_⟩;unfold Builtin.«object.__class__» shownTypeOf;repeat lk
 exact h
def zh(X:K.In s.heap)(hx:s.heap.get? x=some o)(hc:o.cls=.ref C)(T:XCls K C)(hq:Q () s):
 wpAny M A (checkBuiltinCall "BaseException.__getattribute__" ⟨[.ref x,nameV],[]⟩) Q E s:=by
 obtain⟨h,g,dr,t,os⟩:=s;have hk:builtinKind "BaseException.__getattribute__"=some .slot:=by decide
 have hsplit:splitId "BaseException.__getattribute__"=some ("BaseException", "__getattribute__"):=by decide
 have ha:=PySem.F.args_bexc_ga (.ref x) nameV;have L0:=lu (M:=M) hx hc;have LM:=looks_mroIn (M:=M) X T.mb;have LI:Looks M h (isInstance (.ref x) (.type "BaseException")) true:=L0.andThen LM;simp only[checkBuiltinCall,hk,hsplit];refine w_ ?_;refine LI.at ?_;repeat (first |wp_step)
 all_goals exact hq
def IZ(X:K.In s.heap)(hx:s.heap.get? x=some o)(hc:o.cls=.ref C)(T:XCls K C)(h:Q (some (.ref C)) { s with toks:=s.toks+1 }):
 wpAny (model prog w) A (getAttr? (.ref x) "__class__") Q E s:=by
 obtain⟨hh,g,d,t,os⟩:=s;have L0:=lu (M:=model prog w) hx hc;have L1:=looks_findIn (M:=model prog w) X T.ga;have L2:=looks_findIn (M:=model prog w) X T.gt;have LF:=CF (M:=model prog w) (x:=x) X T;have f3:=PySem.F.excAttr_ValueError.ga.bind (.ref x);have hx2:(Value.builtin "BaseException.__getattribute__" == Value.builtin "object.__getattribute__")=false:=by decide
 unfold getAttr? getAttrBy? getAttrBy;refine w_ (wpAny_mkText (w_ (QM (PU (w_ (L0.at (w_ (L1.at ?_))))))));dsimp only;rw[if_neg (by rw[hx2];simp)];unfold getAttrByItsOwn hookBefore;rw[if_pos (show onTheHeap (Value.ref C)=true from rfl)];refine w_ (L2.at ?_);unfold callGetattribute;refine w_ (QM (PU ?_));rw[if_neg (by simp)];unfold boundAndCalled;refine w_ (wpAny_of_eq f3 ?_);refine wpAny_call (codeAny_call_builtin PySem.F.excAttr_ValueError.ga.plain PySem.F.entry_bexc_ga (zh X hx hc T ?_));unfold Builtin.«object.__getattribute__»;repeat (first |(refine w_ (L0.at ?_)) |(refine w_ (LF.at ?_)) |wp_step)
 refine sx (s:=⟨hh,g,d,t+1,os⟩) X hx hc T ?_;repeat (first |exact h |wp_step)
def BA(x:Addr)(C:Addr)(h:Heap):Prop:=∃o vs,h.get? x=some o/\o.cls=.ref C/\o.data=.fields vs
def A8(T:XCls K C):KitX K (.ref x) (.ref C) (BA x C) where
 ty:=λM h _ ⟨o,_,hx,hc,_⟩=>lu hx hc
 it:=λM h X _=>by
  obtain⟨cd,hcd⟩:=Pb.mp T.cls;unfold clsIn at hcd;split at hcd
  .rename_i c' d' cd' sl' ho;intro A' Q' E' s' k q;unfold isType loadHead;exact w_ (wpAny_loadPart (k _ _ (X _ _ ho)) (G_ q))
  .cases hcd
 ne:=λh tp dd its n sl X htp=>by
  obtain⟨cd,hcd⟩:=Pb.mp T.cls;refine Bool.eq_false_iff.mpr λq=>?_;have e:C=tp:=Value.ref.inj (OX.mp q);subst e;unfold clsIn at hcd;split at hcd
  .rename_i c' d' cd' sl' ho;have z:=(X _ _ ho).symm.trans htp;cases z
  .cases hcd
 ca:=λX ⟨o,_,hx,hc,_⟩ k=>IZ X hx hc T k
end
inductive TyX(K:W.Frag)(H:Hp):V->Value->Prop where
 |of {x:V}{t:Value} (h:TyOf K H x t):TyX K H x t
 |exc {a C:Addr} (e:H a=some (.ext (BA a C))) (T:XCls K C):TyX K H (.ref a) (.ref C)
 |sqT {a:Addr}{xs:List V} (h:SqT K H a xs):TyX K H (.ref a) (.type "tuple")
 |sqL {a:Addr}{xs:List V} (h:SqL K H a xs):TyX K H (.ref a) (.type "list")
section
variable{X:Cx}{pins:Rb}{σ:St}{H:Hp}{s:Shared}{c:Value}
def wc(I:Inv X pins σ H s)(rx:RelV x u)(ty:TyX X.K H x t):∃Hh:Heap->Prop,KitX X.K u t Hh/\Hh s.heap/\u ≠ .builtin "__main__.__loader__#opaque":=by
 cases ty with
 |exc ea T=>cases (show u=Value.ref _ from rx);exact⟨_,A8 T,(I.hok _ _ ea).1,λz=>nomatch z⟩
 |sqT h=>cases (show u=Value.ref _ from rx);obtain⟨its,rv,⟨o,e,c,_⟩,_⟩:=I.tuple h;exact⟨_,kitx_tuple,⟨o,e,c⟩,λz=>nomatch z⟩
 |sqL h=>cases (show u=Value.ref _ from rx);obtain⟨its,rv,⟨o,n,e,c,_⟩,_⟩:=I.list h;exact⟨_,kitx_list,⟨o,e,c⟩,λz=>nomatch z⟩
 |
  of ty=>
  cases ty with
  |non=>cases (show u=Value.none from rx);exact⟨_,kitx_none,True.intro,λz=>nomatch z⟩
  |bl y=>cases (show u=Value.bool y from rx);exact⟨_,kitx_bool,True.intro,λz=>nomatch z⟩
  |int i=>obtain⟨t,q⟩:=(show ∃t,u=Value.int i t from rx);cases q;exact⟨_,kitx_int,True.intro,λz=>nomatch z⟩
  |str y=>obtain⟨t,q⟩:=(show ∃t,u=Value.str y t from rx);cases q;exact⟨_,kitx_str,True.intro,λz=>nomatch z⟩
  |flt y=>obtain⟨t,q⟩:=(show ∃t,u=Value.float y t from rx);cases q;exact⟨_,kitx_float,True.intro,λz=>nomatch z⟩
  |@lst a xs ea=>cases (show u=Value.ref a from rx);obtain⟨_,_,n,_,h1⟩:=(show ObjOk X.prog X.w H s.heap a (.lst xs) from I.hok a _ ea);exact⟨_,kitx_list,⟨_,h1,rfl⟩,λz=>nomatch z⟩
  |@frz a ob xs ea=>cases (show u=Value.ref a from rx);obtain⟨_,_,_,n,_,h1⟩:=(show ObjOk X.prog X.w H s.heap a (.frz ob (.lst xs)) from I.hok a _ ea);exact⟨_,kitx_list,⟨_,h1,rfl⟩,λz=>nomatch z⟩
  |@tup a xs ea=>cases (show u=Value.ref a from rx);obtain⟨_,_,_,p⟩:=(show ObjOk X.prog X.w H s.heap a (.tup xs) from I.hok a _ ea);obtain⟨o,h1,h2,_⟩:=p;exact⟨_,kitx_tuple,⟨o,h1,h2⟩,λz=>nomatch z⟩
  |@dK a kvs ea=>cases (show u=Value.ref a from rx);obtain⟨_,_,vs,_,p⟩:=(show ObjOk X.prog X.w H s.heap a (.dK kvs) from I.hok a _ ea);obtain⟨o,es,ep,h1,h2,_⟩:=p;exact⟨_,kitx_dict,⟨o,h1,h2.1⟩,λz=>nomatch z⟩
  |@dT a kvs ea=>cases (show u=Value.ref a from rx);obtain⟨_,_,xs,_,o,es,ep,h1,h2,_⟩:=(show ObjOk X.prog X.w H s.heap a (.dT kvs) from I.hok a _ ea);exact⟨_,kitx_dict,⟨o,h1,h2.1⟩,λz=>nomatch z⟩
  |@ins a C dx fs ea cl ha hn htk hm=>cases (show u=Value.ref a from rx);obtain⟨mA,O,_⟩:=EE I.hok ea;obtain⟨od,J,_⟩:=O.look;exact⟨_,kitx_own (cl.get _) cl.hd ha hn htk hm,J,λz=>nomatch z⟩
end
section
variable{X:Cx}
noncomputable def gL:V->Option Value
 |.ref C=>some (.ref C)
 |.ty T=>some (.type T)
 |_=>none
def tN(h:gL c=some v)(r:RelV c u):u=v:=by
 cases c with
 |ref C=>cases r;exact OE h
 |ty T=>cases r;exact OE h
 |_=>cases h
theorem sj:∀{cs:List V}{us vs:List Value},cs.mapM gL=some vs->Vals cs us->us=vs
 |
  [],_,vs,h,.nil=>by
  have h':some ([]:List Value)=some vs:=h;exact OE h'
 |
  c::cs,_,vs,h,.cons r rr=>by
  rw[P5] at h;cases q:gL c with
  |none=>rw[q] at h;cases h
  |
   some v=>
   rw[q] at h;cases q2:cs.mapM gL with
   |none=>rw[q2] at h;cases h
   |some vs'=>rw[q2] at h;have h':some (v::vs')=some vs:=h;cases h';rw[tN q r,sj q2 rr]
def C3:CallR X (.builtin "isinstance") (λxs H Q=>∃x c t v b,xs=[x,c]/\TyX X.K H x t/\gL c=some v/\kitOne X.K t v=some b/\Q (.bl b) H):=by intro pins s σ H xs us Q I r h;obtain⟨x,c,t,v,b,rfl,ty,hc,hk,q⟩:=h;obtain⟨u,w',rfl,rx,rc⟩:=xF r;obtain rfl:=tN hc rc;obtain⟨Hh,Z,p,hne⟩:=wc I rx ty;exact kia_one Z I.kIn p hk hne λtk=>⟨.bl b,H,I.tok _,rfl,q⟩
end
def ObjOk.there(x:ObjOk P w H h a o):∃u,h.get? a=some u:=by
 cases o with
 |lst xs=>obtain⟨_,_,_,_,e⟩:=x;exact⟨_,e⟩
 |tup xs=>obtain⟨_,_,_,ob,e,_⟩:=x;exact⟨_,e⟩
 |dK kvs=>obtain⟨_,_,_,_,o,_,_,e,_⟩:=x;exact⟨_,e⟩
 |dT kvs=>obtain⟨_,_,_,_,o,_,_,e,_⟩:=x;exact⟨_,e⟩
 |set S n=>obtain⟨o,_,_,_,e,_⟩:=x;exact⟨_,e⟩
 |ins C dx fs=>obtain⟨_,_,_,e,_⟩:=x;exact⟨_,e⟩
 |own y=>exact x
 |xd fs=>obtain⟨_,⟨_,_,_,e,_⟩,_⟩:=x;exact⟨_,e⟩
 |rng lo hi=>obtain⟨_,_,_,e⟩:=x;exact⟨_,e⟩
 |frz ob u=>obtain⟨e,_⟩:=x;exact⟨_,e⟩
 |tbl ps=>exact⟨_,show h.get? a=some _ from x⟩
 |met f y=>exact⟨_,show h.get? a=some _ from x⟩
 |ext φ=>obtain⟨_,e,_⟩:=x;exact e
structure Fly(P:Program)(w:World)(outer:List Env)(H:Hp)(h₀:Heap)(H':Hp)(ea:Addr)(cls:Value)(h:Heap)(B:Heap)(t:Addr):Prop where
 un:Un (frs outer) [] H H' h₀ h
 hok:HOk P w H' h
 fl:Heap.FlyingW B outer ea cls (.ref t) h
 old:∀b o,h₀.get? b=some o->b∉frs outer->∃o',B.get? b=some o'
 trk:∀b o,H' b=some o->∃o',B.get? b=some o'
def CX1(P:Program)(w:World):CXT:=λouter H s E e s'=>∃(ea t:Addr) (cls:Value) (H':Hp) (B:Heap),e=.ref ea/\s'.os=s.os/\AllBare s'.gens/\Fly P w outer H s.heap H' ea cls s'.heap B t/\E cls none H'
def tI(h:env.frame=some L):frs (env::outer)=L::frs outer:=by unfold frs;rw[Pm,h]
section
variable{P:Program}{w:World}{outer:List Env}{H H':Hp}{h₀ h h' B:Heap}{ea t:Addr}{cls:Value}
def Fly.step(F:Fly P w outer H h₀ H' ea cls h B t)(fl':Heap.FlyingW B outer' ea cls (.ref t) h')(up:h.UpToSlots h'):
 Un (frs outer) [] H H' h₀ h'/\HOk P w H' h':=by
 have st:=F.fl.1;have same:∀b o,(∃o',B.get? b=some o')->h.get? b=some o->h'.get? b=some o:=λb o ⟨o',e⟩ q=>by have z:=st b o' e;rw[q] at z;cases z;exact fl'.1 b _ e
 have frame:∀b o,b∈frs outer->h.get? b=some o->∃sl,h'.get? b=some { o with slots:=sl }:=λb o hb q=>by obtain⟨_,o',ho',hd⟩:=F.fl.2.2.1.mem hb;rw[q] at ho';cases ho';exact up b o q hd
 refine⟨⟨λb o e n hb hx=>same b o (F.old b o e hb) (F.un.keep b o e n hb hx),λb o e n hb hx=>?_,F.un.free,λb o e hx=>?_,F.un.tups,F.un.frzs,F.un.tbls⟩,λa o e=>?_⟩
 .obtain⟨sl,q⟩:=F.un.slot b o e n hb hx;obtain⟨sl',q'⟩:=frame b _ hb q;exact⟨sl',q'⟩
 .obtain⟨o',q⟩:=F.un.there b o e hx;by_cases hb:b∈frs outer
  .obtain⟨sl,q'⟩:=frame b _ hb q;exact⟨_,q'⟩
  .exact⟨o',same b o' (F.old b o e hb) q⟩
 .refine (F.hok a o e).stay (λb u hb q=>same b u ?_ q) (λ_ q=>q) λ_ _ q=>q;rcases hb with z |z
  .rw[z];exact F.trk a o e
  .exact F.trk b _ z
end
structure Cx.Top(X:Cx):Prop where
 ex:X.ex=[]
 stk:X.stack=X.env::X.outer
 fr:X.env.frame=some X.env.locals
section
variable{X:Cx}{pins:Rb}{σ:St}{H:Hp}{s s':Shared}{E:XK}{e:Value}
def Ax(T:X.Top)(hA:A.frames=some X.stack)(I:Inv X pins σ H s)(h:CX1 X.prog X.w X.stack H s E e s'):
 wpAny (model X.prog X.w) A (leaving X.env e) (λ_ s''=>CX1 X.prog X.w X.outer X.H₀ X.s₀ E e s'') E' s':=by
 obtain⟨ea,t,cls,H',B,rfl,os,bare,F,q⟩:=h;have F0:=F;rw[T.stk] at F;have hf:=tI (outer:=X.outer) T.fr;refine wpAny_leaves_onW (by rw[hA,T.stk]) T.fr F.fl λh'' fl'' up=>?_;obtain⟨un2,hok2⟩:=F.step fl'' up;have exn:∀b,b∉X.ex:=λb z=>by rw[T.ex] at z;cases z
 have neL:∀b o,X.s₀.heap.get? b=some o->b≠X.env.locals:=λb o e=>OF (K_ (E_ e) I.ok.above);have notin:∀b o,X.s₀.heap.get? b=some o->b∉frs X.outer->b∉frs (X.env::X.outer):=λb o e hb z=>by
  rw[hf] at z;rcases N_.mp z with z |z
  .exact neL b o e z
  .exact hb z
 refine⟨ea,t,cls,H',B,rfl,os.trans I.os,bare,⟨⟨λb o e n hb hx=>?_,λb o e n hb hx=>?_,λb o e n hx=>?_,λb o e hx=>?_,λb xs e=>un2.tups b xs (I.base.tups b xs e),λb o xs e=>un2.frzs b o xs (I.base.frzs b o xs e),λb ps e=>?_⟩,hok2,fl'',λb o e hb=>?_,F.trk⟩,q⟩
 .exact un2.keep b o (I.base.keep b o e n hb (exn b)) (I.base.free b o e n (exn b)) (notin b o e hb) (by simp)
 .obtain⟨sl,e1⟩:=I.base.slot b o e n hb (exn b);obtain⟨sl',e2⟩:=un2.slot b _ e1 (I.base.free b o e n (exn b)) (by rw[hf];exact y_ _ hb) (by simp);exact⟨sl',e2⟩
 .obtain⟨o',e1⟩:=I.base.there b o e (exn b);exact un2.free b o' e1 (I.base.free b o e n (exn b)) (by simp)
 .obtain⟨o',e1⟩:=I.base.there b o e (exn b);exact un2.there b o' e1 (by simp)
 .obtain⟨m1,e1⟩:=I.base.tbls b ps e;obtain⟨m2,e2⟩:=un2.tbls b _ e1;exact⟨m1++m2,by rw[e2,Array.append_assoc]⟩
 .obtain⟨o',e1⟩:=I.base.there b o e (exn b);exact F.old b o' e1 (notin b o e hb)
def Ba(T:X.Top)(hA:A.frames=some X.stack)(I:Inv X pins σ H s)(hx:Heap.MadeExcOf s.heap h' ea cls args)(q:E cls none H):
 wpAny (model X.prog X.w) A (leaving X.env (.ref ea)) (λ_ s''=>CX1 X.prog X.w X.outer X.H₀ X.s₀ E (.ref ea) s'') E' { s with heap:=h' }:=by
 have hf:=tI (outer:=X.outer) T.fr;have stk:=I.stack;rw[T.stk] at stk;have hin:∀env∈(X.env::X.outer),∀b,env.frame=some b->b∈frs (X.env::X.outer):=λenv he b hb=>List.mem_filterMap.mpr ⟨env,he,hb⟩;refine wpAny_leaves_madeW (base:=W.hideAll s.heap (frs (X.env::X.outer))) (h:=s.heap) (by rw[hA,T.stk]) T.fr (λb o q=>W.of_hideAll _ q) (W.funFrames_hide stk hin) hx λh'' t fl tup tn up=>?_;have inB:∀b o,s.heap.get? b=some o->b∉frs (X.env::X.outer)->(W.hideAll s.heap (frs (X.env::X.outer))).get? b=some o:=λb o e hb=>W.hideAll_get _ e hb;have free:∀b∈frs (X.env::X.outer),H b=none:=λb hb=>I.stkFree b (by rw[T.stk];exact hb);have up2:s.heap.UpToSlots h'':=(Heap.UpToSlots.of_keeps hx.keeps).trans up;have exn:∀b,b∉X.ex:=λb z=>by rw[T.ex] at z;cases z
 have neL:∀b o,X.s₀.heap.get? b=some o->b≠X.env.locals:=λb o e=>OF (K_ (E_ e) I.ok.above);have notin:∀b o,X.s₀.heap.get? b=some o->b∉frs X.outer->b∉frs (X.env::X.outer):=λb o e hb z=>by
  rw[hf] at z;rcases N_.mp z with z |z
  .exact neL b o e z
  .exact hb z
 have trk:∀b o,H b=some o->∃o',(W.hideAll s.heap (frs (X.env::X.outer))).get? b=some o':=λb o e=>by obtain⟨u,hu⟩:=(I.hok b o e).there;exact⟨u,inB b u hu λz=>by rw[free b z] at e;cases e⟩
 refine⟨ea,t,cls,H,_,rfl,I.os,I.bare,⟨⟨λb o e n hb hx=>?_,λb o e n hb hx=>?_,λb o e n hx=>?_,λb o e hx=>?_,I.base.tups,I.base.frzs,I.base.tbls⟩,λa o e=>?_,fl,λb o e hb=>?_,trk⟩,q⟩
 .exact fl.1 b o (inB b o (I.base.keep b o e n hb (exn b)) (notin b o e hb))
 .obtain⟨sl,e1⟩:=I.base.slot b o e n hb (exn b);obtain⟨_,o',ho',hd⟩:=I.ok.funs.mem hb;rw[e] at ho';cases ho';obtain⟨sl',e2⟩:=up2 b _ e1 hd;exact⟨sl',e2⟩
 .exact I.base.free b o e n (exn b)
 .obtain⟨o',e1⟩:=I.base.there b o e (exn b);by_cases hb:b∈frs X.outer
  .obtain⟨_,o2,ho2,hd⟩:=I.funs.mem hb;rw[e1] at ho2;cases ho2;obtain⟨sl',e2⟩:=up2 b _ e1 hd;exact⟨_,e2⟩
  .exact⟨o',fl.1 b o' (inB b o' e1 (notin b o e hb))⟩
 .refine (I.hok a o e).stay (λb u hb q=>?_) (λ_ q=>q) λ_ _ q=>q;refine fl.1 b u (inB b u q λz=>?_);rcases hb with y |y
  .rw[y] at z;rw[free a z] at e;cases e
  .rw[free b z] at y;cases y
 .obtain⟨o',e1⟩:=I.base.there b o e (exn b);exact⟨o',inB b o' e1 (notin b o e hb)⟩
end
section
variable{P:Program}{w:World}{K:W.Frag}{mg:Ra}{base:Heap}{N:List Str}{qual:Str}{scope:Scope}{f:Addr}{cd:Value}{A:Around}{outer:List Env}{s:Shared}{H:Hp}{E:XK}
def Eg:(fJ (CX1 P w) P w K mg base N qual scope f cd A outer s H E).Top:=⟨rfl,rfl,rfl⟩
def Ot:uQ (CX1 P w) (fJ (CX1 P w) P w K mg base N qual scope f cd A outer s H E) E:=λpins σ H s e s' I h=>Ax Eg I.ok.frames I h
def MU:uQ (CX1 P w) X E0:=λpins σ H s e s' I ⟨_,_,_,_,_,_,_,_,_,q⟩=>q.elim
def lW:PassesOwn (model P w) (fJ (CX1 P w) P w K mg base N qual scope f cd A outer s H E).A (fJ (CX1 P w) P w K mg base N qual scope f cd A outer s H E).env (fJ (CX1 P w) P w K mg base N qual scope f cd A outer s H E).xe:=PassesOwn.leaving
def Rz(X:Cx)(E:XK):Prop:=∀(pins:Rb) (σ:St) (H:Hp) (s:Shared) (h':Heap) (ea:Addr) (cls:Value) (args:List Value),Inv X pins σ H s->Heap.MadeExcOf s.heap h' ea cls args->E cls none H->X.xe (.ref ea) { s with heap:=h' }
def rz1:Rz (fJ (CX1 P w) P w K mg base N qual scope f cd A outer s H E) E:=λpins σ H s h' ea cls args I hx q=>Ba Eg I.ok.frames I hx q
def Fun.okR{x qual:Str}{st:Stmt}{f:Addr}{fd:FuncData}{N ps:List Str}{k:Nat}{sp:Sp}(F:Fun K x qual st f fd)(S:FnScope N ps (bF st))(len:∀vs H Q E,sp vs H Q E->vs.length=ps.length)
 (j_:∀(cdv:Value) (A:Around) (outer:List Env) (s:Shared) (H:Hp) (vs:List V) (Q:VK) (E:XK),Room k (A.deeper (envOfC qual (bF st) s.heap.objs.size f cdv))->sp vs H Q E->
  ∃t,PSs (fJ (CX1 P w) P w K mg base N qual (bF st) f cdv A outer s H E) (cC st) t/\t { nx:=λ_ H'=>Q .non H',rt:=Q } (gQ N vs) H):FnOk P w K mg base (CX1 P w) (k+1) f fd ps sp:=by
 obtain⟨oc,od,kV,doc,pm,an,cdv,ct,osl,rfl,lk,hcd⟩:=F.ex;exact Mx lk hcd S len λA outer s H vs Q E hr hsp=>j_ cdv A outer s H vs Q E hr hsp
end
abbrev nz:List Value:=[.type "ValueError",.type "Exception",.type "BaseException",.type "object"]
def zT{K:W.Frag}{h:Heap}{C:Addr}(X:K.In h)(q:W.excIn K C nz "ValueError.__new__"=true):
 ∃bm N nm q' bs hdct sn sub ab col dd k0 k1 k2 k3 k5 mN,h.get? C=some (excClassObj nm q' C N bs bm hdct sn sub ab col dd k0 k1 k2 k3 k5 "ValueError.__new__")/\h.Ns N mN/\mN "__init__"=none/\OwnTail h nz bm:=by
 unfold W.excIn at q;split at q
 .rename_i dd cd sl ho;split at q
  .rename_i C' bm k0 k1 k2 k3 n k5 hm hs;simp only[D_,OX,Bool.not_eq_true'] at q;obtain⟨⟨⟨⟨⟨rfl,rfl⟩,hdel⟩,ht⟩,hok⟩,hni⟩:=q;obtain⟨nm,bs,mro,ns,qn,hd,sn,sub,ab,col,del⟩:=cd;dsimp only at hm hdel hok hni;subst hm hdel;have p_:sl=#[k0,k1,k2,k3,some (.builtin "ValueError.__new__"),k5]:=by obtain⟨l⟩:=sl;simp only at hs;rw[hs]
   subst p_;exact⟨bm,ns,nm,qn,bs,hd,sn,sub,ab,col,dd,k0,k1,k2,k3,k5,_,X _ _ ho,.of_isNs (W.isNs_of_in X hok),W.nsMap_none_of_in X hok hni,W.tail_of_in X ht⟩
  .cases q
 .cases q
section
variable{X:Cx}{x:Str}{C:Addr}{E:XK}{np cpos pos:Pos}{e₀:Expr}{es:List Expr}{ta:TA}
def HX(C:Addr)(E:XK)(ta:TA):TS:=λ_ σ H=>ta σ H λvs H1=>vs.length<=sizeLine/\E (.ref C) none H1
def CT(hc:X.calm=true)(hR:Rz X E)(hg:Gl X x)(hm:X.mg x=some (.ref C))(hq:W.excIn X.K C nz "ValueError.__new__"=true)(ha:PA X (e₀::es) ta)
 (he:starEach (e₀::es) X.env=(false,eval e₀ X.env)::starEach es X.env) (j':(backTo cpos (starEach es X.env)).any (·.1)=false) (hd:(x==("__debug__" : Str))=false):
 PS X (.Raise (some (.Call (.Name x np) (e₀::es) [] cpos)) none pos) (HX C E ta):=by
 intro pins s σ H D I h;obtain⟨bm,N,nm,q',bs,hdct,sn,sub,ab,col,dd,k0,k1,k2,k3,k5,mN,hC,hN,hni,T⟩:=zT I.ok.mod.kin hq;refine wpAny_Raise_call_subT (C:=C) (nm:=nm) (q:=q') (N:=N) (bs:=bs) (bm:=bm) (hdct:=hdct) (sn:=sn) (sub:=sub) (ab:=ab) (col:=col) (dd:=dd) (k0:=k0) (k1:=k1) (k2:=k2) (k3:=k3) (k5:=k5)
  PySem.F.excBase_ValueError (mN:=mN) (T.hasType PySem.F.excBase_ValueError.hasBase) (I.ok.hd hc) (by rw[he];show (false || (backTo cpos (starEach es X.env)).any (·.1))=false;rw[j'];rfl) hni (qP I hg hm ⟨rfl,?_⟩ hd)
 have hA:=ha cpos pins s σ H _ I h;rw[he] at hA ⊢;refine Calls.evalArgs_plain (thn hA λus s2 ⟨vs,H2,I2,r2,hz,q2⟩=>⟨rfl,by rw[<- r2.length];exact hz,I2.bk _ _ hC,hN.keeps I2.bk,T.keeps I2.bk,λh' e hm'=>?_⟩);exact hR pins σ H2 s2 h' e _ _ I2 hm' q2
end
abbrev XS:=St->XK
abbrev TEx:=St->Hp->VK->XK->Prop
abbrev TSx:=Ends->XS->St->Hp->Prop
def XP(X:Cx)(pins:Rb)(E:XS)(e:Value)(s':Shared):Prop:=∃σ1 H1 s1,Inv X pins σ1 H1 s1/\CX1 X.prog X.w X.stack H1 s1 (E σ1) e s'
def PEx(X:Cx)(e:Expr)(t:TEx):Prop:=
 ∀(pins:Rb) (s:Shared) (σ:St) (H:Hp) (Q:VK) (E:XS),Inv X pins σ H s->t σ H Q (E σ)->wpAny (model X.prog X.w) X.A (eval e X.env) (EP X pins σ Q) (XP X pins E) s
structure XHand(K:W.Frag)(C:Addr):Prop where
 ty:W.typeIn K (.ref C)=some (.type "type")
 cls:(W.clsIn K C).isSome=true
 mb:W.mroIn K C (.type "BaseException")=some true
mutual
inductive Rep(K:W.Frag)(H:Hp):V->PyData->Prop where
 |non:Rep K H .non .none
 |bl (b:Bool):Rep K H (.bl b) (.bool b)
 |int (i:Int):Rep K H (.int i) (.int i)
 |str (x:Str):Rep K H (.str x) (.str x)
 |tup {a:Addr}{xs:List V}{ds:List PyData} (h:SqT K H a xs) (r:Reps K H xs ds):Rep K H (.ref a) (.tuple ds)
 |lst {a:Addr}{xs:List V}{ds:List PyData} (h:SqL K H a xs) (r:Reps K H xs ds):Rep K H (.ref a) (.list ds)
inductive Reps(K:W.Frag)(H:Hp):List V->List PyData->Prop where
 |nil:Reps K H [] []
 |cons {x:V}{d:PyData}{xs:List V}{ds:List PyData} (r:Rep K H x d) (rr:Reps K H xs ds):Reps K H (x::xs) (d::ds)
end
section
variable{X:Cx}{pins:Rb}{σ:St}{H:Hp}{s:Shared}{K:W.Frag}
def Rep.reads(I:Inv X pins σ H s)(r:Rep X.K H v d)(q:RelV v u):∃as,Reads s.heap u d as:=
 Rep.rec (motive_1:=λv d _=>∀u,RelV v u->∃as,Reads s.heap u d as) (motive_2:=λvs ds _=>∀us,Vals vs us->∃as,ReadsAll s.heap us ds as)
  (λu r=>by cases r;exact⟨_,.none⟩) (λb u r=>by cases r;exact⟨_,.bool b⟩) (λi u r=>by obtain⟨t,rfl⟩:=r;exact⟨_,.int i t⟩) (λx u r=>by obtain⟨t,rfl⟩:=r;exact⟨_,.str x t⟩)
  (λh _ ih u r=>by cases r;obtain⟨its,rv,⟨o,e,c,n,d⟩,_⟩:=I.tuple h;obtain⟨as,q⟩:=ih _ rv;exact⟨as,.tuple e c d (by simpa using q)⟩)
  (λh _ ih u r=>by cases r;obtain⟨its,rv,⟨o,n,e,c,_,d⟩,_⟩:=I.list h;obtain⟨as,q⟩:=ih _ rv;exact⟨_,.list e c d (by simpa using q)⟩)
  (λus r=>by cases r;exact⟨_,.nil⟩)
  (λ_ _ a b us q=>by
   cases q with
   |cons q1 q2=>obtain⟨as,h1⟩:=a _ q1;obtain⟨bs,h2⟩:=b _ q2;exact⟨_,.cons h1 h2⟩) r u q
end
section
variable{X:Cx}
noncomputable def shp(d:PyData):Bool:=d.canLay0&&decide (d.depth<=160)
def mV(h:shp d=true):d.canLay0=true:=(Bool.and_eq_true_iff.mp h).1
def ud{A:Around}{d e:PyData}(h:shp d=true)(hu:A.units+180<cLine):A.units+min d.depth e.depth<cLine:=by have h1:d.depth<=160:=of_decide_eq_true (Bool.and_eq_true_iff.mp h).2;have h2:min d.depth e.depth<=d.depth:=Nat.min_le_left _ _;omega
def yK(K:W.Frag):R2:=λx y H Q=>∃dx dy,Rep K H x dx/\Rep K H y dy/\shp dx=true/\shp dy=true/\Q (.bl (PyData.eqv dx dy)) H
def yH(K:W.Frag):R2:=λx y H Q=>∃dx dy,Rep K H x dx/\Rep K H y dy/\shp dx=true/\shp dy=true/\Q (.bl (!PyData.eqv dx dy)) H
def GZ(hu:X.A.units+180<cLine):OpR X (compareOp .Eq) (yK X.K):=by intro pins s σ H x y v u Q I rx ry h;obtain⟨dx,dy,r1,r2,h1,h2,q⟩:=h;obtain⟨as,q1⟩:=r1.reads I rx;obtain⟨bs,q2⟩:=r2.reads I ry;exact SeqAt.compareEq_reads q1 q2 (mV h1) (mV h2) (ud h1 hu) (ml I q rfl)
def Ll(hu:X.A.units+180<cLine):OpR X (compareOp .NotEq) (yH X.K):=by intro pins s σ H x y v u Q I rx ry h;obtain⟨dx,dy,r1,r2,h1,h2,q⟩:=h;obtain⟨as,q1⟩:=r1.reads I rx;obtain⟨bs,q2⟩:=r2.reads I ry;exact SeqAt.compareNe_reads q1 q2 (mV h1) (mV h2) (ud h1 hu) (ml I q rfl)
open PySem.Builtin.Int (intBits)
def CDivB(i j:Int):Prop:=j≠0/\intBits j<=8000
def DC(i j:Int):Prop:=intBits i<=100000/\intBits j<=100000
def Co:OpR X (binaryOp .FloorDiv) (rI CDivB λi j=>.int (i.fdiv j)):=opI λi j _ _ _ _ _ hc q=>floordiv_int hc.1 q (.inl (PyProof.noPylong_of_log2 (by
 have h:=hc.2;have h0:=hc.1;unfold intBits at h;have hb:(j==0)=false:=by simpa using h0
 rw[hb] at h;simp only[PV,Qs] at h;omega)))
def Gi:OpR X (binaryOp .Mult) (rI DC λi j=>.int (i*j)):=opI λi j _ _ _ _ _ hc q=>mul_int q (PySem.IntMulOk.of_le hc.1 hc.2 (by decide))
def Ar(bs:List Bool):((List.range bs.length).all λi=>bs.getD i false)=bs.all id:=by
 rw[Bool.eq_iff_iff,OA,OA];constructor
 .intro h x hx;obtain⟨i,hi,rfl⟩:=List.mem_iff_getElem.mp hx
  have:=h i (QI.mpr hi)
  simpa [O7,hi] using this
 .intro h i hi;have hi':=QI.mp hi
  have:=h bs[i] (List.getElem_mem hi')
  simpa [O7,hi'] using this
def Bs(hc:X.calm=true):CallR X (.builtin "all") (λxs H Q=>∃(a:Addr) (bs:List Bool),xs=[.ref a]/\SqL X.K H a (bs.map V.bl)/\Q (.bl (bs.all id)) H):=by
 intro pins s σ H xs us Q I r h;obtain⟨a,bs,rfl,hq,q⟩:=h;obtain⟨u,rfl,ru⟩:=k8 r;cases ru;obtain⟨its,rv,p,hz⟩:=I.list hq;have hl:=rv.length;rw[v_] at hl;have hlt:a<s.heap.objs.size:=by obtain⟨o,n,e,_⟩:=p;exact E_ e
 refine call_all_walk (wpAny_pyIter_list p.isList ?_);refine⟨s.heap.objs.size,_,_,_,_,_,λi=>bs.getD i false,rfl,Walks.list (A:=X.A.in1) (I.ok.hd hc) s.heap.objs.size a (OF hlt) its.toArray,⟨⟨_,M_ _ rfl,rfl,rfl⟩,(p.keeps λb o e=>Em _ e).isList⟩,λi v s' Q' E' hP hQ=>?_,λh' tk hk=>?_⟩
 .have hP':its[i]?=some v:=by simpa using hP
  have hi:i<bs.length:=by rw[hl];exact (x_.mp hP').1
  have hb:(bs.map V.bl)[i]?=some (V.bl bs[i]):=by simp [hi]
  obtain⟨u,hu,ru⟩:=rv.get hb;rw[hP'] at hu;cases hu;cases ru;refine P2 ?_;have e:bs.getD i false=bs[i]:=by simp [O7,hi]
  show Q' bs[i] s';rw[<- e];exact hQ
 .have e1:its.toArray.size=bs.length:=by rw[Oz,hl]
  rw[e1,Ar];have hn:H s.heap.objs.size=none:=I.fresh;have I1:Inv X pins σ H { s with heap:=s.heap.push { cls:=.type "list_iterator",dict:=none,data:=.fields #[.ref a,rawInt 0] } }:=I.kept (t':=s.toks) λb o e=>Em _ e;refine⟨.bl _,H,?_,rfl,q⟩;refine I.kept (t':=tk) λb o e=>?_;have hne:b≠s.heap.objs.size:=OF (E_ e);exact hk b o (by simpa using hne) (Em _ e)
end
structure Def(K:W.Frag)(mg:Ra)(x:Str)(st:Stmt):Prop where
 ex:∃f fd,Fun K x x st f fd/\mg x=some (.ref f)
def zJ{K:W.Frag}{h:Heap}{mg:Ra}{x:Str}{st:Stmt}{f:Addr}{oc:Value}{od an:Option Addr}{osl:Array (Option Value)}{kV doc pm cdv ct:Value}(X:K.In h)(G:h.Ns mainGlobals mg)
 (a:W.nsIn K mainGlobals x=some (some (.ref f))) (l:K.lookup f=some ⟨oc,od,.func (W.fnOf x x (ee st) (cC st) (bF st) .none kV doc pm an cdv ct),osl⟩)
 (c:W.codeIn K cdv x=true) (k:W.keepIn K (.ref f)=true):Def K mg x st:=⟨f,_,Lr l c k,W.mg_of X G a⟩
def Fun.look{K:W.Frag}{x qual:Str}{st:Stmt}{f:Addr}{fd:FuncData}(F:Fun K x qual st f fd):∃oc od osl,K.lookup f=some ⟨oc,od,.func fd,osl⟩:=by obtain⟨oc,od,kV,doc,pm,an,cdv,ct,osl,rfl,lk,hcd⟩:=F.ex;exact⟨oc,od,osl,lk⟩
structure Callee(P:Program)(w:World)(K:W.Frag)(mg:Ra)(base:Heap)(x:Str)(k:Nat)(ps:List Str)(sp:Sp):Prop where
 ex:∃f fd,FnOk P w K mg base (CX1 P w) k f fd ps sp/\mg x=some (.ref f)/\W.keepIn K (.ref f)=true/\Binds K fd ps []/\∃oc od osl,K.lookup f=some ⟨oc,od,.func fd,osl⟩
section
variable{P:Program}{w:World}{K:W.Frag}{mg:Ra}{base:Heap}{x:Str}{st:Stmt}{k:Nat}{ps N:List Str}{sp:Sp}
def Callee.imp(C:Callee P w K mg base x k ps sp)(h:∀vs H Q E,sp' vs H Q E->sp vs H Q E):Callee P w K mg base x k ps sp':=by obtain⟨f,fd,F,r⟩:=C.ex;exact⟨f,fd,F.imp h,r⟩
def Def.okR(D:Def K mg x st)(S:FnScope N ps (bF st))
 (hb:∀(kV doc pm:Value) (an:Option Addr) (cdv ct:Value) (us:List Value),us.length=ps.length->bindArgs (W.fnOf x x (ee st) (cC st) (bF st) .none kV doc pm an cdv ct) ⟨us,[]⟩=pure (ps.zip us))
 (len:∀vs H Q E,sp vs H Q E->vs.length=ps.length)
 (j_:∀(f:Addr) (cdv:Value) (A:Around) (outer:List Env) (s:Shared) (H:Hp) (vs:List V) (Q:VK) (E:XK),Room k (A.deeper (envOfC x (bF st) s.heap.objs.size f cdv))->sp vs H Q E->
  ∃t,PSs (fJ (CX1 P w) P w K mg base N x (bF st) f cdv A outer s H E) (cC st) t/\t { nx:=λ_ H'=>Q .non H',rt:=Q } (gQ N vs) H):Callee P w K mg base x (k+1) ps sp:=by
 obtain⟨f,fd,F,m⟩:=D.ex;exact⟨f,fd,F.okR S len (j_ f),m,F.kp,F.binds hb,F.look⟩
end
section
variable{X:Cx}{K:W.Frag}
def allK(h:X.K=K)(hc:X.calm=true):CallR X (.builtin "all") (λxs H Q=>∃(a:Addr) (bs:List Bool),xs=[.ref a]/\SqL K H a (bs.map V.bl)/\Q (.bl (bs.all id)) H):=by subst h;exact Bs hc
def Room.u180(r:Room k A):A.units+180<cLine:=by have:=r.un;omega
def eqDK(h:X.K=K)(hu:X.A.units+180<cLine):OpR X (compareOp .Eq) (yK K):=by subst h;exact GZ hu
def neDK(h:X.K=K)(hu:X.A.units+180<cLine):OpR X (compareOp .NotEq) (yH K):=by subst h;exact Ll hu
def inK(h:X.K=K):OpR X (compareOp .In) (rIn K false):=by subst h;exact Ai
def Kq(h:X.K=K):OpR X (compareOp .NotIn) (rIn K true):=by subst h;exact tw
end
section
variable{X:Cx}
def Au{g_ a_ tg:Expr}{ifs:List Expr}{scope:Scope}{pos:Pos}{wi:TI}{g:TG}{tc:TT}{te:TE}{N:List Str}{sub:Rg}{iT:Nat}{xT:Str}{px spos:Pos}
 (hc:X.calm=true) (hN:X.N.Nodup) (hix:X.N[iT]?=some xT) (hxl:Loc X.env.scope xT) (hi:PI X tg a_ wi)
 (hk:scope.kind=.function) (o_:∀x∈scope.names,x.2 ≠ .cell) (b_:∀x∈scope.names,x.2=.local->scope.names.lookup x.1=some .local)
 (l_:∀x∈scope.names,x.2=.free->X.env.kindOf x.1=some .cell\/X.env.kindOf x.1=some .free)
 (p_:sub.length=N.length) (f_:∀(j i:Nat) (x:Str),sub[j]?=some (some i)->N[j]?=some x->X.N[i]?=some x/\scope.names.lookup x=some .free)
 (hg:∀cl C s₂ H fp,PG (bL X N scope cl C s₂ H fp) tg g) (ht:∀cl C s₂ H fp,PTs (bL X N scope cl C s₂ H fp) ifs tc) (he:∀cl C s₂ H fp,PE (bL X N scope cl C s₂ H fp) g_ te)
 (hsw:swapsWith (.ListComp g_ [⟨tg,a_,ifs,0⟩] scope pos) (some (.Name xT px)) spos.line X.env=pure true)
 (hs:∀x,foldedSetIterable a_ X.env x=pure x) (hf:X.fn xT=true\/X.env.scope.names.lookup xT=some .local):
 PS X (.Assign [.Name xT px] (.ListComp g_ [⟨tg,a_,ifs,0⟩] scope pos) spos) (vI (jF wi sub g tc te) (oT iT)):=by
 intro pins s σ H D0 I h;rw[exec_Assign_Name_used _ _ _ _ hsw];refine w_ (Qp (w_ ?_));show wpAny _ X.A (do let _ <- comprehension (.ListComp g_ [⟨tg,a_,ifs,0⟩] scope pos) scope X.env _ (newList []) false (eval a_ X.env) (some (assign (.Name xT px) X.env))) _ _ s;refine w_ (OV (v8 (use:=some (assign (.Name xT px) X.env)) (R:=λ_ s'=>SP X pins D0 .next s') hc hi hk o_ b_ l_ p_ f_ hg ht he hs I h λD C s4 e=>?_) (λ_ s' hq=>G_ (G_ hq)) λ_ _ e=>e);obtain⟨m,hm⟩:=e.ns;obtain⟨H',hC,q,i⟩:=e.inv;have dc:=e.dc;have fr:=e.fr;refine wpAny_assign_Name (r9 (v:=.ref D) (i s4.heap ⟨rfl,λ_ _=>rfl⟩) hN hix hxl rfl (λs7 I7 ⟨a7,sb7,ha7⟩=>?_) hf);have ha:a7<D:=by
  rcases ha7 with z |z
  .rw[z];exact fr
  .exact e.cell xT a7 z
 refine⟨m,hm.sameBut sb7 (Qf (Qy ha dc)),λh8 hs8=>⟨_,_,I7.turned (it:=C) (t':=s7.toks) (λb o hb e=>hs8.extBut b o hb e) hC (Qf (Qy fr dc)) (.inr (I_ e.sz (Nat.le_of_lt dc))) (λx c q=>OF (Qy (e.cell x c q) dc)) (λp hp=>OF (Qy (e.pin p hp) dc)),q⟩⟩
def MP{g_ a_ tg:Expr}{scope:Scope}{pos px spos:Pos}{wi:TI}{g:TG}{te:TE}{iT:Nat}{xT:Str}(M:List Str)(kn:List (Str×NameKind))(N:List Str)(sub:Rg)
 (hc:X.calm=true) (hN:X.N.Nodup) (hix:X.N[iT]?=some xT) (hxl:Loc X.env.scope xT) (hi:PI X tg a_ wi)
 (hg:∀cl C s₂ H fp,PG (bL X N scope cl C s₂ H fp) tg g) (he:∀cl C s₂ H fp,PE (bL X N scope cl C s₂ H fp) g_ te)
 (hsw:swapsWith (.ListComp g_ [⟨tg,a_,[],0⟩] scope pos) (some (.Name xT px)) spos.line X.env=pure true)
 (hM:X.N=M) (hkn:X.env.scope.names=kn) (f_:eI M scope.names sub N=true)
 (hk:scope.kind=.function) (o_:∀x∈scope.names,x.2 ≠ .cell) (b_:∀x∈scope.names,x.2=.local->scope.names.lookup x.1=some .local)
 (l_:fP kn scope.names=true)
 (p_:sub.length=N.length) (hs:∀x,foldedSetIterable a_ X.env x=pure x) (hf:X.fn xT=true\/X.env.scope.names.lookup xT=some .local):
 PS X (.Assign [.Name xT px] (.ListComp g_ [⟨tg,a_,[],0⟩] scope pos) spos) (vI (jF wi sub g A5 te) (oT iT)):=
 Au hc hN hix hxl hi hk o_ b_ (by subst hkn;exact mX l_) p_ (by subst hM;exact kW f_) hg (λcl C s₂ H fp=>xa) he hsw hs hf
end
theorem xj:∀{ns:List Int}{its:List Value},Vals (ns.map V.int) its->IntsAre its ns
 | [],_,h=>by cases h;exact .nil
 |
  i::r,_,h=>by
  cases h with
  |cons h1 h2=>obtain⟨t,rfl⟩:=h1;exact .cons i t (xj h2)
def gE{X:Cx}{K:W.Frag}(hK:X.K=K)(hc:X.calm=true):CallR X (.builtin "sum") (λxs H Q=>∃(a:Addr) (ns:List Int),xs=[.ref a]/\SqL K H a (ns.map V.int)/\Q (.int ns.sum) H):=by
 subst hK;intro pins s σ H xs us Q I r h;obtain⟨a,ns,rfl,hq,q⟩:=h;obtain⟨u,rfl,ru⟩:=k8 r;cases ru;obtain⟨its,rv,p,hz⟩:=I.list hq;have hi:=xj rv;obtain⟨ys,hy⟩:=hi.allInts.items;have hn:numsOf its.toArray.toList=ns:=by rw[show its.toArray.toList=its from rfl,hi.numsOf]
 have pl:=p.isList;rw[hy] at pl hn;rw[nums_intItems] at hn;refine sum_intListG (I.ok.hd hc) pl λh' tk t' hk=>?_;rw[preSum_eq,Pt (by simp),hn];exact⟨.int ns.sum,H,I.kept (t':=tk) hk,⟨_,rfl⟩,q⟩
end L2
namespace Fr
noncomputable def dv(a b:Int):Int:=if b<0 then -((Int.gcd a b:Nat):Int) else ((Int.gcd a b:Nat):Int)
def T(a b:Int):Int:=a.fdiv (dv a b)
def B(a b:Int):Int:=b.fdiv (dv a b)
def ub(hb:b≠0):0<Int.gcd a b:=Int.gcd_pos_of_ne_zero_right a hb
def dv_ne(hb:b≠0):dv a b≠0:=by
 have:=ub (a:=a) hb
 unfold dv;split <;> omega
def Bf(a b:Int):dv a b ∣ a:=by
 have h:((Int.gcd a b:Nat):Int) ∣ a:=Int.gcd_dvd_left a b;unfold dv;split
 .exact Int.neg_dvd.mpr h
 .exact h
def Cb(a b:Int):dv a b ∣ b:=by
 have h:((Int.gcd a b:Nat):Int) ∣ b:=Int.gcd_dvd_right a b;unfold dv;split
 .exact Int.neg_dvd.mpr h
 .exact h
def wM{a d q:Int}(hd:d≠0)(h:a=d*q):a.fdiv d=q:=by rw[h,Qd];exact Int.mul_fdiv_cancel q hd
def T_mul(hb:b≠0):T a b*dv a b=a:=by obtain⟨q,h⟩:=Bf a b;have:T a b=q:=wM (dv_ne hb) h;rw[this,Qd];exact h.symm
def B_mul(hb:b≠0):B a b*dv a b=b:=by obtain⟨q,h⟩:=Cb a b;have:B a b=q:=wM (dv_ne hb) h;rw[this,Qd];exact h.symm
def B_pos(hb:b≠0):0<B a b:=by
 have h:=B_mul (a:=a) hb;have hg:=ub (a:=a) hb;generalize hx:B a b=x at h ⊢;unfold dv at h;split at h
 .rename_i hneg;have h2:x*((Int.gcd a b:Nat):Int)=-b:=by rw[Int.mul_neg] at h;omega
  rcases Int.lt_or_le 0 x with z |z
  .exact z
  .have:x*((Int.gcd a b:Nat):Int)<=0:=Int.mul_nonpos_of_nonpos_of_nonneg z (by omega);omega
 .rename_i hpos;rcases Int.lt_or_le 0 x with z |z
  .exact z
  .have:x*((Int.gcd a b:Nat):Int)<=0:=Int.mul_nonpos_of_nonpos_of_nonneg z (by omega);omega
def cross(hb:b≠0):T a b*b=a*B a b:=by have h1:=T_mul (a:=a) hb;have h2:=B_mul (a:=a) hb;generalize T a b=x at *;generalize B a b=y at *;generalize dv a b=d at *;rw[<- h2,<- h1];rw[<- Pj,Qe]
def dv_abs(a b:Int):(dv a b).natAbs=Int.gcd a b:=by unfold dv;split <;> simp
def low(hb:b≠0):Int.gcd (T a b) (B a b)=1:=by
 have h1:=T_mul (a:=a) hb;have h2:=B_mul (a:=a) hb;have hg:=ub (a:=a) hb;have e1:a.natAbs=(T a b).natAbs*Int.gcd a b:=by rw[<- dv_abs a b,<- PL,h1]
 have e2:b.natAbs=(B a b).natAbs*Int.gcd a b:=by rw[<- dv_abs a b,<- PL,h2]
 have e3:Int.gcd a b=Nat.gcd ((T a b).natAbs*Int.gcd a b) ((B a b).natAbs*Int.gcd a b):=by rw[<- e1,<- e2];rfl
 rw[Nat.gcd_mul_right] at e3;show Nat.gcd (T a b).natAbs (B a b).natAbs=1;generalize Nat.gcd (T a b).natAbs (B a b).natAbs=k at *;generalize Int.gcd a b=g at *;have:(1:Nat)*g=k*g:=by omega
 exact (Nat.eq_of_mul_eq_mul_right hg this).symm
def uniq(hy:0<y)(hy':0<y')(h:Int.gcd x y=1)(h':Int.gcd x' y'=1)(e:x*y'=x'*y):x=x'/\y=y':=by
 have c1:Nat.Coprime y.natAbs x.natAbs:=by rw[Nat.coprime_comm];exact h
 have c2:Nat.Coprime y'.natAbs x'.natAbs:=by rw[Nat.coprime_comm];exact h'
 have e1:x.natAbs*y'.natAbs=x'.natAbs*y.natAbs:=by rw[<- PL,<- PL,e]
 have d1:y.natAbs ∣ y'.natAbs:=c1.dvd_of_dvd_mul_left (by rw[e1];exact Nat.dvd_mul_left _ _);have d2:y'.natAbs ∣ y.natAbs:=c2.dvd_of_dvd_mul_left (by rw[<- e1];exact Nat.dvd_mul_left _ _);have ey:y.natAbs=y'.natAbs:=Nat.dvd_antisymm d1 d2;have ey':y=y':=by omega
 subst ey';exact⟨P8 (by omega) e,rfl⟩
def same(hb:b≠0)(hd:d≠0)(e:a*d=c*b):T a b=T c d/\B a b=B c d:=by
 refine uniq (B_pos hb) (B_pos hd) (low hb) (low hd) ?_;have h1:=cross (a:=a) hb;have h2:=cross (a:=c) hd;have hbd:b*d≠0:=Pw hb hd;refine P8 hbd ?_
 calc T a b*B c d*(b*d)=(T a b*b)*(B c d*d):=by rw[Pj,PZ (B c d) b d,<- Pj]
  _=(a*B a b)*(B c d*d):=by rw[h1]
  _=(a*d)*(B c d*B a b):=by rw[Pj a,Pj a,PZ (B a b),PZ d,Qd (B a b) d]
  _=(c*b)*(B c d*B a b):=by rw[e]
  _=(c*B c d)*(B a b*b):=by rw[Pj c,Pj c,PZ b,Qd b (B a b)]
  _=(T c d*d)*(B a b*b):=by rw[<- h2]
  _=T c d*B a b*(b*d):=by rw[Pj,Pj,PZ d,Qd d b]
def self(hb:0<b)(h:Int.gcd a b=1):T a b=a/\B a b=b:=
 uniq (B_pos (by omega)) hb (low (by omega)) h (cross (by omega))
def euc(m n:Nat):Nat.gcd n (m % n)=Nat.gcd m n:=by rw[Nat.gcd_comm,<- Nat.gcd_rec,Nat.gcd_comm]
end Fr
set_option maxHeartbeats 1000000
namespace L2
open PySem PySem.Spec PyProof.Rows
def Inv.turnedL{X:Cx}{pins:Rb}{σ:St}{H:Hp}{s:Shared}{h':Heap}{t':Nat}{ch:List Addr}(I:Inv X pins σ H s)(k:∀b o,b∉ch->s.heap.get? b=some o->h'.get? b=some o)(hf:∀b∈ch,FpOk X pins H b):Inv X pins σ H { s with heap:=h',toks:=t' }:=by
 have away:∀b u,H b=some u->b∉ch:=λb u e z=>by have:=(hf b z).1;rw[e] at this;cases this
 refine I.step (g':=s.gens) (d':=s.drawn) (ch:=ch) (λb hb=>⟨(hf b hb).2.2.2.1,(hf b hb).2.1,(hf b hb).2.2.2.2.1,(hf b hb).2.2.2.2.2⟩) (λb o _ _ hc e _=>k b o hc e) (λb o _ _ hc e _=>⟨o.slots,k b o hc e⟩) (λ_ _ _ _ n=>n)
  (λb o hc e=>⟨o,k b o hc e⟩) (λ_ _ e=>e) (λ_ _ _ e=>e) (λb ps e=>⟨#[],by rw[e];simp⟩) (λm hm=>?_) (λb u e=>?_) I.bare
 .obtain⟨o,es,ep,ho,r⟩:=hm;exact⟨o,es,ep,k _ o (λz=>(hf _ z).2.1 rfl) ho,r⟩
 .refine (I.hok b u e).stay (λc v hc q=>k c v ?_ q) (λ_ q=>q) λ_ _ q=>q;rcases hc with z |z
  .rw[z];exact away b u e
  .exact away c _ z
def FpOk.up(f:FpOk X pins H b)(hn:b≠p):FpOk X pins (upd H p o) b:=⟨by rw[bR hn];exact f.1,f.2⟩
def pK(hj:s.heap.IsTupleIter j t n)(ht:s.heap.IsTuple t its)(hv:its[n]?=some v)
 (k:∀h',h'.IsTupleIter j t (n+1)->Heap.SameBut j s.heap h'->Q v { s with heap:=h' }):wpAny (model prog w) A (Builtin.SmallTypes.nextOf (.ref j)) Q E s:=by
 obtain⟨oj,ej,cj,dj⟩:=id hj;obtain⟨ot,et,_,m,dt⟩:=ht;unfold Builtin.SmallTypes.nextOf;refine w_ (Pl (name:=Str.ofString "__next__") hj.typeIs PB (P7 PB hj.typeIs F.entry_tuple_iterator_next ?_ (F.args_tuple_iterator_next_1 _)));show wpAny _ _ (field (.ref j) 0 >>= _) _ _ s;refine w_ (O5 ej dj (x:=.ref t) rfl ?_);show wpAny _ _ (if (Value.ref t==Value.none)=true then _ else _) _ _ s;rw[if_neg (show ¬ ((Value.ref t==Value.none)=true) from A_)];show wpAny _ _ (field (.ref j) 1 >>= _) _ _ s;refine w_ (O5 ej dj (x:=.int n 0) rfl ?_);show wpAny _ _ (seqItems? (.ref t) >>= _) _ _ s;refine w_ (Pr et dt ?_);simp only[Qk,hv];refine w_ (wpAny_setField ej dj (by simp) (G_ ⟨v,rfl,G_ (k _ ?_ (Heap.SameBut.update ..))⟩));exact⟨_,Heap.get?_update_self _ ej (Obj.isFreed_of_fields (Obj.data_mapFields dj _)),(Obj.cls_mapFields ..).trans cj,by rw[Obj.data_mapFields dj];simp [rawInt]⟩
def kC(hh:A.handled=none)(hj:s.heap.IsTupleIter j t n)(ht:s.heap.IsTuple t its)(hv:its[n]?=none)
 (k:∀h' e,Heap.ExtBut j s.heap h'->(∃o,h'.get? e=some o/\o.cls=.type "StopIteration")->E (.ref e) { s with heap:=h' }):wpAny (model prog w) A (Builtin.SmallTypes.nextOf (.ref j)) Q E s:=by
 obtain⟨oj,ej,cj,dj⟩:=id hj;obtain⟨ot,et,_,m,dt⟩:=ht;unfold Builtin.SmallTypes.nextOf;refine w_ (Pl (name:=Str.ofString "__next__") hj.typeIs PB (P7 PB hj.typeIs F.entry_tuple_iterator_next ?_ (F.args_tuple_iterator_next_1 _)));show wpAny _ _ (field (.ref j) 0 >>= _) _ _ s;refine w_ (O5 ej dj (x:=.ref t) rfl ?_);show wpAny _ _ (if (Value.ref t==Value.none)=true then _ else _) _ _ s;rw[if_neg (show ¬ ((Value.ref t==Value.none)=true) from A_)];show wpAny _ _ (field (.ref j) 1 >>= _) _ _ s;refine w_ (O5 ej dj (x:=.int n 0) rfl ?_);show wpAny _ _ (seqItems? (.ref t) >>= _) _ _ s;refine w_ (Pr et dt ?_);simp only[Qk,hv];refine w_ (wpAny_rule (w_ (wpAny_setField ej dj (by simp) ?_)));show wpAny _ _ (newExc (.type "StopIteration") [] >>= _) _ _ _;refine w_ ?_;simp only[newExc,newTuple];refine w_ (Pc ?_ (by size_fits));refine w_ (m:=firstArgMember _ _) (wpAny_of_eq (a:=Value.none) (by first |rfl |(simp only[firstArgMember];rfl)) ?_);refine Pc ?_ (by size_fits);simp only[raiseNew];refine w_ (wpAny_handled ?_);first |rw[show A.in1.handled=none from hh] |rw[hh]
 refine w_ (G_ (wpAny_throw ?_));exact k _ _ (((Heap.SameBut.update ..).extBut.push _).push _) ⟨_,M_ _ rfl,rfl⟩
def KL(hh:A.handled=none)(j t:Addr)(ne:t≠j)(its:Array Value):Draws prog w A j [j,t] its.size (λi v=>its[i]?=some v) (λi h=>h.IsTupleIter j t i/\h.IsTuple t its) where
 live:=λ_ _ z=>let ⟨o,e,_⟩:=z.1;⟨o,e⟩
 frame:=λ_ _ _ z k=>⟨z.1.at λo e=>k j (by simp) o e,let ⟨o,e,r⟩:=z.2;⟨o,k t (by simp) o e,r⟩⟩
 item:=λi s Q E hi z k=>pK z.1 z.2 (v:=its[i]) (by simp [hi]) λh' z' sb=>k _ h' s.toks (by simp [hi]) ⟨z',let ⟨o,e,r⟩:=z.2;⟨o,(sb.2 t ne).trans e,r⟩⟩ sb
 done:=λs Q E z k=>kC hh z.1 z.2 (by simp) k
def AQ(l:Addr)(its:Array Value)(n:Nat)(dc:Option Addr)(sl:Array (Option Value)):
 Meets (Builtin.«enumerate.__new__» ⟨[.type "enumerate",.ref l],[]⟩) (λ_ R s=>s.heap.get? l=some { cls:=.type "tuple",dict:=dc,data:=.seq its n,slots:=sl }/\
  R
   (.ok (.ret (.ref (s.heap.push { cls:=.type "tuple_iterator",data:=.fields #[.ref l,.int 0 0] }).objs.size)))
   { s with heap:=(s.heap.push { cls:=.type "tuple_iterator",data:=.fields #[.ref l,.int 0 0] }).push { cls:=.type "enumerate",data:=.fields #[.none,.bool false,.ref s.heap.objs.size,rawInt 0,.none,.none] } }):=
 .of_wp λprog w A R s h=>by
  obtain⟨hp,g,d,tk,os⟩:=s;obtain⟨hl,h⟩:=h;have f_:=sub_enumerate;have hT:Heap.IsTuple (Shared.heap ⟨hp,g,d,tk,os⟩) l its:=⟨_,hl,rfl,n,rfl⟩
  wp_walk using Qc hl
  refine wpAny_stack_any λst=>G_ ?_;split
  .rename_i c _ _ _ _ _;cases (c==Value.type "enumerate") <;> (wp_walk using Qc hl,Qi hT;exact⟨_,rfl,h⟩)
  .wp_walk using Qc hl,Qi hT;exact⟨_,rfl,h⟩
def xN(hT:s.heap.IsTuple l its)
 (k:∀h',IsEnum h' (s.heap.objs.size+1) s.heap.objs.size 0 .none->h'.IsTupleIter s.heap.objs.size l 0->h'.objs.size=s.heap.objs.size+2->(∀b o,s.heap.get? b=some o->h'.get? b=some o)->Q (.ref (s.heap.objs.size+1)) { s with heap:=h' }):
 wpAny (model prog w) A (call (.type "enumerate") [.ref l]) Q E s:=by
 obtain⟨⟨c,dc,dt,sl⟩,hl,hc,n,hd⟩:=hT;have hc':c=.type "tuple":=hc;have hd':dt=.seq its n:=hd;subst hc' hd';refine callType_new F.called_enumerate (by decide) (F.typeCall_enumerate_1 _) (F.newCall_enumerate_1 _) (λobj=>F.args_object_init_2 obj _) F.entry_enumerate_new (AQ l its n dc sl) ⟨hl,?_⟩;have z1:(s.heap.push { cls:=.type "tuple_iterator",data:=.fields #[.ref l,.int 0 0] }).objs.size=s.heap.objs.size+1:=PK ..;show _/\_;rw[z1];have he:IsEnum ((s.heap.push { cls:=.type "tuple_iterator",data:=.fields #[.ref l,.int 0 0] }).push { cls:=.type "enumerate",data:=.fields #[.none,.bool false,.ref s.heap.objs.size,rawInt 0,.none,.none] }) (s.heap.objs.size+1) s.heap.objs.size 0 .none:=by have z2:=M_ (s.heap.push { cls:=.type "tuple_iterator",data:=.fields #[.ref l,.int 0 0] }) (o:={ cls:=.type "enumerate",data:=.fields #[.none,.bool false,.ref s.heap.objs.size,rawInt 0,.none,.none] }) rfl;rw[z1] at z2;exact z2
 exact⟨⟨_,he,rfl⟩,k _ he ⟨_,Em _ (M_ _ rfl),rfl,rfl⟩ (by rw[PK,z1]) λb o x=>Em _ (Em _ x)⟩
def SqB(K:W.Frag)(b:Bool)(H:Hp)(a:Addr)(xs:List V):Prop:=match b with
 |true=>SqL K H a xs
 |false=>SqT K H a xs
def ItB(b:Bool)(h:Heap)(j a:Addr)(i:Nat):Prop:=match b with
 |true=>h.IsListIter j a i
 |false=>h.IsTupleIter j a i
def SqB.inj(I:Inv X pins σ H s)(x:SqB X.K b H a xs)(y:SqB X.K b H a ys):xs=ys:=by
 cases b with
 |true=>exact I.list_inj x y
 |false=>exact I.tuple_inj x y
noncomputable def CL(K:W.Frag)(b:Bool)(a:Addr):It:=
 ⟨λi H=>∃xs x,SqB K b H a xs/\xs[i]?=some x,λi H x H'=>∃p u,x=.ref p/\H p=none/\H'=upd H p (.tup [.int (i:Nat),u])/\∀xs,SqB K b H a xs->xs[i]?=some u,λi H=>∃xs,SqB K b H a xs/\xs.length=i⟩
def wd(I:Inv X pins σ H s)(hh:X.A.handled=none)(hq:SqB X.K b H a xs)(hj:ItB b s.heap j a i):
 ∃(its:List Value) (St:Nat->Heap->Prop),Vals xs its/\Draws X.prog X.w X.A.in1 j [j,a] its.length (λi v=>its[i]?=some v) St/\St i s.heap/\(∀i h,St i h->ItB b h j a i)/\∃o n,s.heap.get? a=some o/\o.cls=.type (if b then "list" else "tuple")/\o.data=.seq its.toArray n:=by
 cases b with
 |
  true=>
  obtain⟨its,rv,p,hz⟩:=I.list hq;obtain⟨o,n,e,c,d,ds⟩:=p;have hL:s.heap.IsList a its.toArray:=⟨o,e,c,n,ds⟩;have hj':s.heap.IsListIter j a i:=hj;have ne:a≠j:=λz=>by subst z;obtain⟨o',e',c',_⟩:=hj';rw[e] at e';cases e';rw[c] at c';exact absurd (Value.type.inj c') (by decide)
  have D:=Draws.list (prog:=X.prog) (w:=X.w) (A:=X.A.in1) hh j a ne its.toArray;refine⟨its,λi h=>h.IsListIter j a i/\h.IsList a its.toArray,rv,?_,⟨hj',hL⟩,λ_ _ z=>z.1,o,n,e,c,ds⟩;have e1:its.toArray.size=its.length:=by simp
  have e2:(λ(i:Nat) (v:Value)=>its.toArray[i]?=some v)=λi v=>its[i]?=some v:=by funext i v;simp
  rw[e1,e2] at D;exact D
 |
  false=>
  obtain⟨its,rv,p,hz⟩:=I.tuple hq;have hT:s.heap.IsTuple a its.toArray:=p;obtain⟨o,e,c,n,ds⟩:=id hT;have hj':s.heap.IsTupleIter j a i:=hj;have ne:a≠j:=λz=>by subst z;obtain⟨o',e',c',_⟩:=hj';rw[e] at e';cases e';rw[c] at c';exact absurd (Value.type.inj c') (by decide)
  have D:=KL (prog:=X.prog) (w:=X.w) (A:=X.A.in1) hh j a ne its.toArray;refine⟨its,λi h=>h.IsTupleIter j a i/\h.IsTuple a its.toArray,rv,?_,⟨hj',hT⟩,λ_ _ z=>z.1,o,n,e,c,ds⟩;have e1:its.toArray.size=its.length:=by simp
  have e2:(λ(i:Nat) (v:Value)=>its.toArray[i]?=some v)=λi v=>its[i]?=some v:=by funext i v;simp
  rw[e1,e2] at D;exact D
def jh(z:ItB b h j a i):∃o,h.get? j=some o/\(∀v,o.data ≠ .cell v)/\o.cls=.type (if b then "list_iterator" else "tuple_iterator"):=by
 cases b with
 |true=>obtain⟨o,e,c,d⟩:=z;exact⟨o,e,(λv y=>by rw[d] at y;cases y),c⟩
 |false=>obtain⟨o,e,c,d⟩:=z;exact⟨o,e,(λv y=>by rw[d] at y;cases y),c⟩
def cT(z:ItB b h j a i)(k:∀o,h.get? j=some o->h'.get? j=some o):ItB b h' j a i:=by
 cases b with
 |true=>obtain⟨o,e,r⟩:=z;exact⟨o,k o e,r⟩
 |false=>obtain⟨o,e,r⟩:=z;exact⟨o,k o e,r⟩
def Az{P:Program}{w:World}{K:W.Frag}{elts:List Expr}{x1:Nat}{tp:Pos}(b:Bool)(a e j:Addr)(hej:e≠j):Turn P w K (.Tuple elts x1 tp) (CL K b a) [e,j] e (λi h=>(∃old,IsEnum h e j ((i:Nat):Int) old)/\ItB b h j a i) where
 mem:=by simp
 obj
  := λi h st c hc=>by
  rcases N_.mp hc with rfl |hc
  .obtain⟨old,he⟩:=st.1;exact⟨_,he,λv z=>by cases z⟩
  .have:c=j:=by simpa using hc
   subst this;obtain⟨o,q1,q2,_⟩:=jh st.2;exact⟨o,q1,q2⟩
 keep:=λi h h' st k=>⟨let ⟨old,he⟩:=st.1;⟨old,k e (by simp) _ he⟩,cT st.2 λo q=>k j (by simp) o q⟩
 item:=
  by
  intro X hP hw hK hc i pins s σ H E I hf st hg;subst hP hw hK;obtain⟨xs,x,hq,hx⟩:=hg;obtain⟨⟨old,he⟩,hj⟩:=st;obtain⟨its,St,rv,D,hst,hSt,oa,na,ea,ca,da⟩:=wd I (I.ok.hd hc) hq hj;obtain⟨u,hu,ru⟩:=rv.get hx;have hlt:i<its.length:=(x_.mp hu).1;have hea:e≠a:=λz=>by subst z;rw[he] at ea;cases ea;cases b <;> exact absurd (Value.type.inj ca) (by decide)
  refine wpAny_pyNext_enum_itemD D he hst hlt hej (by simp [hej,hea]) λy h' tk hy heo hst' ht hsz hk=>?_;have:y=u:=by rw[hu] at hy;exact (OE hy).symm
  subst this;refine⟨_,rfl,wpAny_letOwnedTupleGo_enum (s:={ s with heap:=h',toks:=tk+1 }) heo λh2 he2 sb=>?_⟩;have hT:H s.heap.objs.size=none:=I.hok.fresh (z_ _);have hef:=E_ he;obtain⟨oj,q1,_,_⟩:=jh hj;have hjf:=E_ q1;have I1:Inv X pins σ (upd H s.heap.objs.size (.tup [.int (i:Nat),x])) { s with heap:=s.heap.push { cls:=.type "tuple",data:=.seq #[.int (i:Nat) tk,y] },toks:=s.toks }:=
   I.laid (t':=s.toks) (λc o q=>Em _ q) (z_ _) ⟨by show 2<=sizeLine;decide,[.int (i:Nat) tk,y],.cons ⟨tk,rfl⟩ (.cons ru .nil),⟨_,M_ _ rfl,rfl,_,rfl⟩⟩
  have sb':Heap.SameBut e h' h2:=sb;have I2:Inv X pins σ (upd H s.heap.objs.size (.tup [.int (i:Nat),x])) { s with heap:=h2,toks:=tk+1 }:=
   Inv.turnedL (s:={ s with heap:=s.heap.push { cls:=.type "tuple",data:=.seq #[.int (i:Nat) tk,y] },toks:=s.toks }) (ch:=[e,j]) (t':=tk+1) I1 (λc o hc' q=>by
    have c1:c≠e:=λz=>hc' (by simp [z]);have c2:c≠j:=λz=>hc' (by simp [z]);rw[sb'.2 c c1];by_cases z:c=s.heap.objs.size
    .subst z;have q':(s.heap.push { cls:=.type "tuple",data:=.seq #[.int (i:Nat) tk,y] }).get? s.heap.objs.size=some o:=q;rw[M_ _ rfl] at q';cases q';exact ht
    .refine hk c o c1 c2 ?_;have q':(s.heap.push { cls:=.type "tuple",data:=.seq #[.int (i:Nat) tk,y] }).get? c=some o:=q;rw[Heap.get?_push_ne _ _ _ z] at q';exact q') λc hc'=>by
    rcases N_.mp hc' with rfl |hc'
    .exact (hf c (by simp)).up (OF hef)
    .have:c=j:=by simpa using hc'
     subst this;exact (hf c (by simp)).up (OF hjf)
  refine⟨.ref s.heap.objs.size,_,I2,rfl,⟨_,x,rfl,hT,rfl,λys hy'=>by rw[SqB.inj I hy' hq];exact hx⟩,⟨⟨y,he2⟩,cT (hSt _ _ hst') λo q=>(sb'.2 j (Ne.symm hej)).trans q⟩,λc hc'=>?_⟩;rcases N_.mp hc' with rfl |hc'
  .exact ((hf c (by simp)).up (OF hef)).1
  .have:c=j:=by simpa using hc'
   subst this;exact ((hf c (by simp)).up (OF hjf)).1
 done:=by
  intro X hP hw hK hc i pins s σ H E I hf st hg;subst hP hw hK;obtain⟨xs,hq,hx⟩:=hg;obtain⟨⟨old,he⟩,hj⟩:=st;obtain⟨its,St,rv,D,hst,hSt,oa,na,ea,ca,da⟩:=wd I (I.ok.hd hc) hq hj;have hl:=rv.length;subst hx;rw[hl] at hst;refine wpAny_pyNext_enum_endD D he hst λh' eb=>⟨rfl,Inv.turnedL (ch:=[j]) (t':=s.toks) I (λc o hc' q=>eb c o (λz=>hc' (by simp [z])) q) λc hc'=>?_⟩;have:c=j:=by simpa using hc'
  subst this;exact hf c (by simp)
 self:=λ_ _ _ _ _ st h=>let ⟨_,he⟩:=st.1;wpAny_pyIter_enum he h
def Gx(hg:Gl X "enumerate")(hm:X.mg "enumerate"=none)(ha:PA X [l] tl)(hs:starEach [l] X.env=[(false,eval l X.env)]):
 PI X (.Tuple elts x1 tp) (.Call (.Name "enumerate" p) [l] [] pos) (λσ H R=>tl σ H λvs H1=>∃(b:Bool) (a:Addr) (xs:List V),vs=[.ref a]/\SqB X.K b H1 a xs/\R (CL X.K b a) H1):=by
 intro pins s σ H R I h;refine Call_ (gH I hg hm boot_enumerate (OY (thn (ha pos pins s σ H _ I h) λus s1 ⟨vs,H1,I1,r1,q1⟩=>?_) hs rfl));obtain⟨b,a,xs,e,hq,q⟩:=q1;subst e;cases r1 with
 |
  cons r rr=>
  cases rr;cases r;have i_:∀h',IsEnum h' (s1.heap.objs.size+1) s1.heap.objs.size 0 .none->ItB b h' s1.heap.objs.size a 0->(∀c o,s1.heap.get? c=some o->h'.get? c=some o)->
   wpAny (model X.prog X.w) X.A (pyIter (.ref (s1.heap.objs.size+1))) (PIE X pins σ (.Tuple elts x1 tp) R) X.xe { s1 with heap:=h' }:=λh' he hj hk=>by
   refine wpAny_pyIter_enum he ⟨s1.heap.objs.size+1,[s1.heap.objs.size+1,s1.heap.objs.size],_,_,H1,rfl,I1.kept (t':=s1.toks) λc o z=>hk c o z,Az b a _ _ (Nat.succ_ne_self _),⟨⟨.none,he⟩,hj⟩,λc hc=>?_,q⟩;rcases N_.mp hc with rfl |hc
   .exact I1.fpOk (Nat.le_succ _) (I1.hok.fresh (Nat.le_succ _))
   .have:c=s1.heap.objs.size:=by simpa using hc
    subst this;exact I1.fpOk (z_ _) (I1.hok.fresh (z_ _))
  cases b with
  |true=>obtain⟨its,rv,pp,hz⟩:=I1.list hq;exact call_enumerate_list pp.isList λh' he hit _ hk=>i_ h' he hit hk
  |false=>obtain⟨its,rv,pp,hz⟩:=I1.tuple hq;exact xN (show s1.heap.IsTuple a its.toArray from pp) λh' he hit _ hk=>i_ h' he hit hk
def LsB(b:Bool)(h:Heap)(a:Addr)(its:Array Value):Prop:=match b with
 |true=>h.IsList a its
 |false=>h.IsTuple a its
def LsB.keep(z:LsB b h a its)(k:∀o,h.get? a=some o->h'.get? a=some o):LsB b h' a its:=by cases b <;> (obtain⟨o,e,r⟩:=z;exact⟨o,k o e,r⟩)
def xG(hj:ItB b s.heap j a n)(ht:LsB b s.heap a its)(hv:its[n]?=some v)
 (k:∀h',ItB b h' j a (n+1)->Heap.SameBut j s.heap h'->Q v { s with heap:=h' }):wpAny (model prog w) A (Builtin.SmallTypes.nextOf (.ref j)) Q E s:=by
 cases b with
 |true=>exact wpAny_nextOf_list_item hj ht hv k
 |false=>exact pK hj ht hv k
def rA(hh:A.handled=none)(hj:ItB b s.heap j a n)(ht:LsB b s.heap a its)(hv:its[n]?=none)
 (k:∀h' e,Heap.ExtBut j s.heap h'->(∃o,h'.get? e=some o/\o.cls=.type "StopIteration")->E (.ref e) { s with heap:=h' }):wpAny (model prog w) A (Builtin.SmallTypes.nextOf (.ref j)) Q E s:=by
 cases b with
 |true=>exact wpAny_nextOf_list_end hh hj ht hv k
 |false=>exact kC hh hj ht hv k
section
variable{prog:Program}{w:World}{A:Around}{E:Rf}{s:Shared}{b1 b2:Bool}{z p q j1 j2 a1 a2:Addr}{n:Nat}{xs ys:Array Value}{x y u v:Value}
def zipN{Q:Rf}(D:ZipApart z p q j1 j2 a1 a2)(hz:IsZip s.heap z p q .none)(hp:IsPair s.heap p (.ref j1) (.ref j2))(hq:IsPair s.heap q u v)
 (i1:ItB b1 s.heap j1 a1 n) (i2:ItB b2 s.heap j2 a2 n) (l1:LsB b1 s.heap a1 xs) (l2:LsB b2 s.heap a2 ys) (ex:xs[n]?=some x) (ey:ys[n]?=some y)
 (k:∀h',IsZip h' z p q (rawInt s.heap.objs.size)->IsPair h' q x y->ItB b1 h' j1 a1 (n+1)->ItB b2 h' j2 a2 (n+1)->IsPair h' s.heap.objs.size x y->(∀c o,c≠z->c≠q->c≠j1->c≠j2->s.heap.get? c=some o->h'.get? c=some o)->Q (.ref s.heap.objs.size) { s with heap:=h' }):
 wpAny (model prog w) A (Builtin.«zip.__next__» ⟨[.ref z],[]⟩) (λi_ s'=>∃v,i_=.done (.ret v)/\Q v s') E s:=by
 show wpAny _ _ (field (.ref z) 2 >>= _) _ _ _;refine w_ (O5 hz rfl (x:=.bool false) rfl ?_);show wpAny _ _ (field (.ref z) 3 >>= _) _ _ _;refine w_ (O5 hz rfl (x:=.ref p) rfl ?_);refine w_ (Pr hp rfl ?_);show wpAny _ _ (Builtin.SmallTypes.ownedTupleIsFree (.ref z) >>= _) _ _ _;refine w_ ?_;unfold Builtin.SmallTypes.ownedTupleIsFree;refine w_ (O5 hz rfl (x:=.none) rfl (G_ ?_));simp only[PM];refine w_ (wpAny_rule ?_);refine w_ (O5 hz rfl (x:=.ref q) rfl ?_);refine w_ (Pu hz (by simp) λg1 (y1:IsZip g1 z p q .ellipsis) t1=>?_);refine w_ ?_;simp only[List.zipIdx_cons,List.zipIdx_nil,Qw,QH];refine w_ (w_ (QN ?_));show wpAny _ _ (Builtin.SmallTypes.nextOf (.ref j1) >>= _) _ _ _;refine w_ (xG (cT i1 λo e=>t1.extBut _ _ D.i1z e) (l1.keep λo e=>t1.extBut _ _ D.l1z e) ex λg2 m1 t2=>G_ ?_);have q2:IsPair g2 q u v:=t2.extBut _ _ D.TOi1 (t1.extBut _ _ D.TOz hq);refine w_ (Pr q2 rfl ?_);refine w_ (QE q2 λg3 (q3:IsPair g3 q x v) t3=>?_);refine w_ (wpAny_letGo (G_ ?_));refine w_ (w_ (QN ?_));show wpAny _ _ (Builtin.SmallTypes.nextOf (.ref j2) >>= _) _ _ _;refine w_ (xG (cT i2 λo e=>t3.extBut _ _ D.TOi2.symm (t2.extBut _ _ D.i12.symm (t1.extBut _ _ D.i2z e))) (l2.keep λo e=>t3.extBut _ _ D.l2TO (t2.extBut _ _ D.l2i1 (t1.extBut _ _ D.l2z e))) ey λg4 m2 t4=>G_ ?_);have q4:IsPair g4 q x v:=t4.extBut _ _ D.TOi2 q3;refine w_ (Pr q4 rfl ?_);refine w_ (QE q4 λg5 (q5:IsPair g5 q x y) t5=>?_);refine w_ (wpAny_letGo (G_ (G_ ?_)));refine w_ (Pr q5 rfl ?_);refine w_ (wpAny_newTuple ?_);have sz:g5.objs.size=s.heap.objs.size:=by rw[t5.1,t4.1,t3.1,t2.1,t1.1]
 have y5:IsZip g5 z p q .ellipsis:=t5.extBut _ _ D.TOz.symm (t4.extBut _ _ D.i2z.symm (t3.extBut _ _ D.TOz.symm (t2.extBut _ _ D.i1z.symm y1)));have all5:∀c o,c≠z->c≠q->c≠j1->c≠j2->s.heap.get? c=some o->g5.get? c=some o:=λc o c1 c2 c3 c4 e=>t5.extBut _ _ c2 (t4.extBut _ _ c4 (t3.extBut _ _ c2 (t2.extBut _ _ c3 (t1.extBut _ _ c1 e))));have n1:ItB b1 g5 j1 a1 (n+1):=cT m1 λo e=>t5.extBut _ _ D.TOi1.symm (t4.extBut _ _ D.i12 (t3.extBut _ _ D.TOi1.symm e));have n2:ItB b2 g5 j2 a2 (n+1):=cT m2 λo e=>t5.extBut _ _ D.TOi2.symm e;have zl:z<g5.objs.size:=E_ y5;show wpAny _ _ (Builtin.SmallTypes.ownedTupleHandOut (.ref z) (.ref g5.objs.size) >>= _) _ _ _;refine w_ ?_;unfold Builtin.SmallTypes.ownedTupleHandOut;have y6:IsZip (g5.push { cls:=.type "tuple",data:=.seq #[x,y] }) z p q .ellipsis:=Em _ y5;refine w_ (Pu y6 (by simp) λg7 (y7:IsZip g7 z p q (rawInt g5.objs.size)) t7=>?_);refine Pu y7 (by simp) λg8 (y8:IsZip g8 z p q (rawInt g5.objs.size)) t8=>?_;have up:∀c o,c≠z->g5.get? c=some o->g8.get? c=some o:=λc o c1 e=>t8.extBut _ _ c1 (t7.extBut _ _ c1 (Em _ e));have w8:IsPair g8 g5.objs.size x y:=t8.extBut _ _ (Qf zl) (t7.extBut _ _ (Qf zl) (M_ _ rfl));rw[sz] at y8 w8;refine G_ ⟨_,rfl,?_⟩;show Q (.ref g5.objs.size) _;rw[sz];exact k g8 y8 (up _ _ D.TOz q5) (cT n1 λo e=>up _ o D.i1z e) (cT n2 λo e=>up _ o D.i2z e) w8 λc o c1 c2 c3 c4 e=>up c o c1 (all5 c o c1 c2 c3 c4 e)
def CA(hh:A.handled=none)(D:ZipApart z p q j1 j2 a1 a2)(hz:IsZip s.heap z p q .none)(hp:IsPair s.heap p (.ref j1) (.ref j2))(hq:IsPair s.heap q u v)
 (i1:ItB b1 s.heap j1 a1 n) (i2:ItB b2 s.heap j2 a2 n) (l1:LsB b1 s.heap a1 xs) (l2:LsB b2 s.heap a2 ys) (en:xs[n]?=none\/ys[n]?=none)
 (k:∀h' e,(∀c o,c≠z->c≠q->c≠j1->c≠j2->s.heap.get? c=some o->h'.get? c=some o)->(∃o,h'.get? e=some o/\o.cls=.type "StopIteration")->E (.ref e) { s with heap:=h' }):wpAny (model prog w) A (Builtin.«zip.__next__» ⟨[.ref z],[]⟩) Q E s:=by
 show wpAny _ _ (field (.ref z) 2 >>= _) _ _ _;refine w_ (O5 hz rfl (x:=.bool false) rfl ?_);show wpAny _ _ (field (.ref z) 3 >>= _) _ _ _;refine w_ (O5 hz rfl (x:=.ref p) rfl ?_);refine w_ (Pr hp rfl ?_);show wpAny _ _ (Builtin.SmallTypes.ownedTupleIsFree (.ref z) >>= _) _ _ _;refine w_ ?_;unfold Builtin.SmallTypes.ownedTupleIsFree;refine w_ (O5 hz rfl (x:=.none) rfl (G_ ?_));simp only[PM];refine w_ (wpAny_rule ?_);refine w_ (O5 hz rfl (x:=.ref q) rfl ?_);refine w_ (Pu hz (by simp) λg1 (y1:IsZip g1 z p q .ellipsis) t1=>?_);refine w_ ?_;simp only[List.zipIdx_cons,List.zipIdx_nil,Qw,QH];refine w_ (w_ (QN ?_));show wpAny _ _ (Builtin.SmallTypes.nextOf (.ref j1) >>= _) _ _ _;cases ex:xs[n]? with
 |
  none=>
  refine w_ (rA hh (cT i1 λo e=>t1.extBut _ _ D.i1z e) (l1.keep λo e=>t1.extBut _ _ D.l1z e) ex λg2 e t2 ⟨oe,he,ce⟩=>?_);have y2:IsZip g2 z p q .ellipsis:=t2 _ _ D.i1z.symm y1;have ez:e≠z:=λw=>by subst w;rw[y2] at he;cases he;simp at ce
  exact Pu y2 (by simp) λg3 _ t3=>k g3 e (λc o c1 _ c3 _ w=>t3.extBut _ _ c1 (t2 _ _ c3 (t1.extBut _ _ c1 w))) ⟨oe,t3.extBut _ _ ez he,ce⟩
 |
  some x=>
  have ey:ys[n]?=none:=en.resolve_left λw=>by rw[ex] at w;cases w
  refine w_ (xG (cT i1 λo e=>t1.extBut _ _ D.i1z e) (l1.keep λo e=>t1.extBut _ _ D.l1z e) ex λg2 m1 t2=>G_ ?_);have q2:IsPair g2 q u v:=t2.extBut _ _ D.TOi1 (t1.extBut _ _ D.TOz hq);refine w_ (Pr q2 rfl ?_);refine w_ (QE q2 λg3 q3 t3=>?_);refine w_ (wpAny_letGo (G_ ?_));refine w_ (w_ (QN ?_));show wpAny _ _ (Builtin.SmallTypes.nextOf (.ref j2) >>= _) _ _ _;refine w_ (rA hh (cT i2 λo e=>t3.extBut _ _ D.TOi2.symm (t2.extBut _ _ D.i12.symm (t1.extBut _ _ D.i2z e))) (l2.keep λo e=>t3.extBut _ _ D.l2TO (t2.extBut _ _ D.l2i1 (t1.extBut _ _ D.l2z e))) ey λg4 e t4 ⟨oe,he,ce⟩=>?_);have y4:IsZip g4 z p q .ellipsis:=t4 _ _ D.i2z.symm (t3.extBut _ _ D.TOz.symm (t2.extBut _ _ D.i1z.symm y1));have ez:e≠z:=λw=>by subst w;rw[y4] at he;cases he;simp at ce
  exact Pu y4 (by simp) λg5 _ t5=>k g5 e (λc o c1 c2 c3 c4 w=>t5.extBut _ _ c1 (t4 _ _ c4 (t3.extBut _ _ c2 (t2.extBut _ _ c3 (t1.extBut _ _ c1 w))))) ⟨oe,t5.extBut _ _ ez he,ce⟩
end
noncomputable def Cn(b:Bool):String:=if b then "list_iterator" else "tuple_iterator"
def w6(h:LsB b s.heap a its)(k:Q (.ref s.heap.objs.size) { s with heap:=s.heap.push { cls:=.type (Cn b),data:=.fields #[.ref a,.int 0 0] } }):wpAny (model prog w) A (pyIter (.ref a)) Q E s:=by
 cases b with
 |true=>exact wpAny_pyIter_list h k
 |false=>exact Qi h k
abbrev zp1(h:Heap)(b:Bool)(a:Addr):Heap:=h.push { cls:=.type (Cn b),data:=.fields #[.ref a,.int 0 0] }
abbrev zp2(h:Heap)(b c:Bool)(a d:Addr):Heap:=zp1 (zp1 h b a) c d
abbrev zp3(h:Heap)(b c:Bool)(a d:Addr):Heap:=(zp2 h b c a d).push { cls:=.type "tuple",data:=.seq #[.ref h.objs.size,.ref (zp1 h b a).objs.size] }
abbrev zp4(h:Heap)(b c:Bool)(a d:Addr):Heap:=(zp3 h b c a d).push { cls:=.type "tuple",data:=.seq #[.none,.none] }
abbrev zp5(h:Heap)(b c:Bool)(a d:Addr):Heap:=(zp4 h b c a d).push { cls:=.type "zip",data:=.fields #[.none,.bool false,.bool false,.ref (zp2 h b c a d).objs.size,.ref (zp3 h b c a d).objs.size] }
def Br(b c:Bool)(a d:Addr)(xs ys:Array Value):Meets (Builtin.«zip.__new__» ⟨[.type "zip",.ref a,.ref d],[]⟩) (λ_ R s=>LsB b s.heap a xs/\LsB c s.heap d ys/\R (.ok (.ret (.ref (zp4 s.heap b c a d).objs.size))) { s with heap:=zp5 s.heap b c a d }):=
 .of_wp λprog w A R s h=>by
  obtain⟨hp,g,dr,tk,os⟩:=s;obtain⟨la,ld,h⟩:=h;have f_:=sub_zip;have L1:LsB b (Shared.heap ⟨hp,g,dr,tk,os⟩) a xs:=la;have L2':LsB c (Shared.heap ⟨hp.push { cls:=.type (Cn b),data:=.fields #[.ref a,.int 0 0] },g,dr,tk,os⟩) d ys:=ld.keep λo e=>Em _ e
  wp_walk using w6 L1,w6 L2'
  exact⟨_,rfl,h⟩
def AB(la:LsB b s.heap a xs)(ld:LsB c s.heap d ys)
 (k:∀h',IsZip h' (s.heap.objs.size+4) (s.heap.objs.size+2) (s.heap.objs.size+3) .none->IsPair h' (s.heap.objs.size+2) (.ref s.heap.objs.size) (.ref (s.heap.objs.size+1))->IsPair h' (s.heap.objs.size+3) .none .none->
  ItB b h' s.heap.objs.size a 0->ItB c h' (s.heap.objs.size+1) d 0->(∀c o,s.heap.get? c=some o->h'.get? c=some o)->Q (.ref (s.heap.objs.size+4)) { s with heap:=h' }):wpAny (model prog w) A (call (.type "zip") [.ref a,.ref d]) Q E s:=by
 refine callType_new F.called_zip (by decide) (F.typeCall_zip_2 _ _) (F.newCall_zip_2 _ _) (λobj=>F.args_object_init_3 obj _ _) F.entry_zip_new (Br b c a d xs ys) ⟨la,ld,?_⟩;have n1:(zp1 s.heap b a).objs.size=s.heap.objs.size+1:=PK ..;have n2:(zp2 s.heap b c a d).objs.size=s.heap.objs.size+2:=by rw[PK,n1]
 have n3:(zp3 s.heap b c a d).objs.size=s.heap.objs.size+3:=by rw[PK,n2]
 have n4:(zp4 s.heap b c a d).objs.size=s.heap.objs.size+4:=by rw[PK,n3]
 have up:=λ{h:Heap}{x:Addr}{o:Obj} (o':Obj) (e:h.get? x=some o)=>Em o' e;have e5:(zp5 s.heap b c a d).get? (zp4 s.heap b c a d).objs.size=some _:=M_ _ rfl;have e4:(zp5 s.heap b c a d).get? (zp3 s.heap b c a d).objs.size=some _:=up _ (M_ _ rfl);have e3:(zp5 s.heap b c a d).get? (zp2 s.heap b c a d).objs.size=some _:=up _ (up _ (M_ _ rfl));have e2:(zp5 s.heap b c a d).get? (zp1 s.heap b a).objs.size=some _:=up _ (up _ (up _ (M_ _ rfl)));have e1:(zp5 s.heap b c a d).get? s.heap.objs.size=some _:=up _ (up _ (up _ (up _ (M_ _ rfl))));show _/\_;rw[n2,n3,n4] at e5;rw[n1,n2] at e3;rw[n3] at e4;rw[n1] at e2;rw[n4];have i1:ItB b (zp5 s.heap b c a d) s.heap.objs.size a 0:=by cases b <;> exact⟨_,e1,rfl,rfl⟩
 have i2:ItB c (zp5 s.heap b c a d) (s.heap.objs.size+1) d 0:=by cases c <;> exact⟨_,e2,rfl,rfl⟩
 exact⟨⟨_,e5,rfl⟩,k _ e5 e3 e4 i1 i2 λx o e=>up _ (up _ (up _ (up _ (up _ e))))⟩
noncomputable def ItZ(K:W.Frag)(b c:Bool)(a d:Addr):It:=
 ⟨λi H=>∃xs ys x y,SqB K b H a xs/\SqB K c H d ys/\xs[i]?=some x/\ys[i]?=some y,
  λi H x H'=>∃p u v,x=.ref p/\H p=none/\H'=upd H p (.tup [u,v])/\(∀xs,SqB K b H a xs->xs[i]?=some u)/\∀ys,SqB K c H d ys->ys[i]?=some v,
  λi H=>∃xs ys,SqB K b H a xs/\SqB K c H d ys/\(xs[i]?=none\/ys[i]?=none)⟩
def kq(I:Inv X pins σ H s)(hq:SqB X.K b H a xs):∃its:List Value,Vals xs its/\LsB b s.heap a its.toArray:=by
 cases b with
 |true=>obtain⟨its,rv,p,_⟩:=I.list hq;exact⟨its,rv,p.isList⟩
 |false=>obtain⟨its,rv,p,_⟩:=I.tuple hq;exact⟨its,rv,p⟩
def BI{P:Program}{w:World}{K:W.Frag}{elts:List Expr}{x1:Nat}{tp:Pos}(b c:Bool)(a d z p q j1 j2:Addr)(D:ZipApart z p q j1 j2 a d):
 Turn P w K (.Tuple elts x1 tp) (ItZ K b c a d) [z,p,q,j1,j2] z (λi h=>IsZip h z p q .none/\IsPair h p (.ref j1) (.ref j2)/\(∃u v,IsPair h q u v)/\ItB b h j1 a i/\ItB c h j2 d i) where
 mem:=by simp
 obj:=λi h st e he=>by
  obtain⟨s1,s2,⟨u,v,s3⟩,s4,s5⟩:=st;obtain⟨o4,k4,l4,_⟩:=jh s4;obtain⟨o5,k5,l5,_⟩:=jh s5;simp only[N_,List.not_mem_nil,or_false] at he;rcases he with rfl |rfl |rfl |rfl |rfl
  .exact⟨_,s1,λv y=>by cases y⟩
  .exact⟨_,s2,λv y=>by cases y⟩
  .exact⟨_,s3,λv y=>by cases y⟩
  .exact⟨o4,k4,l4⟩
  .exact⟨o5,k5,l5⟩
 keep:=λi h h' st k=>by obtain⟨s1,s2,⟨u,v,s3⟩,s4,s5⟩:=st;exact⟨k z (by simp) _ s1,k p (by simp) _ s2,⟨u,v,k q (by simp) _ s3⟩,cT s4 λo e=>k j1 (by simp) o e,cT s5 λo e=>k j2 (by simp) o e⟩
 item:=
  by
  intro X hP hw hK hc i pins s σ H E I hf st hg;subst hP hw hK;obtain⟨xs,ys,x,y,qx,qy,ex,ey⟩:=hg;obtain⟨s1,s2,⟨u,v,s3⟩,s4,s5⟩:=st;obtain⟨ix,rx,lx⟩:=kq I qx;obtain⟨iy,ry,ly⟩:=kq I qy;obtain⟨ux,hux,rux⟩:=rx.get ex;obtain⟨uy,huy,ruy⟩:=ry.get ey;have hTy:s.TypeIs (.ref z) "zip":=⟨_,s1,rfl⟩;have zl:=E_ s1;have pl:=E_ s2;have ql:=E_ s3;obtain⟨o4,k4,_,_⟩:=jh s4;obtain⟨o5,k5,_,_⟩:=jh s5;have j1l:=E_ k4;have j2l:=E_ k5;unfold pyNext;refine w_ (QM (Pl (name:=Str.ofString "__next__") hTy Qu (P7 Qu hTy F.entry_zip_next (zipN D s1 s2 s3 s4 s5 lx ly (by simpa using hux) (by simpa using huy) λh' y1 y3 y4 y5 yT hk=>G_ ?_) (F.args_zip_next_1 _))));refine⟨_,rfl,wpAny_letOwnedTupleGo_zip (s:={ s with heap:=h' }) y1 λh2 z2 sb=>?_⟩;have sb':Heap.SameBut z h' h2:=sb;have hT:H s.heap.objs.size=none:=I.hok.fresh (z_ _);have I1:Inv X pins σ (upd H s.heap.objs.size (.tup [x,y])) { s with heap:=s.heap.push { cls:=.type "tuple",data:=.seq #[ux,uy] },toks:=s.toks }:=
   I.laid (t':=s.toks) (λc o q=>Em _ q) (z_ _) ⟨by show 2<=sizeLine;decide,[ux,uy],.cons rux (.cons ruy .nil),⟨_,M_ _ rfl,rfl,_,rfl⟩⟩
  have fp':∀e∈[z,p,q,j1,j2],FpOk X pins (upd H s.heap.objs.size (.tup [x,y])) e:=λe he=>by
   have:=hf e he
   simp only[N_,List.not_mem_nil,or_false] at he;rcases he with rfl |rfl |rfl |rfl |rfl
   .exact this.up (OF zl)
   .exact this.up (OF pl)
   .exact this.up (OF ql)
   .exact this.up (OF j1l)
   .exact this.up (OF j2l)
  have I2:Inv X pins σ (upd H s.heap.objs.size (.tup [x,y])) { s with heap:=h2,toks:=s.toks }:=
   Inv.turnedL (s:={ s with heap:=s.heap.push { cls:=.type "tuple",data:=.seq #[ux,uy] },toks:=s.toks }) (ch:=[z,p,q,j1,j2]) (t':=s.toks) I1 (λe o he qe=>by
    have c1:e≠z:=λw=>he (by simp [w]);have c2:e≠q:=λw=>he (by simp [w]);have c3:e≠j1:=λw=>he (by simp [w]);have c4:e≠j2:=λw=>he (by simp [w]);rw[sb'.2 e c1];have q':(s.heap.push { cls:=.type "tuple",data:=.seq #[ux,uy] }).get? e=some o:=qe;by_cases w:e=s.heap.objs.size
    .subst w;rw[M_ _ rfl] at q';cases q';exact yT
    .rw[Heap.get?_push_ne _ _ _ w] at q';exact hk e o c1 c2 c3 c4 q') fp'
  refine⟨.ref s.heap.objs.size,_,I2,rfl,⟨_,x,y,rfl,hT,rfl,λzs hz=>by rw[SqB.inj I hz qx];exact ex,λzs hz=>by rw[SqB.inj I hz qy];exact ey⟩,⟨z2,?_,⟨ux,uy,?_⟩,cT y4 λo e=>(sb'.2 j1 D.i1z).trans e,cT y5 λo e=>(sb'.2 j2 D.i2z).trans e⟩,λe he=>(fp' e he).1⟩
  .exact (sb'.2 p D.TIz).trans (hk p _ D.TIz D.TITO D.TIi1 D.TIi2 s2)
  .exact (sb'.2 q D.TOz).trans y3
 done:=by
  intro X hP hw hK hc i pins s σ H E I hf st hg;subst hP hw hK;obtain⟨xs,ys,qx,qy,en⟩:=hg;obtain⟨s1,s2,⟨u,v,s3⟩,s4,s5⟩:=st;obtain⟨ix,rx,lx⟩:=kq I qx;obtain⟨iy,ry,ly⟩:=kq I qy;have hTy:s.TypeIs (.ref z) "zip":=⟨_,s1,rfl⟩;have en':ix.toArray[i]?=none\/iy.toArray[i]?=none:=by
   rcases en with e |e
   .left;rw[Ph] at e;simp;rw[<- rx.length];exact e
   .right;rw[Ph] at e;simp;rw[<- ry.length];exact e
  unfold pyNext;refine w_ (QM (Pl (name:=Str.ofString "__next__") hTy Qu (P7 Qu hTy F.entry_zip_next (CA (I.ok.hd hc) D s1 s2 s3 s4 s5 lx ly en' λh' e hk ⟨o,ho,co⟩=>?_) (F.args_zip_next_1 _))));refine w_ (wpAny_isInstance (T:="StopIteration") (b:=true) ⟨o,ho,co⟩ isSubtype_stop (G_ ⟨rfl,?_⟩));exact Inv.turnedL (ch:=[z,p,q,j1,j2]) (t':=s.toks) I (λe o he qe=>hk e o (λw=>he (by simp [w])) (λw=>he (by simp [w])) (λw=>he (by simp [w])) (λw=>he (by simp [w])) qe) hf
 self:=λ_ _ _ _ _ st h=>wpAny_pyIter_zip st.1 h
def zB:bootBuiltins "zip"=some (.type "zip"):=by decide
def I0(hg:Gl X "zip")(hm:X.mg "zip"=none)(ha:PA X [l,m] tl)(hs:starEach [l,m] X.env=[(false,eval l X.env),(false,eval m X.env)])(hs2:starEach [m] X.env=[(false,eval m X.env)]):
 PI X (.Tuple elts x1 tp) (.Call (.Name "zip" p) [l,m] [] pos) (λσ H R=>tl σ H λvs H1=>∃(b c:Bool) (a d:Addr) (xs ys:List V),vs=[.ref a,.ref d]/\SqB X.K b H1 a xs/\SqB X.K c H1 d ys/\R (ItZ X.K b c a d) H1):=by
 intro pins s σ H R I h;refine Call_ (gH I hg hm zB (OY (thn (ha pos pins s σ H _ I h) λus s1 ⟨vs,H1,I1,r1,q1⟩=>?_) (by rw[hs,hs2]) (by rw[hs2];rfl)));obtain⟨b,c,a,d,xs,ys,e,qx,qy,q⟩:=q1;subst e;cases r1 with
 |
  cons r rr=>
  cases rr with
  |
   cons r' rr=>
   cases rr;cases r;cases r';obtain⟨ix,rx,lx⟩:=kq I1 qx;obtain⟨iy,ry,ly⟩:=kq I1 qy;have la:a<s1.heap.objs.size:=by cases b <;> (obtain⟨o,e,_⟩:=lx;exact E_ e)
   have ld:d<s1.heap.objs.size:=by cases c <;> (obtain⟨o,e,_⟩:=ly;exact E_ e)
   refine AB lx ly λh' y1 y2 y3 y4 y5 hk=>wpAny_pyIter_zip y1 ⟨s1.heap.objs.size+4,[s1.heap.objs.size+4,s1.heap.objs.size+2,s1.heap.objs.size+3,s1.heap.objs.size,s1.heap.objs.size+1],_,_,H1,rfl,I1.kept (t':=s1.toks) λc o z=>hk c o z,BI b c a d _ _ _ _ _ (W.ktu_apart _ _ _ la ld),⟨y1,y2,⟨_,_,y3⟩,y4,y5⟩,λe he=>?_,q⟩;have hge:s1.heap.objs.size<=e:=by
    simp only[N_,List.not_mem_nil,or_false] at he;rcases he with rfl |rfl |rfl |rfl |rfl
    .exact Qq _ _
    .exact Qq _ _
    .exact Qq _ _
    .exact z_ _
    .exact Qq _ _
   exact I1.fpOk hge (I1.hok.fresh hge)
inductive D where
 |non |bl (b:Bool) |int (i:Int) |str (x:Str) |ty (n:String) |glb (x:Str) |exc (x:Str) |tup (xs:List D) |ref (n:Nat) |kl (xs:List D)
 deriving Inhabited
inductive Ob where
 |lst (xs:List D) |fz (xs:List D) |set (xs:List Int) |dct (kvs:List (Key×D)) |any
 deriving Inhabited
abbrev AH:=List Ob
abbrev AE:=List (Option D)
inductive R(α:Type) where
 |ok (a:α) (h:AH) |exc (c:Str) (h:AH) |stuck
inductive SR where
 |nx (ae:AE) (h:AH) |rt (d:D) (h:AH) |bk (ae:AE) (h:AH) |ct (ae:AE) (h:AH) |exc (c:Str) (ae:AE) (h:AH) |stuck
abbrev ME:=AE->AH->R D
abbrev MT:=AE->AH->R Bool
abbrev MA:=AE->AH->R (List D)
abbrev MS:=AE->AH->SR
abbrev Fn:=List D->AH->R D
noncomputable def R.bind{α β:Type}(r:R α)(f:α->AH->R β):R β:=match r with
 |.ok a h=>f a h
 |.exc c h=>.exc c h
 |.stuck=>.stuck
section
variable(K:W.Frag)(mg:Ra)
mutual
inductive RelD(ρ:List Addr)(H:Hp):D->V->Prop where
 |non:RelD ρ H .non .non
 |bl (b:Bool):RelD ρ H (.bl b) (.bl b)
 |int (i:Int):RelD ρ H (.int i) (.int i)
 |str (x:Str):RelD ρ H (.str x) (.str x)
 |ty (n:String):RelD ρ H (.ty n) (.ty n)
 |glb {x:Str}{a:Addr} (m:mg x=some (.ref a)):RelD ρ H (.glb x) (.ref a)
 |exc {x:Str}{a C:Addr} (m:mg x=some (.ref C)) (e:H a=some (.ext (BA a C))):RelD ρ H (.exc x) (.ref a)
 |tup {p:Addr}{vs:List V}{ds:List D} (h:SqT K H p vs) (r:RelDs ρ H ds vs):RelD ρ H (.tup ds) (.ref p)
 |ref {n:Nat}{a:Addr} (e:ρ[n]?=some a):RelD ρ H (.ref n) (.ref a)
 |kl {a:Addr}{vs:List V}{ds:List D} (h:∃(o:Obj) (its:Array Value) (n:Nat),K.lookup a=some o/\o.cls=.type "list" /\ o.dict=none/\o.data=.seq its n/\its.size<=sizeLine/\Vals vs its.toList) (r:RelDs ρ H ds vs):RelD ρ H (.kl ds) (.ref a)
inductive RelDs(ρ:List Addr)(H:Hp):List D->List V->Prop where
 |nil:RelDs ρ H [] []
 |cons {d:D}{v:V}{ds:List D}{vs:List V} (r:RelD ρ H d v) (rr:RelDs ρ H ds vs):RelDs ρ H (d::ds) (v::vs)
end
structure Le(ρ:List Addr)(H:Hp)(ρ':List Addr)(H':Hp):Prop where
 pre:∀(n:Nat) (a:Addr),ρ[n]?=some a->ρ'[n]?=some a
 tup:∀b xs,H b=some (.tup xs)->H' b=some (.tup xs)
 frz:∀b o u,H b=some (.frz o u)->H' b=some (.frz o u)
 ext:∀b φ,H b=some (.ext φ)->H' b=some (.ext φ)
def ObR(ρ:List Addr)(H:Hp)(a:Addr):Ob->Prop
 |.lst ds=>∃vs,H a=some (.lst vs)/\RelDs K mg ρ H ds vs
 |.fz ds=>∃o vs,H a=some (.frz o (.lst vs))/\RelDs K mg ρ H ds vs
 |.set xs=>xs.Nodup/\H a=some (.set (λi=>decide (i∈xs)) xs.length)
 |.dct kvs=>∃ws,H a=some (.dK ws)/\ws.map (·.1)=kvs.map (·.1)/\RelDs K mg ρ H (kvs.map (·.2)) (ws.map (·.2))
 |.any=>∃o,H a=some o
def codO(c:Addr)(q:Str):Heap->Prop:=λh=>h.CodeRec (.ref c) q
noncomputable def Dt:List Str:=["by_falling_weights", "least_around"]
def C4(P:Addr)(q:Str):Prop:=∃(x:Str) (f:Addr) (oc:Value) (od:Option Addr) (fd:FuncData) (sl:Array (Option Value)) (c:Addr),x∈Dt/\(∀y∈Dt,y≠x->mg y=none)/\mg x=some (.ref f)/\K.lookup f=some ⟨oc,od,.func fd,sl⟩/\fd.code=.ref c/\W.codeHdIn K c P=true/\q=fd.qualname ++ ".<locals>." ++ "<lambda>"
def TbP(ρ:List Addr)(H:Hp)(P:Addr)(q:Str):Prop:=P∉ρ/\∃ps:Array Value,H P=some (.tbl ps)/\TriplesOk ps.toList/\∀pos cv,codeAmong pos ps.toList=some cv->∃c,cv=.ref c/\H c=some (.ext (codO c q))
def bmP(o:Obj):Prop:=o.cls=.type "module" /\ o.dict=some builtinsNs/\o.data=.plain
def BMok(H:Hp):Prop:=∃b o,mg "__builtins__"=some (.ref b)/\b≠builtinsNs/\b≠mainGlobals/\bmP o/\(K.lookup b=some o\/∃u,H b=some (.frz o u))
structure Wd(ρ:List Addr)(h:AH)(H:Hp):Prop where
 len:ρ.length=h.length
 nd:ρ.Nodup
 tb:∀P q,C4 K mg P q->TbP ρ H P q/\BMok K mg H
 ob:∀(n:Nat) (a:Addr) (o:Ob),ρ[n]?=some a->h[n]?=some o->ObR K mg ρ H a o
structure RelE(ρ:List Addr)(H:Hp)(ae:AE)(σ:St):Prop where
 len:ae.length=σ.length
 at_:∀(i:Nat) (d:D),ae[i]?=some (some d)->∃v,σ[i]?=some (some v)/\RelD K mg ρ H d v
def PostG{α:Type}(ρ:List Addr)(H:Hp)(E:XK)(k:α->AH->List Addr->Hp->Prop):R α->Prop
 |.ok a h=>∀ρ' H',Le ρ H ρ' H'->Wd K mg ρ' h H'->k a h ρ' H'
 |.exc c h=>∀ρ' H' C,Le ρ H ρ' H'->Wd K mg ρ' h H'->mg c=some (.ref C)->E (.ref C) none H'
 |.stuck=>False
abbrev fM(ρ:List Addr)(H:Hp)(Q:VK)(E:XK)(r:R D):Prop:=PostG K mg ρ H E (λd _ ρ' H'=>∀v,RelD K mg ρ' H' d v->Q v H') r
abbrev DD(ρ:List Addr)(H:Hp)(Q:Bool->Hp->Prop)(E:XK)(r:R Bool):Prop:=PostG K mg ρ H E (λb _ ρ' H'=>Q b H') r
abbrev DV(ρ:List Addr)(H:Hp)(Q:List V->Hp->Prop)(E:XK)(r:R (List D)):Prop:=PostG K mg ρ H E (λd _ ρ' H'=>∀vs,RelDs K mg ρ' H' d vs->Q vs H') r
def PostS(ρ:List Addr)(H:Hp)(D:Ends)(ES:St->XK):SR->Prop
 |.nx ae h=>∀ρ' H' σ',Le ρ H ρ' H'->Wd K mg ρ' h H'->RelE K mg ρ' H' ae σ'->D.nx σ' H'
 |.bk ae h=>∀ρ' H' σ',Le ρ H ρ' H'->Wd K mg ρ' h H'->RelE K mg ρ' H' ae σ'->D.bk σ' H'
 |.ct ae h=>∀ρ' H' σ',Le ρ H ρ' H'->Wd K mg ρ' h H'->RelE K mg ρ' H' ae σ'->D.ct σ' H'
 |.rt d h=>∀ρ' H' v,Le ρ H ρ' H'->Wd K mg ρ' h H'->RelD K mg ρ' H' d v->D.rt v H'
 |.exc c ae h=>∀ρ' H' σ' C,Le ρ H ρ' H'->Wd K mg ρ' h H'->RelE K mg ρ' H' ae σ'->mg c=some (.ref C)->ES σ' (.ref C) none H'
 |.stuck=>False
def rdE(ES:St->XK)(F:ME):TE:=λσ H Q=>∃ρ h ae,Wd K mg ρ h H/\RelE K mg ρ H ae σ/\fM K mg ρ H Q (ES σ) (F ae h)
def rdT(ES:St->XK)(F:MT):TT:=λσ H Q=>∃ρ h ae,Wd K mg ρ h H/\RelE K mg ρ H ae σ/\DD K mg ρ H Q (ES σ) (F ae h)
def rdA(ES:St->XK)(F:MA):TA:=λσ H Q=>∃ρ h ae,Wd K mg ρ h H/\RelE K mg ρ H ae σ/\DV K mg ρ H Q (ES σ) (F ae h)
def rdS(ES:St->XK)(F:MS):TS:=λD σ H=>∃ρ h ae,Wd K mg ρ h H/\RelE K mg ρ H ae σ/\PostS K mg ρ H D ES (F ae h)
def spD(n:Nat)(S:Fn):Sp:=λvs H Q E=>∃ρ h ds,Wd K mg ρ h H/\RelDs K mg ρ H ds vs/\ds.length=n/\fM K mg ρ H Q E (S ds h)
end
def rdE.el{K:W.Frag}{mg:Ra}{ES:St->XK}{F:ME}{σ:St}{H:Hp}{Q:VK}{C:Prop}(q:rdE K mg ES F σ H Q)(k:∀ρ h ae,Wd K mg ρ h H->RelE K mg ρ H ae σ->fM K mg ρ H Q (ES σ) (F ae h)->C):C:=by obtain⟨ρ,h,ae,w,re,p⟩:=q;exact k ρ h ae w re p
def rdT.el{K:W.Frag}{mg:Ra}{ES:St->XK}{F:MT}{σ:St}{H:Hp}{Q:Bool->Hp->Prop}{C:Prop}(q:rdT K mg ES F σ H Q)(k:∀ρ h ae,Wd K mg ρ h H->RelE K mg ρ H ae σ->DD K mg ρ H Q (ES σ) (F ae h)->C):C:=by obtain⟨ρ,h,ae,w,re,p⟩:=q;exact k ρ h ae w re p
def rdA.el{K:W.Frag}{mg:Ra}{ES:St->XK}{F:MA}{σ:St}{H:Hp}{Q:List V->Hp->Prop}{C:Prop}(q:rdA K mg ES F σ H Q)(k:∀ρ h ae,Wd K mg ρ h H->RelE K mg ρ H ae σ->DV K mg ρ H Q (ES σ) (F ae h)->C):C:=by obtain⟨ρ,h,ae,w,re,p⟩:=q;exact k ρ h ae w re p
def rdS.el{K:W.Frag}{mg:Ra}{ES:St->XK}{F:MS}{σ:St}{H:Hp}{De:Ends}{C:Prop}(q:rdS K mg ES F De σ H)(k:∀ρ h ae,Wd K mg ρ h H->RelE K mg ρ H ae σ->PostS K mg ρ H De ES (F ae h)->C):C:=by obtain⟨ρ,h,ae,w,re,p⟩:=q;exact k ρ h ae w re p
section
variable{K:W.Frag}{mg:Ra}{ρ ρ' ρ1:List Addr}{H H' H1:Hp}{h:AH}{ae:AE}{σ:St}
def Le.refl:Le ρ H ρ H:=⟨λ_ _ e=>e,λ_ _ e=>e,λ_ _ _ e=>e,λ_ _ e=>e⟩
def Le.trans(a:Le ρ H ρ1 H1)(b:Le ρ1 H1 ρ' H'):Le ρ H ρ' H':=
 ⟨λn x e=>b.pre n x (a.pre n x e),λx y e=>b.tup x y (a.tup x y e),λx y z e=>b.frz x y z (a.frz x y z e),λx y e=>b.ext x y (a.ext x y e)⟩
def Le.sqT(l:Le ρ H ρ' H')(q:SqT K H a xs):SqT K H' a xs:=by
 rcases q with (q |⟨o,q⟩) |q
 .exact .inl (.inl (l.tup _ _ q))
 .exact .inl (.inr ⟨o,l.frz _ _ _ q⟩)
 .exact .inr q
def RelD.mono(l:Le ρ H ρ' H')(r:RelD K mg ρ H d v):RelD K mg ρ' H' d v:=
 RelD.rec (motive_1:=λd v _=>RelD K mg ρ' H' d v) (motive_2:=λds vs _=>RelDs K mg ρ' H' ds vs) .non (λb=>.bl b) (λi=>.int i) (λx=>.str x) (λn=>.ty n) (λm=>.glb m) (λm e=>.exc m (l.ext _ _ e)) (λh _ ih=>.tup (l.sqT h) ih) (λe=>.ref (l.pre _ _ e)) (λh _ ih=>.kl h ih) .nil (λ_ _ a b=>.cons a b) r
def RelDs.ind{M:List D->List V->Prop}(h0:M [] [])(h1:∀{d v ds vs},RelD K mg ρ H d v->RelDs K mg ρ H ds vs->M ds vs->M (d::ds) (v::vs)){ds:List D}{vs:List V}(r:RelDs K mg ρ H ds vs):M ds vs:=by
 induction ds generalizing vs with
 |nil=>cases r;exact h0
 |
  cons d ds ih=>
  cases r with
  |cons r rr=>exact h1 r rr (ih rr)
def RelDs.mono(l:Le ρ H ρ' H'){ds:List D}{vs:List V}(r:RelDs K mg ρ H ds vs):RelDs K mg ρ' H' ds vs:=r.ind .nil λr _ ih=>.cons (r.mono l) ih
def RelDs.len{ds:List D}{vs:List V}(r:RelDs K mg ρ H ds vs):ds.length=vs.length:=r.ind (M:=λds vs=>ds.length=vs.length) rfl λ_ _ ih=>OU (· + 1) ih
def RelDs.getD{ds:List D}{vs:List V}{i:Nat}{d:D}(r:RelDs K mg ρ H ds vs)(e:ds[i]?=some d):∃v,vs[i]?=some v/\RelD K mg ρ H d v:=
 r.ind (M:=λds vs=>∀i,ds[i]?=some d->∃v,vs[i]?=some v/\RelD K mg ρ H d v) (λ_ e=>by rw[List.getElem?_nil] at e;cases e) (λr _ ih i e=>match i,e with
  |0,e=>by cases e;exact⟨_,rfl,r⟩
  |i+1,e=>ih i e) i e
def RelDs.append{ds es:List D}{vs ws:List V}(r:RelDs K mg ρ H ds vs)(q:RelDs K mg ρ H es ws):RelDs K mg ρ H (ds++es) (vs++ws):=r.ind (M:=λds vs=>RelDs K mg ρ H (ds++es) (vs++ws)) q λr _ ih=>.cons r ih
def RelDs.take{ds:List D}{vs:List V}(n:Nat)(r:RelDs K mg ρ H ds vs):RelDs K mg ρ H (ds.take n) (vs.take n):=
 r.ind (M:=λds vs=>∀n:Nat,RelDs K mg ρ H (ds.take n) (vs.take n)) (λn=>by rw[PR,PR];exact .nil) (λr _ ih n=>by cases n with |zero=>exact .nil |succ n=>exact .cons r (ih n)) n
def RelDs.drop{ds:List D}{vs:List V}(n:Nat)(r:RelDs K mg ρ H ds vs):RelDs K mg ρ H (ds.drop n) (vs.drop n):=
 r.ind (M:=λds vs=>∀n:Nat,RelDs K mg ρ H (ds.drop n) (vs.drop n)) (λn=>by rw[P9,P9];exact .nil) (λr rr ih n=>by cases n with |zero=>exact .cons r rr |succ n=>exact ih n) n
def RelDs.reverse(r:RelDs K mg ρ H ds vs):RelDs K mg ρ H ds.reverse vs.reverse:=by
 induction ds generalizing vs with
 |nil=>cases r;exact .nil
 |
  cons d ds ih=>
  cases r with
  |cons q rr=>rw[PF,PF];exact (ih rr).append (.cons q .nil)
def RelDs.ints:∀{ns:List Int}{vs:List V},RelDs K mg ρ H (ns.map D.int) vs->vs=ns.map V.int:=by
 intro ns;induction ns with
 |nil=>intro vs r;cases r;rfl
 |
  cons n ns ih=>
  intro vs r;cases r with
  |cons r rr=>cases r;rw[ih rr];rfl
def RelDs.bls:∀{ns:List Bool}{vs:List V},RelDs K mg ρ H (ns.map D.bl) vs->vs=ns.map V.bl:=by
 intro ns;induction ns with
 |nil=>intro vs r;cases r;rfl
 |
  cons n ns ih=>
  intro vs r;cases r with
  |cons r rr=>cases r;rw[ih rr];rfl
def RelE.mono(l:Le ρ H ρ' H')(r:RelE K mg ρ H ae σ):RelE K mg ρ' H' ae σ:=⟨r.len,λi d e=>by obtain⟨v,h1,h2⟩:=r.at_ i d e;exact⟨v,h1,h2.mono l⟩⟩
def RelE.set(i:Nat)(r:RelE K mg ρ H ae σ)(q:RelD K mg ρ H d v):RelE K mg ρ H (ae.set i (some d)) (σ.set i (some v)):=⟨by rw[OB,OB];exact r.len,λj d' e=>by
 rw[Ql] at e ⊢;by_cases hij:i=j
 .rw[if_pos hij] at e ⊢;by_cases hi:i<ae.length
  .rw[if_pos hi] at e;cases e;rw[if_pos (by rw[<- r.len];exact hi)];exact⟨v,rfl,q⟩
  .rw[if_neg hi] at e;cases e
 .rw[if_neg hij] at e ⊢;exact r.at_ j d' e⟩
def ObR.mono(l:Le ρ H ρ' H')(e:H' a=H a)(q:ObR K mg ρ H a o):ObR K mg ρ' H' a o:=by
 cases o with
 |lst ds=>obtain⟨vs,h1,h2⟩:=q;exact⟨vs,e.trans h1,h2.mono l⟩
 |fz ds=>obtain⟨o,vs,h1,h2⟩:=q;exact⟨o,vs,e.trans h1,h2.mono l⟩
 |set xs=>exact⟨q.1,e.trans q.2⟩
 |dct kvs=>obtain⟨ws,h1,h2,h3⟩:=q;exact⟨ws,e.trans h1,h2,h3.mono l⟩
 |any=>obtain⟨o,h1⟩:=q;exact⟨o,e.trans h1⟩
def ObR.there(q:ObR K mg ρ H a o):∃u,H a=some u:=by
 cases o with
 |lst ds=>obtain⟨vs,h1,_⟩:=q;exact⟨_,h1⟩
 |fz ds=>obtain⟨o,vs,h1,_⟩:=q;exact⟨_,h1⟩
 |set xs=>exact⟨_,q.2⟩
 |dct kvs=>obtain⟨ws,h1,_⟩:=q;exact⟨_,h1⟩
 |any=>exact q
def Wd.fresh(w:Wd K mg ρ h H)(hp:H p=none):p∉ρ:=λhm=>by
 obtain⟨n,hn⟩:=List.getElem?_of_mem hm;have hl:n<h.length:=by rw[<- w.len];exact (x_.mp hn).1
 obtain⟨u,hu⟩:=(w.ob n p h[n] hn (OC hl)).there;rw[hp] at hu;cases hu
def TbP.up{P:Addr}{q:Str}(t:TbP ρ H P q)(hp:H p=none):TbP ρ (upd H p u) P q:=by obtain⟨a,ps,b,c,d⟩:=t;refine⟨a,ps,by rw[bR (cQ b hp)];exact b,c,λpos cv e=>?_⟩;obtain⟨x,e1,e2⟩:=d pos cv e;exact⟨x,e1,by rw[bR (cQ e2 hp)];exact e2⟩
def TbP.rho{P:Addr}{q:Str}(t:TbP ρ H P q)(h:P∉ρ'):TbP ρ' H P q:=⟨h,t.2⟩
def TbP.more{P:Addr}{q:Str}(t:TbP ρ H P q)(hp:H p=none):TbP (ρ++[p]) (upd H p u) P q:=by
 obtain⟨ps,b,_⟩:=t.2;refine (t.up hp).rho λz=>?_;rcases O4.mp z with z |z
 .exact t.1 z
 .rw[OG] at z;subst z;rw[hp] at b;cases b
def TbP.wr{P:Addr}{q:Str}{a:Addr}{o u:HO}(t:TbP ρ H P q)(ha:a∈ρ)(e:H a=some u)(hu:∀φ,u ≠ .ext φ):TbP ρ (upd H a o) P q:=by
 obtain⟨z,ps,b,c,d⟩:=t;refine⟨z,ps,by rw[bR (λw=>z (by rw[w];exact ha))];exact b,c,λpos cv y=>?_⟩;obtain⟨x,e1,e2⟩:=d pos cv y;refine⟨x,e1,?_⟩;rw[bR]
 .exact e2
 .intro w;subst w;rw[e] at e2;exact hu _ (OE e2)
def eY(hp:H p=none):Le ρ H ρ (upd H p o):=
 ⟨λ_ _ e=>e,λb xs e=>by rw[bR (cQ e hp)];exact e,λb xs u e=>by rw[bR (cQ e hp)];exact e,λb xs e=>by rw[bR (cQ e hp)];exact e⟩
def BMok.le(b:BMok K mg H)(l:Le ρ H ρ' H'):BMok K mg H':=by
 obtain⟨x,o,h1,h2,h3,h4,h5⟩:=b;refine⟨x,o,h1,h2,h3,h4,?_⟩;rcases h5 with z |⟨u,z⟩
 .exact .inl z
 .exact .inr ⟨u,l.frz _ _ _ z⟩
def qt:Le ρ H (ρ++m) H:=
 ⟨λn a e=>by rw[OD (x_.mp e).1];exact e,λ_ _ e=>e,λ_ _ _ e=>e,λ_ _ e=>e⟩
def Wd.alloc(w:Wd K mg ρ h H)(hp:H p=none)(hn:ObR K mg (ρ++[p]) (upd H p u) p o):Wd K mg (ρ++[p]) (h++[o]) (upd H p u):=by
 refine⟨by rw[H_,H_,w.len];rfl,?_,λP q l=>⟨(w.tb P q l).1.more hp,(w.tb P q l).2.le (ρ:=ρ) (eY hp)⟩,λn a ob e1 e2=>?_⟩
 .rw[P0];exact⟨w.nd,by simp,λa ha b hb=>by rw[OG] at hb;subst hb;intro z;subst z;exact w.fresh hp ha⟩
 .by_cases hl:n<ρ.length
  .rw[OD hl] at e1;rw[OD (by rw[<- w.len];exact hl)] at e2;have q:=w.ob n a ob e1 e2;obtain⟨v,hv⟩:=q.there;exact q.mono ((eY hp).trans qt) (bR (cQ hv hp))
  .have h1:n=ρ.length:=by
    have:=(x_.mp e1).1
    rw[H_] at this;simp at this;omega
   subst h1;rw[OO (z_ _),QA] at e1;rw[w.len,OO (z_ _),QA] at e2;simp at e1 e2;subst e1 e2;exact hn
def Wd.tuple(w:Wd K mg ρ h H)(hp:H p=none):Wd K mg ρ h (upd H p u):=
 ⟨w.len,w.nd,λP q l=>⟨(w.tb P q l).1.up hp,(w.tb P q l).2.le (ρ:=ρ) (eY hp)⟩,λn a ob e1 e2=>by have q:=w.ob n a ob e1 e2;obtain⟨v,hv⟩:=q.there;exact q.mono (eY hp) (bR (cQ hv hp))⟩
def oA(e:H a=some u)(hu:(∀xs,u ≠ .tup xs)/\(∀x y,u ≠ .frz x y)/\∀φ,u ≠ .ext φ):Le ρ H ρ (upd H a o):=by refine⟨λ_ _ e=>e,λb xs q=>?_,λb x y q=>?_,λb φ q=>?_⟩ <;> rw[bR] <;> (try exact q) <;> (intro z;subst z;rw[e] at q;have:=OE q;first |exact hu.1 _ this |exact hu.2.1 _ _ this |exact hu.2.2 _ this)
def Wd.write{n:Nat}{a:Addr}{o u:HO}{ob:Ob}(w:Wd K mg ρ h H)(ea:ρ[n]?=some a)(e:H a=some u)(hu:(∀xs,u ≠ .tup xs)/\(∀x y,u ≠ .frz x y)/\∀φ,u ≠ .ext φ)
 (hn:ObR K mg ρ (upd H a o) a ob):Wd K mg ρ (h.set n ob) (upd H a o):=by
 refine⟨by rw[OB];exact w.len,w.nd,λP q l=>⟨(w.tb P q l).1.wr (PH ea) e hu.2.2,(w.tb P q l).2.le (ρ:=ρ) (oA e hu)⟩,λm b ob' e1 e2=>?_⟩;rw[Ql] at e2;by_cases hm:n=m
 .subst hm;rw[ea] at e1;cases e1;rw[if_pos rfl] at e2;split at e2
  .cases e2;exact hn
  .cases e2
 .rw[if_neg hm] at e2;have q:=w.ob m b ob' e1 e2;refine q.mono (oA e hu) (bR λz=>hm ?_);subst z;have h1:=(x_.mp e1);have h2:=(x_.mp ea);exact (List.getElem_inj (h₀:=h2.1) (h₁:=h1.1) w.nd).mp (h2.2.trans h1.2.symm)
def DF:(∀xs,HO.lst vs ≠ .tup xs)/\(∀x y,HO.lst vs ≠ .frz x y)/\∀φ,HO.lst vs ≠ .ext φ:=⟨λ_ z=>(nomatch z),λ_ _ z=>(nomatch z),λ_ z=>(nomatch z)⟩
def xx:(∀xs,HO.dK ws ≠ .tup xs)/\(∀x y,HO.dK ws ≠ .frz x y)/\∀φ,HO.dK ws ≠ .ext φ:=⟨λ_ z=>(nomatch z),λ_ _ z=>(nomatch z),λ_ z=>(nomatch z)⟩
def PostG.mono(l:Le ρ H ρ' H')(p:PostG K mg ρ H E k r):PostG K mg ρ' H' E k r:=by
 cases r with
 |ok d h=>exact λρ2 H2 l2=>p ρ2 H2 (l.trans l2)
 |exc c h=>exact λρ2 H2 C l2=>p ρ2 H2 C (l.trans l2)
 |stuck=>exact p
def PostG.imp(p:PostG K mg ρ H E k r)(i:∀a h1 ρ' H',Le ρ H ρ' H'->Wd K mg ρ' h1 H'->k a h1 ρ' H'->k' a h1 ρ' H'):PostG K mg ρ H E k' r:=by
 cases r with
 |ok d h=>exact λρ2 H2 l2 w2=>i _ _ _ _ l2 w2 (p ρ2 H2 l2 w2)
 |exc c h=>exact p
 |stuck=>exact p
def PostG.bind(p:PostG K mg ρ H E k (r.bind f)):PostG K mg ρ H E (λa h1 ρ' H'=>PostG K mg ρ' H' E k (f a h1)) r:=by
 cases r with
 |ok d h=>exact λρ2 H2 l2 w2=>PostG.mono l2 p
 |exc c h=>exact p
 |stuck=>exact p
def PostS.mono(l:Le ρ H ρ' H')(p:PostS K mg ρ H De ES r):PostS K mg ρ' H' De ES r:=by
 cases r with
 |nx ae h=>exact λρ2 H2 σ l2=>p ρ2 H2 σ (l.trans l2)
 |bk ae h=>exact λρ2 H2 σ l2=>p ρ2 H2 σ (l.trans l2)
 |ct ae h=>exact λρ2 H2 σ l2=>p ρ2 H2 σ (l.trans l2)
 |rt d h=>exact λρ2 H2 v l2=>p ρ2 H2 v (l.trans l2)
 |exc c ae h=>exact λρ2 H2 σ C l2=>p ρ2 H2 σ C (l.trans l2)
 |stuck=>exact p
end
section
variable{X:Cx}{e:Expr}{es:List Expr}{st:Stmt}{sts:List Stmt}
def PE.imp(h:PE X e t)(k:∀σ H Q,t' σ H Q->t σ H Q):PE X e t':=λpins s σ H Q I w=>h pins s σ H Q I (k σ H Q w)
def PT.imp(h:PT X e t)(k:∀σ H Q,t' σ H Q->t σ H Q):PT X e t':=λpins s σ H Q I w=>h pins s σ H Q I (k σ H Q w)
def PW.imp(h:PW X e t)(k:∀σ H Q,t' σ H Q->t σ H Q):PW X e t':=λwh pins s σ H Q I w=>h wh pins s σ H Q I (k σ H Q w)
def PA.imp(h:PA X es t)(k:∀σ H Q,t' σ H Q->t σ H Q):PA X es t':=λpos pins s σ H Q I w=>h pos pins s σ H Q I (k σ H Q w)
def PS.imp(h:PS X st t)(k:∀D σ H,t' D σ H->t D σ H):PS X st t':=λpins s σ H D I w=>h pins s σ H D I (k D σ H w)
def PSs.imp(h:PSs X sts t)(k:∀D σ H,t' D σ H->t D σ H):PSs X sts t':=λpins s σ H D I w=>h pins s σ H D I (k D σ H w)
def PG.imp(h:PG X e t)(k:∀v σ H Q,t' v σ H Q->t v σ H Q):PG X e t':=λpins s σ H v u Q I r w=>h pins s σ H v u Q I r (k v σ H Q w)
def PGs.imp(h:PGs X es t)(k:∀v σ H Q,t' v σ H Q->t v σ H Q):PGs X es t':=λpins s σ H v u Q I r w=>h pins s σ H v u Q I r (k v σ H Q w)
def PO.imp(h:PO X o t)(k:∀σ H Q,t' σ H Q->t σ H Q):PO X o t':=λpins s σ H Q I w=>h pins s σ H Q I (k σ H Q w)
end
section
variable(K:W.Frag)(mg:Ra)(X:Cx)(ES:St->XK)
def DE(e:Expr)(F:ME):Prop:=PE X e (rdE K mg ES F)
def DT(e:Expr)(F:MT):Prop:=PT X e (rdT K mg ES F)
def DW(e:Expr)(F:MT):Prop:=PW X e (rdT K mg ES F)
def DA(es:List Expr)(F:MA):Prop:=PA X es (rdA K mg ES F)
def DS(st:Stmt)(F:MS):Prop:=PS X st (rdS K mg ES F)
def DSs(st:List Stmt)(F:MS):Prop:=PSs X st (rdS K mg ES F)
end
def OpD(K:W.Frag)(mg:Ra)(r:R2)(g:D->D->AH->R D):Prop:=∀ρ h H dx dy x y Q E,Wd K mg ρ h H->RelD K mg ρ H dx x->RelD K mg ρ H dy y->fM K mg ρ H Q E (g dx dy h)->r x y H Q
def UnD(K:W.Frag)(mg:Ra)(r:V->Hp->VK->Prop)(g:D->AH->R D):Prop:=∀ρ h H dx x Q E,Wd K mg ρ h H->RelD K mg ρ H dx x->fM K mg ρ H Q E (g dx h)->r x H Q
def dg(K:W.Frag)(mg:Ra)(r:List V->Hp->VK->Prop)(g:Fn):Prop:=∀ρ h H ds vs Q E,Wd K mg ρ h H->RelDs K mg ρ H ds vs->fM K mg ρ H Q E (g ds h)->r vs H Q
noncomputable def dN(i:Nat):ME:=λae h=>match ae[i]? with
 |some (some d)=>.ok d h
 |_=>.stuck
noncomputable def eC(d:D):ME:=λ_ h=>.ok d h
noncomputable def eOp(g:D->D->AH->R D)(F G:ME):ME:=λae h=>(F ae h).bind λx h1=>(G ae h1).bind λy h2=>g x y h2
noncomputable def eUn(g:D->AH->R D)(F:ME):ME:=λae h=>(F ae h).bind g
noncomputable def kX:MA:=λ_ h=>.ok [] h
noncomputable def mR(F:ME)(G:MA):MA:=λae h=>(F ae h).bind λx h1=>(G ae h1).bind λxs h2=>.ok (x::xs) h2
noncomputable def eFn(g:Fn)(A:MA):ME:=λae h=>(A ae h).bind g
noncomputable def jJ(ds:List D)(h:AH):R D:=if ds.length<=16777216 then .ok (.tup ds) h else .stuck
noncomputable def fL(ds:List D)(h:AH):R D:=if ds.length<=16777216 then .ok (.ref h.length) (h++[.lst ds]) else .stuck
noncomputable def asB(d:D)(h:AH):R Bool:=match d with
 |.bl b=>.ok b h
 |_=>.stuck
noncomputable def CQ(F G:ME):ME:=λae h=>(F ae h).bind λx h1=>(asB x h1).bind λb h2=>if b=true then G ae h2 else .ok (.bl false) h2
noncomputable def C1(F:ME):ME:=λae h=>(F ae h).bind λx h1=>(asB x h1).bind λb h2=>.ok (.bl (!b)) h2
def eIf(c:MT)(F G:ME):ME:=λae h=>(c ae h).bind λb h1=>if b=true then F ae h1 else G ae h1
noncomputable def tOf(F:ME):MT:=λae h=>(F ae h).bind asB
noncomputable def tAn(c d:MT):MT:=λae h=>(c ae h).bind λb h1=>if b=true then d ae h1 else .ok false h1
noncomputable def tO(c d:MT):MT:=λae h=>(c ae h).bind λb h1=>if b=true then .ok true h1 else d ae h1
noncomputable def tNo(c:MT):MT:=λae h=>(c ae h).bind λb h1=>.ok (!b) h1
section
variable{K:W.Frag}{mg:Ra}{ρ:List Addr}{H:Hp}{h:AH}
def gw(w:Wd K mg ρ h H)(rs:RelDs K mg ρ H ds vs)(hp:H p=none)(q:fM K mg ρ H Q E (.ok (.ref h.length) (h++[.lst ds]))):Q (.ref p) (upd H p (.lst vs)):=by have l:Le ρ H (ρ++[p]) (upd H p (.lst vs)):=(eY hp).trans qt;refine q (ρ++[p]) _ l (w.alloc hp ⟨vs,eB,rs.mono l⟩) _ (.ref ?_);rw[<- w.len,OO (z_ _),QA];rfl
def lz(w:Wd K mg ρ h H)(rs:RelDs K mg ρ H ds vs)(hp:H p=none)(q:fM K mg ρ H Q E (.ok (.tup ds) h)):Q (.ref p) (upd H p (.tup vs)):=
 q ρ _ (eY hp) (w.tuple hp) _ (.tup (SqT.of eB) (rs.mono (eY hp)))
def bP(w:Wd K mg ρ h H)(r:RelD K mg ρ H d v)(q:fM K mg ρ H Q E (.ok d h)):Q v H:=q ρ H Le.refl w v r
end
section
variable{K:W.Frag}{mg:Ra}{X:Cx}{ES:St->XK}{e a b c:Expr}{es:List Expr}{F G:ME}{A:MA}{cf cg:MT}{pos:Pos}
def IX(i:Nat)(hN:X.N[i]?=some x)(hv:Vis X.env.scope x)(hd:(x==("__debug__" : Str))=false)
 (hcd:(x==("__classdict__" : Str))=false):DE K mg X ES (.Name x pos) (dN i):=PE.imp (Hy hN hv hd hcd) λσ H Q q_=>q_.el λρ h ae w re p=>by
 unfold dN at p;split at p
 .rename_i d ed;obtain⟨v,e1,r⟩:=re.at_ i d ed;exact⟨v,e1,bP w r p⟩
 .exact p.elim
def nJ(hp:PE X e (tC v))(r:∀ρ H,RelD K mg ρ H d v):DE K mg X ES e (eC d):=PE.imp hp λσ H Q q_=>q_.el λρ h ae w re p=>bP w (r ρ H) p
def HC:DE K mg X ES (.Constant (.int i) j pos) (eC (.int i)):=nJ Js λ_ _=>.int i
def Mq:DE K mg X ES (.Constant (.bool i) j pos) (eC (.bl i)):=nJ Od λ_ _=>.bl i
def Lf:DE K mg X ES (.Constant .none j pos) (eC .non):=nJ Lk λ_ _=>.non
def Kw:DE K mg X ES (.Constant (.str x) j pos) (eC (.str x)):=nJ Ap λ_ _=>.str x
def Jj(hg:Gl X x)(ha:∃a,mg x=some (.ref a))(hm:X.mg=mg)(hd:(x==("__debug__" : Str))=false):DE K mg X ES (.Name x pos) (eC (.glb x)):=by subst hm;obtain⟨a,ha⟩:=ha;exact nJ (wZ hg ha (v:=.ref a) rfl hd) λ_ _=>.glb ha
structure GC(K:W.Frag)(mg:Ra)(x:Str)(d:D):Prop where
 ex:∃u v,mg x=some u/\RelV v u/\∀ρ H,RelD K mg ρ H d v
def NX(hg:Gl X x)(ha:GC K mg x d)(hm:X.mg=mg)(hd:(x==("__debug__" : Str))=false):DE K mg X ES (.Name x pos) (eC d):=by subst hm;obtain⟨u,v,h1,h2,h3⟩:=ha.ex;exact nJ (wZ hg h1 h2 hd) h3
def NZ(hg:Gl X x)(hm:mg x=none)(hv:bootBuiltins x=some (.type n))(he:X.mg=mg)(hn:x ≠ "__name__")(hd:(x==("__debug__" : Str))=false):DE K mg X ES (.Name x pos) (eC (.ty n)):=by subst he;exact nJ (Fo hg hm hv (v:=.ty n) rfl hn hd) λ_ _=>.ty n
def sM(hd:OpD K mg r g)(σ:St)(H:Hp)(Q:VK)(q:rdE K mg ES (eOp g F G) σ H Q):tOp r (rdE K mg ES F) (rdE K mg ES G) σ H Q:=by obtain⟨ρ,h,ae,w,re,p⟩:=q;exact⟨ρ,h,ae,w,re,p.bind.imp λdx h1 ρ1 H1 l1 w1 p1 x rx=>⟨ρ1,h1,ae,w1,re.mono l1,p1.bind.imp λdy h2 ρ2 H2 l2 w2 p2 y ry=>hd ρ2 h2 H2 dx dy x y Q _ w2 (rx.mono l2) ry p2⟩⟩
def L5(ho:OpR X (binaryOp op) r)(hd:OpD K mg r g)(ha:DE K mg X ES a F)(hb:DE K mg X ES b G):DE K mg X ES (.BinOp a op b pos) (eOp g F G):=PE.imp (Nf ho ha hb) (sM hd)
def Nw(hr:IxR X r)(hd:OpD K mg r g)(ha:DE K mg X ES a F)(hb:DE K mg X ES b G)(hs:pP b):DE K mg X ES (.Subscript a b pos) (eOp g F G):=PE.imp (Ms hr ha hb hs) (sM hd)
def G4(ho:OpR X (compareOp op) r)(hd:OpD K mg r g)(ha:DE K mg X ES a F)(hb:DE K mg X ES b G)(hm:behindInMarks op b=false):DE K mg X ES (.Compare a [op] [b] pos) (eOp g F G):=PE.imp (Fm ho ha hb hm) (sM hd)
def xm(σ:St)(H:Hp)(Q:Bool->Hp->Prop)(q:rdT K mg ES (tOf F) σ H Q):rdE K mg ES F σ H λx H'=>∃k,x=.bl k/\Q k H':=by
 obtain⟨ρ,h,ae,w,re,p⟩:=q;refine⟨ρ,h,ae,w,re,p.bind.imp λd h1 ρ1 H1 l1 w1 p1 x rx=>?_⟩;unfold asB at p1;split at p1
 .cases rx;exact⟨_,rfl,p1 ρ1 H1 Le.refl w1⟩
 .exact p1.elim
def Kz(ho:OpR X (compareOp op) r)(hd:OpD K mg r g)(ha:DE K mg X ES a F)(hb:DE K mg X ES b G)(hm:behindInMarks op b=false):DT K mg X ES (.Compare a [op] [b] pos) (tOf (eOp g F G)):=
 PT.imp (Fy ho ha hb hm) λσ H Q q=>sM hd σ H _ (xm σ H Q q)
def Jz(ha:DE K mg X ES a F)(he:∀u_,isTrue a X.env u_=(do let v <- u_;standAt a.pos;holding [v] (truthy v))):DT K mg X ES a (tOf F):=
 PT.imp (Jl ha he) λσ H Q q=>xm σ H Q q
def Lq(ha:DT K mg X ES a cf):DT K mg X ES (.UnaryOp .Not a pos) (tNo cf):=PT.imp (Ie ha) λσ H Q q_=>q_.el λρ h ae w re p=>
 ⟨ρ,h,ae,w,re,p.bind.imp λb h1 ρ1 H1 l1 w1 p1=>p1 ρ1 H1 Le.refl w1⟩
def EJ(ha:DT K mg X ES a cf):DW K mg X ES (.BoolOp .And [a] pos) cf:=Eo ha
def Jb(ha:DT K mg X ES a cf):DW K mg X ES (.BoolOp .Or [a] pos) cf:=IP ha
def HR(ha:DT K mg X ES a cf)(hb:DW K mg X ES (.BoolOp .And (b::es) pos) cg):DW K mg X ES (.BoolOp .And (a::b::es) pos) (tAn cf cg):=PW.imp (Kp ha hb) λσ H Q q_=>q_.el λρ h ae w re p=>
 ⟨ρ,h,ae,w,re,p.bind.imp λb h1 ρ1 H1 l1 w1 p1=>by
  cases b with
  |true=>exact⟨ρ1,h1,ae,w1,re.mono l1,p1⟩
  |false=>exact p1 ρ1 H1 Le.refl w1⟩
def LA(ha:DT K mg X ES a cf)(hb:DW K mg X ES (.BoolOp .Or (b::es) pos) cg):DW K mg X ES (.BoolOp .Or (a::b::es) pos) (tO cf cg):=PW.imp (Nb ha hb) λσ H Q q_=>q_.el λρ h ae w re p=>
 ⟨ρ,h,ae,w,re,p.bind.imp λb h1 ρ1 H1 l1 w1 p1=>by
  cases b with
  |true=>exact p1 ρ1 H1 Le.refl w1
  |false=>exact⟨ρ1,h1,ae,w1,re.mono l1,p1⟩⟩
def DW.dt(h:DW K mg X ES a cf):DT K mg X ES a cf:=PW.pt h
def Ha{op}(h:DE K mg X ES a F):DE K mg X ES (.BoolOp op [a] pos) F:=G6 h
def IJ(ha:DE K mg X ES a F)(hb:DE K mg X ES (.BoolOp .And (b::es) pos) G):DE K mg X ES (.BoolOp .And (a::b::es) pos) (CQ F G):=PE.imp (Jd ha hb) λσ H Q q_=>q_.el λρ h ae w re p=>by
 refine⟨ρ,h,ae,w,re,p.bind.imp λd h1 ρ1 H1 l1 w1 p1 x rx=>?_⟩;unfold asB at p1;split at p1
 .rename_i b';cases rx;refine⟨b',rfl,?_⟩;cases b' with
  |true=>exact⟨ρ1,h1,ae,w1,re.mono l1,p1⟩
  |false=>exact p1 ρ1 H1 Le.refl w1 _ (.bl false)
 .exact p1.elim
def Hu(ha:DE K mg X ES a F):DE K mg X ES (.UnaryOp .Not a pos) (C1 F):=PE.imp (Hs ha) λσ H Q q_=>q_.el λρ h ae w re p=>by
 refine⟨ρ,h,ae,w,re,p.bind.imp λd h1 ρ1 H1 l1 w1 p1 x rx=>?_⟩;unfold asB at p1;split at p1
 .cases rx;exact⟨_,rfl,p1 ρ1 H1 Le.refl w1 _ (.bl _)⟩
 .exact p1.elim
def NR(hc:DT K mg X ES c cf)(ha:DE K mg X ES a F)(hb:DE K mg X ES b G):DE K mg X ES (.IfExp c a b pos) (eIf cf F G):=PE.imp (Bd hc ha hb) λσ H Q q_=>q_.el λρ h ae w re p=>
 ⟨ρ,h,ae,w,re,p.bind.imp λb h1 ρ1 H1 l1 w1 p1=>by
  cases b with
  |true=>exact⟨ρ1,h1,ae,w1,re.mono l1,p1⟩
  |false=>exact⟨ρ1,h1,ae,w1,re.mono l1,p1⟩⟩
def MF(ho:UnR X (unaryOp op) r)(hd:UnD K mg r g)(ha:DE K mg X ES a F):DE K mg X ES (.UnaryOp op a pos) (eUn g F):=PE.imp (Ov ho ha) λσ H Q q_=>q_.el λρ h ae w re p=>
 ⟨ρ,h,ae,w,re,p.bind.imp λd h1 ρ1 H1 l1 w1 p1 x rx=>hd ρ1 h1 H1 d x Q _ w1 rx p1⟩
def JX:DA K mg X ES [] kX:=PA.imp Kh λσ H Q q_=>q_.el λρ h ae w re p=>p ρ H Le.refl w _ .nil
def FZ(ha:DE K mg X ES e F)(hr:DA K mg X ES es A)(hs:starEach (e::es) X.env=(false,eval e X.env)::starEach es X.env):DA K mg X ES (e::es) (mR F A):=PA.imp (EN ha hr hs) λσ H Q q_=>q_.el λρ h ae w re p=>
 ⟨ρ,h,ae,w,re,p.bind.imp λd h1 ρ1 H1 l1 w1 p1 x rx=>⟨ρ1,h1,ae,w1,re.mono l1,p1.bind.imp λds h2 ρ2 H2 l2 w2 p2 vs rs=>p2 ρ2 H2 Le.refl w2 _ (.cons (rx.mono l2) rs)⟩⟩
def Jh{x1}(h:DA K mg X ES es A):DE K mg X ES (.Tuple es x1 pos) (eFn jJ A):=PE.imp (KH h) λσ H Q q_=>q_.el λρ h ae w re p=>
 ⟨ρ,
  h,ae,w,re,p.bind.imp λds h1 ρ1 H1 l1 w1 p1 vs rs=>by
  unfold jJ at p1;split at p1
  .rename_i hl;exact⟨by rw[<- rs.len];exact hl,λq hq=>lz w1 rs hq p1⟩
  .exact p1.elim⟩
def KY(h:DA K mg X ES es A):DE K mg X ES (.List es pos) (eFn fL A):=PE.imp (KD h) λσ H Q q_=>q_.el λρ h ae w re p=>
 ⟨ρ,
  h,ae,w,re,p.bind.imp λds h1 ρ1 H1 l1 w1 p1 vs rs=>by
  unfold fL at p1;split at p1
  .rename_i hl;exact⟨by rw[<- rs.len];exact hl,λq hq=>gw w1 rs hq p1⟩
  .exact p1.elim⟩
def ym(hd:dg K mg r g)(σ:St)(H:Hp)(Q:VK)(q:rdE K mg ES (eFn g A) σ H Q):tCB r (rdA K mg ES A) σ H Q:=by obtain⟨ρ,h,ae,w,re,p⟩:=q;exact⟨ρ,h,ae,w,re,p.bind.imp λds h1 ρ1 H1 l1 w1 p1 vs rs=>hd ρ1 h1 H1 ds vs Q _ w1 rs p1⟩
def BG{id:String}{r:List V->Hp->VK->Prop}{g:Fn}{x:Str}{p:Pos}(hc:CallR X (.builtin id) r)(hd:dg K mg r g)(hg:Gl X x)(hm:mg x=none)(hv:bootBuiltins x=some (.builtin id))(ha:DA K mg X ES (e::es) A)(hk:X.mg=mg)(hn:x ≠ "__name__")(hdb:(x==("__debug__" : Str))=false)
 (he:starEach (e::es) X.env=(false,eval e X.env)::starEach es X.env) (hpl:(backTo pos (starEach es X.env)).any (·.1)=false):DE K mg X ES (.Call (.Name x p) (e::es) [] pos) (eFn g A):=by
 subst hk;exact PE.imp (Bg hc hg hm hv ha hn hdb he hpl) (ym hd)
def zP(hc:CallR X (.type T) r)(hd:dg K mg r g)(hg:Gl X x)(hm:mg x=none)(hv:bootBuiltins x=some (.type T))(ha:DA K mg X ES (e::es) A)(hk:X.mg=mg)(hn:x ≠ "__name__")(hdb:(x==("__debug__" : Str))=false)
 (he:starEach (e::es) X.env=(false,eval e X.env)::starEach es X.env) (hpl:(backTo pos (starEach es X.env)).any (·.1)=false):DE K mg X ES (.Call (.Name x p) (e::es) [] pos) (eFn g A):=by
 subst hk;exact PE.imp (zq hc hg hm hv ha hn hdb he hpl) (ym hd)
end
noncomputable def SR.then(r:SR)(f:AE->AH->SR):SR:=match r with
 |.nx ae h=>f ae h
 |.rt d h=>.rt d h
 |.bk ae h=>.bk ae h
 |.ct ae h=>.ct ae h
 |.exc c ae h=>.exc c ae h
 |.stuck=>.stuck
noncomputable def R.toS{α:Type}(r:R α)(ae:AE)(f:α->AH->SR):SR:=match r with
 |.ok a h=>f a h
 |.exc c h=>.exc c ae h
 |.stuck=>.stuck
noncomputable def sNx:MS:=λae h=>.nx ae h
def sCt:MS:=λae h=>.ct ae h
noncomputable def Bc(F G:MS):MS:=λae h=>(F ae h).then G
noncomputable def xI(F:ME):MS:=λae h=>(F ae h).toS ae λd h1=>.rt d h1
noncomputable def yj(F:ME):MS:=λae h=>(F ae h).toS ae λ_ h1=>.nx ae h1
noncomputable def sIf(c:MT)(F G:MS):MS:=λae h=>(c ae h).toS ae λb h1=>if b=true then F ae h1 else G ae h1
abbrev MG:=D->AE->AH->R AE
abbrev MGs:=List D->AE->AH->R AE
noncomputable def i0(F:ME)(g:MG):MS:=λae h=>(F ae h).toS ae λd h1=>(g d ae h1).toS ae λd_ h2=>.nx d_ h2
noncomputable def gN(i:Nat):MG:=λd ae h=>.ok (ae.set i (some d)) h
noncomputable def gsN:MGs:=λds ae h=>match ds with
 | []=>.ok ae h
 |_=>.stuck
noncomputable def gsC(g:MG)(u:MGs):MGs:=λds ae h=>match ds with
 |d::r=>(g d ae h).bind λd_ h'=>u r d_ h'
 | []=>.stuck
noncomputable def gT(u:MGs):MG:=λd ae h=>match d with
 |.tup ds=>u ds ae h
 |_=>.stuck
noncomputable def gS(F G:ME)(w:D->D->D->AH->R Unit):MG:=λv ae h=>(F ae h).bind λo h1=>(G ae h1).bind λi h2=>(w o i v h2).bind λ_ h3=>.ok ae h3
noncomputable def Dl(i j:Nat)(A:MA):MS:=λae h=>(A ae h).toS ae λds h1=>match ds with
 | [d,e]=>.nx ((ae.set i (some d)).set j (some e)) h1
 |_=>.stuck
noncomputable def vD(i:Nat)(g:D->D->AH->R D)(F:ME):MS:=λae h=>match ae[i]? with
 |some (some x)=>(F ae h).toS ae λy h1=>(g x y h1).toS ae λz h2=>.nx (ae.set i (some z)) h2
 |_=>.stuck
noncomputable def uR(c:Str)(A:MA):MS:=λae h=>(A ae h).toS ae λds h1=>if ds.length<=16777216 then .exc c ae h1 else .stuck
section
variable(K:W.Frag)(mg:Ra)
def rdG(ES:St->XK)(g:MG):TG:=λv σ H Q=>∃ρ h ae d,Wd K mg ρ h H/\RelE K mg ρ H ae σ/\RelD K mg ρ H d v/\PostG K mg ρ H (ES σ) (λd_ _ ρ' H'=>∀σ',RelE K mg ρ' H' d_ σ'->Q σ' H') (g d ae h)
def rdGs(ES:St->XK)(g:MGs):TGs:=λvs σ H Q=>∃ρ h ae ds,Wd K mg ρ h H/\RelE K mg ρ H ae σ/\RelDs K mg ρ H ds vs/\PostG K mg ρ H (ES σ) (λd_ _ ρ' H'=>∀σ',RelE K mg ρ' H' d_ σ'->Q σ' H') (g ds ae h)
def DG(X:Cx)(ES:St->XK)(e:Expr)(g:MG):Prop:=PG X e (rdG K mg ES g)
def DGs(X:Cx)(ES:St->XK)(es:List Expr)(g:MGs):Prop:=PGs X es (rdGs K mg ES g)
def mB(X:Cx)(ES:St->XK):Prop:=∀(pins:Rb) (σ:St) (H:Hp) (s:Shared) (e:Value) (s':Shared),Inv X pins σ H s->CX1 X.prog X.w X.stack H s (ES σ) e s'->X.xe e s'
end
def rdG.el{K:W.Frag}{mg:Ra}{ES:St->XK}{g:MG}{v:V}{σ:St}{H:Hp}{Q:St->Hp->Prop}{C:Prop}(q:rdG K mg ES g v σ H Q)(k:∀ρ h ae d,Wd K mg ρ h H->RelE K mg ρ H ae σ->RelD K mg ρ H d v->PostG K mg ρ H (ES σ) (λd_ _ ρ' H'=>∀σ',RelE K mg ρ' H' d_ σ'->Q σ' H') (g d ae h)->C):C:=by obtain⟨ρ,h,ae,d,w,re,rd,p⟩:=q;exact k ρ h ae d w re rd p
def rdGs.el{K:W.Frag}{mg:Ra}{ES:St->XK}{g:MGs}{v:List V}{σ:St}{H:Hp}{Q:St->Hp->Prop}{C:Prop}(q:rdGs K mg ES g v σ H Q)(k:∀ρ h ae d,Wd K mg ρ h H->RelE K mg ρ H ae σ->RelDs K mg ρ H d v->PostG K mg ρ H (ES σ) (λd_ _ ρ' H'=>∀σ',RelE K mg ρ' H' d_ σ'->Q σ' H') (g d ae h)->C):C:=by obtain⟨ρ,h,ae,d,w,re,rd,p⟩:=q;exact k ρ h ae d w re rd p
section
variable{K:W.Frag}{mg:Ra}{ES:St->XK}{ρ:List Addr}{H:Hp}{h:AH}{ae:AE}{σ:St}{De:Ends}
def dO(p:PostS K mg ρ H De ES (r.toS ae f))(re:RelE K mg ρ H ae σ)
 (i:∀a h1 ρ1 H1,Le ρ H ρ1 H1->Wd K mg ρ1 h1 H1->RelE K mg ρ1 H1 ae σ->PostS K mg ρ1 H1 De ES (f a h1)->k a h1 ρ1 H1):PostG K mg ρ H (ES σ) k r:=by
 cases r with
 |ok a h1=>exact λρ1 H1 l1 w1=>i a h1 ρ1 H1 l1 w1 (re.mono l1) (PostS.mono l1 p)
 |exc c h1=>exact λρ1 H1 C l1 w1 m=>p ρ1 H1 σ C l1 w1 (re.mono l1) m
 |stuck=>exact p
def i6(p:PostS K mg ρ H De ES (.nx d_ h))(w:Wd K mg ρ h H)(re:RelE K mg ρ H d_ σ):De.nx σ H:=p ρ H σ Le.refl w re
def Cy(p:PostS K mg ρ H De ES (r.then f))(i:∀h_ h1 ρ1 H1 σ1,Le ρ H ρ1 H1->Wd K mg ρ1 h1 H1->RelE K mg ρ1 H1 h_ σ1->PostS K mg ρ1 H1 De ES (f h_ h1)->N σ1 H1):PostS K mg ρ H { De with nx:=N } ES r:=by
 cases r with
 |nx h_ h1=>exact λρ1 H1 σ1 l1 w1 re1=>i h_ h1 ρ1 H1 σ1 l1 w1 re1 (PostS.mono l1 p)
 |rt d h1=>exact p
 |bk h_ h1=>exact p
 |ct h_ h1=>exact p
 |exc c h_ h1=>exact p
 |stuck=>exact p
end
section
variable{K:W.Frag}{mg:Ra}{X:Cx}{ES:St->XK}{e a b c o i:Expr}{es:List Expr}{st:Stmt}{sts sts':List Stmt}{F:ME}{A:MA}{cf:MT}{U V':MS}{g:MG}{gs:MGs}{pos:Pos}
def FO:DSs K mg X ES [] sNx:=PSs.imp EL λD σ H q_=>q_.el λρ h ae w re p=>i6 p w re
def GG(h1:DS K mg X ES st U):DSs K mg X ES [st] U:=FI h1
def BW(h1:DS K mg X ES st U)(h2:DSs K mg X ES sts V'):DSs K mg X ES (st::sts) (Bc U V'):=PSs.imp (Bb h1 h2) λD σ H q_=>q_.el λρ h ae w re p=>
 ⟨ρ,h,ae,w,re,Cy p λh_ h1 ρ1 H1 σ1 l1 w1 re1 p1=>⟨ρ1,h1,h_,w1,re1,p1⟩⟩
def vJ:DS K mg X ES (.Continue pos) sCt:=PS.imp vR λD σ H q_=>q_.el λρ h ae w re p=>p ρ H σ Le.refl w re
def Jr(he:DE K mg X ES e F):DS K mg X ES (.Return (some e) pos) (xI F):=PS.imp (Ji he) λD σ H q_=>q_.el λρ h ae w re p=>
 ⟨ρ,h,ae,w,re,dO p re λd h1 ρ1 H1 l1 w1 re1 p1 v rv=>p1 ρ1 H1 v Le.refl w1 rv⟩
def FW(he:DE K mg X ES e F)(hs:swapsWith e none pos.line X.env=pure false):DS K mg X ES (.Expr e pos) (yj F):=PS.imp (FN he hs) λD σ H q_=>q_.el λρ h ae w re p=>
 ⟨ρ,h,ae,w,re,dO p re λd h1 ρ1 H1 l1 w1 re1 p1 v rv=>i6 p1 w1 re1⟩
def LG(hc:DT K mg X ES c cf)(ha:DSs K mg X ES sts U)(hb:DSs K mg X ES sts' V'):DS K mg X ES (.If c sts sts' pos) (sIf cf U V'):=PS.imp (LO hc ha hb) λD σ H q_=>q_.el λρ h ae w re p=>
 ⟨ρ,h,ae,w,re,dO p re λb h1 ρ1 H1 l1 w1 re1 p1=>by
  cases b with
  |true=>exact⟨ρ1,h1,ae,w1,re1,p1⟩
  |false=>exact⟨ρ1,h1,ae,w1,re1,p1⟩⟩
def GD{i:Nat}{x:Str}(hN:X.N.Nodup)(hi:X.N[i]?=some x)(hx:Loc X.env.scope x)(hf:X.fn x=true\/X.env.scope.names.lookup x=some .local):DG K mg X ES (.Name x pos) (gN i):=
 PG.imp (Ey hN hi hx hf) λv σ H Q q_=>q_.el λρ h ae d w re rd p=>p ρ H Le.refl w _ (re.set i rd)
def Gs:DGs K mg X ES [] gsN:=PGs.imp EM λvs σ H Q q_=>q_.el λρ h ae ds w re rd p=>by
 cases rd with
 |nil=>exact⟨rfl,p ρ H Le.refl w _ re⟩
 |cons r rr=>exact p.elim
def Bt(h1:DG K mg X (λ_=>E0) e g)(h2:DGs K mg X (λ_=>E0) es gs)
 (hs:(assignEach (e::es) X.env).map (·.2)=assign e X.env::(assignEach es X.env).map (·.2)):DGs K mg X (λ_=>E0) (e::es) (gsC g gs):=PGs.imp (Be h1 h2 hs) λvs σ H Q q_=>q_.el λρ h ae ds w re rd p=>by
 cases rd with
 |nil=>exact p.elim
 |cons r rr=>exact⟨_,_,rfl,ρ,h,ae,_,w,re,r,p.bind.imp λh_ h1 ρ1 H1 l1 w1 p1 σ1 re1=>⟨ρ1,h1,h_,_,w1,re1,rr.mono l1,p1⟩⟩
def IL{k n:Nat}(hK:X.K=K)(hc:X.calm=true)(h:DGs K mg X (λ_=>E0) es gs)
 (hn:(assignEach es X.env).length=n) (hst:(assignEach es X.env).findIdx? (·.1)=none):DG K mg X (λ_=>E0) (.Tuple es k pos) (gT λds ae h=>if ds.length=n then gs ds ae h else .stuck):=by
 subst hK;refine PG.imp (Aa hc h hn hst) λv σ H Q q_=>q_.el λρ h ae d w re rd p=>?_;unfold gT at p;cases rd with
 |
  tup q rs=>
  dsimp only at p;split at p
  .rename_i hl;exact⟨_,_,rfl,q,by rw[<- rs.len];exact hl,ρ,h,ae,_,w,re,rs,p⟩
  .exact p.elim
 |_=>exact p.elim
noncomputable def noX{α:Type}(r:R α):R α:=match r with
 |.exc _ _=>.stuck
 |.ok a h=>.ok a h
 |.stuck=>.stuck
def DG.weak(hg:DG K mg X (λ_=>E0) e g):DG K mg X ES e (λd ae h=>noX (g d ae h)):=PG.imp hg λv σ H Q q_=>q_.el λρ h ae d w re rd p=>by
 refine⟨ρ,h,ae,d,w,re,rd,?_⟩;try dsimp only at p
 cases q:g d ae h with
 |ok a h1=>rw[q] at p;exact p
 |exc c h1=>rw[q] at p;exact p.elim
 |stuck=>rw[q] at p;exact p.elim
def yP(K:W.Frag)(mg:Ra)(r:yU)(f:D->D->D->AH->R Unit):Prop:=∀ρ h H do_ di dv o i v (Q:Hp->Prop) E,Wd K mg ρ h H->RelD K mg ρ H do_ o->RelD K mg ρ H di i->RelD K mg ρ H dv v->PostG K mg ρ H E (λ_ _ _ H'=>Q H') (f do_ di dv h)->r o i v H Q
def Af(he:DE K mg X ES e F)(hg:DG K mg X ES a g)(hs:swapsWithSole [a] e pos.line X.env=pure false)(hw:swappedStores [a] e X.env=pure none)
 (h1:(assignEach [a] X.env).map (·.2)=[assign a X.env]):DS K mg X ES (.Assign [a] e pos) (i0 F g):=PS.imp (JY he hg hs hw h1) λD σ H q_=>q_.el λρ h ae w re p=>
 ⟨ρ,h,ae,w,re,dO p re λd h1 ρ1 H1 l1 w1 re1 p1 v rv=>⟨ρ1,h1,ae,d,w1,re1,rv,dO p1 re1 λae2 h2 ρ2 H2 l2 w2 re2 p2 σ' re'=>i6 p2 w2 re'⟩⟩
def G0{i:Nat}{x:Str}{t_:Pos}(hN:X.N.Nodup)(hi:X.N[i]?=some x)(hx:Loc X.env.scope x)(he:DE K mg X ES e F)(hs:swapsWith e (some (.Name x t_)) pos.line X.env=pure false)(hf:X.fn x=true\/X.env.scope.names.lookup x=some .local):
 DS K mg X ES (.Assign [.Name x t_] e pos) (i0 F (gN i)):=PS.imp (HG hN hi hx he hs hf) λD σ H q_=>q_.el λρ h ae w re p=>
 ⟨ρ,h,ae,w,re,dO p re λd h1 ρ1 H1 l1 w1 re1 p1 v rv=>i6 p1 w1 (re1.set i rv)⟩
def HB{i j:Nat}{x y:Str}{px py pt:Pos}{kt k2 pt2}(hc:X.calm=true)(hN:X.N.Nodup)(hi:X.N[i]?=some x)(hj:X.N[j]?=some y)(hij:i≠j)
 (hx:X.env.scope.names.lookup x=some .local) (hy:X.env.scope.names.lookup y=some .local) (ha:DA K mg X ES [a,b] A)
 (hw:swappedStores [.Tuple [.Name x px,.Name y py] kt pt] (.Tuple [a,b] k2 pt2) X.env=pure (some [x,y]))
 (hs:swapsWithSole [.Tuple [.Name x px,.Name y py] kt pt] (.Tuple [a,b] k2 pt2) pos.line X.env=pure false):
 DS K mg X ES (.Assign [.Tuple [.Name x px,.Name y py] kt pt] (.Tuple [a,b] k2 pt2) pos) (Dl i j A):=PS.imp (GP hc hN hi hj hij hx hy ha hw hs) λD σ H q_=>q_.el λρ h ae w re p=>
 ⟨ρ,h,ae,w,re,dO p re λds h1 ρ1 H1 l1 w1 re1 p1 vs rs=>by
  split at p1
  .cases rs with
   |
    cons r1 rs=>
    cases rs with
    |cons r2 rs=>cases rs;exact⟨_,_,rfl,i6 p1 w1 ((re1.set i r1).set j r2)⟩
  .exact p1.elim⟩
def IpD(K:W.Frag)(mg:Ra)(r:TIp)(g:D->D->AH->R D):Prop:=∀ρ h H dx dy x y Q E,Wd K mg ρ h H->RelD K mg ρ H dx x->RelD K mg ρ H dy y->fM K mg ρ H Q E (g dx dy h)->r x y H Q
def KJ{i:Nat}{x:Str}{op:Operator}{ti:TIp}{t_:Pos}{gg:D->D->AH->R D}(hN:X.N.Nodup)(hi:X.N[i]?=some x)(hx:Loc X.env.scope x)(he:DE K mg X ES e F)(ho:PIp X op ti)(hd:IpD K mg ti gg)(hf:X.fn x=true\/X.env.scope.names.lookup x=some .local):
 DS K mg X ES (.AugAssign (.Name x t_) op e pos) (vD i gg F):=PS.imp (HI hN hi hx he ho hf) λD σ H q_=>q_.el λρ h ae w re p=>by
 unfold vD at p;split at p
 .rename_i d ed;obtain⟨v,e1,r⟩:=re.at_ i d ed;exact⟨v,e1,ρ,h,ae,w,re,dO p re λdy h1 ρ1 H1 l1 w1 re1 p1 y ry=>hd ρ1 h1 H1 d dy v y _ _ w1 (r.mono l1) ry (dO p1 re1 λdz h2 ρ2 H2 l2 w2 re2 p2 z rz=>i6 p2 w2 (re2.set i rz))⟩
 .exact p.elim
def Dj(hc:X.calm=true)(hR:Rz X E)(hg:Gl X x)(hm:mg x=some (.ref C))(hq:W.excIn X.K C nz "ValueError.__new__"=true)(ha:DA K mg X (λ_=>E) (e::es) A)(hk:X.mg=mg)
 (he:starEach (e::es) X.env=(false,eval e X.env)::starEach es X.env) (j':(backTo cpos (starEach es X.env)).any (·.1)=false) (hd:(x==("__debug__" : Str))=false):
 DS K mg X (λ_=>E) (.Raise (some (.Call (.Name x np) (e::es) [] cpos)) none pos) (uR x A):=by
 subst hk;exact
  PS.imp (CT hc hR hg hm hq ha he j' hd) λD σ H q_=>q_.el λρ h ae w re p=>
  ⟨ρ,
   h,ae,w,re,dO p re λds h1 ρ1 H1 l1 w1 re1 p1 vs rs=>by
   split at p1
   .rename_i hl;exact⟨by rw[<- rs.len];exact hl,p1 ρ1 H1 σ C Le.refl w1 re1 hm⟩
   .exact p1.elim⟩
def EK(C:Callee X.prog X.w X.K X.mg X.base x k ps (spD K mg n S))(hr:Room k X.A)(hg:Gl X x)(hx:mB X ES)(ha:DA K mg X ES (e::es) A)
 (hdb:(x==("__debug__" : Str))=false) (he:starEach (e::es) X.env=(false,eval e X.env)::starEach es X.env) (hpl:(backTo pos (starEach es X.env)).any (·.1)=false):
 DE K mg X ES (.Call (.Name x p) (e::es) [] pos) (eFn (λds h=>if ds.length=n then S ds h else .stuck) A):=by
 obtain⟨f,fd,F',m,kp,bb,_⟩:=C.ex;intro pins s σ H Q I hh;refine PY (qP I hg m ?_ hdb);have rd:rdA K mg ES A σ H (λvs H1=>spD K mg n S vs H1 Q (ES σ)):=by
  obtain⟨ρ,h,ae,w,re,p⟩:=hh;refine⟨ρ,h,ae,w,re,p.bind.imp λds h1 ρ1 H1 l1 w1 p1 vs rs=>?_⟩;split at p1
  .rename_i hl;exact⟨ρ1,h1,ds,w1,rs,hl,p1⟩
  .exact p1.elim
 refine W.callWith_K (h₀:=X.base) I.ok.mod.kin kp (OV (ha pos pins s σ H _ I rd) (λus s1 ⟨vs,H1,I1,r,q⟩=>⟨I1.kIn,?_⟩) λ_ _ z=>z) he hpl;have hl:(us++[]).length=ps.length:=by rw[O9,<- r.length];exact F'.len _ _ _ _ q
 refine wpAny_call (codeAny_mono (F'.run X.A X.stack s1 H1 ⟨us,[]⟩ us vs Q (ES σ) hr I1.env0 (by simpa using bb s1 us I1.kIn hl) r q) λr s' hq=>?_);cases r with
 |error ex=>exact hx pins σ H1 s1 ex s' I1 hq
 |
  ok fl=>
  cases fl with
  |ret u=>exact I1.after hq
  |next=>exact False.elim hq
  |brk=>exact False.elim hq
  |cont=>exact False.elim hq
noncomputable def fnD(n:Nat)(F:MS):Fn:=λds h=>match F (ds.map some++List.replicate (n-ds.length) none) h with
 |.nx _ h'=>.ok .non h'
 |.rt d h'=>.ok d h'
 |.exc c _ h'=>.exc c h'
 |_=>.stuck
def vW(hp:uQ (CX1 X.prog X.w) X E):mB X (λ_=>E):=λpins σ H s e s' I h=>hp pins σ H s e s' I h
def Bp:mB X (λ_=>E0):=λpins σ H s e s' I h=>MU pins σ H s e s' I h
end
section
variable{P:Program}{w:World}{K:W.Frag}{mg:Ra}{base:Heap}{x:Str}{st:Stmt}{k:Nat}{ps N:List Str}{F:MS}
def yg(rs:RelDs K mg ρ H ds vs):RelE K mg ρ H (ds.map some++List.replicate (N.length-ds.length) none) (gQ N vs):=by
 unfold gQ;refine⟨by rw[H_,H_,v_,v_,Pa,Pa,rs.len],λi d e=>?_⟩;by_cases hi:i<ds.length
 .rw[OD (by rw[v_];exact hi),OI] at e;have e':ds[i]?=some d:=by
   cases q:ds[i]? with
   |none=>rw[q] at e;cases e
   |some z=>rw[q] at e;cases e;rfl
  obtain⟨v,h1,h2⟩:=rs.getD e';refine⟨v,?_,h2⟩;rw[OD (by rw[v_,<- rs.len];exact hi),OI,h1];rfl
 .rw[OO (by rw[v_];omega),O6] at e;split at e <;> cases e
def Def.okD(D:Def K mg x st)(S:FnScope N ps (bF st))
 (hb:∀(kV doc pm:Value) (an:Option Addr) (cdv ct:Value) (us:List Value),us.length=ps.length->bindArgs (W.fnOf x x (ee st) (cC st) (bF st) .none kV doc pm an cdv ct) ⟨us,[]⟩=pure (ps.zip us))
 (j_:∀(f:Addr) (cdv:Value) (A:Around) (outer:List Env) (s:Shared) (H:Hp) (E:XK),Room k (A.deeper (envOfC x (bF st) s.heap.objs.size f cdv))->
  DSs K mg (fJ (CX1 P w) P w K mg base N x (bF st) f cdv A outer s H E) (λ_=>E) (cC st) F):Callee P w K mg base x (k+1) ps (spD K mg ps.length (fnD N.length F)):=by
 refine D.okR S hb (λvs H Q E ⟨ρ,h,ds,w,rs,hl,p⟩=>by rw[<- rs.len];exact hl) λf cdv A outer s H vs Q E hr ⟨ρ,h,ds,w',rs,hl,p⟩=>?_;refine⟨_,j_ f cdv A outer s H E hr,ρ,h,_,w',yg rs,?_⟩;unfold fnD at p;split at p
 .rename_i e;rw[e];exact λρ1 H1 σ1 l1 w1 re1=>p ρ1 H1 l1 w1 _ .non
 .rename_i e;rw[e];exact λρ1 H1 v l1 w1 rv=>p ρ1 H1 l1 w1 v rv
 .rename_i e;rw[e];exact λρ1 H1 σ1 C l1 w1 re1 m=>p ρ1 H1 C l1 w1 m
 .exact p.elim
end
noncomputable def cE(h:AH)(n:Nat):Option (List D):=match h[n]? with
 |some (.lst xs)=>some xs
 |some (.fz xs)=>some xs
 |_=>none
noncomputable def iA(h:AH):D->Option (List D)
 |.tup xs=>some xs
 |.ref n=>cE h n
 |.kl xs=>some xs
 |_=>none
section
variable{K:W.Frag}{mg:Ra}{ρ:List Addr}{H:Hp}{h:AH}
def dH(w:Wd K mg ρ h H)(ea:ρ[n]?=some a)(e:cE h n=some xs):∃vs,SqL K H a vs/\RelDs K mg ρ H xs vs:=by
 unfold cE at e;split at e
 .rename_i ys eo;cases e;obtain⟨vs,h1,h2⟩:=w.ob n a _ ea eo;exact⟨vs,SqL.of h1,h2⟩
 .rename_i ys eo;cases e;obtain⟨o,vs,h1,h2⟩:=w.ob n a _ ea eo;exact⟨vs,.inl (.inr ⟨o,h1⟩),h2⟩
 .cases e
def gf(w:Wd K mg ρ h H)(r:RelD K mg ρ H d v)(e:iA h d=some xs):∃p vs,v=.ref p/\(SqL K H p vs\/SqT K H p vs)/\RelDs K mg ρ H xs vs:=by
 cases r with
 |tup q rs=>have e':some _=some xs:=e;cases e';exact⟨_,_,rfl,.inr q,rs⟩
 |ref ea=>obtain⟨vs,h1,h2⟩:=dH w ea e;exact⟨_,vs,rfl,.inl h1,h2⟩
 |kl q rs=>have e':some _=some xs:=e;cases e';exact⟨_,_,rfl,.inl (.inr q),rs⟩
 |_=>cases e
end
noncomputable def g2(f:Int->Int->R D)(x y:D):R D:=match x,y with
 |.int i,.int j=>f i j
 |_,_=>.stuck
noncomputable def gI(f:Int->Int->D):D->D->AH->R D:=λx y h=>match x,y with
 |.int i,.int j=>.ok (f i j) h
 |_,_=>.stuck
open Classical in
def gIc(C:Int->Int->Prop)(f:Int->Int->D):D->D->AH->R D:=λx y h=>match x,y with
 |.int i,.int j=>if C i j then .ok (f i j) h else .stuck
 |_,_=>.stuck
section
variable{K:W.Frag}{mg:Ra}
def lZ(hr:∀i j ρ H,RelD K mg ρ H (g i j) (f i j)):OpD K mg (rI0 f) (gI g):=λρ h H dx dy x y Q E w rx ry p=>by
 unfold gI at p;split at p
 .cases rx;cases ry;exact⟨_,_,rfl,rfl,bP w (hr _ _ ρ H) p⟩
 .exact p.elim
def oM(hr:∀i j ρ H,RelD K mg ρ H (g i j) (f i j)):OpD K mg (rI C f) (gIc C g):=λρ h H dx dy x y Q E w rx ry p=>by
 unfold gIc at p;split at p
 .cases rx;cases ry;split at p
  .rename_i hc;exact⟨_,_,rfl,rfl,hc,bP w (hr _ _ ρ H) p⟩
  .exact p.elim
 .exact p.elim
noncomputable def gOr(g g':D->D->AH->R D):D->D->AH->R D:=λx y h=>match g x y h with
 |.stuck=>g' x y h
 |r=>r
def OpD.or(a:OpD K mg r g)(b:OpD K mg r' g'):OpD K mg (λx y H Q=>r x y H Q\/r' x y H Q) (gOr g g'):=λρ h H dx dy x y Q E w rx ry p=>by
 unfold gOr at p;split at p
 .exact .inr (b ρ h H dx dy x y Q E w rx ry p)
 .exact .inl (a ρ h H dx dy x y Q E w rx ry p)
end
noncomputable def nI:D->D->AH->R D:=λx y h=>match x,y with
 |.ref n,.ref m=>match h[n]?,h[m]? with
  |some (.lst xs),some (.lst ys)=>if xs.length+ys.length<=16777216 then .ok (.ref h.length) (h++[.lst (xs++ys)]) else .stuck
  |_,_=>.stuck
 |.tup xs,.tup ys=>if xs.length+ys.length<=16777216 then .ok (.tup (xs++ys)) h else .stuck
 |_,_=>.stuck
noncomputable def gIx:D->D->AH->R D:=λx y h=>match iA h x,y with
 |some xs,.int i=>match atI xs i with
  |some d=>.ok d h
  |none=>.stuck
 |_,_=>.stuck
section
variable{K:W.Frag}{mg:Ra}{X:Cx}
def mU(K:W.Frag):R2:=λx y H Q=>∃a b ys,x=.ref a/\y=.ref b/\SqT K H a []/\SqT K H b ys/\Q (.ref b) H
def Gr:OpR X (binaryOp .Add) (mU X.K):=by
 intro pins s σ H x y v u Q I rx ry h;obtain⟨a,b,ys,rfl,rfl,ha,hb,q⟩:=h;cases rx;cases ry;obtain⟨its,r1,p1,_⟩:=I.tuple ha;obtain⟨its2,r2,p2,_⟩:=I.tuple hb;have e:its=[]:=r1.nil_iff.mpr rfl;subst e;obtain⟨⟨cls,dd,data,sl⟩,ho,hc,n,hd⟩:=id p1;obtain⟨⟨cls2,dd2,data2,sl2⟩,ho2,hc2,n2,hd2⟩:=id p2;simp only at hc hd hc2 hd2;subst hc hd hc2 hd2;exact concat_meets ⟨_,ho,rfl⟩ ⟨_,ho2,rfl⟩ noFill_tuple_add seq_tuple_add Qm Qj (Qg _ _)
  (tuple_addW0 _ _ _ _ n n2 dd dd2 sl sl2 rfl) ⟨ho,ho2,⟨.ref b,H,I,rfl,q⟩⟩
def Fv:OpD K mg (λx y H Q=>pV x y H Q\/(mF K x y H Q\/mU K x y H Q)) nI:=λρ h H dx dy x y Q E w rx ry p=>by
 unfold nI at p;split at p
 .cases
   rx with
  |
   ref ea=>
   cases ry with
   |
    ref eb=>
    split at p
    .rename_i xs ys e1 e2;split at p
     .rename_i hl;obtain⟨vs,q1,r1⟩:=w.ob _ _ _ ea e1;obtain⟨ws,q2,r2⟩:=w.ob _ _ _ eb e2;exact .inl ⟨_,_,vs,ws,rfl,rfl,q1,q2,by rw[<- r1.len,<- r2.len];exact hl,λp' hp=>gw w (r1.append r2) hp p⟩
     .exact p.elim
    .exact p.elim
 .cases
   rx with
  |
   tup q1 r1=>
   cases ry with
   |
    tup q2 r2=>
    split at p
    .rename_i hl;cases r1 with
     |nil=>exact .inr (.inr ⟨_,_,_,rfl,rfl,q1,q2,bP w (.tup q2 r2) p⟩)
     |cons r0 r1=>refine .inr (.inl ⟨_,_,_,_,rfl,rfl,q1,q2,(λz=>nomatch z),by rw[<- (RelDs.cons r0 r1).len,<- r2.len];exact hl,λz=>?_,λ_ p' hp=>lz w ((RelDs.cons r0 r1).append r2) hp p⟩);subst z;cases r2;rw[O9] at p;exact bP w (.tup q1 (.cons r0 r1)) p
    .exact p.elim
 .exact p.elim
def Fu(r:RelDs K mg ρ H xs vs)(e:atI xs i=some d):∃v,atI vs i=some v/\RelD K mg ρ H d v:=by
 unfold atI at e ⊢;rw[<- r.len];cases q:ixN xs.length i with
 |none=>rw[q] at e;cases e
 |some j=>rw[q] at e;exact r.getD e
def G5:OpD K mg (λx y H Q=>xW K x y H Q\/yQ K x y H Q) gIx:=λρ h H dx dy x y Q E w rx ry p=>by
 unfold gIx at p;split at p
 .rename_i xs i e1;split at p
  .rename_i d e2;cases ry;obtain⟨pa,vs,rfl,hq,rs⟩:=gf w rx e1;obtain⟨v,e3,rv⟩:=Fu rs e2;rcases hq with hq |hq
   .exact .inl ⟨_,_,_,_,rfl,rfl,hq,e3,bP w rv p⟩
   .exact .inr ⟨_,_,_,_,rfl,rfl,hq,e3,bP w rv p⟩
  .exact p.elim
 .exact p.elim
def ixK(h:X.K=K):IxR X (λx y H Q=>xW K x y H Q\/yQ K x y H Q):=by subst h;exact Fi.or JU
def catK(h:X.K=K):OpR X (binaryOp .Add) (λx y H Q=>pV x y H Q\/(mF K x y H Q\/mU K x y H Q)):=by subst h;exact II.or (Gd.or Gr)
end
noncomputable def gb:Nat->AH->D->Option PyData
 |0,_,_=>none
 |_+1,_,.non=>some .none
 |_+1,_,.bl b=>some (.bool b)
 |_+1,_,.int i=>some (.int i)
 |_+1,_,.str x=>some (.str x)
 |k+1,h,.tup xs=>(xs.mapM (gb k h)).map .tuple
 |k+1,h,.ref n=>match cE h n with
  |some xs=>(xs.mapM (gb k h)).map .list
  |none=>none
 |_+1,_,_=>none
def rN{K:W.Frag}{mg:Ra}{ρ:List Addr}{H:Hp}{f:D->Option PyData}(hf:∀d v pd,RelD K mg ρ H d v->f d=some pd->Rep K H v pd):∀{xs:List D}{vs:List V}{ps:List PyData},RelDs K mg ρ H xs vs->xs.mapM f=some ps->Reps K H vs ps:=by
 intro xs;induction xs with
 |nil=>intro vs ps r e;cases r;have e':some []=some _:=e;cases e';exact .nil
 |
  cons x xs ih=>
  intro vs ps r e;cases r with
  |
   cons r rr=>
   rw[P5] at e;cases q:f x with
   |none=>rw[q] at e;cases e
   |
    some pd=>
    rw[q] at e;cases q2:xs.mapM f with
    |none=>rw[q2] at e;cases e
    |some pds=>rw[q2] at e;have e':some (pd::pds)=some ps:=e;cases e';exact .cons (hf _ _ _ r q) (ih rr q2)
theorem kR{K:W.Frag}{mg:Ra}{ρ:List Addr}{H:Hp}{h:AH}(w:Wd K mg ρ h H):∀(k:Nat) {d:D}{v:V}{pd:PyData},RelD K mg ρ H d v->gb k h d=some pd->Rep K H v pd
 |0,_,_,_,_,e=>by cases e
 |
  k+1,d,v,pd,r,e=>by
  cases r with
  |non=>have e':some _=some pd:=e;cases e';exact .non
  |bl b=>have e':some _=some pd:=e;cases e';exact .bl b
  |int b=>have e':some _=some pd:=e;cases e';exact .int b
  |str b=>have e':some _=some pd:=e;cases e';exact .str b
  |
   tup q rs=>
   rename_i ds;have e':(ds.mapM (gb k h)).map PyData.tuple=some pd:=e;cases q2:ds.mapM (gb k h) with
   |none=>rw[q2] at e';cases e'
   |some ps=>rw[q2] at e';cases e';exact .tup q (rN (λd v pd r e=>kR w k r e) rs q2)
  |
   ref ea=>
   rename_i n a;unfold gb at e;split at e
   .rename_i xs e1;obtain⟨vs,h1,h2⟩:=dH w ea e1;cases q2:xs.mapM (gb k h) with
    |none=>rw[q2] at e;cases e
    |some ps=>rw[q2] at e;cases e;exact .lst h1 (rN (λd v pd r e=>kR w k r e) h2 q2)
   .cases e
  |_=>cases e
noncomputable def uO(h:AH)(x y:D):Option Bool:=match gb 164 h x,gb 164 h y with
 |some a,some b=>if shp a=true/\shp b=true then some (PyData.eqv a b) else none
 |_,_=>none
def gEq(n_:Bool):D->D->AH->R D:=λx y h=>match uO h x y with
 |some b=>.ok (.bl (if n_ then !b else b)) h
 |none=>.stuck
section
variable{K:W.Frag}{mg:Ra}
def v9(w:Wd K mg ρ h H)(rx:RelD K mg ρ H dx x)(ry:RelD K mg ρ H dy y)(e:uO h dx dy=some b):
 ∃a c,Rep K H x a/\Rep K H y c/\shp a=true/\shp c=true/\PyData.eqv a c=b:=by
 unfold uO at e;split at e
 .rename_i a c e1 e2;split at e
  .rename_i hs;cases e;exact⟨a,c,kR w 164 rx e1,kR w 164 ry e2,hs.1,hs.2,rfl⟩
  .cases e
 .cases e
def Jx:OpD K mg (yK K) (gEq false):=λρ h H dx dy x y Q E w rx ry p=>by
 unfold gEq at p;split at p
 .rename_i b e;obtain⟨a,c,h1,h2,h3,h4,rfl⟩:=v9 w rx ry e;exact⟨a,c,h1,h2,h3,h4,bP w (.bl _) p⟩
 .exact p.elim
def KO:OpD K mg (yH K) (gEq true):=λρ h H dx dy x y Q E w rx ry p=>by
 unfold gEq at p;split at p
 .rename_i b e;obtain⟨a,c,h1,h2,h3,h4,rfl⟩:=v9 w rx ry e;exact⟨a,c,h1,h2,h3,h4,bP w (.bl _) p⟩
 .exact p.elim
end
noncomputable def mE:D->Bool
 |.non=>true
 |.bl _=>true
 |.int _=>true
 |.str _=>true
 |_=>false
noncomputable def toV:D->V
 |.bl b=>.bl b
 |.int i=>.int i
 |.str x=>.str x
 |_=>.non
noncomputable def eqF(x y:D):Bool:=eqV (toV x) (toV y)
def gIn(n_:Bool):D->D->AH->R D:=λx y h=>match iA h y with
 |some xs=>if mE x=true/\xs.all mE=true then .ok (.bl (if n_ then !(xs.any λd=>eqF d x) else xs.any λd=>eqF d x)) h else .stuck
 |none=>.stuck
section
variable{K:W.Frag}{mg:Ra}{ρ:List Addr}{H:Hp}
def tX(r:RelD K mg ρ H d v)(f:mE d=true):v=toV d/\flatV v=true:=by
 cases r with
 |non=>exact⟨rfl,rfl⟩
 |bl=>exact⟨rfl,rfl⟩
 |int=>exact⟨rfl,rfl⟩
 |str=>exact⟨rfl,rfl⟩
 |_=>cases f
def zy:∀{ds:List D}{vs:List V},RelDs K mg ρ H ds vs->ds.all mE=true->vs=ds.map toV/\vs.all flatV=true:=by
 intro ds;induction ds with
 |nil=>intro vs r f;cases r;exact⟨rfl,rfl⟩
 |
  cons d0 ds ih=>
  intro vs r f;cases r with
  |cons r rr=>rw[PC,D_] at f;obtain⟨rfl,h1⟩:=tX r f.1;obtain⟨rfl,h2⟩:=ih rr f.2;exact⟨rfl,by rw[PC,h1,h2];rfl⟩
def zX(n_:Bool):OpD K mg (rIn K n_) (gIn n_):=λρ h H dx dy x y Q E w rx ry p=>by
 unfold gIn at p;split at p
 .rename_i xs e;split at p
  .rename_i hf;obtain⟨pa,vs,rfl,hq,rs⟩:=gf w ry e;obtain⟨rfl,f1⟩:=tX rx hf.1;obtain⟨rfl,f2⟩:=zy rs hf.2;refine⟨pa,_,rfl,hq,f1,f2,?_⟩;have e2:inV (toV dx) (xs.map toV)=xs.any λd=>eqF d dx:=by unfold inV eqF;rw[List.any_map];rfl
   rw[e2];exact bP w (.bl _) p
  .exact p.elim
 .exact p.elim
def lQ(n_:Bool):D->D->AH->R D:=λx y h=>match x,y with
 |.non,.non=>.ok (.bl (!n_)) h
 |_,.non=>.ok (.bl n_) h
 |_,_=>.stuck
def F8:OpD K mg (λx y H Q=>y=.non/\Q (.bl (decide (x=.non))) H) (lQ false):=λρ h H dx dy x y Q E w rx ry p=>by
 unfold lQ at p;split at p
 .cases rx;cases ry;exact⟨rfl,bP w (.bl _) p⟩
 .rename_i hne;cases ry;refine⟨rfl,?_⟩;have e:decide (x=V.non)=false:=by rw[decide_eq_false_iff_not];rintro rfl;cases rx;exact hne rfl
  rw[e];exact bP w (.bl _) p
 .exact p.elim
def CM:OpD K mg (λx y H Q=>y=.non/\Q (.bl (!decide (x=.non))) H) (lQ true):=λρ h H dx dy x y Q E w rx ry p=>by
 unfold lQ at p;split at p
 .cases rx;cases ry;exact⟨rfl,bP w (.bl _) p⟩
 .rename_i hne;cases ry;refine⟨rfl,?_⟩;have e:decide (x=V.non)=false:=by rw[decide_eq_false_iff_not];rintro rfl;cases rx;exact hne rfl
  rw[e];exact bP w (.bl _) p
 .exact p.elim
end
noncomputable def Itd(lo:Int)(n:Nat):It:=⟨λj _=>j<n,λj G v G'=>G'=G/\v=.int (lo-j),λj _=>n<=j⟩
inductive AIt where
 |lst (n:Nat) (xs:List D) |tup (xs:List D) |rng (lo:Int) (k:Nat) |rgd (lo:Int) (k:Nat) |enm (s:AIt) |zip (s t:AIt)
noncomputable def iZ:Nat->List D->List D
 |_,[]=>[]
 |i,d::ds=>.tup [.int (i:Nat),d]::iZ (i+1) ds
noncomputable def AIt.items:AIt->List D
 |.lst _ xs=>xs
 |.tup xs=>xs
 |.rng lo k=>(List.range k).map λi=>D.int (lo+(i:Nat))
 |.rgd lo k=>(List.range k).map λi=>D.int (lo-(i:Nat))
 |.enm s=>iZ 0 s.items
 |.zip s t=>List.zipWith (λx y=>.tup [x,y]) s.items t.items
def AIt.guard:AIt->AH->Prop
 |.lst n xs,h=>cE h n=some xs
 |.enm s,h=>s.guard h
 |.zip s t,h=>s.guard h/\t.guard h
 |_,_=>True
def SrcR(K:W.Frag)(mg:Ra)(ρ:List Addr)(H:Hp):AIt->Bool->Addr->Prop
 |.lst n _,true,a=>ρ[n]?=some a
 |.tup xs,false,p=>∃vs,SqT K H p vs/\RelDs K mg ρ H xs vs
 |_,_,_=>False
def ItR(K:W.Frag)(mg:Ra)(ρ:List Addr)(H:Hp):AIt->It->Prop
 |.lst n _,J=>∃a,ρ[n]?=some a/\J=Itl K a
 |.tup xs,J=>∃p vs,SqT K H p vs/\RelDs K mg ρ H xs vs/\J=Itt K p
 |.rng lo k,J=>J=Itr lo k
 |.rgd lo k,J=>J=Itd lo k
 |.enm s,J=>∃b a,SrcR K mg ρ H s b a/\J=CL K b a
 |.zip s t,J=>∃b c a d,SrcR K mg ρ H s b a/\SrcR K mg ρ H t c d/\J=ItZ K b c a d
theorem vg:∀{ds:List D}{k i:Nat}{e:D},(iZ k ds)[i]?=some e->∃d,ds[i]?=some d/\e=.tup [.int ((k+i:Nat):Int),d]
 | [],_,_,_,q=>by simp [iZ] at q
 |d::ds,k,0,e,q=>⟨d,rfl,by simpa [iZ] using q.symm⟩
 |
  d::ds,k,i+1,e,q=>by
  obtain⟨d',q1,q2⟩:=vg (ds:=ds) (k:=k+1) (i:=i) (e:=e) (by simpa [iZ] using q);refine⟨d',by simpa using q1,?_⟩;rw[q2];congr 4;omega
theorem sZ:∀(ds:List D) (k:Nat),(iZ k ds).length=ds.length
 | [],_=>rfl
 |_::ds,k=>by show (iZ (k+1) ds).length+1=ds.length+1;rw[sZ ds]
section
variable{K:W.Frag}{mg:Ra}{ρ ρ1:List Addr}{H H1:Hp}{h1:AH}
def SrcR.at_(r:SrcR K mg ρ H s b a)(l:Le ρ H ρ1 H1)(w:Wd K mg ρ1 h1 H1)(g:s.guard h1):∃vs,SqB K b H1 a vs/\RelDs K mg ρ1 H1 s.items vs:=by
 cases s with
 |
  lst n xs=>
  cases b with
  |true=>exact dH w (l.pre _ _ r) g
  |false=>exact r.elim
 |
  tup xs=>
  cases b with
  |true=>exact r.elim
  |false=>obtain⟨vs,q,rs⟩:=r;exact⟨vs,l.sqT q,rs.mono l⟩
 |rng _ _=>cases b <;> exact r.elim
 |rgd _ _=>cases b <;> exact r.elim
 |enm _=>cases b <;> exact r.elim
 |zip _ _=>cases b <;> exact r.elim
def ItR.nums{f:Nat->Int}{k:Nat}(w:Wd K mg ρ1 h1 H1):(∀(i:Nat) (d:D),((List.range k).map λi=>D.int (f i))[i]?=some d->i<k/\∀x H',(H'=H1/\x=V.int (f i))->Le ρ1 H1 ρ1 H'/\Wd K mg ρ1 h1 H'/\RelD K mg ρ1 H' d x)/\k<=((List.range k).map λi=>D.int (f i)).length:=by
 refine⟨λi d e=>?_,by simp⟩;rw[OI] at e;cases q:(List.range k)[i]? with
 |none=>rw[q] at e;cases e
 |some j=>rw[q] at e;have hj:=x_.mp q;have e2:=hj.2;rw[List.getElem_range] at e2;subst e2;cases e;refine⟨by simpa using hj.1,λx H' ⟨e1,e2⟩=>?_⟩;subst e1 e2;exact⟨Le.refl,w,.int _⟩
def ItR.step(hJ:ItR K mg ρ H it J)(l:Le ρ H ρ1 H1)(w:Wd K mg ρ1 h1 H1)(g:it.guard h1):
 (∀(i:Nat) (d:D),it.items[i]?=some d->J.go i H1/\∀x H',J.yld i H1 x H'->Le ρ1 H1 ρ1 H'/\Wd K mg ρ1 h1 H'/\RelD K mg ρ1 H' d x)/\J.stop it.items.length H1:=by
 cases it with
 |
  lst n xs=>
  obtain⟨a,ea,rfl⟩:=hJ;obtain⟨vs,q,rs⟩:=dH w (l.pre _ _ ea) g;refine⟨λi d e=>?_,vs,q,by rw[<- rs.len];exact z_ _⟩;obtain⟨v,ev,rv⟩:=rs.getD e;refine⟨⟨vs,v,q,ev⟩,λx H' ⟨e1,y⟩=>?_⟩;subst e1
  have:=(y vs q).symm.trans ev
  cases this;exact⟨Le.refl,w,rv⟩
 |
  tup xs=>
  obtain⟨p,vs,q,rs,rfl⟩:=hJ;have q1:=l.sqT q;have rs1:=rs.mono l;refine⟨λi d e=>?_,vs,q1,by rw[<- rs1.len];exact z_ _⟩;obtain⟨v,ev,rv⟩:=rs1.getD e;refine⟨⟨vs,v,q1,ev⟩,λx H' ⟨e1,y⟩=>?_⟩;subst e1
  have:=(y vs q1).symm.trans ev
  cases this;exact⟨Le.refl,w,rv⟩
 |rng lo k=>cases hJ;exact ItR.nums w
 |rgd lo k=>cases hJ;exact ItR.nums w
 |
  enm s=>
  obtain⟨b,a,r,rfl⟩:=hJ;obtain⟨vs,q,rs⟩:=r.at_ l w g;refine⟨λi d e=>?_,vs,q,by show vs.length=(iZ 0 s.items).length;rw[sZ,rs.len]⟩;obtain⟨d',q1,rfl⟩:=vg (show (iZ 0 s.items)[i]?=some d from e);obtain⟨v,ev,rv⟩:=rs.getD q1;refine⟨⟨vs,v,q,ev⟩,λx H' ⟨p,u,e1,hp,e2,hu⟩=>?_⟩;subst e1 e2
  have:=(hu vs q).symm.trans ev
  cases this;rw[Nat.zero_add];exact⟨eY hp,w.tuple hp,.tup (SqT.of eB) (.cons (.int _) (.cons (rv.mono (eY hp)) .nil))⟩
 |
  zip s t=>
  obtain⟨b,c,a,d,r1,r2,rfl⟩:=hJ;obtain⟨vs,q,rs⟩:=r1.at_ l w g.1;obtain⟨us,q',rs'⟩:=r2.at_ l w g.2;refine⟨λi e ei=>?_,vs,us,q,q',?_⟩
  .have ei':(List.zipWith (λx y=>D.tup [x,y]) s.items t.items)[i]?=some e:=ei;rw[Px] at ei';cases k1:s.items[i]? with
   |none=>rw[k1] at ei';cases ei'
   |
    some d1=>
    cases k2:t.items[i]? with
    |none=>rw[k1,k2] at ei';cases ei'
    |
     some d2=>
     rw[k1,k2] at ei';cases ei';obtain⟨v,ev,rv⟩:=rs.getD k1;obtain⟨v',ev',rv'⟩:=rs'.getD k2;refine⟨⟨vs,us,v,v',q,q',ev,ev'⟩,λx H' ⟨p,u,u',e1,hp,e2,hu,hu'⟩=>?_⟩;subst e1 e2
     have:=(hu vs q).symm.trans ev
     cases this
     have:=(hu' us q').symm.trans ev'
     cases this;exact⟨eY hp,w.tuple hp,.tup (SqT.of eB) (.cons (rv.mono (eY hp)) (.cons (rv'.mono (eY hp)) .nil))⟩
  .have hl:(AIt.zip s t).items.length=min s.items.length t.items.length:=PQ ..;rw[hl,rs.len,rs'.len];rcases Nat.le_total vs.length us.length with z |z
   .left;rw[Nat.min_eq_left z];exact List.getElem?_eq_none (z_ _)
   .right;rw[Nat.min_eq_right z];exact List.getElem?_eq_none (z_ _)
end
noncomputable def SR.loop(r:SR)(f:AE->AH->SR):SR:=match r with
 |.nx ae h=>f ae h
 |.ct ae h=>f ae h
 |.bk ae h=>.nx ae h
 |.rt d h=>.rt d h
 |.exc c ae h=>.exc c ae h
 |.stuck=>.stuck
open Classical in
def lA(G:AH->Prop)(g:MG)(B:MS):List D->MS
 | [],ae,h=>if G h then .nx ae h else .stuck
 |d::ds,ae,h=>if G h then (g d ae h).toS ae λh_ h1=>(B h_ h1).loop (lA G g B ds) else .stuck
abbrev MI:=AE->AH->R AIt
def Cs(I:MI)(g:MG)(B:MS):MS:=λae h=>(I ae h).toS ae λit h1=>lA it.guard g B it.items ae h1
open Classical in
def lcL(G:AH->Prop)(g:MG)(c:MT)(F:ME):List D->List D->AE->AH->R (List D)
 | [],acc,_,h=>if G h then .ok acc h else .stuck
 |d::ds,acc,ae,h=>if G h/\acc.length<16777216 then (g d ae h).bind λh_ h1=>(c h_ h1).bind λb h2=>if b=true then (F h_ h2).bind λy h3=>lcL G g c F ds (acc++[y]) h_ h3 else lcL G g c F ds acc h_ h2 else .stuck
noncomputable def kQ(sub:Rg)(ae:AE):AE:=sub.map λo=>o.bind λi=>(ae[i]?).bind id
def eLC(I:MI)(sub:Rg)(g:MG)(c:MT)(F:ME):ME:=λae h=>(I ae h).bind λit h1=>(noX (lcL it.guard g c F it.items [] (kQ sub ae) h1)).bind fL
noncomputable def tY:MT:=λ_ h=>.ok true h
section
variable(K:W.Frag)(mg:Ra)
def rdI(ES:St->XK)(F:MI):TI:=λσ H R'=>∃ρ h ae,Wd K mg ρ h H/\RelE K mg ρ H ae σ/\PostG K mg ρ H (ES σ) (λit _ ρ' H'=>∀J,ItR K mg ρ' H' it J->R' J H') (F ae h)
def DI(X:Cx)(ES:St->XK)(tg a_:Expr)(F:MI):Prop:=PI X tg a_ (rdI K mg ES F)
end
noncomputable def Dc(F:ME):MI:=λae h=>(F ae h).bind λd h1=>match d with
 |.tup xs=>.ok (.tup xs) h1
 |.ref n=>match cE h1 n with
  |some xs=>.ok (.lst n xs) h1
  |none=>.stuck
 |_=>.stuck
noncomputable def B0(A:MA):MI:=λae h=>(A ae h).bind λds h1=>match ds with
 | [.int j]=>if -(2^62)<=j/\j<2^62 then .ok (.rng 0 j.toNat) h1 else .stuck
 |_=>.stuck
noncomputable def Dn(A:MA):MI:=λae h=>(A ae h).bind λds h1=>match ds with
 | [.int i,.int j]=>if -(2^62)<=i/\i<2^62/\-(2^62)<=j/\j<2^62 then .ok (.rng i (j-i).toNat) h1 else .stuck
 |_=>.stuck
noncomputable def iF(d:D)(h:AH):Option AIt:=match d with
 |.tup xs=>some (.tup xs)
 |.ref n=>(cE h n).map (.lst n)
 |_=>none
def B4(A:MA):MI:=λae h=>(A ae h).bind λds h1=>match ds with
 | [d]=>(match iF d h1 with
  |some s=>.ok (.enm s) h1
  |none=>.stuck)
 |_=>.stuck
noncomputable def Bi(A:MA):MI:=λae h=>(A ae h).bind λds h1=>match ds with
 | [d,e]=>(match iF d h1,iF e h1 with
  |some s,some t=>.ok (.zip s t) h1
  |_,_=>.stuck)
 |_=>.stuck
section
variable{K:W.Frag}{mg:Ra}{X:Cx}{ES:St->XK}{tg a_ e a b c g_:Expr}{F:ME}{A:MA}{I:MI}{g:MG}{cf:MT}{U:MS}{sts:List Stmt}{pos:Pos}
def PI.imp(h:PI X tg a_ t)(k:∀σ H Q,t' σ H Q->t σ H Q):PI X tg a_ t':=λpins s σ H Q I w=>h pins s σ H Q I (k σ H Q w)
def J3(hl:PE X l tl):PI X tg l (λσ H R=>tl σ H λx H1=>(∃a,x=.ref a/\(∃xs,SqL X.K H1 a xs)/\R (Itl X.K a) H1)\/(∃a,x=.ref a/\(∃xs,SqT X.K H1 a xs)/\R (Itt X.K a) H1)):=by
 intro pins s σ H R I h;refine thn (hl pins s σ H _ I h) λv s1 ⟨x,H1,I1,r1,q1⟩=>?_;rcases q1 with ⟨a,e,⟨xs,hq⟩,q⟩ |⟨a,e,⟨xs,hq⟩,q⟩
 .subst e;cases r1;obtain⟨its,rv,p,hz⟩:=I1.list hq;refine wpAny_pyIter_list p.isList ?_;refine⟨s1.heap.objs.size,[s1.heap.objs.size],_,_,H1,rfl,I1.kept (t':=s1.toks) λb o e=>Em _ e,zO a _,⟨_,M_ _ rfl,rfl,rfl⟩,λb hb=>?_,q⟩;have e:b=s1.heap.objs.size:=by simpa using hb
  subst e;exact I1.fpOk (z_ _) (I1.hok.fresh (z_ _))
 .subst e;cases r1;obtain⟨its,rv,p,hz⟩:=I1.tuple hq;refine Qi (show s1.heap.IsTuple a its.toArray from p) ?_;refine⟨s1.heap.objs.size,[s1.heap.objs.size],_,_,H1,rfl,I1.kept (t':=s1.toks) λb o e=>Em _ e,yx a _,⟨_,M_ _ rfl,rfl,rfl⟩,λb hb=>?_,q⟩;have e:b=s1.heap.objs.size:=by simpa using hb
  subst e;exact I1.fpOk (z_ _) (I1.hok.fresh (z_ _))
def GW(hK:X.K=K)(he:DE K mg X ES e F):DI K mg X ES tg e (Dc F):=by
 subst hK;refine PI.imp (J3 he) λσ H R ⟨ρ,h,ae,w,re,p⟩=>⟨ρ,h,ae,w,re,p.bind.imp λd h1 ρ1 H1 l1 w1 p1 v rv=>?_⟩;cases rv with
 |tup q rs=>exact .inr ⟨_,rfl,⟨_,q⟩,p1 ρ1 H1 Le.refl w1 _ ⟨_,_,q,rs,rfl⟩⟩
 |
  ref ea=>
  dsimp only at p1;split at p1
  .rename_i xs e1;obtain⟨vs,q,rs⟩:=dH w1 ea e1;exact .inl ⟨_,rfl,⟨_,q⟩,p1 ρ1 H1 Le.refl w1 _ ⟨_,ea,rfl⟩⟩
  .exact p1.elim
 |_=>exact p1.elim
def Ah(hg:Gl X "range")(hm:mg "range"=none)(ha:DA K mg X ES [a] A)(hk:X.mg=mg)(hs:starEach [a] X.env=[(false,eval a X.env)]):DI K mg X ES tg (.Call (.Name "range" p) [a] [] pos) (B0 A):=by
 subst hk;refine PI.imp (Ao hg hm ha hs) λσ H R ⟨ρ,h,ae,w,re,p⟩=>⟨ρ,h,ae,w,re,p.bind.imp λds h1 ρ1 H1 l1 w1 p1 vs rs=>?_⟩;split at p1
 .cases rs with
  |
   cons r rs=>
   cases r;cases rs;split at p1
   .rename_i hb;exact⟨_,rfl,hb.1,hb.2,p1 ρ1 H1 Le.refl w1 _ rfl⟩
   .exact p1.elim
 .exact p1.elim
def zK(hg:Gl X "range")(hm:mg "range"=none)(ha:DA K mg X ES [a,b] A)(hk:X.mg=mg)(hs:starEach [a,b] X.env=[(false,eval a X.env),(false,eval b X.env)])(hs2:starEach [b] X.env=[(false,eval b X.env)]):DI K mg X ES tg (.Call (.Name "range" p) [a,b] [] pos) (Dn A):=by
 subst hk;refine PI.imp (yY hg hm ha hs hs2) λσ H R ⟨ρ,h,ae,w,re,p⟩=>⟨ρ,h,ae,w,re,p.bind.imp λds h1 ρ1 H1 l1 w1 p1 vs rs=>?_⟩;split at p1
 .cases
   rs with
  |
   cons r rs=>
   cases rs with
   |
    cons r2 rs=>
    cases r;cases r2;cases rs;split at p1
    .rename_i hb;exact⟨_,_,rfl,hb,p1 ρ1 H1 Le.refl w1 _ rfl⟩
    .exact p1.elim
 .exact p1.elim
def ma(w:Wd K mg ρ h H)(r:RelD K mg ρ H d v)(q:iF d h=some s):∃b p,v=.ref p/\SrcR K mg ρ H s b p/\∃vs,SqB K b H p vs:=by
 cases r with
 |tup hq rs=>cases q;exact⟨false,_,rfl,⟨_,hq,rs⟩,_,hq⟩
 |ref ea=>obtain⟨xs,q1,rfl⟩:=OH.mp q;obtain⟨vs,h1,h2⟩:=dH w ea q1;exact⟨true,_,rfl,ea,vs,h1⟩
 |_=>cases q
def Fb(hK:X.K=K)(hg:Gl X "enumerate")(hm:mg "enumerate"=none)(ha:DA K mg X ES [a] A)(hk:X.mg=mg)(hs:starEach [a] X.env=[(false,eval a X.env)]):DI K mg X ES (.Tuple elts x1 tp) (.Call (.Name "enumerate" p) [a] [] pos) (B4 A):=by
 subst hk hK;refine PI.imp (Gx hg hm ha hs) λσ H R ⟨ρ,h,ae,w,re,p⟩=>⟨ρ,h,ae,w,re,p.bind.imp λds h1 ρ1 H1 l1 w1 p1 vs rs=>?_⟩;split at p1
 .cases rs with
  |
   cons r rs=>
   cases rs;split at p1
   .rename_i s q;obtain⟨b,pa,rfl,sr,xs,hx⟩:=ma w1 r q;exact⟨b,pa,xs,rfl,hx,p1 ρ1 H1 Le.refl w1 _ ⟨b,pa,sr,rfl⟩⟩
   .exact p1.elim
 .exact p1.elim
def Lh(hK:X.K=K)(hg:Gl X "zip")(hm:mg "zip"=none)(ha:DA K mg X ES [a,b] A)(hk:X.mg=mg)(hs:starEach [a,b] X.env=[(false,eval a X.env),(false,eval b X.env)])(hs2:starEach [b] X.env=[(false,eval b X.env)]):DI K mg X ES (.Tuple elts x1 tp) (.Call (.Name "zip" p) [a,b] [] pos) (Bi A):=by
 subst hk hK;refine PI.imp (I0 hg hm ha hs hs2) λσ H R ⟨ρ,h,ae,w,re,p⟩=>⟨ρ,h,ae,w,re,p.bind.imp λds h1 ρ1 H1 l1 w1 p1 vs rs=>?_⟩;split at p1
 .cases
   rs with
  |
   cons r rs=>
   cases rs with
   |
    cons r' rs=>
    cases rs;split at p1
    .rename_i s t q q';obtain⟨b,pa,rfl,sr,xs,hx⟩:=ma w1 r q;obtain⟨c,pd,rfl,sr',ys,hy⟩:=ma w1 r' q';exact⟨b,c,pa,pd,xs,ys,rfl,hx,hy,p1 ρ1 H1 Le.refl w1 _ ⟨b,c,pa,pd,sr,sr',rfl⟩⟩
    .exact p1.elim
 .exact p1.elim
def vp(p:PostS K mg ρ H De ES (r.loop f))(i:∀h_ h1 ρ1 H1 σ1,Le ρ H ρ1 H1->Wd K mg ρ1 h1 H1->RelE K mg ρ1 H1 h_ σ1->PostS K mg ρ1 H1 De ES (f h_ h1)->N σ1 H1):
 PostS K mg ρ H { De with nx:=N,ct:=N,bk:=De.nx } ES r:=by
 cases r with
 |nx h_ h1=>exact λρ1 H1 σ1 l1 w1 re1=>i h_ h1 ρ1 H1 σ1 l1 w1 re1 (PostS.mono l1 p)
 |rt d h1=>exact p
 |bk h_ h1=>exact p
 |ct h_ h1=>exact λρ1 H1 σ1 l1 w1 re1=>i h_ h1 ρ1 H1 σ1 l1 w1 re1 (PostS.mono l1 p)
 |exc c h_ h1=>exact p
 |stuck=>exact p
def IM(hp:PassesOwn (model X.prog X.w) X.A X.env X.xe)(hc:X.calm=true)(hi:DI K mg X ES tg a_ I)(hg:DG K mg X ES tg g)(hb:DSs K mg X ES sts U)
 (hs:∀x,foldedSetIterable a_ X.env x=pure x):DS K mg X ES (.For tg a_ sts [] pos) (Cs I g U):=by
 refine PS.imp (ID hp hc hi hg hb hs) λDe σ H q_=>q_.el λρ h ae w re p=>⟨ρ,h,ae,w,re,dO p re λit h1 ρ1 H1 l1 w1 re1 p1 J hJ=>?_⟩;refine⟨λi m σ2 H2=>m=it.items.length-i/\i<=it.items.length/\∃ρ2 h2 ae2,Le ρ1 H1 ρ2 H2/\Wd K mg ρ2 h2 H2/\RelE K mg ρ2 H2 ae2 σ2/\PostS K mg ρ2 H2 De ES (lA it.guard g U (it.items.drop i) ae2 h2),⟨_,rfl,ON _,ρ1,h1,ae,Le.refl,w1,re1,p1⟩,?_⟩;rintro i m σ2 H2 ⟨rfl,hi',ρ2,h2,ae2,l2,w2,re2,p2⟩;by_cases hlt:i<it.items.length
 .have hd:it.items.drop i=it.items[i]::it.items.drop (i+1):=List.drop_eq_getElem_cons hlt;rw[hd] at p2;unfold lA at p2;split at p2
  .rename_i hG;obtain⟨st,_⟩:=hJ.step l2 w2 hG;obtain⟨go,yl⟩:=st i it.items[i] (OC hlt);refine .inr ⟨go,λσ' H'=>∃ρ3 h3 ae3,Le ρ1 H1 ρ3 H'/\Wd K mg ρ3 h3 H'/\RelE K mg ρ3 H' ae3 σ'/\PostS K mg ρ3 H' De ES (lA it.guard g U (it.items.drop (i+1)) ae3 h3),
    λσ' H' ⟨ρ3,h3,ae3,q⟩=>⟨_,by omega,rfl,hlt,ρ3,h3,ae3,q⟩,λx H' hy=>?_⟩
   obtain⟨ly,wy,rx⟩:=yl x H' hy;refine⟨ρ2,h2,ae2,_,wy,re2.mono ly,rx,dO (PostS.mono ly p2) (re2.mono ly) λae3 h3 ρ3 H3 l3 w3 re3 p3 σ' re'=>⟨ρ3,h3,ae3,w3,re',vp p3 λae4 h4 ρ4 H4 σ4 l4 w4 re4 p4=>⟨ρ4,h4,ae4,((l2.trans ly).trans l3).trans l4,w4,re4,p4⟩⟩⟩
  .exact p2.elim
 .have hi2:i=it.items.length:=by omega
  subst hi2;rw[List.drop_length] at p2;unfold lA at p2;split at p2
  .rename_i hG;exact .inl ⟨(hJ.step l2 w2 hG).2,i6 p2 w2 re2⟩
  .exact p2.elim
def BX(re:RelE K mg ρ H ae σ)(sub:Rg):RelE K mg ρ H (kQ sub ae) (iE sub σ):=by
 unfold kQ iE;refine⟨by rw[v_,v_],λj d e=>?_⟩;rw[OI] at e ⊢;cases q:sub[j]? with
 |none=>rw[q] at e;cases e
 |
  some o=>
  rw[q] at e;cases o with
  |none=>cases e
  |
   some i=>
   have e':(ae[i]?).bind id=some d:=OE e;cases q2:ae[i]? with
   |none=>rw[q2] at e';cases e'
   |some z=>rw[q2] at e';have e3:z=some d:=e';subst e3;obtain⟨v,h1,h2⟩:=re.at_ i d q2;refine⟨v,?_,h2⟩;show some ((σ[i]?).bind id)=some (some v);rw[h1];rfl
def nR(p:PostG K mg ρ H E k ((noX (r.bind f)).bind m)):
 PostG K mg ρ H E0 (λa h1 ρ' H'=>PostG K mg ρ' H' E k ((noX (f a h1)).bind m)) r:=by
 cases r with
 |ok a h1=>exact λρ1 H1 l1 w1=>PostG.mono l1 p
 |exc c h1=>exact p.elim
 |stuck=>exact p.elim
def sL(σ:St)(H:Hp)(Q:VK)(q:rdE K mg ES (eLC I sub g cf F) σ H Q):jF (rdI K mg ES I) sub (rdG K mg (λ_=>E0) g) (rdT K mg (λ_=>E0) cf) (rdE K mg (λ_=>E0) F) σ H Q:=by
 obtain⟨ρ,h,ae,w,re,p⟩:=q;refine⟨ρ,h,ae,w,re,p.bind.imp λit h1 ρ1 H1 l1 w1 p1 J hJ=>?_⟩;have re1:=BX (re.mono l1) sub;refine⟨λi m ys σ2 H2=>m=it.items.length-i/\i<=it.items.length/\∃ρ2 h2 ae2 acc,Le ρ1 H1 ρ2 H2/\Wd K mg ρ2 h2 H2/\RelE K mg ρ2 H2 ae2 σ2/\RelDs K mg ρ2 H2 acc ys/\
  PostG K mg ρ2 H2 (ES σ) (λd _ ρ' H'=>∀v,RelD K mg ρ' H' d v->Q v H') ((noX (lcL it.guard g cf F (it.items.drop i) acc ae2 h2)).bind fL),
  ⟨_,rfl,ON _,ρ1,h1,kQ sub ae,[],Le.refl,w1,re1,.nil,p1⟩,?_⟩
 rintro i m ys σ2 H2 ⟨rfl,hi',ρ2,h2,ae2,acc,l2,w2,re2,rs,p2⟩;by_cases hlt:i<it.items.length
 .have hd:it.items.drop i=it.items[i]::it.items.drop (i+1):=List.drop_eq_getElem_cons hlt;rw[hd] at p2;unfold lcL at p2;split at p2
  .rename_i hG;obtain⟨st,_⟩:=hJ.step l2 w2 hG.1;obtain⟨go,yl⟩:=st i it.items[i] (OC hlt);refine .inr ⟨go,by rw[<- rs.len];exact hG.2,λys' σ' H'=>∃ρ3 h3 ae3 acc3,Le ρ1 H1 ρ3 H'/\Wd K mg ρ3 h3 H'/\RelE K mg ρ3 H' ae3 σ'/\RelDs K mg ρ3 H' acc3 ys'/\
    PostG K mg ρ3 H' (ES σ) (λd _ ρ' H'=>∀v,RelD K mg ρ' H' d v->Q v H') ((noX (lcL it.guard g cf F (it.items.drop (i+1)) acc3 ae3 h3)).bind fL),
    λys' σ' H' ⟨ρ3,h3,ae3,acc3,q⟩=>⟨_,by omega,rfl,hlt,ρ3,h3,ae3,acc3,q⟩,λx H' hy=>?_⟩
   obtain⟨ly,wy,rx⟩:=yl x H' hy;refine⟨ρ2,h2,ae2,_,wy,re2.mono ly,rx,(nR (PostG.mono ly p2)).imp λae3 h3 ρ3 H3 l3 w3 p3 σ3 re3=>⟨ρ3,h3,ae3,w3,re3,(nR p3).imp λb h4 ρ4 H4 l4 w4 p4=>?_⟩⟩;cases b with
   |true=>exact⟨ρ4,h4,ae3,w4,re3.mono l4,(nR p4).imp λy h5 ρ5 H5 l5 w5 p5 v rv=>⟨ρ5,h5,ae3,acc++[y],(((l2.trans ly).trans l3).trans l4).trans l5,w5,(re3.mono l4).mono l5,((((rs.mono ly).mono l3).mono l4).mono l5).append (.cons rv .nil),p5⟩⟩
   |false=>exact⟨ρ4,h4,ae3,acc,((l2.trans ly).trans l3).trans l4,w4,re3.mono l4,((rs.mono ly).mono l3).mono l4,p4⟩
  .exact p2.elim
 .have hi2:i=it.items.length:=by omega
  subst hi2;rw[List.drop_length] at p2;unfold lcL at p2;split at p2
  .rename_i hG;refine .inl ⟨(hJ.step l2 w2 hG).2,?_⟩;have p3:PostG K mg ρ2 H2 (ES σ) (λd _ ρ' H'=>∀v,RelD K mg ρ' H' d v->Q v H') (fL acc h2):=p2;unfold fL at p3;split at p3
   .rename_i hl;exact⟨by rw[<- rs.len];exact hl,λq hq=>gw w2 rs hq p3⟩
   .exact p3.elim
  .exact p2.elim
def MV(M:List Str)(kn:List (Str×NameKind))(N:List Str)(sub:Rg)
 (hc:X.calm=true) (hi:DI K mg X ES tg a_ I)
 (hg:∀cl C s₂ H fp,DG K mg (bL X N scope cl C s₂ H fp) (λ_=>E0) tg g) (he:∀cl C s₂ H fp,DE K mg (bL X N scope cl C s₂ H fp) (λ_=>E0) g_ F)
 (hM:X.N=M) (hkn:X.env.scope.names=kn) (f_:eI M scope.names sub N=true)
 (hk:scope.kind=.function) (o_:∀x∈scope.names,x.2 ≠ .cell) (b_:∀x∈scope.names,x.2=.local->scope.names.lookup x.1=some .local)
 (l_:fP kn scope.names=true)
 (p_:sub.length=N.length) (hs:∀x,foldedSetIterable a_ X.env x=pure x):
 DE K mg X ES (.ListComp g_ [⟨tg,a_,[],0⟩] scope pos) (eLC I sub g tY F):=
 PE.imp (Ls M kn N sub hc hi hg he hM hkn f_ hk o_ b_ l_ p_ hs) λσ H Q q=>by
  have:=sL (cf:=tY) σ H Q q
  obtain⟨ρ,h,ae,w,re,p⟩:=this;refine⟨ρ,h,ae,w,re,p.imp λit h1 ρ1 H1 l1 w1 k J hJ=>?_⟩;obtain⟨W,w0,tn⟩:=k J hJ;refine⟨W,w0,λi m ys σ2 H2 hW=>?_⟩;rcases tn i m ys σ2 H2 hW with z |⟨go,hl,Nx,hN,st⟩
  .exact .inl z
  .refine .inr ⟨go,hl,Nx,hN,λx H' hy=>?_⟩;obtain⟨ρ3,h3,ae3,d3,w3,re3,rd3,p3⟩:=st x H' hy;refine⟨ρ3,h3,ae3,d3,w3,re3,rd3,p3.imp λae4 h4 ρ4 H4 l4 w4 k4 σ4 re4=>?_⟩;obtain⟨ρ5,h5,ae5,w5,re5,p5⟩:=k4 σ4 re4;exact p5 ρ5 _ Le.refl w5
def Gw(M:List Str)(kn:List (Str×NameKind))(N:List Str)(sub:Rg)
 (hc:X.calm=true) (hi:DI K mg X ES tg a_ I)
 (hg:∀cl C s₂ H fp,DG K mg (bL X N scope cl C s₂ H fp) (λ_=>E0) tg g) (ht:∀cl C s₂ H fp,DT K mg (bL X N scope cl C s₂ H fp) (λ_=>E0) c cf) (he:∀cl C s₂ H fp,DE K mg (bL X N scope cl C s₂ H fp) (λ_=>E0) g_ F)
 (hM:X.N=M) (hkn:X.env.scope.names=kn) (f_:eI M scope.names sub N=true)
 (hk:scope.kind=.function) (o_:∀x∈scope.names,x.2 ≠ .cell) (b_:∀x∈scope.names,x.2=.local->scope.names.lookup x.1=some .local)
 (l_:fP kn scope.names=true)
 (p_:sub.length=N.length) (hs:∀x,foldedSetIterable a_ X.env x=pure x):
 DE K mg X ES (.ListComp g_ [⟨tg,a_,[c],0⟩] scope pos) (eLC I sub g cf F):=
 PE.imp (FT M kn N sub hc hi hg ht he hM hkn f_ hk o_ b_ l_ p_ hs) λσ H Q q=>sL σ H Q q
def J4(σ:St)(H:Hp)(Q:VK)(q:rdE K mg ES (eLC I sub g tY F) σ H Q):jF (rdI K mg ES I) sub (rdG K mg (λ_=>E0) g) A5 (rdE K mg (λ_=>E0) F) σ H Q:=by
 have:=sL (cf:=tY) σ H Q q
 obtain⟨ρ,h,ae,w,re,p⟩:=this;refine⟨ρ,h,ae,w,re,p.imp λit h1 ρ1 H1 l1 w1 k J hJ=>?_⟩;obtain⟨W,w0,tn⟩:=k J hJ;refine⟨W,w0,λi m ys σ2 H2 hW=>?_⟩;rcases tn i m ys σ2 H2 hW with z |⟨go,hl,Nx,hN,st⟩
 .exact .inl z
 .refine .inr ⟨go,hl,Nx,hN,λx H' hy=>?_⟩;obtain⟨ρ3,h3,ae3,d3,w3,re3,rd3,p3⟩:=st x H' hy;refine⟨ρ3,h3,ae3,d3,w3,re3,rd3,p3.imp λae4 h4 ρ4 H4 l4 w4 k4 σ4 re4=>?_⟩;obtain⟨ρ5,h5,ae5,w5,re5,p5⟩:=k4 σ4 re4;exact p5 ρ5 _ Le.refl w5
def wu(ht:∀σ H Q,rdE K mg ES F σ H Q->t σ H Q)(De:Ends)(σ:St)(H:Hp)(q:rdS K mg ES (i0 F (gN i)) De σ H):vI t (oT i) De σ H:=by obtain⟨ρ,h,ae,w,re,p⟩:=q;exact ht σ H _ ⟨ρ,h,ae,w,re,dO p re λd h1 ρ1 H1 l1 w1 re1 p1 v rv=>i6 p1 w1 (re1.set i rv)⟩
def Nu(M:List Str)(kn:List (Str×NameKind))(N:List Str)(sub:Rg)
 (hc:X.calm=true) (hN:X.N.Nodup) (hix:X.N[iT]?=some xT) (hxl:Loc X.env.scope xT) (hi:DI K mg X ES tg a_ I)
 (hg:∀cl C s₂ H fp,DG K mg (bL X N scope cl C s₂ H fp) (λ_=>E0) tg g) (he:∀cl C s₂ H fp,DE K mg (bL X N scope cl C s₂ H fp) (λ_=>E0) g_ F)
 (hsw:swapsWith (.ListComp g_ [⟨tg,a_,[],0⟩] scope pos) (some (.Name xT px)) spos.line X.env=pure true)
 (hM:X.N=M) (hkn:X.env.scope.names=kn) (f_:eI M scope.names sub N=true)
 (hk:scope.kind=.function) (o_:∀x∈scope.names,x.2 ≠ .cell) (b_:∀x∈scope.names,x.2=.local->scope.names.lookup x.1=some .local)
 (l_:fP kn scope.names=true)
 (p_:sub.length=N.length) (hs:∀x,foldedSetIterable a_ X.env x=pure x) (hf:X.fn xT=true\/X.env.scope.names.lookup xT=some .local):
 DS K mg X ES (.Assign [.Name xT px] (.ListComp g_ [⟨tg,a_,[],0⟩] scope pos) spos) (i0 (eLC I sub g tY F) (gN iT)):=
 PS.imp (MP M kn N sub hc hN hix hxl hi hg he hsw hM hkn f_ hk o_ b_ l_ p_ hs hf) (wu J4)
def Fc(M:List Str)(kn:List (Str×NameKind))(N:List Str)(sub:Rg)
 (hc:X.calm=true) (hN:X.N.Nodup) (hix:X.N[iT]?=some xT) (hxl:Loc X.env.scope xT) (hi:DI K mg X ES tg a_ I)
 (hg:∀cl C s₂ H fp,DG K mg (bL X N scope cl C s₂ H fp) (λ_=>E0) tg g) (ht:∀cl C s₂ H fp,DT K mg (bL X N scope cl C s₂ H fp) (λ_=>E0) c cf) (he:∀cl C s₂ H fp,DE K mg (bL X N scope cl C s₂ H fp) (λ_=>E0) g_ F)
 (hsw:swapsWith (.ListComp g_ [⟨tg,a_,[c],0⟩] scope pos) (some (.Name xT px)) spos.line X.env=pure true)
 (hM:X.N=M) (hkn:X.env.scope.names=kn) (f_:eI M scope.names sub N=true)
 (hk:scope.kind=.function) (o_:∀x∈scope.names,x.2 ≠ .cell) (b_:∀x∈scope.names,x.2=.local->scope.names.lookup x.1=some .local)
 (l_:fP kn scope.names=true)
 (p_:sub.length=N.length) (hs:∀x,foldedSetIterable a_ X.env x=pure x) (hf:X.fn xT=true\/X.env.scope.names.lookup xT=some .local):
 DS K mg X ES (.Assign [.Name xT px] (.ListComp g_ [⟨tg,a_,[c],0⟩] scope pos) spos) (i0 (eLC I sub g cf F) (gN iT)):=
 PS.imp (Au hc hN hix hxl hi hk o_ b_ (by subst hkn;exact mX l_) p_ (by subst hM;exact kW f_) hg (λcl C s₂ H fp=>wg (ht cl C s₂ H fp)) he hsw hs hf) (wu sL)
end
noncomputable def whN(c:MT)(B:MS):Nat->MS
 |0,_,_=>.stuck
 |k+1,ae,h=>(c ae h).toS ae λb h1=>if b=true then (B ae h1).loop (whN c B k) else .nx ae h1
open Classical in
def sWh(c:MT)(B:MS):MS:=λae h=>if q:∃k,whN c B k ae h ≠ .stuck then whN c B q.choose ae h else .stuck
theorem nQ:∀{k:Nat}{ae:AE}{h:AH},whN c B k ae h ≠ .stuck->whN c B (k+1) ae h=whN c B k ae h
 |0,_,_,q=>absurd rfl q
 |
  k+1,ae,h,q=>by
  have e1:whN c B (k+2) ae h=(c ae h).toS ae λb h1=>if b=true then (B ae h1).loop (whN c B (k+1)) else .nx ae h1:=rfl
  have e2:whN c B (k+1) ae h=(c ae h).toS ae λb h1=>if b=true then (B ae h1).loop (whN c B k) else .nx ae h1:=rfl
  rw[e2] at q;rw[e1,e2];cases r:c ae h with
  |exc _ _=>rfl
  |stuck=>rfl
  |
   ok b h1=>
   rw[r] at q;cases b with
   |false=>rfl
   |
    true=>
    have q':(B ae h1).loop (whN c B k) ≠ .stuck:=q;show (B ae h1).loop (whN c B (k+1))=(B ae h1).loop (whN c B k);cases s:B ae h1 with
    |nx a2 h2=>rw[s] at q';exact nQ q'
    |ct a2 h2=>rw[s] at q';exact nQ q'
    |_=>rfl
def zQ(q:whN c B k ae h ≠ .stuck)(hj:k<=j):whN c B j ae h=whN c B k ae h:=by
 induction hj with
 |refl=>rfl
 |step _ ih=>rw[nQ (by rw[ih];exact q),ih]
def A1(q:whN c B k ae h ≠ .stuck):sWh c B ae h=whN c B k ae h:=by
 have hq:∃k,whN c B k ae h ≠ .stuck:=⟨k,q⟩;unfold sWh;rw[dif_pos hq];rcases Nat.le_total hq.choose k with z |z
 .exact (zQ hq.choose_spec z).symm
 .exact zQ q z
section
variable{K:W.Frag}{mg:Ra}{X:Cx}{ES:St->XK}{c:Expr}{cf:MT}{U:MS}{sts:List Stmt}{pos:Pos}
def A4(hp:PassesOwn (model X.prog X.w) X.A X.env X.xe)(hc:DT K mg X ES c cf)(hb:DSs K mg X ES sts U):DS K mg X ES (.While c sts [] pos) (sWh cf U):=by
 refine PS.imp (C2 hp hc hb) λDe σ H q_=>q_.el λρ h ae w re p=>?_;have hx:∃k,whN cf U k ae h ≠ .stuck:=Qa λz=>by unfold sWh at p;rw[dif_neg z] at p;exact p.elim
 obtain⟨k,hk⟩:=hx;rw[A1 hk] at p;refine⟨λm σ2 H2=>∃ρ2 h2 ae2,Wd K mg ρ2 h2 H2/\RelE K mg ρ2 H2 ae2 σ2/\PostS K mg ρ2 H2 De ES (whN cf U m ae2 h2),⟨k,ρ,h,ae,w,re,p⟩,?_⟩;rintro m σ2 H2 ⟨ρ2,h2,ae2,w2,re2,p2⟩;cases m with
 |zero=>exact p2.elim
 |
  succ m=>
  refine⟨ρ2,h2,ae2,w2,re2,dO p2 re2 λb h3 ρ3 H3 l3 w3 re3 p3=>?_⟩;cases b with
  |true=>exact⟨λσ' H'=>∃ρ4 h4 ae4,Wd K mg ρ4 h4 H'/\RelE K mg ρ4 H' ae4 σ'/\PostS K mg ρ4 H' De ES (whN cf U m ae4 h4),λσ' H' q=>⟨m,Nat.lt_succ_self _,q⟩,ρ3,h3,ae2,w3,re3,vp p3 λae4 h4 ρ4 H4 σ4 l4 w4 re4 p4=>⟨ρ4,h4,ae4,w4,re4,p4⟩⟩
  |false=>exact i6 p3 w3 re3
end
noncomputable def tG:Fn:=λds h=>match ds with
 | [d]=>match iA h d with
  |some xs=>.ok (.int xs.length) h
  |none=>match d with
   |.str z=>if z.length<=16777216 then .ok (.int z.length) h else .stuck
   |_=>.stuck
 |_=>.stuck
noncomputable def yh:Fn:=λds h=>match ds with
 | [.int i]=>.ok (.int (if i<0 then -i else i)) h
 |_=>.stuck
noncomputable def sV:Fn:=λds h=>match ds with
 | [.int i,.int j]=>.ok (.int (if j<i then j else i)) h
 |_=>.stuck
noncomputable def jI:List D->Option (List Bool)
 | []=>some []
 |.bl b::r=>(jI r).map (b :: ·)
 |_=>none
noncomputable def iK:List D->Option (List Int)
 | []=>some []
 |.int b::r=>(iK r).map (b :: ·)
 |_=>none
theorem uM:∀{ds:List D}{bs:List Bool},jI ds=some bs->ds=bs.map D.bl
 | [],bs,e=>by cases e;rfl
 |
  .bl b::r,bs,e=>by
  have e':(jI r).map (b :: ·)=some bs:=e;cases q:jI r with
  |none=>rw[q] at e';cases e'
  |some z=>rw[q] at e';cases e';rw[uM q];rfl
theorem rZ:∀{ds:List D}{bs:List Int},iK ds=some bs->ds=bs.map D.int
 | [],bs,e=>by cases e;rfl
 |
  .int b::r,bs,e=>by
  have e':(iK r).map (b :: ·)=some bs:=e;cases q:iK r with
  |none=>rw[q] at e';cases e'
  |some z=>rw[q] at e';cases e';rw[rZ q];rfl
noncomputable def uv:Fn:=λds h=>match ds with
 | [.ref n]=>match (cE h n).bind jI with
  |some bs=>.ok (.bl (bs.all id)) h
  |none=>.stuck
 |_=>.stuck
noncomputable def uX:Fn:=λds h=>match ds with
 | [.ref n]=>match (cE h n).bind iK with
  |some ns=>.ok (.int ns.sum) h
  |none=>.stuck
 |_=>.stuck
noncomputable def pw:Fn:=λds h=>match ds with
 | [d]=>match iA h d with
  |some xs=>.ok (.ref h.length) (h++[.lst xs])
  |none=>.stuck
 |_=>.stuck
def l9:Fn:=λds h=>match ds with
 | [d]=>match iA h d with
  |some xs=>.ok (.tup xs) h
  |none=>.stuck
 |_=>.stuck
section
variable{K:W.Frag}{mg:Ra}{X:Cx}
def Hz:dg K mg (λxs H Q=>(∃p ys,xs=[.ref p]/\(SqL K H p ys\/SqT K H p ys)/\Q (.int ys.length) H)\/(∃z,xs=[.str z]/\z.length<=sizeLine/\Q (.int z.length) H)) tG:=λρ h H ds vs Q E w rs p=>by
 unfold tG at p;split at p
 .cases
   rs with
  |
   cons r rs=>
   cases rs;split at p
   .rename_i xs e;obtain⟨pa,vs,rfl,hq,rs⟩:=gf w r e;exact .inl ⟨_,_,rfl,hq,by rw[<- rs.len];exact bP w (.int _) p⟩
   .split at p
    .cases r;split at p
     .rename_i hl;exact .inr ⟨_,rfl,hl,bP w (.int _) p⟩
     .exact p.elim
    .exact p.elim
 .exact p.elim
def LU(h:X.K=K):CallR X (.builtin "len") (λxs H Q=>(∃p ys,xs=[.ref p]/\(SqL K H p ys\/SqT K H p ys)/\Q (.int ys.length) H)\/(∃z,xs=[.str z]/\z.length<=sizeLine/\Q (.int z.length) H)):=by subst h;exact u7.or uk
def Ki:dg K mg (λxs H Q=>∃i,xs=[.int i]/\Q (.int (if i<0 then -i else i)) H) yh:=λρ h H ds vs Q E w rs p=>by
 unfold yh at p;split at p
 .cases rs with
  |cons r rs=>cases r;cases rs;exact⟨_,rfl,bP w (.int _) p⟩
 .exact p.elim
def FD:dg K mg (λxs H Q=>∃i j,xs=[.int i,.int j]/\Q (.int (if j<i then j else i)) H) sV:=λρ h H ds vs Q E w rs p=>by
 unfold sV at p;split at p
 .cases rs with
  |cons r rs=>cases rs with |cons r2 rs=>cases r;cases r2;cases rs;exact⟨_,_,rfl,bP w (.int _) p⟩
 .exact p.elim
def JC:dg K mg (λxs H Q=>∃(a:Addr) (bs:List Bool),xs=[.ref a]/\SqL K H a (bs.map V.bl)/\Q (.bl (bs.all id)) H) uv:=λρ h H ds vs Q E w rs p=>by
 unfold uv at p;split at p
 .cases
   rs with
  |
   cons r rs=>
   cases r with
   |
    ref ea=>
    cases rs;split at p
    .rename_i bs e;obtain⟨xs,q,e2⟩:=OZ.mp e
     .obtain⟨vs,h1,h2⟩:=dH w ea q;rw[uM e2] at h2;rw[h2.bls] at h1;exact⟨_,bs,rfl,h1,bP w (.bl _) p⟩
    .exact p.elim
 .exact p.elim
def JJ:dg K mg (λxs H Q=>∃(a:Addr) (ns:List Int),xs=[.ref a]/\SqL K H a (ns.map V.int)/\Q (.int ns.sum) H) uX:=λρ h H ds vs Q E w rs p=>by
 unfold uX at p;split at p
 .cases
   rs with
  |
   cons r rs=>
   cases r with
   |
    ref ea=>
    cases rs;split at p
    .rename_i bs e;obtain⟨xs,q,e2⟩:=OZ.mp e
     .obtain⟨vs,h1,h2⟩:=dH w ea q;rw[rZ e2] at h2;rw[h2.ints] at h1;exact⟨_,bs,rfl,h1,bP w (.int _) p⟩
    .exact p.elim
 .exact p.elim
def FL:dg K mg (λxs H Q=>∃p ys,xs=[.ref p]/\(SqL K H p ys\/SqT K H p ys)/\∀l,H l=none->Q (.ref l) (upd H l (.lst ys))) pw:=λρ h H ds vs Q E w rs p=>by
 unfold pw at p;split at p
 .cases rs with
  |
   cons r rs=>
   cases rs;split at p
   .rename_i xs e;obtain⟨pa,vs,rfl,hq,rs⟩:=gf w r e;exact⟨_,_,rfl,hq,λl hl=>gw w rs hl p⟩
   .exact p.elim
 .exact p.elim
def Bu:dg K mg (λxs H Q=>∃p ys,xs=[.ref p]/\((SqL K H p ys/\∀l,H l=none->Q (.ref l) (upd H l (.tup ys)))\/(SqT K H p ys/\Q (.ref p) H))) l9:=λρ h H ds vs Q E w rs p=>by
 unfold l9 at p;split at p
 .cases rs with
  |
   cons r rs=>
   cases rs;split at p
   .rename_i xs e;obtain⟨pa,vs,rfl,hq,rs⟩:=gf w r e;rcases hq with hq |hq
    .exact⟨_,_,rfl,.inl ⟨hq,λl hl=>lz w rs hl p⟩⟩
    .exact⟨_,_,rfl,.inr ⟨hq,bP w (.tup hq rs) p⟩⟩
   .exact p.elim
 .exact p.elim
def AK(h:X.K=K):CallR X (.type "list") (λxs H Q=>∃p ys,xs=[.ref p]/\(SqL K H p ys\/SqT K H p ys)/\∀l,H l=none->Q (.ref l) (upd H l (.lst ys))):=by subst h;exact tj
def Fq(h:X.K=K):CallR X (.type "tuple") (λxs H Q=>∃p ys,xs=[.ref p]/\((SqL K H p ys/\∀l,H l=none->Q (.ref l) (upd H l (.tup ys)))\/(SqT K H p ys/\Q (.ref p) H))):=by subst h;exact sk
end
inductive Cl where
 |b (n:String) |o (x:Str)
 deriving DecidableEq
noncomputable def tyD(h:AH):D->Option Cl
 |.non=>some (.b "NoneType")
 |.bl _=>some (.b "bool")
 |.int _=>some (.b "int")
 |.str _=>some (.b "str")
 |.tup _=>some (.b "tuple")
 |.exc x=>some (.o x)
 |.ref n=>match h[n]? with
  |some (.lst _)=>some (.b "list")
  |some (.fz _)=>some (.b "list")
  |some (.dct _)=>some (.b "dict")
  |_=>none
 |_=>none
noncomputable def clD:D->Option Cl
 |.ty n=>some (.b n)
 |.glb x=>some (.o x)
 |_=>none
def ClV(mg:Ra):Cl->Value->Prop
 |.b n,v=>v=.type n
 |.o x,v=>∃a,v=.ref a/\mg x=some (.ref a)
abbrev kU:=List (Cl×Cl×Bool)
structure KitsOk(K:W.Frag)(mg:Ra)(kt:kU):Prop where
 one:∀p∈kt,∀t v,ClV mg p.1 t->ClV mg p.2.1 v->W.kitOne K t v=some p.2.2
 xc:∀p∈kt,∀x C,p.1=.o x->mg x=some (.ref C)->XCls K C
noncomputable def kit(kt:kU)(t c:Cl):Option Bool:=(kt.find? λp=>decide (p.1=t)&&decide (p.2.1=c)).map (·.2.2)
noncomputable def iz(kt:kU)(t:Cl):List Cl->Option Bool
 | []=>some false
 |c::r=>match kit kt t c with
  |some true=>some true
  |some false=>iz kt t r
  |none=>none
noncomputable def uA(kt:kU):Fn:=λds h=>match ds with
 | [d,c]=>match tyD h d with
  |some t=>match c with
   |.tup cs=>match cs.mapM clD with
    |some (c0::cr)=>match iz kt t (c0::cr),kit kt t c0 with
     |some b,some _=>.ok (.bl b) h
     |_,_=>.stuck
    |_=>.stuck
   |c=>match clD c with
    |some cl=>match kit kt t cl with
     |some b=>.ok (.bl b) h
     |none=>.stuck
    |none=>.stuck
  |none=>.stuck
 |_=>.stuck
def qw(e:kit kt t c=some b):(t,c,b)∈kt:=by
 unfold kit at e;cases q:kt.find? (λp=>decide (p.1=t)&&decide (p.2.1=c)) with
 |none=>rw[q] at e;cases e
 |some p=>rw[q] at e;have h1:=List.find?_some q;have h2:=Qb q;simp only[D_,P1] at h1;obtain⟨p1,p2,p3⟩:=p;have e3:p3=b:=OE e;obtain⟨rfl,rfl⟩:=h1;subst e3;exact h2
section
variable{K:W.Frag}{mg:Ra}{X:Cx}{ρ:List Addr}{H:Hp}{h:AH}
def we(ok:KitsOk K mg kt)(w:Wd K mg ρ h H)(r:RelD K mg ρ H d v)(e:tyD h d=some t)(k:kit kt t c=some b):∃tv,TyX K H v tv/\ClV mg t tv:=by
 cases r with
 |non=>cases e;exact⟨_,.of .non,rfl⟩
 |bl=>cases e;exact⟨_,.of (.bl _),rfl⟩
 |int=>cases e;exact⟨_,.of (.int _),rfl⟩
 |str=>cases e;exact⟨_,.of (.str _),rfl⟩
 |tup q rs=>cases e;exact⟨_,.sqT q,rfl⟩
 |exc m ex=>cases e;exact⟨_,.exc ex (ok.xc _ (qw k) _ _ rfl m),_,rfl,m⟩
 |
  ref ea=>
  unfold tyD at e;dsimp only at e;split at e
  .rename_i e1;cases e;obtain⟨vs,h1,h2⟩:=w.ob _ _ _ ea e1;exact⟨_,.of (.lst h1),rfl⟩
  .rename_i e1;cases e;obtain⟨o,vs,h1,h2⟩:=w.ob _ _ _ ea e1;exact⟨_,.of (.frz h1),rfl⟩
  .rename_i e1;cases e;obtain⟨ws,h1,_⟩:=w.ob _ _ _ ea e1;exact⟨_,.of (.dK h1),rfl⟩
  .cases e
 |_=>cases e
def xi(r:RelD K mg ρ H d v)(e:clD d=some c):∃cv,gL v=some cv/\ClV mg c cv:=by
 cases r with
 |ty n=>cases e;exact⟨_,rfl,rfl⟩
 |glb m=>cases e;exact⟨_,rfl,_,rfl,m⟩
 |_=>cases e
def Bh:∀{ds:List D}{vs:List V}{cs:List Cl},RelDs K mg ρ H ds vs->ds.mapM clD=some cs->∃cvs,vs.mapM gL=some cvs/\Paired (ClV mg) cs cvs:=by
 intro ds;induction ds with
 |nil=>intro vs cs r e;cases r;have e':some ([]:List Cl)=some cs:=e;cases e';exact⟨[],rfl,.nil⟩
 |
  cons d ds ih=>
  intro vs cs r e;cases r with
  |
   cons r rr=>
   rw[P5] at e;cases q:clD d with
   |none=>rw[q] at e;cases e
   |
    some c=>
    rw[q] at e;cases q2:ds.mapM clD with
    |none=>rw[q2] at e;cases e
    |some cs'=>rw[q2] at e;have e':some (c::cs')=some cs:=e;cases e';obtain⟨cv,h1,h2⟩:=xi r q;obtain⟨cvs,h3,h4⟩:=ih rr q2;refine⟨cv::cvs,?_,.cons h2 h4⟩;rw[P5,h1,h3];rfl
def zC(ok:KitsOk K mg kt)(ht:ClV mg t tv):∀{cs:List Cl}{cvs:List Value}{b:Bool},Paired (ClV mg) cs cvs->iz kt t cs=some b->W.kitAny K tv cvs=some b:=by
 intro cs;induction cs with
 |nil=>intro cvs b r e;cases r;cases e;rfl
 |
  cons c cs ih=>
  intro cvs b r e;cases r with
  |
   cons r rr=>
   unfold iz at e;unfold W.kitAny;cases q:kit kt t c with
   |none=>rw[q] at e;cases e
   |
    some z=>
    rw[q] at e;rw[ok.one _ (qw q) _ _ ht r];cases z with
    |true=>exact e
    |false=>exact ih rr e
def Aj:CallR X (.builtin "isinstance") (λxs H Q=>∃x tp cs t vs b,xs=[x,.ref tp]/\SqT X.K H tp cs/\TyX X.K H x t/\cs.mapM gL=some vs/\W.kitAny X.K t vs=some b/\Q (.bl b) H):=by intro pins s σ H xs us Q I r h;obtain⟨x,tp,cs,t,vs,b,rfl,ht,ty,hc,hk,q⟩:=h;obtain⟨u,w',rfl,rx,rc⟩:=xF r;cases rc;obtain⟨its,rv,⟨o,e,c,n,d⟩,_⟩:=I.tuple ht;obtain rfl:=sj hc rv;obtain⟨Hh,Z,p,hne⟩:=wc I rx ty;obtain⟨oc,od,odt,osl⟩:=o;have c':oc=.type "tuple":=c;have d':odt=.seq its.toArray n:=d;subst c' d';exact W.kia_tup Z I.kIn p e hk hne λtk=>⟨.bl b,H,I.tok _,rfl,q⟩
def Md(hK:X.K=K):CallR X (.builtin "isinstance") (λxs H Q=>(∃x c t v b,xs=[x,c]/\TyX K H x t/\gL c=some v/\W.kitOne K t v=some b/\Q (.bl b) H)\/
 (∃x tp cs t vs b,xs=[x,.ref tp]/\SqT K H tp cs/\TyX K H x t/\cs.mapM gL=some vs/\W.kitAny K t vs=some b/\Q (.bl b) H)):=by subst hK;exact C3.or Aj
def Hg(ok:KitsOk K mg kt):dg K mg (λxs H Q=>(∃x c t v b,xs=[x,c]/\TyX K H x t/\gL c=some v/\W.kitOne K t v=some b/\Q (.bl b) H)\/
 (∃x tp cs t vs b,xs=[x,.ref tp]/\SqT K H tp cs/\TyX K H x t/\cs.mapM gL=some vs/\W.kitAny K t vs=some b/\Q (.bl b) H)) (uA kt):=λρ h H ds vs Q E w rs p=>by
 unfold uA at p;split at p
 .cases
   rs with
  |
   cons r rs=>
   cases rs with
   |
    cons r2 rs=>
    cases rs;split at p
    .rename_i t e1;split at p
     .split
       at p
      .rename_i cs c0 cr e2;split at p
       .rename_i b b' e3 e4;cases r2 with
        |tup q rs2=>obtain⟨tv,h1,h2⟩:=we ok w r e1 e4;obtain⟨cvs,h3,h4⟩:=Bh rs2 e2;exact .inr ⟨_,_,_,tv,cvs,b,rfl,q,h1,h3,zC ok h2 h4 e3,bP w (.bl _) p⟩
       .exact p.elim
      .exact p.elim
     .split at p
      .rename_i cl e2;split at p
       .rename_i b e3;obtain⟨tv,h1,h2⟩:=we ok w r e1 e3;obtain⟨cv,h3,h4⟩:=xi r2 e2;exact .inl ⟨_,_,tv,cv,b,rfl,h1,h3,ok.one _ (qw e3) _ _ h2 h4,bP w (.bl _) p⟩
       .exact p.elim
      .exact p.elim
    .exact p.elim
 .exact p.elim
end
def MtD(K:W.Frag)(mg:Ra)(r:V->List V->Hp->VK->Prop)(g:D->List D->AH->R D):Prop:=∀ρ h H dx ds x vs Q E,Wd K mg ρ h H->RelD K mg ρ H dx x->RelDs K mg ρ H ds vs->fM K mg ρ H Q E (g dx ds h)->r x vs H Q
noncomputable def mT(h:AH):D->Bool
 |.ref n=>(cE h n).isSome
 |_=>false
noncomputable def eM(g:D->List D->AH->R D)(F:ME)(A:MA):ME:=λae h=>(F ae h).bind λx h1=>if mT h1 x=true then (A ae h1).bind λds h2=>g x ds h2 else .stuck
def eM0(g:D->List D->AH->R D)(F:ME):ME:=λae h=>(F ae h).bind λx h1=>if mT h1 x=true then g x [] h1 else .stuck
section
variable{K:W.Frag}{mg:Ra}{X:Cx}{ES:St->XK}{o e:Expr}{es:List Expr}{F:ME}{A:MA}
def rm(w:Wd K mg ρ h H)(r:RelD K mg ρ H d v)(q:mT h d=true):tyV K "list" v H:=by
 cases r with
 |ref ea=>obtain⟨xs,e⟩:=Pb.mp q;obtain⟨vs,h1,_⟩:=dH w ea e;exact .inl ⟨rfl,vs,h1⟩
 |_=>cases q
def de_m{name:Str}{id:String}{apos cpos:Pos}{r:V->List V->Hp->VK->Prop}{g:D->List D->AH->R D}(hK:X.K=K)(slot:Slot "list" name id)(hty:typeOf (.builtin id)=pure (.type "method_descriptor"))(hm:MtM X id r)(hd:MtD K mg r g)(ho:DE K mg X ES o F)(ha:DA K mg X ES (e::es) A)
 (r_:attributeBase o name X.env (eval o X.env)=eval o X.env)
 (hfew:((backTo cpos (starEach (e::es) X.env)).all (λx=>!x.1)&&(backToKw cpos (keywordEach [] X.env)).all (λx=>x.1.isSome)
  && decide ((e::es).length+([]:List Keyword).length+(if ([]:List Keyword).isEmpty then 0 else 1)<30))=true)
 (s_:(apos.endLine==cpos.line)=true) (hs:starEach (e::es) X.env=(false,eval e X.env)::starEach es X.env) (j':(backTo cpos (starEach es X.env)).any (·.1)=false):
 DE K mg X ES (.Call (.Attribute o name apos) (e::es) [] cpos) (eM g F A):=by
 subst hK;refine PE.imp (M6 PySem.F.plainAttrs_list slot hty hm ho ha r_ hfew s_ hs j') λσ H Q q_=>q_.el λρ h ae w re p=>⟨ρ,h,ae,w,re,p.bind.imp λdx h1 ρ1 H1 l1 w1 p1 x rx=>?_⟩;split at p1
 .rename_i hl;exact⟨rm w1 rx hl,ρ1,h1,ae,w1,re.mono l1,p1.bind.imp λds h2 ρ2 H2 l2 w2 p2 vs rs=>hd ρ2 h2 H2 dx ds x vs Q _ w2 (rx.mono l2) rs p2⟩
 .exact p1.elim
def N6{name:Str}{id:String}{apos cpos:Pos}{r:V->List V->Hp->VK->Prop}{g:D->List D->AH->R D}(hK:X.K=K)(slot:Slot "list" name id)(hty:typeOf (.builtin id)=pure (.type "method_descriptor"))(hm:MtM X id r)(hd:MtD K mg r g)(ho:DE K mg X ES o F)
 (r_:attributeBase o name X.env (eval o X.env)=eval o X.env) (s_:(apos.endLine==cpos.line)=true):DE K mg X ES (.Call (.Attribute o name apos) [] [] cpos) (eM0 g F):=by
 subst hK;refine PE.imp (HA PySem.F.plainAttrs_list slot hty hm ho r_ s_) λσ H Q q_=>q_.el λρ h ae w re p=>⟨ρ,h,ae,w,re,p.bind.imp λdx h1 ρ1 H1 l1 w1 p1 x rx=>?_⟩;split at p1
 .rename_i hl;exact⟨rm w1 rx hl,hd ρ1 h1 H1 dx [] x [] Q _ w1 rx .nil p1⟩
 .exact p1.elim
end
noncomputable def mH(h:AH)(d:D)(f:Nat->List D->R D):R D:=match d with
 |.ref n=>match h[n]? with
  |some (.lst xs)=>f n xs
  |_=>.stuck
 |_=>.stuck
noncomputable def mG:D->List D->AH->R D:=λx ds h=>mH h x λn xs=>match ds with
 | [d]=>if xs.length<16777216 then .ok .non (h.set n (.lst (xs++[d]))) else .stuck
 |_=>.stuck
def kM:D->List D->AH->R D:=λx ds h=>mH h x λn xs=>match ds with
 | []=>.ok .non (h.set n (.lst xs.reverse))
 |_=>.stuck
section
variable{K:W.Frag}{mg:Ra}{ρ:List Addr}{H:Hp}{h:AH}
def rK(w:Wd K mg ρ h H)(r:RelD K mg ρ H d v)(p:fM K mg ρ H Q E (mH h d f)):
 ∃n xs a vs,d=.ref n/\h[n]?=some (.lst xs)/\ρ[n]?=some a/\v=.ref a/\H a=some (.lst vs)/\RelDs K mg ρ H xs vs/\fM K mg ρ H Q E (f n xs):=by
 unfold mH at p;split at p
 .cases r with
  |
   ref ea=>
   split at p
   .rename_i n xs e;obtain⟨vs,h1,h2⟩:=w.ob _ _ _ ea e;exact⟨_,_,_,vs,rfl,e,ea,rfl,h1,h2,p⟩
   .exact p.elim
 .exact p.elim
def uc(w:Wd K mg ρ h H)(ea:ρ[n]?=some a)(e:H a=some (.lst vs))(rs:RelDs K mg ρ H ys ws)(rd:RelD K mg ρ H d v)(p:fM K mg ρ H Q E (.ok d (h.set n (.lst ys)))):Q v (upd H a (.lst ws)):=by have l:Le ρ H ρ (upd H a (.lst ws)):=oA e DF;exact p ρ _ l (w.write ea e DF ⟨ws,eB,rs.mono l⟩) v (rd.mono l)
def zH:MtD K mg pQ mG:=λρ h H dx ds x vs Q E w rx rs p=>by
 obtain⟨n,xs,a,us,rfl,e,ea,rfl,h1,h2,p⟩:=rK w rx p;split at p
 .cases rs with
  |
   cons r rs=>
   cases rs;split at p
   .rename_i hl;exact⟨a,us,_,rfl,rfl,h1,by rw[<- h2.len];exact hl,uc w ea h1 (h2.append (.cons r .nil)) .non p⟩
   .exact p.elim
 .exact p.elim
def yf:MtD K mg nU kM:=λρ h H dx ds x vs Q E w rx rs p=>by
 obtain⟨n,xs,a,us,rfl,e,ea,rfl,h1,h2,p⟩:=rK w rx p;split at p
 .cases rs;exact⟨a,us,rfl,rfl,h1,uc w ea h1 h2.reverse .non p⟩
 .exact p.elim
end
section
variable{K:W.Frag}{mg:Ra}{X:Cx}{ES:St->XK}{o i:Expr}{F G:ME}{pos:Pos}
def J8(ho:DE K mg X ES o F)(hi:DE K mg X ES i G)(hs:xA X t)(hd:yP K mg t f)
 (ha:∀v,assign (.Subscript o i pos) X.env v=(do
  let ov <- holding [v] (eval o X.env)
  let iv <- holding [v,ov] (eval i X.env)
  standAt pos
  holding [v,ov,iv] (setItem ov iv v)
  release [v,ov,iv] [])):DG K mg X ES (.Subscript o i pos) (gS F G f):=
 PG.imp (Ho ho hi hs ha) λv σ H Q q_=>q_.el λρ h ae d w re rd p=>
  ⟨ρ,h,ae,w,re,p.bind.imp λdo_ h1 ρ1 H1 l1 w1 p1 o' ro=>⟨ρ1,h1,ae,w1,re.mono l1,p1.bind.imp λdi h2 ρ2 H2 l2 w2 p2 i' ri=>
   hd ρ2 h2 H2 do_ di d o' i' v _ _ w2 (ro.mono l2) ri ((rd.mono l1).mono l2) (p2.bind.imp λ_ h3 ρ3 H3 l3 w3 p3=>p3 ρ3 H3 Le.refl w3 σ (((re.mono l1).mono l2).mono l3))⟩⟩
end
noncomputable def cutD(xs:List D)(lo hi:Option Int):List D:=(xs.drop (HT.sIx xs.length 0 lo)).take (HT.sIx xs.length xs.length hi-HT.sIx xs.length 0 lo)
abbrev MO:=AE->AH->R (Option Int)
noncomputable def yF:MO:=λ_ h=>.ok none h
noncomputable def x9(F:ME):MO:=λae h=>(F ae h).bind λd h1=>match d with
 |.int i=>.ok (some i) h1
 |_=>.stuck
noncomputable def gSl(x:D)(lo hi:Option Int)(h:AH):R D:=match x with
 |.tup xs=>if HT.sIx xs.length 0 lo=0/\HT.sIx xs.length xs.length hi=xs.length then .stuck else .ok (.tup (cutD xs lo hi)) h
 |.ref n=>match cE h n with
  |some xs=>.ok (.ref h.length) (h++[.lst (cutD xs lo hi)])
  |none=>.stuck
 |.kl xs=>.ok (.ref h.length) (h++[.lst (cutD xs lo hi)])
 |_=>.stuck
noncomputable def eSl(F:ME)(L U:MO):ME:=λae h=>(F ae h).bind λx h1=>(L ae h1).bind λlo h2=>(U ae h2).bind λhi h3=>gSl x lo hi h3
section
variable{K:W.Frag}{mg:Ra}{X:Cx}{ES:St->XK}{e:Expr}{F:ME}{L U:MO}{lo hi:Option Expr}{pos p2:Pos}
def rdO(K:W.Frag)(mg:Ra)(ES:St->XK)(F:MO):TO:=λσ H Q=>∃ρ h ae,Wd K mg ρ h H/\RelE K mg ρ H ae σ/\PostG K mg ρ H (ES σ) (λo _ ρ' H'=>Q o H') (F ae h)
def DO(K:W.Frag)(mg:Ra)(X:Cx)(ES:St->XK)(e:Option Expr)(F:MO):Prop:=PO X e (rdO K mg ES F)
def Fe:DO K mg X ES none yF:=PO.imp ET λσ H Q ⟨ρ,h,ae,w,re,p⟩=>p ρ H Le.refl w
def Et(he:DE K mg X ES e F):DO K mg X ES (some e) (x9 F):=PO.imp (F9 he) λσ H Q ⟨ρ,h,ae,w,re,p⟩=>⟨ρ,h,ae,w,re,p.bind.imp λd h1 ρ1 H1 l1 w1 p1 v rv=>by
 split at p1
 .cases rv;exact⟨_,rfl,p1 ρ1 H1 Le.refl w1⟩
 .exact p1.elim⟩
def qN(r:RelDs K mg ρ H xs vs)(lo hi:Option Int):RelDs K mg ρ H (cutD xs lo hi) (mi vs lo hi):=by unfold cutD mi;rw[<- r.len];exact (r.drop _).take _
def slK(h:X.K=K):SlR X (λx lo hi H Q=>rSlL K x lo hi H Q\/rSlT K x lo hi H Q):=by subst h;exact GH.or Lc
def Bm(hK:X.K=K)(he:DE K mg X ES e F)(hl:DO K mg X ES lo L)(hu:DO K mg X ES hi U):DE K mg X ES (.Subscript e (.Slice lo hi none p2) pos) (eSl F L U):=
 PE.imp (
  B2 (slK hK) he hl hu) λσ H Q q_=>q_.el λρ h ae w re p=>⟨ρ,h,ae,w,re,p.bind.imp λd h1 ρ1 H1 l1 w1 p1 x rx=>⟨ρ1,h1,ae,w1,re.mono l1,p1.bind.imp λlo h2 ρ2 H2 l2 w2 p2=>⟨ρ2,h2,ae,w2,(re.mono l1).mono l2,p2.bind.imp λhi h3 ρ3 H3 l3 w3 p3=>by
  have rx3:=(rx.mono l2).mono l3;unfold gSl at p3;split at p3
  .split at p3
   .exact p3.elim
   .rename_i hn;cases rx3 with
    |tup q rs=>exact .inr ⟨_,_,rfl,q,by rw[<- rs.len];exact hn,λl hl=>lz w3 (qN rs lo hi) hl p3⟩
  .split at p3
   .rename_i xs e1;cases rx3 with
    |ref ea=>obtain⟨vs,q,rs⟩:=dH w3 ea e1;exact .inl ⟨_,_,rfl,q,λl hl=>gw w3 (qN rs lo hi) hl p3⟩
   .exact p3.elim
  .cases rx3 with
   |kl q rs=>exact .inl ⟨_,_,rfl,.inr q,λl hl=>gw w3 (qN rs lo hi) hl p3⟩
  .exact p3.elim⟩⟩⟩
end
structure Script(h:AH)(d:D)(ns:List Int):Prop where
 form:(∃n,d=.ref n/\h[n]?=some (.fz (ns.map D.int)))\/d=.kl (ns.map D.int)
theorem kO{K:W.Frag}{mg:Ra}{ρ:List Addr}{H:Hp}:∀(ns:List Int),RelDs K mg ρ H (ns.map D.int) (ns.map V.int)
 | []=>.nil
 |_::r=>.cons (.int _) (kO r)
def C7{P:Program}{w:World}{K:W.Frag}{mg:Ra}{base:Heap}{x y:Str}{k:Nat}{S:Fn}(C:Callee P w K mg base x k [y] (spD K mg 1 S))(hT:∀P q,¬ C4 K mg P q)
 (hS:∀(d:D) (h:AH) (ns:List Int),ns.length<=63->Script h d ns->∃h',S [d] h=.ok (.bl true) h'):Callee P w K mg base x k [y] (λvs H Q _=>∃(a:Addr) (ns:List Int),vs=[.ref a]/\qh H/\SqL K H a (ns.map V.int)/\ns.length<=63/\∀H',Q (.bl true) H'):=by
 refine C.imp λvs H Q E ⟨a,ns,e,hO,hq,hl,q⟩=>?_;subst e;rcases hq with (hq |⟨o,hq⟩) |hq
 .rcases hO a with z |⟨o,xs,z⟩ <;> rw[hq] at z <;> cases z
 .obtain⟨h',e⟩:=hS (.ref 0) [.fz (ns.map D.int)] ns hl ⟨.inl ⟨0,rfl,rfl⟩⟩;refine⟨[a],[.fz (ns.map D.int)],[.ref 0],⟨rfl,by simp,λP q l=>(hT P q l).elim,λn b ob e1 e2=>?_⟩,.cons (.ref rfl) .nil,rfl,?_⟩
  .cases n with
   |zero=>cases e1;cases e2;exact⟨o,_,hq,kO ns⟩
   |succ n=>simp at e1
  .rw[e];exact λρ' H' l' w' v rv=>by cases rv;exact q H'
 .obtain⟨h',e⟩:=hS (.kl (ns.map D.int)) [] ns hl ⟨.inr rfl⟩;refine⟨[],[],[.kl (ns.map D.int)],⟨rfl,by simp,λP q l=>(hT P q l).elim,λn b ob e1 e2=>by simp at e1⟩,.cons (.kl hq (kO ns)) .nil,rfl,?_⟩;rw[e];exact λρ' H' l' w' v rv=>by cases rv;exact q H'
def walk_lawD{l:W.OpenLaw}{q:Program}{loose:List Str}{XP:(Str->Option Value)->Heap->Prop}{YP:World->Heap->Prop}{d:DefRec}{K:Params->W.Frag}{x:Str}{k:Nat}(hn:l.most=some 63)(hdf:d.params.defaults=[])(hr:Room k callerA)
 (hY:∀(w:World) (h:Heap),YP w h->(K w.params).In h)
 (F:∀(w:World) (mg:Ra) (h:Heap),(K w.params).In h->h.Ns mainGlobals mg->∀base:Heap,(K w.params).In base->base.Ns mainGlobals mg->Callee l.prog w (K w.params) mg base d.name k [x] (λvs H Q _=>∃(a:Addr) (ns:List Int),vs=[.ref a]/\qh H/\SqL (K w.params) H a (ns.map V.int)/\ns.length<=63/\∀H',Q (.bl true) H'))
 (D:∀(w:World) (mg:Ra) (h:Heap),(K w.params).In h->h.Ns mainGlobals mg->∃st,Def (K w.params) mg d.name st/\∀(kV doc pm:Value) (an:Option Addr) (cdv ct:Value) (us:List Value),us.length=1->bindArgs (W.fnOf d.name d.name (ee st) (cC st) (bF st) .none kV doc pm an cdv ct) ⟨us,[]⟩=pure ([x].zip us)):
 W.WalkO q loose XP YP l.row.toRowW d [] (λf vs=>PySem.call f vs):=by
 refine L2.walk_of (n:=63) (k:=k) (x:=x) (CX:=λw=>CX1 l.prog w) (sp:=λw=>λvs H Q _=>∃(a:Addr) (ns:List Int),vs=[.ref a]/\qh H/\SqL (K w.params) H a (ns.map V.int)/\ns.length<=63/\∀H',Q (.bl true) H') hn (by decide) hdf hr hY (λw mg fa h KX G hmg=>?_) (λ_ _ a ns hl hO hS=>⟨a,ns,rfl,hO,hS,hl,λ_=>rfl⟩) λ_ _ _ _ _ ⟨_,_,_,_,_,_,_,_,_,z⟩=>z;obtain⟨st,Dd,hbind⟩:=D w mg h KX G;obtain⟨f,fd,Ff,m⟩:=Dd.ex;have e:=hmg.symm.trans m;cases e;obtain⟨oc,od,kV,doc,pm,an,cdv,ct,osl,rfl,lk,hcd⟩:=Ff.ex;refine⟨_,λs u=>.of_eq (hbind kV doc pm an cdv ct [u] rfl),λbase kb nb=>?_⟩;obtain⟨f',fd',F',m',kp',b',oc',od',osl',lk'⟩:=(F w mg h KX G base kb nb).ex;rw[m] at m';cases m';rw[lk] at lk';cases lk';exact F'
noncomputable def yS:D->D->AH->R D:=gOr (gI λi j=>.int (i+j)) nI
noncomputable def B5:D->D->AH->R D:=gI λi j=>.int (i-j)
def CMulA(i j:Int):Prop:=DC i j\/CMul i j
def CH:D->D->AH->R D:=gIc CMulA λi j=>.int (i*j)
def CJ:D->D->AH->R D:=gIc CDivB λi j=>.int (i.fdiv j)
def A7:D->D->AH->R D:=gIc (λ_ j=>j≠0) λi j=>.int (i.fmod j)
def BR:D->D->AH->R D:=gIc iS λi j=>.int (i^j.toNat)
def Ck:D->D->AH->R D:=gIc iS λi j=>.int (i*2^j.toNat)
noncomputable def gLt:D->D->AH->R D:=gI λi j=>.bl (decide (i<j))
noncomputable def gGt:D->D->AH->R D:=gI λi j=>.bl (decide (j<i))
noncomputable def gGe:D->D->AH->R D:=gI λi j=>.bl (decide (j<=i))
noncomputable def yk:D->AH->R D:=λx h=>match x with
 |.int i=>.ok (.int (-i)) h
 |_=>.stuck
noncomputable def sT(n:Nat)(S:Fn)(A:MA):ME:=eFn (λds h=>if ds.length=n then S ds h else .stuck) A
section
variable{K:W.Frag}{mg:Ra}{X:Cx}
def vb(h:X.K=K):OpR X (binaryOp .Add) (λx y H Q=>rI0 (λi j=>.int (i+j)) x y H Q\/(pV x y H Q\/(mF K x y H Q\/mU K x y H Q))):=HF.or (catK h)
def Hf:OpD K mg (λx y H Q=>rI0 (λi j=>.int (i+j)) x y H Q\/(pV x y H Q\/(mF K x y H Q\/mU K x y H Q))) yS:=(lZ λ_ _ _ _=>.int _).or Fv
def Kl:OpD K mg (rI0 λi j=>.int (i-j)) B5:=lZ λ_ _ _ _=>.int _
def Hl:OpR X (binaryOp .Mult) (rI CMulA λi j=>.int (i*j)):=by
 intro pins s σ H x y v u Q I rx ry h;obtain⟨i,j,e1,e2,hc,q⟩:=h;rcases hc with hc |hc
 .exact Gi pins s σ H x y v u Q I rx ry ⟨i,j,e1,e2,hc,q⟩
 .exact La pins s σ H x y v u Q I rx ry ⟨i,j,e1,e2,hc,q⟩
def KZ:OpD K mg (rI CMulA λi j=>.int (i*j)) CH:=oM λ_ _ _ _=>.int _
def IQ:OpD K mg (rI CDivB λi j=>.int (i.fdiv j)) CJ:=oM λ_ _ _ _=>.int _
def Jw:OpD K mg (rI (λ_ j=>j≠0) λi j=>.int (i.fmod j)) A7:=oM λ_ _ _ _=>.int _
def Jc:OpD K mg (rI iS λi j=>.int (i^j.toNat)) BR:=oM λ_ _ _ _=>.int _
def JI:OpD K mg (rI iS λi j=>.int (i*2^j.toNat)) Ck:=oM λ_ _ _ _=>.int _
def LN:OpD K mg (rI0 λi j=>.bl (decide (i<j))) gLt:=lZ λ_ _ _ _=>.bl _
def Om:OpD K mg (rI0 λi j=>.bl (decide (j<i))) gGt:=lZ λ_ _ _ _=>.bl _
def Oi:OpD K mg (rI0 λi j=>.bl (decide (j<=i))) gGe:=lZ λ_ _ _ _=>.bl _
def K4:UnD K mg (rU λi=>.int (-i)) yk:=λρ h H dx x Q E w rx p=>by
 unfold yk at p;split at p
 .cases rx;exact⟨_,rfl,bP w (.int _) p⟩
 .exact p.elim
def Es:IpD K mg (ipI λi j=>i+j) (gI λi j=>.int (i+j)):=λρ h H dx dy x y Q E w rx ry p=>by
 unfold gI at p;split at p
 .cases rx;cases ry;exact⟨_,_,rfl,rfl,bP w (.int _) p⟩
 .exact p.elim
variable{ES:St->XK}{e:Expr}{es:List Expr}{A:MA}{pos:Pos}
def Ct(C:Callee X.prog X.w X.K X.mg X.base x k ps (spD K mg n S))(hr:Room k X.A)(hg:Gl X x)(hx:mB X ES)(ha:DA K mg X ES (e::es) A)
 (hdb:(x==("__debug__" : Str))=false) (he:starEach (e::es) X.env=(false,eval e X.env)::starEach es X.env) (hpl:(backTo pos (starEach es X.env)).any (·.1)=false):
 DE K mg X ES (.Call (.Name x p) (e::es) [] pos) (sT n S A):=EK C hr hg hx ha hdb he hpl
end
section
variable{h:AH}
@[simp] theorem ji(a:α)(h:AH)(f:α->AH->R β):(R.ok a h).bind f=f a h:=rfl
end
def jM(h1:pd.canLay0=true)(h2:pd.depth<=160):shp pd=true:=by unfold shp;rw[h1,J_ h2];rfl
def Sm(n:Nat)(x:Int):Prop:=x.natAbs<2^n
def Sm.mono(h:Sm n x)(l:n<=m):Sm m x:=K_ h (OS (by omega) l)
def Sm.mul(h:Sm n x)(k:Sm m y):Sm (n+m) (x*y):=by unfold Sm at *;rw[PL,Nat.pow_add];exact Nat.mul_lt_mul'' h k
def Sm.add'(h:Sm n x)(k:Sm n y):Sm (n+1) (x+y):=by
 unfold Sm at *;have h3:2^(n+1)=2^n+2^n:=by rw[Nat.pow_succ];omega
 have h4:(x+y).natAbs<=x.natAbs+y.natAbs:=Int.natAbs_add_le x y;omega
def Sm.bits(h:Sm n x):Builtin.Int.intBits x<=n:=intBits_le_iff.mpr h
def Sm.of_le(h:Sm n y)(l:x.natAbs<=y.natAbs):Sm n x:=Nat.lt_of_le_of_lt l h
def CMulA.of(h:Sm n x)(k:Sm m y)(hn:n<=100000)(hm:m<=100000):CMulA x y:=.inl ⟨I_ h.bits hn,I_ k.bits hm⟩
def CMulA.left(h:-(2^64)<x)(k:x<2^64):CMulA x y:=.inr (.inl ⟨h,k⟩)
def CMulA.right(h:-(2^64)<y)(k:y<2^64):CMulA x y:=.inr (.inr ⟨h,k⟩)
def CDivB.of(h0:y≠0)(h:Sm 8000 y):CDivB x y:=⟨h0,h.bits⟩
structure Sz(n:Nat)(q:Rat):Prop where
 top:Sm n q.num
 bot:Sm n (q.den:Int)
def Sz.mono(h:Sz n q)(l:n<=m):Sz m q:=⟨h.top.mono l,h.bot.mono l⟩
def AX{a b:Int}(hb:b≠0):((a:Rat)/(b:Rat)).num*b=a*((a:Rat)/(b:Rat)).den:=by
 have h2:=Rat.num_divInt_den ((a:Rat)/(b:Rat));have h3:Rat.divInt ((a:Rat)/(b:Rat)).num (((a:Rat)/(b:Rat)).den:Int)=Rat.divInt a b:=by rw[h2,Rat.divInt_eq_div]
 exact (Rat.divInt_eq_divInt_iff (by have:=((a:Rat)/(b:Rat)).den_nz;omega) hb).mp h3
def wQ(q:Rat):Int.gcd q.num q.den=1:=by
 have:=q.reduced
 exact this
def o3(hb:b≠0):Fr.T a b=((a:Rat)/(b:Rat)).num/\Fr.B a b=(((a:Rat)/(b:Rat)).den:Int):=by
 refine Fr.uniq (Fr.B_pos hb) (by have:=((a:Rat)/(b:Rat)).den_pos;omega) (Fr.low hb) (wQ _) ?_;have h1:=Fr.cross (a:=a) hb;have h2:=AX (a:=a) hb;generalize ((a:Rat)/(b:Rat)).num=n at *;generalize (((a:Rat)/(b:Rat)).den:Int)=d at *;generalize Fr.T a b=x at *;generalize Fr.B a b=y at *;have h3:(x*d)*b=(n*y)*b:=by
  calc x*d*b=(x*b)*d:=by rw[Qe]
   _=a*y*d:=by rw[h1]
   _=(a*d)*y:=by rw[Qe]
   _=n*b*y:=by rw[h2]
   _=n*y*b:=by rw[Qe]
 exact P8 hb h3
def ya{a b:Int}(hb:b≠0):((a:Rat)/(b:Rat)).num.natAbs<=a.natAbs:=by
 have h:=(o3 (a:=a) hb).1;rw[<- h];have h1:=Fr.T_mul (a:=a) hb;have h2:=Fr.dv_ne (a:=a) hb;have h3:(Fr.T a b).natAbs*(Fr.dv a b).natAbs=a.natAbs:=by rw[<- PL,h1]
 have h4:1<=(Fr.dv a b).natAbs:=by omega
 calc (Fr.T a b).natAbs=(Fr.T a b).natAbs*1:=by omega
  _<=(Fr.T a b).natAbs*(Fr.dv a b).natAbs:=P_ _ h4
  _=a.natAbs:=h3
def xV{a b:Int}(hb:b≠0):((((a:Rat)/(b:Rat)).den:Int)).natAbs<=b.natAbs:=by
 have h:=(o3 (a:=a) hb).2;rw[<- h];have h1:=Fr.B_mul (a:=a) hb;have h2:=Fr.dv_ne (a:=a) hb;have h3:(Fr.B a b).natAbs*(Fr.dv a b).natAbs=b.natAbs:=by rw[<- PL,h1]
 have h4:1<=(Fr.dv a b).natAbs:=by omega
 calc (Fr.B a b).natAbs=(Fr.B a b).natAbs*1:=by omega
  _<=(Fr.B a b).natAbs*(Fr.dv a b).natAbs:=P_ _ h4
  _=b.natAbs:=h3
def Sz.div(hb:b≠0)(ha:Sm n a)(hb':Sm m b)(k:Nat)(h1:n<=k)(h2:m<=k):Sz k ((a:Rat)/(b:Rat)):=
 ⟨(ha.of_le (ya hb)).mono h1,(hb'.of_le (xV hb)).mono h2⟩
def dW(q:Rat):(q.den:Int)≠0:=by have:=q.den_nz;omega
def jf(q:Rat):q=(q.num:Rat)/((q.den:Int):Rat):=by
 have:=Rat.num_divInt_den q
 rw[Rat.divInt_eq_div] at this;exact this.symm
def jy{b:Int}(h:b≠0):(b:Rat)≠0:=by intro z;exact h (by exact_mod_cast z)
def qr(p q:Rat):p+q=((p.num*q.den+q.num*p.den:Int):Rat)/((p.den*q.den:Int):Rat):=by
 have h1:=jy (dW p);have h2:=jy (dW q)
 conv=>lhs;rw[jf p,jf q]
 simp only[Rat.intCast_add,QB];grind
def qH(p q:Rat):p*q=((p.num*q.num:Int):Rat)/((p.den*q.den:Int):Rat):=by
 have h1:=jy (dW p);have h2:=jy (dW q)
 conv=>lhs;rw[jf p,jf q]
 simp only[QB];grind
def Sz.add(hp:Sz n p)(hq:Sz m q):Sz (n+m+1) (p+q):=by rw[qr];have h1:=(hp.top.mul hq.bot);have h2:=(hq.top.mul hp.bot);exact Sz.div (by have:=dW p;have:=dW q;exact Pw ‹_› ‹_›) (h1.add' (by rw[Nat.add_comm n m];exact h2)) (hp.bot.mul hq.bot) _ (by omega) (by omega)
def Sz.mul(hp:Sz n p)(hq:Sz m q):Sz (n+m) (p*q):=by rw[qH];exact Sz.div (by have:=dW p;have:=dW q;exact Pw ‹_› ‹_›) (hp.top.mul hq.top) (hp.bot.mul hq.bot) _ (by omega) (by omega)
def wN{q:Rat}:0<q.num ↔ 0<q:=by
 have h1:=Rat.num_nonneg (q:=q);have h2:=QC (q:=q);constructor
 .intro h;refine Rat.lt_of_le_of_ne (h1.mp (by omega)) λz=>?_
  have:=h2.mpr z.symm
  omega
 .intro h;have h3:=h1.mpr (OW h);have h4:q.num≠0:=λz=>(Rat.ne_of_lt h) (h2.mp z).symm;omega
def AZ(p q:Rat):p<q ↔ p.num*q.den<q.num*p.den:=Rat.lt_iff p q
theorem iL:∀{ws:List Int},(∀w∈ws,0<=w)->0<=ws.sum
 | [],_=>Int.le_refl _
 |
  w::ws,h=>by
  have:=h w (C_ ..)
  have:=iL (ws:=ws) λv hv=>h v (y_ _ hv)
  rw[OJ];omega
def Lm{K:W.Frag}{h:Heap}{mg:Ra}{x:Str}{a:Addr}{dd:Option Addr}{its:Array Value}{n:Nat}{sl:Array (Option Value)}{vs:List V}{ds:List D}(X:K.In h)(G:h.Ns mainGlobals mg)(e:W.nsIn K mainGlobals x=some (some (.ref a)))
 (l:K.lookup a=some ⟨.type "tuple",dd,.seq its n,sl⟩) (hs:its.size<=sizeLine) (hv:Vals vs its.toList) (hr:∀ρ H,RelDs K mg ρ H ds vs):GC K mg x (.tup ds):=
 ⟨_,.ref a,W.mg_of X G e,rfl,λρ H=>.tup (.inr ⟨_,its,n,l,rfl,rfl,hs,hv⟩) (hr ρ H)⟩
def Dq{P:Program}{w:World}{H:Hp}(h:Heap)(hb:sysModules<h.objs.size):ObjOk P w H (h.push { cls:=.type "dict",data:=.dict #[] }) h.objs.size (.dK []):=
 ⟨ON _,Oy.mpr (Ne.symm (OF hb)),[],.nil,Heap.DictOf.new h⟩
def Inv.big{X:Cx}{pins:Rb}{σ:St}{H:Hp}{s:Shared}(I:Inv X pins σ H s):sysModules<s.heap.objs.size:=by have h:mainGlobals<s.heap.objs.size:=(I.mod.glob.keeps I.bk).lt;exact Qy (by decide) h
variable{K:W.Frag}{mg:Ra}
section
variable{κ:Type}[DecidableEq κ]
noncomputable def f9(kvs:List (κ×V))(k:κ):Option V:=(kvs.find? λkv=>decide (kv.1=k)).map (·.2)
noncomputable def eD(kvs:List (κ×V))(k:κ)(v:V):List (κ×V):=
 if (kvs.any λkv=>decide (kv.1=k))=true then kvs.map (λkv=>if kv.1=k then (kv.1,v) else kv) else kvs++[(k,v)]
def nB{p:κ×V}{r:List (κ×V)}{k:κ}(e:p.1=k):f9 (p::r) k=some p.2:=by simp [f9,Pd,e]
def og{p:κ×V}{r:List (κ×V)}{k:κ}(e:¬ p.1=k):f9 (p::r) k=f9 r k:=by simp [f9,Pd,e]
theorem n9(k:κ):∀kvs:List (κ×V),(kvs.any λkv=>decide (kv.1=k))=(f9 kvs k).isSome
 | []=>rfl
 |
  p::r=>by
  rw[Pg];by_cases e:p.1=k
  .simp only[nB e,J_ e,Bool.true_or,Option.isSome_some]
  .rw[og e,F_ e,Bool.false_or];exact n9 k r
def jS(kvs:List (κ×V))(k:κ)(v:V):(eD kvs k v).length<=kvs.length+1:=by
 unfold eD;split
 .rw[v_];omega
 .rw[H_,L_,OM];omega
def CU{kvs:List (κ×V)}{k:κ}(v:V)(h:f9 kvs k=none):eD kvs k v=kvs++[(k,v)]:=by unfold eD;rw[n9,h];exact if_neg (by decide)
def RelO.isSome_eq(r:RelO o u):o.isSome=u.isSome:=by
 cases o with
 |none=>cases u with
  |none=>rfl
  |some _=>exact (show False from r).elim
 |some _=>cases u with
  |none=>exact (show False from r).elim
  |some _=>rfl
def KV.val(r:KV kvs vs)(k:κ):RelO (f9 kvs k) (valueAt vs k):=by
 unfold KV at r;induction r with
 |nil=>exact True.intro
 |
  @cons p q ps qs h t ih=>
  obtain⟨h1,h2⟩:=h;by_cases e:p.1=k
  .have e':q.1=k:=h1.symm.trans e;have b:valueAt (q::qs) k=some q.2:=by simp [valueAt,Pd,e']
   rw[nB e,b];exact h2
  .have e':¬ q.1=k:=λz=>e (h1.trans z);have b:valueAt (q::qs) k=valueAt qs k:=by simp [valueAt,Pd,e']
   rw[og e,b];exact ih
def KV.any(r:KV kvs vs)(k:κ):(kvs.any λkv=>decide (kv.1=k))=vs.any λkv=>decide (kv.1=k):=by
 unfold KV at r;induction r with
 |nil=>rfl
 |cons h t ih=>rw[Pg,Pg,ih,h.1]
def KV.repl(r:KV kvs vs)(k:κ)(ry:RelV y u):
 KV (kvs.map λkv=>if kv.1=k then (kv.1,y) else kv) (vs.map λkv=>if kv.1=k then (kv.1,u) else kv):=by
 unfold KV at r ⊢;induction r with
 |nil=>exact .nil
 |
  @cons p q ps qs h t ih=>
  rw[B_,B_];refine .cons ?_ ih;obtain⟨h1,h2⟩:=h;by_cases e:p.1=k
  .rw[if_pos e,if_pos (h1.symm.trans e)];exact⟨h1,ry⟩
  .rw[if_neg e,if_neg (λz=>e (h1.trans z))];exact⟨h1,h2⟩
def KV.put(r:KV kvs vs)(k:κ)(ry:RelV y u):KV (eD kvs k y) (stored vs k u):=by
 unfold eD stored;rw[r.any k];by_cases e:(vs.any λkv=>decide (kv.1=k))=true
 .rw[if_pos e,if_pos e];exact r.repl k ry
 .rw[if_neg e,if_neg e];exact Paired.snoc r ⟨rfl,ry⟩
def KV.length(r:KV kvs vs):kvs.length=vs.length:=Paired.length r
end
def mJ(r:RelV (kV k) u):(cz P w).is k u=true:=by
 cases k with
 |inl i=>obtain⟨t,e⟩:=(show ∃t,u=Value.int i t from r);subst e;exact vS P w i t
 |inr x=>obtain⟨t,e⟩:=(show ∃t,u=Value.str x t from r);subst e;exact nc P w x t
theorem rY:∀{ks:List Key}{us:List Value},Vals (ks.map kV) us->ItemsAre (cz P w) ks us
 | [],_,r=>by rw[OP] at r;cases r;exact .nil
 |
  k::ks,_,r=>by
  rw[B_] at r;cases r with
  |cons h t=>exact .cons (mJ h) (rY t)
abbrev KT(H:Hp):List (List Key×V)->List (List Key×Addr×Value)->Prop:=Paired λp q=>p.1=q.1/\H q.2.1=some (.tup (p.1.map kV))/\RelV p.2 q.2.2
def KT.val(r:KT H kvs xs)(k:List Key):RelO (f9 kvs k) ((atKey xs k).map (·.2)):=by
 induction r with
 |nil=>exact True.intro
 |
  @cons p q ps qs h t ih=>
  obtain⟨h1,_,h2⟩:=h;by_cases e:p.1=k
  .have e':q.1=k:=h1.symm.trans e;have b:atKey (q::qs) k=some q.2:=by simp [atKey,Pd,e']
   rw[nB e,b];exact h2
  .have e':¬ q.1=k:=λz=>e (h1.trans z);have b:atKey (q::qs) k=atKey qs k:=by simp [atKey,Pd,e']
   rw[og e,b];exact ih
def KT.repl(r:KT H kvs xs)(k:List Key)(ry:RelV y u):
 KT H (kvs.map λkv=>if kv.1=k then (kv.1,y) else kv) (xs.map (putAt k u)):=by
 induction r with
 |nil=>exact .nil
 |
  @cons p q ps qs h t ih=>
  rw[B_,B_];refine .cons ?_ ih;obtain⟨h1,h2,h3⟩:=h;unfold putAt;by_cases e:p.1=k
  .rw[if_pos e,if_pos (h1.symm.trans e)];exact⟨h1,h2,ry⟩
  .rw[if_neg e,if_neg (λz=>e (h1.trans z))];exact⟨h1,h2,h3⟩
def KT.put(r:KT H kvs xs)(k:List Key)(hb:H b=some (.tup (k.map kV)))(ry:RelV y u):
 KT H (eD kvs k y) (storedH xs k b u):=by
 have e:(kvs.any λkv=>decide (kv.1=k))=(atKey xs k).isSome:=by rw[n9,(r.val k).isSome_eq,Option.isSome_map]
 unfold eD storedH;rw[e];by_cases q:(atKey xs k).isSome=true
 .rw[if_pos q,if_pos q];exact r.repl k ry
 .rw[if_neg q,if_neg q];exact Paired.snoc r ⟨rfl,hb,ry⟩
def KT.keeps(r:KT H kvs xs)(ht:∀b ys,H b=some (.tup ys)->H' b=some (.tup ys)):KT H' kvs xs:=
 Paired.mapP r λ_ _ z=>⟨z.1,ht _ _ z.2.1,z.2.2⟩
section
variable{P:Program}{w:World}{H:Hp}{h:Heap}{a:Addr}
def DP(ok:HOk P w H h)(e:Rd H a u):ObjOk P w H h a u:=e.ok ok
def xJ(ok:HOk P w H h)(e:Rd H a (.dK kvs)):kvs.length<=sizeLine/\(a==sysModules)=false/\∃vs,KV kvs vs/\h.DictOf (cz P w) a vs:=
 show ObjOk P w H h a (.dK kvs) from DP ok e
def Ef(ok:HOk P w H h)(e:H a=some (.dK kvs)):kvs.length<=sizeLine/\(a==sysModules)=false/\∃vs,KV kvs vs/\h.DictOf (cz P w) a vs:=xJ ok (.inl e)
def tF(ok:HOk P w H h)(e:H a=some (.tup (ks.map kV))):(tupleKind (cz P w)).is h ks a:=by obtain⟨_,its,r,o,h1,h2,n,h3⟩:=(show ObjOk P w H h a (.tup (ks.map kV)) from ok a _ e);exact⟨o,its.toArray,n,h1,h2,h3,by simpa using rY r⟩
def yt(ok:HOk P w H h)(e:Rd H a (.dT kvs)):kvs.length<=sizeLine/\(a==sysModules)=false/\
 ∃xs,KT H kvs xs/\h.DictOfH (tupleKind (cz P w)) a xs:=by
 obtain⟨z,y,xs,r,o,es,ep,h1,h2,h3,h4,h5⟩:=(show ObjOk P w H h a (.dT kvs) from DP ok e);refine⟨z,y,xs,r,o,es,ep,h1,h2,h3,h4,λx hx=>?_,h5⟩;have all:∀{l:List (List Key×V)}{m:List (List Key×Addr×Value)},KT H l m->∀x∈m,(tupleKind (cz P w)).is h x.1 x.2.1:=by
  intro l m q;induction q with
  |nil=>intro x hx;exact nomatch hx
  |
   @cons p q ps qs hq t ih=>
   intro x hx;rcases N_.mp hx with e |hx
   .subst e;exact tF ok (by rw[<- hq.1];exact hq.2.1)
   .exact ih x hx
 exact all r x hx
def Ma(ok:HOk P w H h)(e:H a=some (.dT kvs)):kvs.length<=sizeLine/\(a==sysModules)=false/\
 ∃xs,KT H kvs xs/\h.DictOfH (tupleKind (cz P w)) a xs:=yt ok (.inl e)
end
def DGet(H:Hp)(a:Addr)(y:V)(r:Option V):Prop:=
 (∃kvs k,Rd H a (.dK kvs)/\y=kV k/\r=f9 kvs k)\/∃kvs k b,Rd H a (.dT kvs)/\y=.ref b/\H b=some (.tup (k.map kV))/\r=f9 kvs k
def DPut(H:Hp)(a:Addr)(y v:V)(H':Hp):Prop:=
 (∃kvs k,H a=some (.dK kvs)/\y=kV k/\kvs.length<sizeLine/\H'=upd H a (.dK (eD kvs k v)))\/
 ∃kvs k b,H a=some (.dT kvs)/\y=.ref b/\H b=some (.tup (k.map kV))/\kvs.length<sizeLine/\H'=upd H a (.dT (eD kvs k v))
def DGet.k{H:Hp}{a:Addr}{kvs:List (Key×V)}{k:Key}(e:H a=some (.dK kvs)):DGet H a (kV k) (f9 kvs k):=.inl ⟨kvs,k,.inl e,rfl,rfl⟩
def DPut.k{H:Hp}{a:Addr}{kvs:List (Key×V)}{k:Key}{v:V}(e:H a=some (.dK kvs))(hl:kvs.length<sizeLine):DPut H a (kV k) v (upd H a (.dK (eD kvs k v))):=.inl ⟨kvs,k,e,rfl,hl,rfl⟩
section
variable{X:Cx}{pins:Rb}{σ:St}{H:Hp}{s:Shared}{a:Addr}{y v:V}{u r:Value}{o:Option V}{A:Around}{E:Rf}
def Al(hu:A.units+1<cLine)(I:Inv X pins σ H s)(g:DGet H a y (some v))(ry:RelV y u)(h:∀w' s',Inv X pins σ H s'->RelV v w'->Q w' s'):
 wpAny (model X.prog X.w) A (getItem (.ref a) u) Q E s:=by
 rcases g with ⟨kvs,k,e,ey,l⟩ |⟨kvs,k,b,e,ey,eb,l⟩
 .subst ey;obtain⟨z,hd,vs,rel,dd⟩:=xJ I.hok e;obtain⟨w',hw,rw'⟩:=RelO.some_of (v:=v) (o:=valueAt vs k) (by rw[l];exact rel.val k);exact wpAny_getItem_of (mJ ry) dd.mapOf hw (h w' _ (I.tok _) rw')
 .subst ey;cases (show u=Value.ref b from ry);obtain⟨z,hd,xs,rel,dd⟩:=yt I.hok e;obtain⟨w',hw,rw'⟩:=RelO.some_of (v:=v) (o:=(atKey xs k).map (·.2)) (by rw[l];exact rel.val k);obtain⟨p,hp,hp2⟩:=OH.mp hw;refine wpAny_getItem_heap (tupleKind_room_in1 hu) (tF I.hok eb) dd hp ?_;rw[hp2];exact h w' _ (I.tok _) rw'
def qu(I:Inv X pins σ H s)(mu:Mut (H a))(hs:Heap.SameBut a s.heap h')(he:∃q,h'.get? a=some q)(new:ObjOk X.prog X.w (upd H a ob) h' a ob):
 Inv X pins σ (upd H a ob) { s with heap:=h',toks:=t' }:=
 I.write (x:=a) (e:=a) mu (.inl rfl) (λb q hb z=>(hs.2 b hb).trans z) he new
def Ag(z:kvs.length<=sizeLine)(hd:(a==sysModules)=false)(rel:KV kvs vs)(dd:h'.DictOf (cz P w) a vs):
 ObjOk P w H' h' a (.dK kvs):=⟨z,hd,vs,rel,dd⟩
def zY(hu:A.units+1<cLine)(I:Inv X pins σ H s)(g:DPut H a y v H')(ry:RelV y u)(rv:RelV v r)(h:∀s',Inv X pins σ H' s'->Q () s'):
 wpAny (model X.prog X.w) A (setItem (.ref a) u r) Q E s:=by
 rcases g with ⟨kvs,k,e,ey,l,eH⟩ |⟨kvs,k,b,e,ey,eb,l,eH⟩
 .subst ey eH;obtain⟨z,hd,vs,rel,dd⟩:=Ef I.hok e;have hz:vs.length<=sizeLine:=by rw[<- rel.length];exact z
  have hl:(eD kvs k v).length<=sizeLine:=by have:=jS kvs k v;omega
  refine wpAny_setItem_pairs (hsz:=hz) (mJ ry) dd λh' dd' hs=>h _ ?_;have he:∃q,h'.get? a=some q:=let ⟨q,_,_,hq,_⟩:=dd';⟨q,hq⟩;exact qu I (by rw[e];exact True.intro) hs he (Ag hl hd (rel.put k rv) dd')
 .subst ey eH;cases (show u=Value.ref b from ry);obtain⟨z,hd,xs,rel,dd⟩:=Ma I.hok e;have hz:xs.length<=sizeLine:=by rw[<- Paired.length rel];exact z
  have hl:(eD kvs k v).length<=sizeLine:=by have:=jS kvs k v;omega
  refine wpAny_setItem_heap (hsz:=hz) (tupleKind_room_in1 hu) (tF I.hok eb) dd λh' dd' hs=>h _ ?_;obtain⟨q,es,ep,hq,h2,h3,h4,_,h5⟩:=dd';refine qu I (by rw[e];exact True.intro) hs ⟨q,hq⟩ ⟨hl,hd,_,(rel.put k eb rv).keeps λc ys ec=>?_,q,es,ep,hq,h2,h3,h4,h5⟩;rw[bR (NL ec e (λz=>nomatch z))];exact ec
end
def yy(i:Expr):Prop:=∀ov iv,subscripted i false ov iv=operate [ov,iv] (getItem ov iv)
def Gb{prog:Program}{w:World}{A:Around}{E:Rf}{s:Shared}{env:Env}{value m_:Expr}{pos:Pos}{T id:String}{Q:Rf}
 (hl:typeLookup (.type T) "__getitem__"=pure (some (.builtin id))) (hs:yy m_)
 (h:wpAny (model prog w) A (eval value env) (λo s₁=>wpAny (model prog w) A (eval m_ env) (λi s₂=>s₂.TypeIs o T/\wpAny (model prog w) A (getItem o i) Q E s₂) E s₁) E s):
 wpAny (model prog w) A (eval (.Subscript value m_ pos) env) Q E s:=by
 refine Subscript_ (OV h (λo s₁ h₁=>OV h₁ (λi s₂ h₂=>?_) λ_ _ x=>x) λ_ _ x=>x);obtain⟨hT,h₂⟩:=h₂;unfold subscriptTail;refine w_ ?_;rw[getitemInPython_of_ne hT.not_modules];refine w_ (wpAny_specialOf hT hl ?_);have i_:wpAny (model prog w) A (subscripted m_ false o i) (λr s₃=>wpAny (model prog w) A (letTemporaryGo value o r >>= λ_=>pure r) Q E s₃) E s₂:=by rw[hs o i];exact wpAny_operating (OV h₂ (λr s₃ h₃=>w_ (wpAny_letTemporaryGo (G_ h₃))) λ_ _ x=>x)
 first
  |exact G_ (w_ i_)
  |exact w_ (G_ (w_ i_))
  |exact w_ i_
def vX(I:Inv X pins σ H s)(g:DGet H a y o):s.TypeIs (.ref a) "dict":=by
 rcases g with ⟨kvs,k,e,_,_⟩ |⟨kvs,k,b,e,_,_,_⟩
 .obtain⟨_,_,vs,_,dd⟩:=xJ I.hok e;exact dd.typeIs
 .obtain⟨_,_,xs,_,dd⟩:=yt I.hok e;exact dd.typeIs
def N3(td ty:TE):TE:=λσ H Q=>td σ H λx H1=>ty σ H1 λy H2=>∃a v,x=.ref a/\DGet H2 a y (some v)/\Q v H2
section
variable{X:Cx}{o i:Expr}{pos:Pos}{td ty:TE}
def Ew(hu:X.A.units+1<cLine)(ho:PE X o td)(hi:PE X i ty)(hs:yy i):PE X (.Subscript o i pos) (N3 td ty):=by intro pins s σ H Q I h;refine Gb PySem.F.slot_dict_getitem.lookup hs (thn (ho pins s σ H _ I h) λu s1 ⟨x,H1,I1,rx,q1⟩=>thn (hi pins s1 σ H1 _ I1 q1) λiv s2 ⟨y,H2,I2,ry,a,v,ex,g,q2⟩=>?_);subst ex;obtain rfl:u=Value.ref a:=rx;exact⟨vX I2 g,Al hu I2 g ry λw' s3 I3 rw'=>⟨v,H2,I3,rw',q2⟩⟩
end
def o6:List (TE×TE)->St->Hp->(List (V×V)->Hp->Prop)->Prop
 | [],_,H,Q=>Q [] H
 |(tk,tv)::r,σ,H,Q=>tk σ H λx H1=>tv σ H1 λy H2=>o6 r σ H2 λps H3=>Q ((x,y)::ps) H3
abbrev VV:List (V×V)->List (Value×Value)->Prop:=Paired λp q=>RelV p.1 q.1/\RelV p.2 q.2
def PPs(X:Cx)(pos:Pos)(keys:List (Option Expr))(values:List Expr)(trs:List (TE×TE)):Prop:=
 ∀
  (pins:Rb) (s:Shared) (σ:St) (H:Hp) (Q:List (V×V)->Hp->Prop),Inv X pins σ H s->o6 trs σ H Q->
  wpAny (model X.prog X.w) X.A (evalPairs (pairTrees keys values X.env pos)) (λvs s'=>∃ps H',Inv X pins σ H' s'/\VV ps vs/\Q ps H') X.xe s
def EG:PPs X pos [] [] []:=λpins s σ H Q I h=>pairTrees_nil_walk ⟨[],H,I,.nil,h⟩
def Cd(hk:PE X k tk)(hv:PE X v tv)(hr:PPs X pos ks vs trs):
 PPs X pos (some k::ks) (v::vs) ((tk,tv)::trs):=λpins s σ H Q I h=>
 pairTrees_cons_walk (thn (hk pins s σ H _ I h) λu s1 ⟨x,H1,I1,rx,q1⟩=>thn (hv pins s1 σ H1 _ I1 q1) λw2 s2 ⟨y,H2,I2,ry,q2⟩=>
  thn (hr pins s2 σ H2 _ I2 q2) λws s3 ⟨ps,H3,I3,rel,q3⟩=>⟨(x,y)::ps,H3,I3,.cons ⟨rx,ry⟩ rel,q3⟩)
def jx(kvs more:List (Key×V)):List (Key×V):=more.foldl (λacc kv=>eD acc kv.1 kv.2) kvs
def KV.merge:∀{more:List (Key×V)}{rs:List (Key×Value)}{kvs:List (Key×V)}{vs:List (Key×Value)},KV more rs->KV kvs vs->KV (jx kvs more) (merged vs rs):=by
 intro more rs kvs vs r;unfold KV at r;induction r generalizing kvs vs with
 |nil=>intro q;exact q
 |
  @cons p q ps qs h t ih=>
  intro r0;have e:KV (eD kvs p.1 p.2) (stored vs q.1 q.2):=by
   have:=r0.put p.1 h.2
   rw[<- h.1];exact this
  exact ih e
theorem lM:∀(more kvs:List (Key×V)),(jx kvs more).length<=kvs.length+more.length
 | [],kvs=>by show kvs.length<=kvs.length+0;omega
 |
  p::r,kvs=>by
  have h1:=lM r (eD kvs p.1 p.2);have h2:=jS kvs p.1 p.2;show (jx (eD kvs p.1 p.2) r).length<=_;rw[L_];omega
theorem oy:∀{kvs:List (Key×V)}{ws:List (Value×Value)},VV (kvs.map λkv=>(kV kv.1,kv.2)) ws->∃rs,Carries (cz P w) ws rs/\KV kvs rs
 | [],_,r=>by rw[OP] at r;cases r;exact⟨[],True.intro,.nil⟩
 |
  p::kvs,_,r=>by
  rw[B_] at r;cases r with
  |@cons a b as bs h t=>obtain⟨rs,c,q⟩:=oy (P:=P) (w:=w) t;obtain⟨b1,b2⟩:=b;exact⟨(p.1,b2)::rs,⟨mJ h.1,rfl,c⟩,.cons ⟨rfl,h.2⟩ q⟩
def L8(trs:List (TE×TE)):TE:=λσ H Q=>∀p,H p=none->o6 trs σ (upd H p (.dK [])) λps H2=>H2 p=some (.dK [])/\∃kvs:List (Key×V),ps=kvs.map (λkv=>(kV kv.1,kv.2))/\kvs.length<=15/\Q (.ref p) (upd H2 p (.dK (jx [] kvs)))
def Gz(h:PPs X pos keys values trs)(hall:keys.all (·.isSome)=true)(hl:keys.length=values.length)(h0:keys≠[])
 (h15:keys.length<=15):PE X (.Dict keys values pos) (L8 trs):=by
 intro pins s σ H Q I q;have hn:=I.hok.fresh (z_ s.heap.objs.size);have I1:=I.laid (a:=s.heap.objs.size) (o:=.dK []) (h':=s.heap.push { cls:=.type "dict",data:=.dict #[] }) (t':=s.toks) (λ_ _ q=>Em _ q) (z_ _) (Dq s.heap I.big);refine wpAny_Dict_walk (knd:=cz X.prog X.w) hall hl h0 h15 (thn (h pins _ σ _ _ I1 (q _ hn)) λws s2 ⟨ps,H2,I2,rel,e,kvs,ep,lk,q2⟩=>?_);subst ep;obtain⟨rs,c,rk⟩:=oy (P:=X.prog) (w:=X.w) rel;obtain⟨z,hd,vs0,r0,dd⟩:=Ef I2.hok e;cases r0;refine⟨rs,c,dd,λh' dd' hs=>⟨.ref s.heap.objs.size,_,?_,rfl,q2⟩⟩;have hz:(jx [] kvs).length<=sizeLine:=by have h1:=lM kvs [];rw[OM] at h1;rw[sizeLine_eq];omega
 have he:∃q,h'.get? s.heap.objs.size=some q:=let ⟨q,_,_,hq,_⟩:=dd';⟨q,hq⟩;exact qu I2 (by rw[e];exact True.intro) hs he (Ag hz hd (rk.merge .nil) dd')
section
variable[DecidableEq κ]
noncomputable def lkD(kvs:List (κ×α))(k:κ):Option α:=(kvs.find? λkv=>decide (kv.1=k)).map (·.2)
noncomputable def lF(kvs:List (κ×α))(k:κ)(v:α):List (κ×α):=if (kvs.any λkv=>decide (kv.1=k))=true then kvs.map λkv=>if kv.1=k then (kv.1,v) else kv else kvs++[(k,v)]
end
section
variable{K:W.Frag}{mg:Ra}{ρ:List Addr}{H:Hp}
def EY:∀{kvs:List (Key×D)}{ws:List (Key×V)},ws.map (·.1)=kvs.map (·.1)->RelDs K mg ρ H (kvs.map (·.2)) (ws.map (·.2))->lkD kvs k=some d->∃v,f9 ws k=some v/\RelD K mg ρ H d v:=by
 intro kvs;induction kvs with
 |nil=>intro ws e r q;cases q
 |
  cons p kvs ih=>
  intro ws e r q;cases ws with
  |nil=>cases e
  |
   cons w ws=>
   obtain⟨k1,d1⟩:=p;obtain⟨k2,v2⟩:=w;rw[B_,B_] at e;injection e with e1 e2;dsimp only at e1;subst e1;cases r with
   |
    cons r rr=>
    unfold lkD at q;unfold f9;rw[Pd] at q ⊢;dsimp only at q ⊢;by_cases hk:k2=k
    .rw[J_ hk] at q ⊢;cases q;exact⟨v2,rfl,r⟩
    .rw[F_ hk] at q ⊢;exact ih e2 rr q
def tU[DecidableEq κ]:∀{kvs:List (κ×α)}{ws:List (κ×β)},ws.map (·.1)=kvs.map (·.1)->(ws.any λkv=>decide (kv.1=k))=kvs.any λkv=>decide (kv.1=k):=by
 intro kvs;induction kvs with
 |
  nil=>
  intro ws e;cases ws with
  |nil=>rfl
  |cons _ _=>cases e
 |
  cons p kvs ih=>
  intro ws e;cases ws with
  |nil=>cases e
  |cons w ws=>rw[B_,B_] at e;injection e with e1 e2;rw[Pg,Pg,ih e2,e1]
def BJ{k:Key}{d:D}{v:V}(rd:RelD K mg ρ H d v){kvs:List (Key×D)}{ws:List (Key×V)}(e:ws.map (·.1)=kvs.map (·.1))(r:RelDs K mg ρ H (kvs.map (·.2)) (ws.map (·.2))):(eD ws k v).map (·.1)=(lF kvs k d).map (·.1)/\RelDs K mg ρ H ((lF kvs k d).map (·.2)) ((eD ws k v).map (·.2)):=by
 unfold eD lF;rw[tU e];by_cases hc:(kvs.any λkv=>decide (kv.1=k))=true
 .rw[if_pos hc,if_pos hc];clear hc;induction kvs generalizing ws with
  |
   nil=>
   cases ws with
   |nil=>exact⟨rfl,.nil⟩
   |cons _ _=>cases e
  |
   cons p kvs ih=>
   cases ws with
   |nil=>cases e
   |
    cons w ws=>
    obtain⟨k1,d1⟩:=p;obtain⟨k2,v2⟩:=w;rw[B_,B_] at e;injection e with e1 e2;dsimp only at e1;subst e1;cases r with
    |
     cons r rr=>
     obtain⟨h1,h2⟩:=ih e2 rr;simp only[B_];by_cases hk:k2=k
     .rw[if_pos hk,if_pos hk];exact⟨by rw[h1],.cons rd h2⟩
     .rw[if_neg hk,if_neg hk];exact⟨by rw[h1],.cons r h2⟩
 .rw[if_neg hc,if_neg hc,O0,O0,O0,O0,e];exact⟨rfl,r.append (.cons rd .nil)⟩
def uC:D->D->AH->R D:=λx y h=>match x with
 |.ref n=>(match y with
  |.str k=>(match h[n]? with
   |some (.dct kvs)=>(match lkD kvs (.inr k) with
    |some d=>.ok d h
    |none=>.stuck)
   |_=>.stuck)
  |_=>.stuck)
 |_=>.stuck
def wD(o i v:D)(h:AH):R Unit:=match o with
 |.ref n=>(match i with
  |.str k=>(match h[n]? with
   |some (.dct kvs)=>if kvs.length<16777216 then .ok () (h.set n (.dct (lF kvs (.inr k) v))) else .stuck
   |_=>.stuck)
  |_=>.stuck)
 |_=>.stuck
def yp:yU:=λo i v H Q=>∃a H4,o=.ref a/\DPut H a i v H4/\Q H4
variable{X:Cx}{ES:St->XK}{a b:Expr}{F G:ME}{pos:Pos}
def Bj(hu:X.A.units+1<cLine):xA X yp:=λpins s σ H o i v ov iv u Q I ro ri rv ⟨a,H4,eo,g,q⟩=>by subst eo;obtain rfl:ov=Value.ref a:=ro;exact zY hu I g ri rv λs4 I4=>⟨H4,I4,q⟩
def F5:yP K mg yp wD:=λρ h H do_ di dv o i v Q E w ro ri rv p=>by
 unfold wD at p;split at p
 .split
   at p
  .split
    at p
   .rename_i n k _ kvs e;split at p
    .rename_i hl;cases ro with
     |
      ref ea=>
      cases ri;obtain⟨ws,h1,h2,h3⟩:=w.ob _ _ _ ea e;have c_:ws.length=kvs.length:=by have:=OU List.length h2;simpa using this
      have l:Le ρ H ρ (upd H _ (.dK (eD ws (.inr k) v))):=oA h1 xx;obtain⟨k1,k2⟩:=BJ (k:=.inr k) rv h2 h3;exact⟨_,_,rfl,DPut.k (k:=.inr k) h1 (by rw[c_];exact hl),p ρ _ l (w.write ea h1 xx ⟨_,eB,k1,k2.mono l⟩)⟩
    .exact p.elim
   .exact p.elim
  .exact p.elim
 .exact p.elim
def Gk(hu:X.A.units+1<cLine)(ha:DE K mg X ES a F)(hb:DE K mg X ES b G)(hs:yy b):DE K mg X ES (.Subscript a b pos) (eOp uC F G):=PE.imp (Ew hu ha hb hs) λσ H Q q_=>q_.el λρ h ae w re p=>⟨ρ,h,ae,w,re,p.bind.imp λdx h1 ρ1 H1 l1 w1 p1 x rx=>⟨ρ1,h1,ae,w1,re.mono l1,p1.bind.imp λdy h2 ρ2 H2 l2 w2 p2 y ry=>by
 have rx2:=rx.mono l2;unfold uC at p2;split at p2
 .split
   at p2
  .split
    at p2
   .rename_i n k _ kvs e;split at p2
    .rename_i d q;cases rx2 with
     |ref ea=>cases ry;obtain⟨ws,k1,k2,k3⟩:=w2.ob _ _ _ ea e;obtain⟨v,q1,rv⟩:=EY k2 k3 q;refine⟨_,v,rfl,?_,bP w2 rv p2⟩;rw[<- q1];exact DGet.k (k:=.inr k) k1
    .exact p2.elim
   .exact p2.elim
  .exact p2.elim
 .exact p2.elim⟩⟩
def oI(ks:List Str)(A:MA):ME:=λae h=>(A ae (h++[.dct []])).bind λds h2=>match h2[h.length]? with
 |some (.dct [])=>if ks.length=ds.length then .ok (.ref h.length) (h2.set h.length (.dct ((ks.map Sum.inr).zip ds))) else .stuck
 |_=>.stuck
def aL:List (Str×ME)->MA
 | []=>kX
 |p::r=>mR p.2 (aL r)
def tps(K:W.Frag)(mg:Ra)(ES:St->XK)(prs:List (Str×ME)):List (TE×TE):=prs.map λp=>(tC (.str p.1),rdE K mg ES p.2)
theorem vh:∀(prs:List (Str×ME)) {ρ:List Addr}{h:AH}{ae:AE}{H:Hp}{Q:List (V×V)->Hp->Prop},Wd K mg ρ h H->RelE K mg ρ H ae σ->PostG K mg ρ H (ES σ) (λds _ ρ' H'=>∀vs,RelDs K mg ρ' H' ds vs->Q ((prs.map λp=>V.str p.1).zip vs) H') (aL prs ae h)->o6 (tps K mg ES prs) σ H Q
 | [],ρ,h,ae,H,Q,w,re,p=>p ρ H Le.refl w [] .nil
 |pr::r,ρ,h,ae,H,Q,w,re,p=>⟨ρ,h,ae,w,re,(PostG.bind p).imp λd h1 ρ1 H1 l1 w1 p1 y ry=>vh r w1 (re.mono l1) ((PostG.bind p1).imp λds h2 ρ2 H2 l2 w2 p2 vs rs=>p2 ρ2 H2 Le.refl w2 (y::vs) (.cons (ry.mono l2) rs))⟩
theorem uU:∀(more acc:List (Key×V)),((acc++more).map (·.1)).Nodup->jx acc more=acc++more
 | [],acc,_=>(O9 _).symm
 |
  (k,v)::more,acc,h=>by
  show jx (eD acc k v) more=_;have hk:f9 acc k=none:=by unfold f9;rw[Option.map_eq_none_iff,List.find?_eq_none];intro p hp z;have z:=of_decide_eq_true z;rw[O0,P0] at h;exact h.2.2 p.1 (QG hp) k (C_ ..) z
  rw[CU v hk,uU more (acc++[(k,v)]) (by rw[O1];exact h),O1];rfl
def EC:PPs X pos [] [] (tps K mg ES []):=EG
def C9(hv:DE K mg X ES v F)(hr:PPs X pos ks vs (tps K mg ES prs)):PPs X pos (some (.Constant (.str k) j kp)::ks) (v::vs) (tps K mg ES ((k,F)::prs)):=Cd Ap hv hr
theorem uS:∀(ks:List Str) (vs:List V),(ks.map V.str).zip vs=((ks.map Sum.inr).zip vs).map λkv:Key×V=>(kV kv.1,kv.2)
 | [],_=>rfl
 |_::_,[]=>rfl
 |
  k::ks,v::vs=>by
  show (V.str k,v)::(ks.map V.str).zip vs=_;rw[uS ks vs];rfl
def E8(hp:PPs X pos keys values (tps K mg ES prs))(hall:keys.all (·.isSome)=true)(hl:keys.length=values.length)(h0:keys≠[])(h15:keys.length<=15)(hn:(prs.map (·.1)).Nodup)(hp15:prs.length<=15):DE K mg X ES (.Dict keys values pos) (oI (prs.map (·.1)) (aL prs)):=PE.imp (Gz hp hall hl h0 h15) λσ H Q q_=>q_.el λρ h ae w re p=>λpp hpp=>by
 have l:Le ρ H (ρ++[pp]) (upd H pp (.dK [])):=(eY hpp).trans qt;have w1:=w.alloc hpp (o:=.dct []) (u:=.dK []) ⟨[],eB,rfl,.nil⟩;refine vh prs w1 (re.mono l) ((PostG.mono l (PostG.bind p)).imp λds h2 ρ2 H2 l2 w2 p2 vs rs=>?_);split at p2
 .rename_i e;split at p2
  .rename_i c_;have ea:ρ2[h.length]?=some pp:=l2.pre _ _ (by rw[<- w.len,OO (z_ _),QA];rfl);obtain⟨ws,k1,k2,_⟩:=w2.ob _ _ _ ea e;have:ws=[]:=by cases ws with |nil=>rfl |cons _ _=>cases k2
   subst this;have hlv:vs.length=prs.length:=by rw[<- rs.len,<- c_,v_]
   refine⟨k1,((prs.map (·.1)).map Sum.inr).zip vs,?_,?_,?_⟩
   .rw[<- uS,PN];rfl
   .rw[List.length_zip,v_,v_];omega
   .have hz:(((prs.map (·.1)).map Sum.inr).zip vs:List (Key×V)).map (·.1)=(prs.map (·.1)).map Sum.inr:=List.map_fst_zip (by rw[v_,v_];omega);rw[uU _ [] (by rw[OL,hz];exact List.Pairwise.map _ (λa b hab z=>hab (Sum.inr.inj z)) hn),OL];have l3:Le ρ2 H2 ρ2 (upd H2 pp (.dK (((prs.map (·.1)).map Sum.inr).zip vs))):=oA k1 xx;refine p2 ρ2 _ l3 (w2.write ea k1 xx ⟨_,eB,?_,?_⟩) _ (.ref ea)
    .rw[hz,List.map_fst_zip (by rw[v_];omega)]
    .rw[List.map_snd_zip (by rw[v_];omega),List.map_snd_zip (by rw[v_,v_];omega)];exact rs.mono l3
  .exact p2.elim
 .exact p2.elim
end
open PySem PySem.Spec PySem.Calls PyProof.Rows
section
variable{X:Cx}{K:W.Frag}{mg:Ra}{es:List Expr}{gs:MGs}{pos:Pos}
def gUnp(K:W.Frag)(n:Nat)(t:TGs):TG:=λv σ H Q=>∃a xs,v=.ref a/\(SqT K H a xs\/SqL K H a xs)/\xs.length=n/\t xs σ H Q
def Kk{k:Nat}{t:TGs}{n:Nat}(hc:X.calm=true)(h:PGs X es t)
 (hn:(assignEach es X.env).length=n) (hst:(assignEach es X.env).findIdx? (·.1)=none):PG X (.Tuple es k pos) (gUnp X.K n t):=by
 intro pins s σ H v u Q I r hw;obtain⟨a,xs,e1,hq,hl,hw⟩:=hw;rcases hq with hq |hq
 .exact Aa hc h hn hst pins s σ H v u Q I r ⟨a,xs,e1,hq,hl,hw⟩
 .subst e1;cases r;obtain⟨its,rv,⟨o,m,ho,oc,od,os⟩,hz⟩:=I.list hq;have ht:s.heap.IsList a its.toArray:=⟨o,ho,oc,m,os⟩;rw[assign_Tuple];refine w_ (Qp ?_);unfold unpack;rw[hst,hn,show n=its.toArray.size by simp [<- hl,rv.length]];refine w_ (PU (W.kun_itemsOf (I.ok.hd hc) ht λh' hx=>?_));have I1:Inv X pins σ H { s with heap:=h' }:=I.kept (t':=s.toks) λb o e=>hx b o (OF (E_ e)) e;exact h pins _ σ H xs _ Q I1 (by simpa using rv) hw
noncomputable def gU(u:MGs):MG:=λd ae h=>match d with
 |.tup ds=>u ds ae h
 |.ref p=>match cE h p with
  |some ds=>u ds ae h
  |none=>.stuck
 |_=>.stuck
def K8{k n:Nat}(hK:X.K=K)(hc:X.calm=true)(h:DGs K mg X (λ_=>E0) es gs)
 (hn:(assignEach es X.env).length=n) (hst:(assignEach es X.env).findIdx? (·.1)=none):DG K mg X (λ_=>E0) (.Tuple es k pos) (gU λds ae h=>if ds.length=n then gs ds ae h else .stuck):=by
 subst hK;refine PG.imp (Kk hc h hn hst) λv σ H Q q_=>q_.el λρ h ae d w re rd p=>?_;unfold gU at p;cases rd with
 |
  tup q rs=>
  dsimp only at p;split at p
  .rename_i hl;exact⟨_,_,rfl,.inl q,by rw[<- rs.len];exact hl,ρ,h,ae,_,w,re,rs,p⟩
  .exact p.elim
 |
  ref ea=>
  dsimp only at p;split at p
  .rename_i ds q;obtain⟨vs,h1,h2⟩:=dH w ea q;split at p
   .rename_i hl;exact⟨_,_,rfl,.inr h1,by rw[<- h2.len];exact hl,ρ,h,ae,_,w,re,h2,p⟩
   .exact p.elim
  .exact p.elim
 |_=>exact p.elim
end
section
variable{X:Cx}{K:W.Frag}{mg:Ra}{ES:St->XK}{a:Expr}{A:MA}{pos q2 p1 p2:Pos}
def vE(j:Int):List V:=(List.range j.toNat).map λi=>V.int ((i:Nat):Int)
def rLrg:List V->Hp->VK->Prop:=λxs H Q=>∃j:Int,xs=[.int j]/\-(2^62)<=j/\j<=16777216/\∀l,H l=none->Q (.ref l) (upd H l (.lst (vE j)))
theorem wA:∀(n:Nat) (f:Nat->Int) (is:List Nat) (ys:List Value),CarriedAll ys (is.map λi=>PyData.int (f i))->Vals (is.map λi=>V.int (f i)) ys
 |n,f,[],ys,h=>by cases h;exact .nil
 |
  n,f,i::is,ys,h=>by
  cases h with
  |cons c r=>cases c;exact .cons ⟨_,rfl⟩ (wA n f is _ r)
def Ke(hc:X.calm=true)(hl:Gl X "list")(hml:X.mg "list"=none)(hg:Gl X "range")(hm:X.mg "range"=none)(ha:PA X [a] ta)(hs:starEach [a] X.env=[(false,eval a X.env)])
 (hs1:starEach [.Call (.Name "range" p2) [a] [] q2] X.env=[(false,eval (.Call (.Name "range" p2) [a] [] q2) X.env)]):
 PE X (.Call (.Name "list" p1) [.Call (.Name "range" p2) [a] [] q2] [] pos) (tCB rLrg ta):=by
 intro pins s σ H Q I h;refine PY (gH I hl hml (show bootBuiltins "list"=some (.type "list") from rfl) ?_ (by decide) (by decide));refine OY ?_ hs1 rfl;rw[hs1];show wpAny _ _ (spliced ((false,eval (.Call (.Name "range" p2) [a] [] q2) X.env)::[])) _ _ s;refine Calls.spliced_cons ?_;refine PY (gH I hg hm (show bootBuiltins "range"=some (.type "range") from rfl) ?_ (by decide) (by decide));refine OY (thn (ha q2 pins s σ H _ I h) λus s1 ⟨vs,H1,I1,r1,q1⟩=>?_) hs rfl;obtain⟨j,e,h1,h2,q⟩:=q1;subst e;cases r1 with
 |
  cons r rr=>
  cases rr;obtain⟨t,rfl⟩:=r;refine call_range_1 (Calls.spliced_nil ?_);have I2:Inv X pins σ H1 { s1 with heap:=s1.heap.push { cls:=.type "range",data:=.fields #[.int 0 s1.toks,.int j t,.int 1 (s1.toks+1)] },toks:=s1.toks+1+1 }:=I1.kept λb o e=>Em _ e;obtain⟨m,hns,_⟩:=I2.loc;refine list_rangeD (I.ok.hd hc) (Att.fr_all hns) (news:=[]) (λp hp=>nomatch hp) (IsRange.new ..) (small_one (by omega) (by omega) (by omega) (by omega)) (n:=j.toNat) (by rw[rangeSize_one];split <;> omega) (by omega) ?_;intro h' tk ys hf hn hk _ _ ⟨⟨c,hpl⟩,_⟩ hcar;have rv:Vals (vE j) ys:=wA 0 (λi=>((i:Nat):Int)) (List.range j.toNat) ys (by
   unfold rangeInts at hcar;rw[PN] at hcar;have e:((λi=>PyData.int i) ∘ λ(i:Nat)=>(0:Int)+(i:Int)*1)=λi:Nat=>PyData.int (i:Int):=by funext i;simp
   rw[show (PyData.int ∘ λ(i:Nat)=>(0:Int)+(i:Int)*1)=λi:Nat=>PyData.int (i:Int) from e] at hcar;exact hcar)
  have hz:(vE j).length<=sizeLine:=by unfold vE;rw[v_,PD];have:sizeLine=16777216:=rfl;omega
  exact⟨.ref _,_,I2.laid (t':=tk) hk (z_ _) (show ObjOk X.prog X.w _ h' _ (.lst (vE j)) from ⟨hz,ys,c,rv,hpl⟩),rfl,q _ (I2.hok.fresh (z_ _))⟩
def Cw(j:Int):List D:=(List.range j.toNat).map λi=>D.int ((i:Nat):Int)
def qR:Fn:=λds h=>match ds with
 | [.int j]=>if -(2^62)<=j/\j<=16777216 then .ok (.ref h.length) (h++[.lst (Cw j)]) else .stuck
 |_=>.stuck
theorem A2(ρ:List Addr)(H:Hp):∀is:List Nat,RelDs K mg ρ H (is.map λi=>D.int ((i:Nat):Int)) (is.map λi=>V.int ((i:Nat):Int))
 | []=>.nil
 |i::is=>.cons (.int _) (A2 ρ H is)
def K3:dg K mg rLrg qR:=λρ h H ds vs Q E w rs p=>by
 unfold qR at p;split at p
 .split at p
  .rename_i hb;cases rs with
   |cons r rs=>cases r;cases rs;exact⟨_,rfl,hb.1,hb.2,λl hl=>gw w (A2 ρ H _) hl p⟩
  .exact p.elim
 .exact p.elim
def Hj(hc:X.calm=true)(hl:Gl X "list")(hml:mg "list"=none)(hg:Gl X "range")(hm:mg "range"=none)(ha:DA K mg X ES [a] A)(hk:X.mg=mg)(hs:starEach [a] X.env=[(false,eval a X.env)])
 (hs1:starEach [.Call (.Name "range" p2) [a] [] q2] X.env=[(false,eval (.Call (.Name "range" p2) [a] [] q2) X.env)]):
 DE K mg X ES (.Call (.Name "list" p1) [.Call (.Name "range" p2) [a] [] q2] [] pos) (eFn qR A):=by
 subst hk;exact PE.imp (Ke hc hl hml hg hm ha hs hs1) (ym K3)
end
inductive EntOk(w:World):List DictEntry->List (Str×Int)->Prop
 |nil:EntOk w [] []
 |cons {e:DictEntry}{es:List DictEntry}{k:Str}{i:Int}{t t':Tok}{kvs:List (Str×Int)} (h:e.hash=hashStr w k) (hk:e.key=.str k t) (hv:e.val=.int i t') (r:EntOk w es kvs):EntOk w (e::es) ((k,i)::kvs)
def lkS(kvs:List (Str×Int))(k:Str):Option Int:=(kvs.find? λp=>decide (p.1=k)).map (·.2)
def KDict(w:World)(K:W.Frag)(mg:Ra)(n:Str)(kvs:List (Str×Int)):Prop:=
 ∃a o es ep,mg n=some (.ref a)/\(a==sysModules)=false/\List.lookup a K=some o/\o.ExactDict/\o.data=.dict es ep/\EntOk w es.toList kvs/\(kvs.map (·.1)).Nodup
theorem rW:∀{es:List DictEntry}{kvs:List (Str×Int)},EntOk w es kvs->(∀e∈es,∃k,(cz P w).is k e.key=true/\e.hash=(cz P w).hash k)/\∃vs:List (Key×Value),Pairs (cz P w) es vs/\vs.map (·.1)=kvs.map (λp=>.inr p.1)/\∀k:Str,(lkS kvs k=none/\valueAt vs (.inr k)=none)\/∃i t,lkS kvs k=some i/\valueAt vs (.inr k)=some (.int i t)
 |_,_,.nil=>⟨(λe h=>nomatch h),[],.nil,rfl,λk=>.inl ⟨rfl,rfl⟩⟩
 |
  _,_,.cons (e:=e) (es:=es) (k:=k) (i:=i) (t:=t) (t':=t') (kvs:=kvs) h hk hv r=>by
  obtain⟨h1,vs,h2,h3,h4⟩:=rW (P:=P) r;have is:(cz P w).is (.inr k) e.key=true:=by rw[hk];exact nc P w k t
  refine⟨λe' he=>?_,(.inr k,.int i t')::vs,.cons is hv h2,by simp [h3],λk'=>?_⟩
  .rcases N_.mp he with rfl |he
   .exact⟨.inr k,is,h⟩
   .exact h1 e' he
  .by_cases e:k=k'
   .subst e;exact .inr ⟨i,t',by simp [lkS],by simp [valueAt]⟩
   .have n1:¬ (Sum.inr k:Key)=.inr k':=λz=>e (Sum.inr.inj z);have a1:lkS ((k,i)::kvs) k'=lkS kvs k':=by simp [lkS,e]
    have a2:valueAt ((Sum.inr k,Value.int i t')::vs) (.inr k':Key)=valueAt vs (.inr k'):=by simp [valueAt,n1]
    rw[a1,a2];exact h4 k'
theorem rX:∀{l:List (Str×Int)},(l.map (·.1)).Nodup->(l.map (λp=>(Sum.inr p.1:Key))).Nodup
 | [],_=>.nil
 |
  p::l,h=>by
  rw[B_,OR] at h;rw[B_,OR];refine⟨λz=>h.1 ?_,rX h.2⟩;obtain⟨q,hq,e⟩:=OQ.mp z;exact OQ.mpr ⟨q,hq,Sum.inr.inj e⟩
section
variable{X:Cx}{K:W.Frag}{mg:Ra}{w:World}{n:Str}{kvs:List (Str×Int)}
def D3(I:Inv X pins σ H s)(g:KDict X.w X.K X.mg n kvs):∃a vs,X.mg n=some (.ref a)/\(a==sysModules)=false/\s.heap.DictOf (cz X.prog X.w) a vs/\∀k:Str,(lkS kvs k=none/\valueAt vs (.inr k)=none)\/∃i t,lkS kvs k=some i/\valueAt vs (.inr k)=some (.int i t):=by obtain⟨a,o,es,ep,h1,h2,h3,h4,h5,h6,h7⟩:=g;obtain⟨q1,vs,q2,q3,q4⟩:=rW (P:=X.prog) h6;refine⟨a,vs,h1,h2,⟨o,es,ep,I.kIn a o h3,h4,h5,λe he=>q1 e (by simpa using he),q2,?_⟩,q4⟩;rw[q3];exact rX h7
def BK(n_:Bool)(mg:Ra)(n:Str)(kvs:List (Str×Int)):R2:=λx y H Q=>∃k a,x=.str k/\y=.ref a/\mg n=some (.ref a)/\Q (.bl (n_ ^^ (lkS kvs k).isSome)) H
def yG(mg:Ra)(n:Str)(kvs:List (Str×Int)):R2:=λx y H Q=>∃k a i,y=.str k/\x=.ref a/\mg n=some (.ref a)/\lkS kvs k=some i/\Q (.int i) H
def GI(hw:X.w=w)(hK:X.K=K)(hm:X.mg=mg)(g:KDict w K mg n kvs):OpR X (compareOp .NotIn) (BK true mg n kvs):=by
 subst hw hK hm;intro pins s σ H x y v u Q I rx ry ⟨k,a,ex,ey,e1,q⟩;subst ex ey;cases ry;obtain⟨a',vs,h1,h2,dd,h4⟩:=D3 I g;have:a'=a:=by rw[h1] at e1;cases e1;rfl
 subst this;refine wpAny_notIn_of (mJ (k:=.inr k) rx) h2 dd.mapOf ⟨.bl (!(valueAt vs (.inr k)).isSome),H,I.tok _,rfl,?_⟩;rcases h4 k with ⟨z1,z2⟩ |⟨i,t,z1,z2⟩
 .rw[z2];rw[z1] at q;exact q
 .rw[z2];rw[z1] at q;exact q
def FR(hw:X.w=w)(hK:X.K=K)(hm:X.mg=mg)(g:KDict w K mg n kvs):IxR X (yG mg n kvs):=by
 subst hw hK hm;intro value m_ pins s σ H x y v u Q I rx ry ⟨k,a,i,ey,ex,e1,e2,q⟩ hs;subst ex ey;cases rx;obtain⟨a',vs,h1,h2,dd,h4⟩:=D3 I g;have:a'=a:=by rw[h1] at e1;cases e1;rfl
 subst this;rcases h4 k with ⟨z1,z2⟩ |⟨i',t,z1,z2⟩
 .rw[e2] at z1;cases z1
 .rw[e2] at z1;cases z1;exact Qo (x:=.int i t) dd.typeIs PySem.F.slot_dict_getitem.lookup (wpAny_getItem_of (mJ (k:=.inr k) ry) dd.mapOf z2 ⟨rfl,.int i,H,I.tok _,⟨t,rfl⟩,q⟩) hs
def uK(n_:Bool)(n:Str)(kvs:List (Str×Int)):D->D->AH->R D:=λx y h=>match x,y with
 |.str k,.glb m=>if m=n then .ok (.bl (n_ ^^ (lkS kvs k).isSome)) h else .stuck
 |_,_=>.stuck
def o7(n:Str)(kvs:List (Str×Int)):D->D->AH->R D:=λx y h=>match x,y with
 |.glb m,.str k=>(match lkS kvs k with
  |some i=>if m=n then .ok (.int i) h else .stuck
  |none=>.stuck)
 |_,_=>.stuck
def E2(n_:Bool):OpD K mg (BK n_ mg n kvs) (uK n_ n kvs):=λρ h H dx dy x y Q E w rx ry p=>by
 unfold uK at p;split at p
 .split at p
  .rename_i hm;subst hm;cases rx;cases ry with
   |glb m=>exact⟨_,_,rfl,rfl,m,bP w (.bl _) p⟩
  .exact p.elim
 .exact p.elim
def Cf:OpD K mg (yG mg n kvs) (o7 n kvs):=λρ h H dx dy x y Q E w rx ry p=>by
 unfold o7 at p;split at p
 .split at p
  .rename_i i e;split at p
   .rename_i hm;subst hm;cases ry;cases rx with
    |glb m=>exact⟨_,_,_,rfl,rfl,m,e,bP w (.int _) p⟩
   .exact p.elim
  .exact p.elim
 .exact p.elim
end
def BQ{K:W.Frag}{h:Heap}{mg:Ra}{w:World}{n:Str}{kvs:List (Str×Int)}{a:Addr}{es:Array DictEntry}{ep:Nat}(X:K.In h)(G:h.Ns mainGlobals mg)(e1:W.nsIn K mainGlobals n=some (some (.ref a)))(e2:List.lookup a K=some { cls:=.type "dict",data:=.dict es ep })(hs:(a==sysModules)=false)(he:EntOk w es.toList kvs)(hn:(kvs.map (·.1)).Nodup):KDict w K mg n kvs:=
 ⟨a,_,es,ep,W.mg_of X G e1,hs,e2,⟨rfl,rfl,rfl⟩,rfl,he,hn⟩
def KDict.ex(g:KDict w K mg n kvs):∃a,mg n=some (.ref a):=let ⟨a,_,_,_,e,_⟩:=g;⟨a,e⟩
def Bk:R2:=λx y H Q=>∃a b,x=.bl a/\y=.bl b/\Q (.bl (a != b)) H
section
variable{K:W.Frag}{mg:Ra}{X:Cx}
def Il:OpR X (compareOp .IsNot) Bk:=by intro pins s σ H x y v u Q I rx ry ⟨a,b,e1,e2,q⟩;subst e1 e2;cases rx;cases ry;exact isnot_bool (ml I q rfl)
def yC:D->D->AH->R D:=λx y h=>match x,y with
 |.bl a,.bl b=>.ok (.bl (a != b)) h
 |_,_=>.stuck
def EF:OpD K mg Bk yC:=λρ h H dx dy x y Q E w rx ry p=>by
 unfold yC at p;split at p
 .cases rx;cases ry;exact⟨_,_,rfl,rfl,bP w (.bl _) p⟩
 .exact p.elim
end
open PySem PySem.W PyProof.Rows
abbrev Ask:=Nat->Nat->(Bool->Shared->Prop)->Shared->Prop
variable{lt:Nat->Nat->Bool}{N:Nat}{cmp:Ask}{s:Shared}
noncomputable def lexP(x y:Int×Int):Bool:=decide (x.1<y.1\/(x.1=y.1/\x.2<y.2))
def ltP(ks:List (Int×Int))(i j:Nat):Bool:=lexP (ks.getD i (0,0)) (ks.getD j (0,0))
set_option maxHeartbeats 4000000
end L2
namespace L3
open PySem PySem.Spec PyProof.Rows L2
set_option genInjectivity true in
inductive Val where
 |non |bl (b:Bool) |int (i:Int) |str (x:Str) |ty (n:String) |glb (x:Str) |exc (x:Str)
 |tup (xs:List Val) |lst (xs:List Val) |kl (xs:List Val) |dct (kvs:List (Key×Val)) |set (xs:List Int)
 deriving Inhabited
mutual
inductive Rd(P:Nat->Prop)(h:AH):D->Val->Prop where
 |non:Rd P h .non .non
 |bl (b:Bool):Rd P h (.bl b) (.bl b)
 |int (i:Int):Rd P h (.int i) (.int i)
 |str (x:Str):Rd P h (.str x) (.str x)
 |ty (n:String):Rd P h (.ty n) (.ty n)
 |glb (x:Str):Rd P h (.glb x) (.glb x)
 |exc (x:Str):Rd P h (.exc x) (.exc x)
 |tup {ds:List D}{vs:List Val} (r:Rds P h ds vs):Rd P h (.tup ds) (.tup vs)
 |kl {ds:List D}{vs:List Val} (r:Rds P h ds vs):Rd P h (.kl ds) (.kl vs)
 |cell {n:Nat}{o:Ob}{v:Val} (p:P n) (e:h[n]?=some o) (r:Rc P h o v):Rd P h (.ref n) v
inductive Rc(P:Nat->Prop)(h:AH):Ob->Val->Prop where
 |lst {ds:List D}{vs:List Val} (r:Rds P h ds vs):Rc P h (.lst ds) (.lst vs)
 |fz {ds:List D}{vs:List Val} (r:Rds P h ds vs):Rc P h (.fz ds) (.kl vs)
 |dct {ws:List (Key×D)}{us:List (Key×Val)} (r:Rk P h ws us):Rc P h (.dct ws) (.dct us)
 |set (xs:List Int):Rc P h (.set xs) (.set xs)
inductive Rds(P:Nat->Prop)(h:AH):List D->List Val->Prop where
 |nil:Rds P h [] []
 |cons {d:D}{v:Val}{ds:List D}{vs:List Val} (r:Rd P h d v) (rr:Rds P h ds vs):Rds P h (d::ds) (v::vs)
inductive Rk(P:Nat->Prop)(h:AH):List (Key×D)->List (Key×Val)->Prop where
 |nil:Rk P h [] []
 |cons {k:Key}{d:D}{v:Val}{ds:List (Key×D)}{vs:List (Key×Val)} (r:Rd P h d v) (rr:Rk P h ds vs):Rk P h ((k,d)::ds) ((k,v)::vs)
end
section
variable{P P':Nat->Prop}{h h':AH}
abbrev Mov(P P':Nat->Prop)(h h':AH):Prop:=∀n o,P n->h[n]?=some o->P' n/\h'[n]?=some o
def Rd.mono(m:Mov P P' h h')(r:Rd P h d v):Rd P' h' d v:=@Rd.rec P h (λd v _=>Rd P' h' d v) (λo v _=>Rc P' h' o v) (λds vs _=>Rds P' h' ds vs) (λws us _=>Rk P' h' ws us) .non (λb=>.bl b) (λi=>.int i) (λx=>.str x) (λn=>.ty n) (λx=>.glb x) (λx=>.exc x) (λ_ ih=>.tup ih) (λ_ ih=>.kl ih) (λp e _ ih=>.cell (m _ _ p e).1 (m _ _ p e).2 ih) (λ_ ih=>.lst ih) (λ_ ih=>.fz ih) (λ_ ih=>.dct ih) (λxs=>.set xs) .nil (λ_ _ a b=>.cons a b) .nil (λ_ _ a b=>.cons a b) d v r
def Rds.ind{M:List D->List Val->Prop}(h0:M [] [])(h1:∀{d v ds vs},Rd P h d v->Rds P h ds vs->M ds vs->M (d::ds) (v::vs)){ds:List D}{vs:List Val}(r:Rds P h ds vs):M ds vs:=by
 induction ds generalizing vs with
 |nil=>cases r;exact h0
 |
  cons d ds ih=>
  cases r with
  |cons r rr=>exact h1 r rr (ih rr)
def Rk.ind{M:List (Key×D)->List (Key×Val)->Prop}(h0:M [] [])(h1:∀{k d v ds vs},Rd P h d v->Rk P h ds vs->M ds vs->M ((k,d)::ds) ((k,v)::vs)){ds:List (Key×D)}{vs:List (Key×Val)}(r:Rk P h ds vs):M ds vs:=by
 induction ds generalizing vs with
 |nil=>cases r;exact h0
 |
  cons d ds ih=>
  cases r with
  |cons r rr=>exact h1 r rr (ih rr)
def Rds.mono(m:Mov P P' h h'){d:List D}{v:List Val}(r:Rds P h d v):Rds P' h' d v:=r.ind .nil λr _ ih=>.cons (r.mono m) ih
def Rk.mono(m:Mov P P' h h'){d:List (Key×D)}{v:List (Key×Val)}(r:Rk P h d v):Rk P' h' d v:=r.ind .nil λr _ ih=>.cons (r.mono m) ih
def Rc.mono(m:Mov P P' h h')(r:Rc P h d v):Rc P' h' d v:=by
 cases r with
 |lst r=>exact .lst (r.mono m)
 |fz r=>exact .fz (r.mono m)
 |dct r=>exact .dct (r.mono m)
 |set xs=>exact .set xs
def Rds.len{ds:List D}{vs:List Val}(r:Rds P h ds vs):ds.length=vs.length:=r.ind (M:=λds vs=>ds.length=vs.length) rfl λ_ _ ih=>OU (· + 1) ih
def Rds.get{ds:List D}{vs:List Val}{i:Nat}{v:Val}(r:Rds P h ds vs)(e:vs[i]?=some v):∃d,ds[i]?=some d/\Rd P h d v:=
 r.ind (M:=λds vs=>∀i,vs[i]?=some v->∃d,ds[i]?=some d/\Rd P h d v) (λ_ e=>by rw[List.getElem?_nil] at e;cases e) (λr _ ih i e=>match i,e with
  |0,e=>by cases e;exact⟨_,rfl,r⟩
  |i+1,e=>ih i e) i e
def Rds.append{ds es:List D}{vs ws:List Val}(r:Rds P h ds vs)(q:Rds P h es ws):Rds P h (ds++es) (vs++ws):=r.ind (M:=λds vs=>Rds P h (ds++es) (vs++ws)) q λr _ ih=>.cons r ih
def Rds.take{ds:List D}{vs:List Val}(n:Nat)(r:Rds P h ds vs):Rds P h (ds.take n) (vs.take n):=
 r.ind (M:=λds vs=>∀n:Nat,Rds P h (ds.take n) (vs.take n)) (λn=>by rw[PR,PR];exact .nil) (λr _ ih n=>by cases n with |zero=>exact .nil |succ n=>exact .cons r (ih n)) n
def Rds.drop{ds:List D}{vs:List Val}(n:Nat)(r:Rds P h ds vs):Rds P h (ds.drop n) (vs.drop n):=
 r.ind (M:=λds vs=>∀n:Nat,Rds P h (ds.drop n) (vs.drop n)) (λn=>by rw[P9,P9];exact .nil) (λr rr ih n=>by cases n with |zero=>exact .cons r rr |succ n=>exact ih n) n
def Rds.reverse(r:Rds P h ds vs):Rds P h ds.reverse vs.reverse:=by
 induction ds generalizing vs with
 |nil=>cases r;exact .nil
 |
  cons d ds ih=>
  cases r with
  |cons q rr=>rw[PF,PF];exact (ih rr).append (.cons q .nil)
def ShR(P:Nat->Prop)(h:AH)(d:D)(v:Val):Prop:=Rd P h d v\/∃n o,d=.ref n/\h[n]?=some o/\Rc P h o v
inductive ShRs(P:Nat->Prop)(h:AH):List D->List Val->Prop where
 |nil:ShRs P h [] []
 |cons {d:D}{v:Val}{ds:List D}{vs:List Val} (r:ShR P h d v) (rr:ShRs P h ds vs):ShRs P h (d::ds) (v::vs)
noncomputable def Val.items:Val->Option (List Val)
 |.tup xs=>some xs
 |.lst xs=>some xs
 |.kl xs=>some xs
 |_=>none
def ShR.int(r:ShR P h d (.int i)):d=.int i:=by
 rcases r with r |⟨n,o,rfl,e,r⟩
 .cases r with
  |int=>rfl
  |cell p e r=>cases r
 .cases r
def ShR.str(r:ShR P h d (.str i)):d=.str i:=by
 rcases r with r |⟨n,o,rfl,e,r⟩
 .cases r with
  |str=>rfl
  |cell p e r=>cases r
 .cases r
def ShR.bl(r:ShR P h d (.bl i)):d=.bl i:=by
 rcases r with r |⟨n,o,rfl,e,r⟩
 .cases r with
  |bl=>rfl
  |cell p e r=>cases r
 .cases r
def ShR.non(r:ShR P h d .non):d=.non:=by
 rcases r with r |⟨n,o,rfl,e,r⟩
 .cases r with
  |non=>rfl
  |cell p e r=>cases r
 .cases r
def ShR.exc(r:ShR P h d (.exc x)):d=.exc x:=by
 rcases r with r |⟨n,o,rfl,e,r⟩
 .cases r with
  |exc=>rfl
  |cell p e r=>cases r
 .cases r
def ShR.ty(r:ShR P h d (.ty x)):d=.ty x:=by
 rcases r with r |⟨n,o,rfl,e,r⟩
 .cases r with
  |ty=>rfl
  |cell p e r=>cases r
 .cases r
def ShR.glb(r:ShR P h d (.glb x)):d=.glb x:=by
 rcases r with r |⟨n,o,rfl,e,r⟩
 .cases r with
  |glb=>rfl
  |cell p e r=>cases r
 .cases r
def ShR.tup(r:ShR P h d (.tup vs)):∃ds,d=.tup ds/\Rds P h ds vs:=by
 rcases r with r |⟨n,o,rfl,e,r⟩
 .cases r with
  |tup r=>exact⟨_,rfl,r⟩
  |cell p e r=>cases r
 .cases r
def Rc.seq(e:h[n]?=some o)(r:Rc P h o (.lst vs)):∃ds,h[n]?=some (.lst ds)/\cE h n=some ds/\Rds P h ds vs:=by
 cases r with
 |lst r=>exact⟨_,e,by unfold cE;rw[e],r⟩
def ShR.lst(r:ShR P h d (.lst vs)):∃n ds,d=.ref n/\h[n]?=some (.lst ds)/\cE h n=some ds/\Rds P h ds vs:=by
 rcases r with r |⟨n,o,rfl,e,r⟩
 .cases r with
  |cell p e r=>obtain⟨ds,q,r⟩:=Rc.seq e r;exact⟨_,ds,rfl,q,r⟩
 .obtain⟨ds,q,r⟩:=Rc.seq e r;exact⟨_,ds,rfl,q,r⟩
def ShR.kl(r:ShR P h d (.kl vs)):∃ds,Rds P h ds vs/\(d=.kl ds\/∃n,d=.ref n/\cE h n=some ds):=by
 rcases r with r |⟨n,o,rfl,e,r⟩
 .cases r with
  |kl r=>exact⟨_,r,.inl rfl⟩
  |cell p e r=>cases r with |fz r=>exact⟨_,r,.inr ⟨_,rfl,by unfold cE;rw[e]⟩⟩
 .cases r with |fz r=>exact⟨_,r,.inr ⟨_,rfl,by unfold cE;rw[e]⟩⟩
def ShR.dct(r:ShR P h d (.dct us)):∃n ws,d=.ref n/\h[n]?=some (.dct ws)/\Rk P h ws us:=by
 rcases r with r |⟨n,o,rfl,e,r⟩
 .cases r with
  |cell p e r=>cases r with |dct r=>exact⟨_,_,rfl,e,r⟩
 .cases r with |dct r=>exact⟨_,_,rfl,e,r⟩
def ShR.items(r:ShR P h d v)(e:v.items=some vs):∃ds,iA h d=some ds/\Rds P h ds vs:=by
 cases v with
 |tup xs=>cases e;obtain⟨ds,rfl,q⟩:=r.tup;exact⟨ds,rfl,q⟩
 |lst xs=>cases e;obtain⟨n,ds,rfl,_,e,q⟩:=r.lst;exact⟨ds,e,q⟩
 |
  kl xs=>
  cases e;obtain⟨ds,q,rfl |⟨n,rfl,e⟩⟩:=r.kl
  .exact⟨ds,rfl,q⟩
  .exact⟨ds,e,q⟩
 |_=>cases e
end
inductive Sl where
 |no |sh (v:Val) |ow (v:Val) |mu (v:Val) |lo (v:Val) |lm (v:Val)
 deriving Inhabited
abbrev E3:=List Sl
noncomputable def Sl.val:Sl->Option Val
 |.no=>none
 |.sh v=>some v
 |.ow v=>some v
 |.mu v=>some v
 |.lo v=>some v
 |.lm v=>some v
noncomputable def Sl.mt:Sl->Bool
 |.ow _=>true
 |.mu _=>true
 |_=>false
noncomputable def Sl.lk:Sl->Bool
 |.lo _=>true
 |.lm _=>true
 |_=>false
abbrev Ns:=List (Option Nat)
def Oc(X:Nat->Prop)(ns:Ns)(n:Nat):Prop:=¬ X n/\some n∉ns
def dh:Ob->Prop
 |.fz _=>False
 |.any=>False
 |_=>True
def SlR(P:Nat->Prop)(h0:Nat)(n:Option (Option Nat))(d:Option (Option D))(h:AH):Sl->Prop
 |.no=>n=some none
 |.sh v=>n=some none/\∃x,d=some (some x)/\Rd P h x v
 |.ow v=>∃m o,n=some (some m)/\d=some (some (.ref m))/\h0<=m/\h[m]?=some o/\dh o/\Rc P h o v
 |.lo v=>∃m o,n=some (some m)/\d=some (some (.ref m))/\h0<=m/\h[m]?=some o/\dh o/\Rc P h o v
 |.mu v=>∃m o,n=some (some m)/\d=some (some (.ref m))/\h[m]?=some o/\dh o/\Rc P h o v
 |.lm v=>∃m o,n=some (some m)/\d=some (some (.ref m))/\h[m]?=some o/\dh o/\Rc P h o v
structure Sat(X:Nat->Prop)(h0:Nat)(ns:Ns)(e:E3)(ae:AE)(h:AH):Prop where
 l1:ae.length=e.length
 l2:ns.length=e.length
 lh:h0<=h.length
 xl:∀(n:Nat),X n->n<h.length
 inj:∀(i j n:Nat),ns[i]?=some (some n)->ns[j]?=some (some n)->i=j
 nx:∀(i n:Nat),ns[i]?=some (some n)->¬ X n
 sl:∀(i:Nat) (s:Sl),e[i]?=some s->SlR (Oc X ns) h0 (ns[i]?) (ae[i]?) h s
def Mt(ns:Ns)(e:E3)(n:Nat):Prop:=∃(i:Nat) (s:Sl),ns[i]?=some (some n)/\e[i]?=some s/\s.mt=true
structure Stp(ns:Ns)(e:E3)(h:AH)(ns':Ns)(e':E3)(h':AH):Prop where
 len:h.length<=h'.length
 keep:∀(m:Nat) (o:Ob),h[m]?=some o->¬ Mt ns e m->h'[m]?=some o
 nw:∀(i n:Nat),ns'[i]?=some (some n)->ns[i]?=some (some n)\/h.length<=n
 lk:∀(i:Nat) (s:Sl),e[i]?=some s->s.lk=true->e'[i]?=some s/\ns'[i]?=ns[i]?
 lk':∀(i:Nat) (s:Sl),e'[i]?=some s->s.lk=true->e[i]?=some s/\ns'[i]?=ns[i]?
 mu:∀(i:Nat) (v:Val),e'[i]?=some (.mu v)->∃u,e[i]?=some (.mu u)/\ns'[i]?=ns[i]?
 mu':∀(i:Nat) (u:Val),e[i]?=some (.mu u)->∃v,e'[i]?=some (.mu v)/\ns'[i]?=ns[i]?
section
variable{X:Nat->Prop}{h0:Nat}{ns ns1 ns2:Ns}{e e1 e2:E3}{ae:AE}{h h' h1 h2:AH}
def cp:some n∈ns ↔ ∃i:Nat,ns[i]?=some (some n):=by
 constructor
 .intro m;exact List.getElem?_of_mem m
 .rintro⟨i,e⟩;exact PH e
def Sat.own(S:Sat X h0 ns e ae h){i n:Nat}(q:ns[i]?=some (some n)):∃s v o,e[i]?=some s/\(s.mt=true\/s.lk=true)/\s.val=some v/\ae[i]?=some (some (.ref n))/\h[n]?=some o/\dh o/\Rc (Oc X ns) h o v:=by
 have hi:i<e.length:=by rw[<- S.l2];exact (x_.mp q).1
 have hs:=S.sl i e[i] (OC hi);refine⟨e[i],?_⟩;have he:=OC hi;generalize e[i]=s at *;rw[q] at hs;cases s with
 |no=>cases hs
 |sh v=>cases hs.1
 |ow v=>obtain⟨m,o,e1,e2,_,e3,e4,e5⟩:=hs;cases e1;exact⟨v,o,he,.inl rfl,rfl,e2,e3,e4,e5⟩
 |lo v=>obtain⟨m,o,e1,e2,_,e3,e4,e5⟩:=hs;cases e1;exact⟨v,o,he,.inr rfl,rfl,e2,e3,e4,e5⟩
 |mu v=>obtain⟨m,o,e1,e2,e3,e4,e5⟩:=hs;cases e1;exact⟨v,o,he,.inl rfl,rfl,e2,e3,e4,e5⟩
 |lm v=>obtain⟨m,o,e1,e2,e3,e4,e5⟩:=hs;cases e1;exact⟨v,o,he,.inr rfl,rfl,e2,e3,e4,e5⟩
def Stp.refl:Stp ns e h ns e h:=⟨z_ _,λ_ _ q _=>q,λ_ _ q=>.inl q,λ_ _ q _=>⟨q,rfl⟩,λ_ _ q _=>⟨q,rfl⟩,λ_ _ q=>⟨_,q,rfl⟩,λ_ _ q=>⟨_,q,rfl⟩⟩
def Stp.trans(S:Sat X h0 ns e ae h)(a:Stp ns e h ns1 e1 h1)(b:Stp ns1 e1 h1 ns2 e2 h2):Stp ns e h ns2 e2 h2:=by
 refine⟨I_ a.len b.len,λm o q hm=>?_,λi n q=>?_,λi s q hl=>?_,λi s q hl=>?_,λi v q=>?_,λi v q=>?_⟩
 .refine b.keep m o (a.keep m o q hm) λ⟨i,s,z1,z2,z3⟩=>hm ?_;have hlt:=(x_.mp q).1;rcases a.nw i m z1 with z |z
  .obtain⟨s0,v,o',q1,q2,_⟩:=S.own z;rcases q2 with q2 |q2
   .exact⟨i,s0,z,q1,q2⟩
   .have:=(a.lk i s0 q1 q2).1
    rw[z2] at this;cases this;exfalso;cases s <;> first |cases z3;done |cases q2;done
  .omega
 .rcases b.nw i n q with z |z
  .exact a.nw i n z
  .exact .inr (I_ a.len z)
 .obtain⟨q1,q2⟩:=a.lk i s q hl;obtain⟨q3,q4⟩:=b.lk i s q1 hl;exact⟨q3,q4.trans q2⟩
 .obtain⟨q1,q2⟩:=b.lk' i s q hl;obtain⟨q3,q4⟩:=a.lk' i s q1 hl;exact⟨q3,q2.trans q4⟩
 .obtain⟨u,q1,q2⟩:=b.mu i v q;obtain⟨u',q3,q4⟩:=a.mu i u q1;exact⟨u',q3,q2.trans q4⟩
 .obtain⟨u,q1,q2⟩:=a.mu' i v q;obtain⟨u',q3,q4⟩:=b.mu' i u q1;exact⟨u',q3,q4.trans q2⟩
def Stp.mov(S:Sat X h0 ns e ae h)(a:Stp ns e h ns1 e1 h1):Mov (Oc X ns) (Oc X ns1) h h1:=λn o p q=>by
 have hlt:=(x_.mp q).1;have hm:¬ Mt ns e n:=λ⟨i,s,z,_⟩=>p.2 (cp.mpr ⟨i,z⟩);refine⟨⟨p.1,λz=>?_⟩,a.keep n o q hm⟩;obtain⟨i,z⟩:=cp.mp z;rcases a.nw i n z with z |z
 .exact p.2 (cp.mpr ⟨i,z⟩)
 .omega
def dU(q:h[n]?=some o):n<h.length:=(x_.mp q).1
def mS{n:Nat}{o:Ob}{g:AH}(q:h[n]?=some o):(h++g)[n]?=some o:=by rw[OD (dU q)];exact q
def wm:(h++[o])[h.length]?=some o:=by rw[OO (z_ _),QA];rfl
def SlR.mono(m:Mov P P' h h')(k:∀j o,n=some (some j)->h[j]?=some o->h'[j]?=some o)(r:SlR P h0 n d h s):SlR P' h0 n d h' s:=by
 cases s with
 |no=>exact r
 |sh v=>obtain⟨q,x,q1,q2⟩:=r;exact⟨q,x,q1,q2.mono m⟩
 |ow v=>obtain⟨j,o,q1,q2,q3,q4,q5,q6⟩:=r;exact⟨j,o,q1,q2,q3,k j o q1 q4,q5,q6.mono m⟩
 |lo v=>obtain⟨j,o,q1,q2,q3,q4,q5,q6⟩:=r;exact⟨j,o,q1,q2,q3,k j o q1 q4,q5,q6.mono m⟩
 |mu v=>obtain⟨j,o,q1,q2,q4,q5,q6⟩:=r;exact⟨j,o,q1,q2,k j o q1 q4,q5,q6.mono m⟩
 |lm v=>obtain⟨j,o,q1,q2,q4,q5,q6⟩:=r;exact⟨j,o,q1,q2,k j o q1 q4,q5,q6.mono m⟩
def Xn(X:Nat->Prop)(n:Nat):Nat->Prop:=λm=>X m\/m=n
def Sat.grow(S:Sat X h0 ns e ae h)(o:Ob):Sat (Xn X h.length) h0 ns e ae (h++[o]):=by
 have mv:Mov (Oc X ns) (Oc (Xn X h.length) ns) h (h++[o]):=λn o' p q=>⟨⟨λz=>by
  rcases z with z |z
  .exact p.1 z
  .have:=dU q;omega,p.2⟩,mS q⟩
 refine⟨S.l1,S.l2,by rw[H_];have:=S.lh;omega,λn z=>?_,S.inj,λi n q z=>?_,λi s q=>(S.sl i s q).mono mv λj o' _ q'=>mS q'⟩
 .rw[H_];rcases z with z |z
  .have:=S.xl n z;omega
  .subst z;show h.length<h.length+1;omega
 .rcases z with z |z
  .exact S.nx i n q z
  .obtain⟨_,_,_,_,_,_,_,q',_⟩:=S.own q
   have:=dU q';omega
def Sat.weak(S:Sat Y h0 ns e ae h)(hx:∀n,X n->Y n):Sat X h0 ns e ae h:=
 ⟨S.l1,S.l2,S.lh,λn z=>S.xl n (hx n z),S.inj,λi n q z=>S.nx i n q (hx n z),λi s q=>(S.sl i s q).mono (λn o p q=>⟨⟨λz=>p.1 (hx n z),p.2⟩,q⟩) λ_ _ _ q=>q⟩
def Stp.grow(o:Ob):Stp ns e h ns e (h++[o]):=⟨by rw[H_];omega,λ_ _ q _=>mS q,λ_ _ q=>.inl q,λ_ _ q _=>⟨q,rfl⟩,λ_ _ q _=>⟨q,rfl⟩,λ_ _ q=>⟨_,q,rfl⟩,λ_ _ q=>⟨_,q,rfl⟩⟩
end
section
variable{X:Nat->Prop}{h0:Nat}{ns:Ns}{e:E3}{ae:AE}{h hs:AH}
def cM{α:Type}{l:List α}{i j:Nat}{a b:α}(hi:i<l.length)(q:(l.set i a)[j]?=some b):(j=i/\b=a)\/(j≠i/\l[j]?=some b):=by
 rw[Ql] at q;by_cases z:i=j
 .subst z;rw[if_pos rfl,if_pos hi] at q;exact .inl ⟨rfl,(OE q).symm⟩
 .rw[if_neg z] at q;exact .inr ⟨λy=>z y.symm,q⟩
def de{α:Type}{l:List α}{i:Nat}{a:α}(hi:i<l.length):(l.set i a)[i]?=some a:=by rw[Ql,if_pos rfl,if_pos hi]
def cR{α:Type}{l:List α}{i j:Nat}{a:α}(hi:j≠i):(l.set i a)[j]?=l[j]?:=by rw[P6 (λy=>hi y.symm)]
def fG(p:Oc X ns n):Oc X (ns.set i none) n:=⟨p.1,λz=>by
 rcases List.mem_or_eq_of_mem_set z with z |z
 .exact p.2 z
 .cases z⟩
def Sat.putN(S:Sat X h0 ns e ae h)(hi:i<e.length)(q:SlR (Oc X (ns.set i none)) h0 (some none) (some d) h s):Sat X h0 (ns.set i none) (e.set i s) (ae.set i d) h:=by
 have hn:i<ns.length:=by rw[S.l2];exact hi
 have ha:i<ae.length:=by rw[S.l1];exact hi
 refine⟨by rw[OB,OB];exact S.l1,by rw[OB,OB];exact S.l2,S.lh,S.xl,λj k n q1 q2=>?_,λj n q1=>?_,λj s' q1=>?_⟩
 .rcases cM hn q1 with ⟨_,z⟩ |⟨_,z⟩
  .cases z
  rcases cM hn q2 with ⟨_,y⟩ |⟨_,y⟩
  .cases y
  exact S.inj j k n z y
 .rcases cM hn q1 with ⟨_,z⟩ |⟨_,z⟩
  .cases z
  exact S.nx j n z
 .rcases cM hi q1 with ⟨rfl,rfl⟩ |⟨z,q2⟩
  .rw[de hn,de ha];exact q
  .rw[cR z,cR z];exact (S.sl j s' q2).mono (λn o p q=>⟨fG p,q⟩) λ_ _ _ q=>q
def Sat.putN'(S:Sat X h0 ns e ae h)(hi:i<e.length)(q:SlR (Oc X (ns.set i none)) h0 (some none) (ae[i]?) h s):Sat X h0 (ns.set i none) (e.set i s) ae h:=by
 have ha:i<ae.length:=by rw[S.l1];exact hi
 have:=S.putN hi (s:=s) (d:=ae[i]) (by rw[OC ha] at q;exact q)
 rw[List.set_getElem_self] at this;exact this
def Sat.putO(S:Sat (Xn X n) h0 ns e ae h)(hx:¬ X n)(hi:i<e.length)(hn0:h0<=n)(eo:h[n]?=some o)(hf:dh o)(r:Rc (Oc (Xn X n) ns) h o v):Sat X h0 (ns.set i (some n)) (e.set i (.ow v)) (ae.set i (some (.ref n))) h:=by
 have hn:i<ns.length:=by rw[S.l2];exact hi
 have ha:i<ae.length:=by rw[S.l1];exact hi
 have nn:∀j:Nat,ns[j]?≠some (some n):=λj q=>S.nx j n q (.inr rfl);have mv:Mov (Oc (Xn X n) ns) (Oc X (ns.set i (some n))) h h:=λm o' p q=>⟨⟨λz=>p.1 (.inl z),λz=>by
  rcases List.mem_or_eq_of_mem_set z with z |z
  .exact p.2 z
  .cases z;exact p.1 (.inr rfl)⟩,q⟩
 refine⟨by rw[OB,OB];exact S.l1,by rw[OB,OB];exact S.l2,S.lh,λm z=>S.xl m (.inl z),λj k m q1 q2=>?_,λj m q1 z=>?_,λj s' q1=>?_⟩
 .rcases cM hn q1 with ⟨z1,z⟩ |⟨z1,z⟩ <;> rcases cM hn q2 with ⟨y1,y⟩ |⟨y1,y⟩
  .rw[z1,y1]
  .cases z;exact absurd y (nn k)
  .cases y;exact absurd z (nn j)
  .exact S.inj j k m z y
 .rcases cM hn q1 with ⟨_,y⟩ |⟨_,y⟩
  .cases y;exact hx z
  .exact S.nx j m y (.inl z)
 .rcases cM hi q1 with ⟨rfl,rfl⟩ |⟨z,q2⟩
  .rw[de hn,de ha];exact⟨n,o,rfl,rfl,hn0,eo,hf,r.mono mv⟩
  .rw[cR z,cR z];exact (S.sl j s' q2).mono mv λ_ _ _ q=>q
noncomputable def Sl.pl:Sl->Bool
 |.no=>true
 |.sh _=>true
 |.ow _=>true
 |_=>false
def Stp.put(A:Stp ns0 e0 hs ns e h)(hi:i<e.length)(hx:∀n,x=some n->hs.length<=n)(q0:e[i]?=some s0)(p0:s0.pl=true)(p:s.pl=true)(l2:ns.length=e.length):Stp ns0 e0 hs (ns.set i x) (e.set i s) h:=by
 have hn:i<ns.length:=by rw[l2];exact hi
 refine⟨A.len,A.keep,λj n q=>?_,λj s' q hl=>?_,λj s' q hl=>?_,λj v q=>?_,λj v q=>?_⟩
 .rcases cM hn q with ⟨_,z⟩ |⟨_,z⟩
  .exact .inr (hx n z.symm)
  .exact A.nw j n z
 .obtain⟨q1,q2⟩:=A.lk j s' q hl;have z:j≠i:=λz=>by subst z;rw[q0] at q1;cases q1;cases s0 <;> first |cases p0;done |cases hl;done
  rw[cR z,cR z];exact⟨q1,q2⟩
 .rcases cM hi q with ⟨_,z⟩ |⟨z,q1⟩
  .subst z;cases s' <;> first |cases p;done |cases hl;done
  .rw[cR z];exact A.lk' j s' q1 hl
 .rcases cM hi q with ⟨_,z⟩ |⟨z,q1⟩
  .subst z;cases p
  .rw[cR z];exact A.mu j v q1
 .obtain⟨u,q1,q2⟩:=A.mu' j v q;have z:j≠i:=λz=>by subst z;rw[q0] at q1;cases q1;cases p0
  exact⟨u,by rw[cR z];exact q1,by rw[cR z];exact q2⟩
end
inductive Tm where
 |val (v:Val) |new (v:Val) |bor (i:Nat)
inductive R3(α:Type) where
 |ok (a:α) (e:E3) |exc (c:Str) (e:E3) |stuck
noncomputable def R3.bind{α β:Type}(r:R3 α)(f:α->E3->R3 β):R3 β:=match r with
 |.ok a e=>f a e
 |.exc c e=>.exc c e
 |.stuck=>.stuck
abbrev ME3:=E3->R3 Tm
abbrev MT3:=E3->R3 Bool
abbrev MA3:=E3->R3 (List Tm)
def Po{δ α:Type}(X:Nat->Prop)(h0:Nat)(ns:Ns)(e:E3)(ae:AE)(h:AH)(rel:Ns->E3->AH->δ->α->Prop)(r2:R δ):R3 α->Prop
 |.stuck=>True
 |.ok t e'=>∃d h' ns',r2=.ok d h'/\Stp ns e h ns' e' h'/\Sat X h0 ns' e' ae h'/\rel ns' e' h' d t
 |.exc c e'=>∃h' ns',r2=.exc c h'/\Stp ns e h ns' e' h'/\Sat X h0 ns' e' ae h'
def relE(X:Nat->Prop)(h0 L:Nat)(ae:AE)(ns:Ns)(e:E3)(h:AH)(d:D):Tm->Prop
 |.val v=>Rd (Oc X ns) h d v
 |.new v=>∃n o,d=.ref n/\L<=n/\¬ X n/\h[n]?=some o/\dh o/\Sat (Xn X n) h0 ns e ae h/\Rc (Oc (Xn X n) ns) h o v
 |.bor i=>ae[i]?=some (some d)
def relT(_:Ns)(_:E3)(_:AH)(b c:Bool):Prop:=b=c
inductive TsR(X:Nat->Prop)(ns:Ns)(ae:AE)(h:AH):List D->List Tm->Prop where
 |nil:TsR X ns ae h [] []
 |val {d:D}{v:Val}{ds:List D}{ts:List Tm} (r:Rd (Oc X ns) h d v) (rr:TsR X ns ae h ds ts):TsR X ns ae h (d::ds) (.val v::ts)
 |bor {d:D}{i:Nat}{ds:List D}{ts:List Tm} (q:ae[i]?=some (some d)) (rr:TsR X ns ae h ds ts):TsR X ns ae h (d::ds) (.bor i::ts)
def relA(X:Nat->Prop)(ae:AE)(ns:Ns)(_:E3)(h:AH)(ds:List D)(ts:List Tm):Prop:=TsR X ns ae h ds ts
def RE(F:ME)(G:ME3):Prop:=∀X h0 L ns e ae h,Sat X h0 ns e ae h->L<=h.length->Po X h0 ns e ae h (relE X h0 L ae) (F ae h) (G e)
def RT(F:MT)(G:MT3):Prop:=∀X h0 ns e ae h,Sat X h0 ns e ae h->Po X h0 ns e ae h relT (F ae h) (G e)
def RA(F:MA)(G:MA3):Prop:=∀X h0 ns e ae h,Sat X h0 ns e ae h->Po X h0 ns e ae h (relA X ae) (F ae h) (G e)
section
variable{X:Nat->Prop}{h0 L:Nat}{ns ns':Ns}{e e':E3}{ae:AE}{h h':AH}
def Po.bind(S:Sat X h0 ns e ae h)(p:Po X h0 ns e ae h rel r2 r3)
 (k:∀d t h' ns' e',Stp ns e h ns' e' h'->Sat X h0 ns' e' ae h'->rel ns' e' h' d t->Po X h0 ns' e' ae h' rel' (f2 d h') (f3 t e')):Po X h0 ns e ae h rel' (r2.bind f2) (r3.bind f3):=by
 cases r3 with
 |stuck=>trivial
 |exc c e'=>obtain⟨h',ns',q,q1,q2⟩:=p;subst q;exact⟨h',ns',rfl,q1,q2⟩
 |
  ok t e'=>
  obtain⟨d,h',ns',q,q1,q2,q3⟩:=p;subst q
  have:=k d t h' ns' e' q1 q2 q3
  show Po X h0 ns e ae h rel' (f2 d h') (f3 t e');generalize f3 t e'=r at *;cases r with
  |stuck=>trivial
  |exc c e2=>obtain⟨h2,ns2,y,y1,y2⟩:=this;exact⟨h2,ns2,y,q1.trans S y1,y2⟩
  |ok t2 e2=>obtain⟨d2,h2,ns2,y,y1,y2,y3⟩:=this;exact⟨d2,h2,ns2,y,q1.trans S y1,y2,y3⟩
def Po.ret(S:Sat X h0 ns e ae h)(q:rel ns e h d t):Po X h0 ns e ae h rel (.ok d h) (.ok t e):=⟨d,h,ns,rfl,.refl,S,q⟩
def TsR.stp(S:Sat X h0 ns e ae h)(a:Stp ns e h ns' e' h')(r:TsR X ns ae h ds ts):TsR X ns' ae h' ds ts:=by
 induction r with
 |nil=>exact .nil
 |val r _ ih=>exact .val (r.mono (a.mov S)) ih
 |bor q _ ih=>exact .bor q ih
noncomputable def rs(e:E3):Tm->Option Val
 |.val v=>some v
 |.new v=>some v
 |.bor i=>(e[i]?).bind Sl.val
def Sat.bor(S:Sat X h0 ns e ae h){i:Nat}{d:D}{v:Val}(q:ae[i]?=some (some d))(r:(e[i]?).bind Sl.val=some v):ShR (Oc X ns) h d v:=by
 cases z:e[i]? with
 |none=>rw[z] at r;cases r
 |
  some s=>
  rw[z] at r;have y:=S.sl i s z;rw[q] at y;have r':s.val=some v:=r;cases s with
  |no=>cases r'
  |sh u=>cases r';obtain⟨_,x,e1,e2⟩:=y;cases e1;exact .inl e2
  |ow u=>cases r';obtain⟨m,o,_,e2,_,e3,_,e4⟩:=y;cases e2;exact .inr ⟨m,o,rfl,e3,e4⟩
  |lo u=>cases r';obtain⟨m,o,_,e2,_,e3,_,e4⟩:=y;cases e2;exact .inr ⟨m,o,rfl,e3,e4⟩
  |mu u=>cases r';obtain⟨m,o,_,e2,e3,_,e4⟩:=y;cases e2;exact .inr ⟨m,o,rfl,e3,e4⟩
  |lm u=>cases r';obtain⟨m,o,_,e2,e3,_,e4⟩:=y;cases e2;exact .inr ⟨m,o,rfl,e3,e4⟩
def relE.new(r:relE X h0 L ae ns e h d (.new v)):Rd (Oc X ns) h d v:=by obtain⟨n,o,rfl,_,hx,eo,_,S,rc⟩:=r;exact .cell ⟨hx,λz=>by obtain⟨i,z⟩:=cp.mp z;exact S.nx i n z (.inr rfl)⟩ eo (rc.mono λm o p q=>⟨⟨λz=>p.1 (.inl z),p.2⟩,q⟩)
def relE.sh{d:D}{t:Tm}{v:Val}(S:Sat X h0 ns e ae h)(r:relE X h0 L ae ns e h d t)(q:rs e t=some v):ShR (Oc X ns) h d v:=by
 cases t with
 |val u=>cases q;exact .inl r
 |new u=>cases q;exact .inl r.new
 |bor i=>exact S.bor r q
def relE.stp(S:Sat X h0 ns e ae h)(a:Stp ns e h ns' e' h')(r:relE X h0 L ae ns e h d t)(hn:∀v,t ≠ .new v):relE X h0 L ae ns' e' h' d t:=by
 cases t with
 |val u=>exact Rd.mono (a.mov S) r
 |new u=>exact absurd rfl (hn u)
 |bor i=>exact r
noncomputable def Tm.drop:Tm->Tm
 |.new v=>.val v
 |t=>t
def relE.drop(r:relE X h0 L ae ns e h d t):relE X h0 L ae ns e h d t.drop/\∀v,t.drop ≠ .new v:=by
 cases t with
 |val u=>exact⟨r,λ_ z=>nomatch z⟩
 |new u=>exact⟨r.new,λ_ z=>nomatch z⟩
 |bor i=>exact⟨r,λ_ z=>nomatch z⟩
noncomputable def rss(e:E3):List Tm->Option (List Val)
 | []=>some []
 |t::ts=>match rs e t,rss e ts with
  |some v,some vs=>some (v::vs)
  |_,_=>none
def TsR.sh{ds:List D}{ts:List Tm}{vs:List Val}(S:Sat X h0 ns e ae h)(r:TsR X ns ae h ds ts)(q:rss e ts=some vs):ShRs (Oc X ns) h ds vs:=by
 induction r generalizing vs with
 |nil=>cases q;exact .nil
 |
  val r _ ih=>
  unfold rss at q;split at q
  .rename_i e1 e2;cases q;cases e1;exact .cons (.inl r) (ih e2)
  .cases q
 |
  bor q' _ ih=>
  unfold rss at q;split at q
  .rename_i e1 e2;cases q;exact .cons (S.bor q' e1) (ih e2)
  .cases q
end
inductive Bv where
 |val (v:Val) |new (v:Val) |stuck
def BvR(P:Nat->Prop)(h:AH)(r:R D):Bv->Prop
 |.val v=>∃d,r=.ok d h/\Rd P h d v
 |.new v=>∃o,r=.ok (.ref h.length) (h++[o])/\dh o/\Rc P h o v
 |.stuck=>True
noncomputable def Bv.at(b:Bv)(e:E3):R3 Tm:=match b with
 |.val v=>.ok (.val v) e
 |.new v=>.ok (.new v) e
 |.stuck=>.stuck
def BvR.po(S:Sat X h0 ns e ae h)(hl:L<=h.length)(q:BvR (Oc X ns) h r b):Po X h0 ns e ae h (relE X h0 L ae) r (b.at e):=by
 cases b with
 |stuck=>trivial
 |val v=>obtain⟨d,rfl,r⟩:=q;exact Po.ret S r
 |
  new v=>
  obtain⟨o,rfl,hf,r⟩:=q;have S':=S.grow o;refine⟨_,_,ns,rfl,.grow o,S'.weak λn z=>.inl z,h.length,o,rfl,hl,λz=>?_,wm,hf,S',r.mono λn o' p q=>⟨⟨λz=>?_,p.2⟩,mS q⟩⟩
  .have:=S.xl _ z;omega
  .rcases z with z |z
   .exact p.1 z
   .have:=dU q;omega
def RU(g2:D->AH->R D)(g3:Val->Bv):Prop:=∀P h d v,ShR P h d v->BvR P h (g2 d h) (g3 v)
def RO(g2:D->D->AH->R D)(g3:Val->Val->Bv):Prop:=∀P h d1 d2 v1 v2,ShR P h d1 v1->ShR P h d2 v2->BvR P h (g2 d1 d2 h) (g3 v1 v2)
def RFn(g2:Fn)(g3:List Val->Bv):Prop:=∀P h ds vs,ShRs P h ds vs->BvR P h (g2 ds h) (g3 vs)
noncomputable def BS(i:Nat):ME3:=λe=>match e[i]? with
 |some (.sh v)=>.ok (.val v) e
 |some .no=>.stuck
 |some _=>.ok (.bor i) e
 |none=>.stuck
noncomputable def vC(v:Val):ME3:=λe=>.ok (.val v) e
noncomputable def vUn(g:Val->Bv)(F:ME3):ME3:=λe=>(F e).bind λt e1=>match rs e1 t with
 |some v=>(g v).at e1
 |none=>.stuck
noncomputable def vOp(g:Val->Val->Bv)(F G:ME3):ME3:=λe=>(F e).bind λt1 e1=>(G e1).bind λt2 e2=>match rs e2 t1.drop,rs e2 t2 with
 |some v1,some v2=>(g v1 v2).at e2
 |_,_=>.stuck
noncomputable def qc:MA3:=λe=>.ok [] e
noncomputable def DX(F:ME3)(A:MA3):MA3:=λe=>(F e).bind λt e1=>(A e1).bind λts e2=>.ok (t.drop::ts) e2
noncomputable def vFn(g:List Val->Bv)(A:MA3):ME3:=λe=>(A e).bind λts e1=>match rss e1 ts with
 |some vs=>(g vs).at e1
 |none=>.stuck
noncomputable def dk(e:E3):Tm->Option (E3×Val)
 |.val v=>some (e,v)
 |.new v=>some (e,v)
 |.bor i=>match e[i]? with
  |some (.sh v)=>some (e,v)
  |some (.ow v)=>some (e.set i (.sh v),v)
  |_=>none
noncomputable def dem(e:E3):List Tm->Option (E3×List Val)
 | []=>some (e,[])
 |t::ts=>match dk e t with
  |some (e1,v)=>match dem e1 ts with
   |some (e2,vs)=>some (e2,v::vs)
   |none=>none
  |none=>none
noncomputable def vTup(A:MA3):ME3:=λe=>(A e).bind λts e1=>match dem e1 ts with
 |some (e2,vs)=>if vs.length<=16777216 then .ok (.val (.tup vs)) e2 else .stuck
 |none=>.stuck
noncomputable def vLst(A:MA3):ME3:=λe=>(A e).bind λts e1=>match dem e1 ts with
 |some (e2,vs)=>if vs.length<=16777216 then .ok (.new (.lst vs)) e2 else .stuck
 |none=>.stuck
noncomputable def bOf:Option Val->Option Bool
 |some (.bl b)=>some b
 |_=>none
noncomputable def vAnd(F G:ME3):ME3:=λe=>(F e).bind λt e1=>match bOf (rs e1 t) with
 |some true=>G e1
 |some false=>.ok (.val (.bl false)) e1
 |none=>.stuck
noncomputable def vNot(F:ME3):ME3:=λe=>(F e).bind λt e1=>match bOf (rs e1 t) with
 |some b=>.ok (.val (.bl (!b))) e1
 |none=>.stuck
def vIf(c:MT3)(F G:ME3):ME3:=λe=>(c e).bind λb e1=>if b=true then F e1 else G e1
noncomputable def cOf(F:ME3):MT3:=λe=>(F e).bind λt e1=>match bOf (rs e1 t) with
 |some b=>.ok b e1
 |none=>.stuck
noncomputable def cAn(c d:MT3):MT3:=λe=>(c e).bind λb e1=>if b=true then d e1 else .ok false e1
noncomputable def cO(c d:MT3):MT3:=λe=>(c e).bind λb e1=>if b=true then .ok true e1 else d e1
noncomputable def cNo(c:MT3):MT3:=λe=>(c e).bind λb e1=>.ok (!b) e1
def cY:MT3:=λe=>.ok true e
section
variable{F G:ME}{F3 G3:ME3}{A:MA}{A3:MA3}{c d:MT}{c3 d3:MT3}
def Hw(i:Nat):RE (dN i) (BS i):=λX h0 L ns e ae h S hl=>by
 unfold BS;cases q:e[i]? with
 |none=>trivial
 |
  some s=>
  have y:=S.sl i s q;cases s with
  |no=>trivial
  |sh v=>obtain⟨_,x,e1,e2⟩:=y;unfold dN;rw[e1];exact Po.ret S e2
  |ow v=>obtain⟨m,o,_,e2,_⟩:=y;unfold dN;rw[e2];exact Po.ret S e2
  |lo v=>obtain⟨m,o,_,e2,_⟩:=y;unfold dN;rw[e2];exact Po.ret S e2
  |mu v=>obtain⟨m,o,_,e2,_⟩:=y;unfold dN;rw[e2];exact Po.ret S e2
  |lm v=>obtain⟨m,o,_,e2,_⟩:=y;unfold dN;rw[e2];exact Po.ret S e2
def nV{d:D}{v:Val}(r:∀P h,Rd P h d v):RE (eC d) (vC v):=λX h0 L ns e ae h S hl=>Po.ret S (r _ _)
def LW(hg:RU g g3)(hF:RE F F3):RE (eUn g F) (vUn g3 F3):=λX h0 L ns e ae h S hl=>
 Po.bind S (hF X h0 L ns e ae h S hl) λd t h1 ns1 e1 a1 S1 r1=>by
  try dsimp only
  split
  .rename_i v q;exact BvR.po S1 (I_ hl a1.len) (hg _ _ _ _ (r1.sh S1 q))
  .trivial
def Mg(hg:RO g g3)(hF:RE F F3)(hG:RE G G3):RE (eOp g F G) (vOp g3 F3 G3):=λX h0 L ns e ae h S hl=>
 Po.bind S (hF X h0 L ns e ae h S hl) λd1 t1 h1 ns1 e1 a1 S1 r1=>Po.bind S1 (hG X h0 L ns1 e1 ae h1 S1 (I_ hl a1.len)) λd2 t2 h2 ns2 e2 a2 S2 r2=>by
  try dsimp only
  split
  .rename_i v1 v2 q1 q2;obtain⟨r1',hn⟩:=r1.drop;exact BvR.po S2 (I_ hl (I_ a1.len a2.len)) (hg _ _ _ _ _ _ ((r1'.stp S1 a2 hn).sh S2 q1) (r2.sh S2 q2))
  .trivial
def AI:RA kX qc:=λX h0 ns e ae h S=>Po.ret S .nil
def Ez(hF:RE F F3)(hA:RA A A3):RA (mR F A) (DX F3 A3):=λX h0 ns e ae h S=>
 Po.bind S (hF X h0 0 ns e ae h S (ON _)) λd1 t1 h1 ns1 e1 a1 S1 r1=>Po.bind S1 (hA X h0 ns1 e1 ae h1 S1) λds ts h2 ns2 e2 a2 S2 r2=>by
  obtain⟨r1',hn⟩:=r1.drop;have r3:=r1'.stp S1 a2 hn;refine Po.ret S2 ?_;show TsR X ns2 ae h2 (d1::ds) (t1.drop::ts);generalize t1.drop=t at *;cases t with
  |val v=>exact .val r3 r2
  |new v=>exact absurd rfl (hn v)
  |bor i=>exact .bor r3 r2
def Oo(hg:RFn g g3)(hA:RA A A3):RE (eFn g A) (vFn g3 A3):=λX h0 L ns e ae h S hl=>
 Po.bind S (hA X h0 ns e ae h S) λds ts h1 ns1 e1 a1 S1 r1=>by
  try dsimp only
  split
  .rename_i vs q;exact BvR.po S1 (I_ hl a1.len) (hg _ _ _ _ (TsR.sh S1 r1 q))
  .trivial
def Ht(S:Sat X h0 ns e ae h)(q:e[i]?=some (.ow v)):∃n,ae[i]?=some (some (.ref n))/\Sat X h0 (ns.set i none) (e.set i (.sh v)) ae h/\Stp ns e h (ns.set i none) (e.set i (.sh v)) h/\Rd (Oc X (ns.set i none)) h (.ref n) v:=by
 obtain⟨n,o,q1,q2,_,q3,_,q4⟩:=S.sl i _ q;have hi:=(x_.mp q).1;have hn:i<ns.length:=by rw[S.l2];exact hi
 have r:Rd (Oc X (ns.set i none)) h (.ref n) v:=.cell ⟨S.nx i n q1,λz=>by
  obtain⟨j,z⟩:=cp.mp z;rcases cM hn z with ⟨_,y⟩ |⟨y,z⟩
  .cases y
  .exact y (S.inj j i n z q1)⟩ q3 (q4.mono λm o p q=>⟨fG p,q⟩)
 exact⟨n,q2,S.putN' hi ⟨rfl,_,q2,r⟩,Stp.refl.put (x:=none) hi (λ_ z=>by cases z) q rfl rfl S.l2,r⟩
def gz{X:Nat->Prop}{h0 L:Nat}{ns:Ns}{e e':E3}{ae:AE}{h:AH}{d:D}{t:Tm}{v:Val}(S:Sat X h0 ns e ae h)(r:relE X h0 L ae ns e h d t)(q:dk e t=some (e',v)):∃ns',Sat X h0 ns' e' ae h/\Stp ns e h ns' e' h/\Rd (Oc X ns') h d v:=by
 cases t with
 |val u=>cases q;exact⟨ns,S,.refl,r⟩
 |new u=>cases q;exact⟨ns,S,.refl,r.new⟩
 |
  bor i=>
  unfold dk at q;dsimp only at q;have r':ae[i]?=some (some d):=r;split at q
  .rename_i u q1;cases q;obtain⟨_,x,e1,e2⟩:=S.sl i _ q1;rw[r'] at e1;cases e1;exact⟨ns,S,.refl,e2⟩
  .rename_i u q1;cases q;obtain⟨n,e1,S',a',e2⟩:=Ht S q1;rw[r'] at e1;cases e1;exact⟨_,S',a',e2⟩
  .cases q
def jZ:∀{ds:List D}{vs:List Val}{ns:Ns}{e e':E3},Sat X h0 ns e ae h->TsR X ns ae h ds ts->dem e ts=some (e',vs)->∃ns',Sat X h0 ns' e' ae h/\Stp ns e h ns' e' h/\Rds (Oc X ns') h ds vs:=by
 induction ts with
 |nil=>intro ds vs ns e e' S r q;cases r;cases q;exact⟨ns,S,.refl,.nil⟩
 |
  cons t ts ih=>
  intro ds vs ns e e' S r q;unfold dem at q;split at q
  .rename_i e1 v q1;split at q
   .rename_i e2 vs' q2;cases q;have hr:∃d ds',ds=d::ds'/\relE X h0 0 ae ns e h d t/\TsR X ns ae h ds' ts:=by
     cases r with
     |val r rr=>exact⟨_,_,rfl,r,rr⟩
     |bor r rr=>exact⟨_,_,rfl,r,rr⟩
    obtain⟨d,ds',rfl,hr⟩:=hr;obtain⟨ns1,S1,a1,r1⟩:=gz S hr.1 q1;obtain⟨ns2,S2,a2,r2⟩:=ih S1 (hr.2.stp S a1) q2;exact⟨ns2,S2,a1.trans S a2,.cons (r1.mono (a2.mov S1)) r2⟩
   .cases q
  .cases q
def Ir(hA:RA A A3):RE (eFn jJ A) (vTup A3):=λX h0 L ns e ae h S hl=>
 Po.bind S (hA X h0 ns e ae h S) λds ts h1 ns1 e1 a1 S1 r1=>by
  try dsimp only
  split
  .rename_i e2 vs q;split
   .rename_i hv;obtain⟨ns2,S2,a2,r2⟩:=jZ S1 r1 q;exact⟨.tup ds,h1,ns2,by unfold jJ;rw[if_pos (by rw[r2.len];exact hv)],a2,S2,.tup r2⟩
   .trivial
  .trivial
def KC(hA:RA A A3):RE (eFn fL A) (vLst A3):=λX h0 L ns e ae h S hl=>
 Po.bind S (hA X h0 ns e ae h S) λds ts h1 ns1 e1 a1 S1 r1=>by
  try dsimp only
  split
  .rename_i e2 vs q;split
   .rename_i hv;obtain⟨ns2,S2,a2,r2⟩:=jZ S1 r1 q;have p:=BvR.po (r:=fL ds h1) (b:=.new (.lst vs)) S2 (I_ hl a1.len) ⟨.lst ds,by unfold fL;rw[if_pos (by rw[r2.len];exact hv)],trivial,.lst r2⟩;obtain⟨d,h',ns',y,y1,y2,y3⟩:=p;exact⟨d,h',ns',y,a2.trans S1 y1,y2,y3⟩
   .trivial
  .trivial
def pO(S1:Sat X h0 ns1 e1 ae h1)(r1:relE X h0 L ae ns1 e1 h1 d1 t1)(q:bOf (rs e1 t1)=some b):d1=.bl b:=by
 unfold bOf at q;split at q
 .rename_i b' q';cases q;exact (r1.sh S1 q').bl
 .cases q
def HP(hF:RE F F3)(hG:RE G G3):RE (CQ F G) (vAnd F3 G3):=λX h0 L ns e ae h S hl=>
 Po.bind S (hF X h0 L ns e ae h S hl) λd1 t1 h1 ns1 e1 a1 S1 r1=>by
  try dsimp only
  split
  .rename_i q;rw[pO S1 r1 q];exact hG X h0 L ns1 e1 ae h1 S1 (I_ hl a1.len)
  .rename_i q;rw[pO S1 r1 q];exact Po.ret S1 (.bl false)
  .trivial
def HH(hF:RE F F3):RE (C1 F) (vNot F3):=λX h0 L ns e ae h S hl=>
 Po.bind S (hF X h0 L ns e ae h S hl) λd1 t1 h1 ns1 e1 a1 S1 r1=>by
  try dsimp only
  split
  .rename_i q;rw[pO S1 r1 q];exact Po.ret S1 (.bl _)
  .trivial
def MK(hc:RT c c3)(hF:RE F F3)(hG:RE G G3):RE (eIf c F G) (vIf c3 F3 G3):=λX h0 L ns e ae h S hl=>
 Po.bind S (hc X h0 ns e ae h S) λb b' h1 ns1 e1 a1 S1 r1=>by
  cases r1;try dsimp only
  split
  .exact hF X h0 L ns1 e1 ae h1 S1 (I_ hl a1.len)
  .exact hG X h0 L ns1 e1 ae h1 S1 (I_ hl a1.len)
def NB(hF:RE F F3):RT (tOf F) (cOf F3):=λX h0 ns e ae h S=>
 Po.bind S (hF X h0 0 ns e ae h S (ON _)) λd1 t1 h1 ns1 e1 a1 S1 r1=>by
  try dsimp only
  split
  .rename_i q;rw[pO S1 r1 q];exact Po.ret S1 rfl
  .trivial
def Nz(hc:RT c c3)(hd:RT d d3):RT (tAn c d) (cAn c3 d3):=λX h0 ns e ae h S=>
 Po.bind S (hc X h0 ns e ae h S) λb b' h1 ns1 e1 a1 S1 r1=>by
  cases r1;try dsimp only
  split
  .exact hd X h0 ns1 e1 ae h1 S1
  .exact Po.ret S1 rfl
def rt_o(hc:RT c c3)(hd:RT d d3):RT (tO c d) (cO c3 d3):=λX h0 ns e ae h S=>
 Po.bind S (hc X h0 ns e ae h S) λb b' h1 ns1 e1 a1 S1 r1=>by
  cases r1;try dsimp only
  split
  .exact Po.ret S1 rfl
  .exact hd X h0 ns1 e1 ae h1 S1
def Mk(hc:RT c c3):RT (tNo c) (cNo c3):=λX h0 ns e ae h S=>
 Po.bind S (hc X h0 ns e ae h S) λb b' h1 ns1 e1 a1 S1 r1=>by cases r1;exact Po.ret S1 rfl
def rt_y:RT tY cY:=λX h0 ns e ae h S=>Po.ret S rfl
end
inductive Rt where
 |val (v:Val) |new (v:Val) |par (i:Nat) |pr (v u:Val)
inductive SR3 where
 |nx (e:E3) |rt (r:Rt) (e:E3) |bk (e:E3) |ct (e:E3) |exc (c:Str) (e:E3) |stuck
abbrev MS3:=E3->SR3
def RtR(X:Nat->Prop)(h0:Nat)(ns:Ns)(e:E3)(ae:AE)(h:AH)(d:D):Rt->Prop
 |.val v=>Sat X h0 ns e ae h/\Rd (Oc X ns) h d v
 |.new v=>∃n o,d=.ref n/\h0<=n/\¬ X n/\h[n]?=some o/\dh o/\Sat (Xn X n) h0 ns e ae h/\Rc (Oc (Xn X n) ns) h o v
 |.par i=>Sat X h0 ns e ae h/\ae[i]?=some (some d)/\∃v,e[i]?=some (.mu v)
 |.pr v u=>∃d1 n o,d=.tup [d1,.ref n]/\h0<=n/\¬ X n/\h[n]?=some o/\dh o/\Sat (Xn X n) h0 ns e ae h/\Rd (Oc (Xn X n) ns) h d1 v/\Rc (Oc (Xn X n) ns) h o u
def PoS(X:Nat->Prop)(h0:Nat)(ns:Ns)(e:E3)(h:AH)(r2:SR):SR3->Prop
 |.stuck=>True
 |.nx e'=>∃d_ h' ns',r2=.nx d_ h'/\Stp ns e h ns' e' h'/\Sat X h0 ns' e' d_ h'
 |.bk e'=>∃d_ h' ns',r2=.bk d_ h'/\Stp ns e h ns' e' h'/\Sat X h0 ns' e' d_ h'
 |.ct e'=>∃d_ h' ns',r2=.ct d_ h'/\Stp ns e h ns' e' h'/\Sat X h0 ns' e' d_ h'
 |.exc c e'=>∃d_ h' ns',r2=.exc c d_ h'/\Stp ns e h ns' e' h'/\Sat X h0 ns' e' d_ h'
 |.rt r e'=>∃d d_ h' ns',r2=.rt d h'/\Stp ns e h ns' e' h'/\RtR X h0 ns' e' d_ h' d r
def RS(F:MS)(G:MS3):Prop:=∀X h0 ns e ae h,Sat X h0 ns e ae h->PoS X h0 ns e h (F ae h) (G e)
noncomputable def R3.toS{α:Type}(r:R3 α)(f:α->E3->SR3):SR3:=match r with
 |.ok a e=>f a e
 |.exc c e=>.exc c e
 |.stuck=>.stuck
def SR3.then(r:SR3)(f:E3->SR3):SR3:=match r with
 |.nx e=>f e
 |r=>r
section
variable{X:Nat->Prop}{h0:Nat}{ns ns1 ns':Ns}{e e1 e':E3}{ae:AE}{h h1 h':AH}
def PoS.after(S:Sat X h0 ns e ae h)(a:Stp ns e h ns1 e1 h1)(p:PoS X h0 ns1 e1 h1 r2 r3):PoS X h0 ns e h r2 r3:=by
 cases r3 with
 |stuck=>trivial
 |nx e'=>obtain⟨d_,h',ns',q,q1,q2⟩:=p;exact⟨d_,h',ns',q,a.trans S q1,q2⟩
 |bk e'=>obtain⟨d_,h',ns',q,q1,q2⟩:=p;exact⟨d_,h',ns',q,a.trans S q1,q2⟩
 |ct e'=>obtain⟨d_,h',ns',q,q1,q2⟩:=p;exact⟨d_,h',ns',q,a.trans S q1,q2⟩
 |exc c e'=>obtain⟨d_,h',ns',q,q1,q2⟩:=p;exact⟨d_,h',ns',q,a.trans S q1,q2⟩
 |rt r e'=>obtain⟨d,d_,h',ns',q,q1,q2⟩:=p;exact⟨d,d_,h',ns',q,a.trans S q1,q2⟩
def PoS.toS(p:Po X h0 ns e ae h rel r2 r3)
 (k:∀d t h' ns' e',Stp ns e h ns' e' h'->Sat X h0 ns' e' ae h'->rel ns' e' h' d t->PoS X h0 ns e h (f2 d h') (f3 t e')):PoS X h0 ns e h (r2.toS ae f2) (r3.toS f3):=by
 cases r3 with
 |stuck=>trivial
 |exc c e'=>obtain⟨h',ns',rfl,q1,q2⟩:=p;exact⟨ae,h',ns',rfl,q1,q2⟩
 |ok t e'=>obtain⟨d,h',ns',rfl,q1,q2,q3⟩:=p;exact k d t h' ns' e' q1 q2 q3
def PoS.nx(a:Stp ns e h ns' e' h')(S:Sat X h0 ns' e' d_ h'):PoS X h0 ns e h (.nx d_ h') (.nx e'):=⟨d_,h',ns',rfl,a,S⟩
end
noncomputable def wNx:MS3:=λe=>.nx e
def wCt:MS3:=λe=>.ct e
noncomputable def wSeq(F G:MS3):MS3:=λe=>(F e).then G
noncomputable def DJ(F:ME3):MS3:=λe=>(F e).toS λ_ e1=>.nx e1
noncomputable def wIf(c:MT3)(F G:MS3):MS3:=λe=>(c e).toS λb e1=>if b=true then F e1 else G e1
noncomputable def rh(t:Tm)(e:E3):SR3:=match t with
 |.val v=>.rt (.val v) e
 |.new v=>.rt (.new v) e
 |.bor i=>match e[i]? with
  |some (.sh v)=>.rt (.val v) e
  |some (.ow v)=>.rt (.new v) (e.set i .no)
  |some (.mu _)=>.rt (.par i) e
  |_=>.stuck
noncomputable def wRet(F:ME3):MS3:=λe=>(F e).toS rh
noncomputable def jQ(o:Bool)(i:Nat)(t:Tm)(e:E3):SR3:=match e[i]? with
 |some s0=>if s0.pl=true then (match t with
  |.val v=>.nx (e.set i (.sh v))
  |.new v=>.nx (e.set i (if o=true then .ow v else .sh v))
  |.bor j=>match dk e (.bor j) with
   |some (e2,v)=>.nx (e2.set i (.sh v))
   |none=>.stuck) else .stuck
 |none=>.stuck
noncomputable def wAsg(o:Bool)(i:Nat)(F:ME3):MS3:=λe=>(F e).toS (jQ o i)
abbrev MG3:=Val->E3->Option E3
abbrev lC:=List Val->E3->Option E3
noncomputable def pN(i:Nat):MG3:=λv e=>match e[i]? with
 |some s=>if s.pl=true then some (e.set i (.sh v)) else none
 |none=>none
noncomputable def psN:lC:=λvs e=>match vs with
 | []=>some e
 |_=>none
noncomputable def psC(g:MG3)(u:lC):lC:=λvs e=>match vs with
 |v::r=>(g v e).bind λe1=>u r e1
 | []=>none
noncomputable def pT(n:Nat)(u:lC):MG3:=λv e=>match v with
 |.tup vs=>if vs.length=n then u vs e else none
 |_=>none
noncomputable def Dw(F:ME3)(g:MG3):MS3:=λe=>(F e).toS λt e1=>match dk e1 t with
 |some (e2,v)=>match g v e2 with
  |some e3=>.nx e3
  |none=>.stuck
 |none=>.stuck
noncomputable def wPar(i j:Nat)(A:MA3):MS3:=λe=>(A e).toS λts e1=>match dem e1 ts with
 |some (e2,[v,u])=>match (pN i v e2).bind (pN j u) with
  |some e3=>.nx e3
  |none=>.stuck
 |_=>.stuck
noncomputable def BD(i:Nat)(g:Val->Val->Bv)(F:ME3):MS3:=λe=>match e[i]? with
 |some (.sh x)=>(F e).toS λt e1=>match rs e1 t with
  |some y=>match g x y with
   |.val z=>match pN i z e1 with
    |some e2=>.nx e2
    |none=>.stuck
   |_=>.stuck
  |none=>.stuck
 |_=>.stuck
noncomputable def Av(c:Str)(A:MA3):MS3:=λe=>(A e).toS λts e1=>if ts.length<=16777216 then .exc c e1 else .stuck
def RG(g2:MG)(g3:MG3):Prop:=∀X h0 ns e ae h d v e',Sat X h0 ns e ae h->Rd (Oc X ns) h d v->g3 v e=some e'->∃d_ ns',g2 d ae h=.ok d_ h/\Sat X h0 ns' e' d_ h/\Stp ns e h ns' e' h
def RGs(g2:MGs)(g3:lC):Prop:=∀X h0 ns e ae h ds vs e',Sat X h0 ns e ae h->Rds (Oc X ns) h ds vs->g3 vs e=some e'->∃d_ ns',g2 ds ae h=.ok d_ h/\Sat X h0 ns' e' d_ h/\Stp ns e h ns' e' h
section
variable{F:ME}{F3:ME3}{A:MA}{A3:MA3}{c d:MT}{c3:MT3}{U V:MS}{U3 V3:MS3}{g:MG}{g3:MG3}{gs:MGs}{gs3:lC}
def Ow:RS sNx wNx:=λX h0 ns e ae h S=>.nx .refl S
def My:RS sCt wCt:=λX h0 ns e ae h S=>⟨ae,h,ns,rfl,.refl,S⟩
def Kg(hU:RS U U3)(hV:RS V V3):RS (Bc U V) (wSeq U3 V3):=λX h0 ns e ae h S=>by
 have p:=hU X h0 ns e ae h S;show PoS X h0 ns e h ((U ae h).then V) ((U3 e).then V3);generalize U3 e=r at *;cases r with
 |stuck=>trivial
 |nx e'=>obtain⟨d_,h',ns',q,q1,q2⟩:=p;rw[q];exact PoS.after S q1 (hV X h0 ns' e' d_ h' q2)
 |bk e'=>obtain⟨d_,h',ns',q,q1,q2⟩:=p;rw[q];exact⟨d_,h',ns',rfl,q1,q2⟩
 |ct e'=>obtain⟨d_,h',ns',q,q1,q2⟩:=p;rw[q];exact⟨d_,h',ns',rfl,q1,q2⟩
 |exc c e'=>obtain⟨d_,h',ns',q,q1,q2⟩:=p;rw[q];exact⟨d_,h',ns',rfl,q1,q2⟩
 |rt r e'=>obtain⟨d,d_,h',ns',q,q1,q2⟩:=p;rw[q];exact⟨d,d_,h',ns',rfl,q1,q2⟩
def FQ(hF:RE F F3):RS (yj F) (DJ F3):=λX h0 ns e ae h S=>PoS.toS (hF X h0 0 ns e ae h S (ON _)) λd t h1 ns1 e1 a1 S1 r1=>.nx a1 S1
def N2(hc:RT c c3)(hU:RS U U3)(hV:RS V V3):RS (sIf c U V) (wIf c3 U3 V3):=λX h0 ns e ae h S=>PoS.toS (hc X h0 ns e ae h S) λb b' h1 ns1 e1 a1 S1 r1=>by
 cases r1;try dsimp only
 split
 .exact PoS.after S a1 (hU X h0 ns1 e1 ae h1 S1)
 .exact PoS.after S a1 (hV X h0 ns1 e1 ae h1 S1)
def K0(hF:RE F F3):RS (xI F) (wRet F3):=λX h0 ns e ae h S=>PoS.toS (hF X h0 h0 ns e ae h S S.lh) λd t h1 ns1 e1 a1 S1 r1=>by
 cases t with
 |val v=>exact⟨d,ae,h1,ns1,rfl,a1,S1,r1⟩
 |new v=>obtain⟨n,o,q⟩:=r1;exact⟨d,ae,h1,ns1,rfl,a1,n,o,q⟩
 |
  bor i=>
  unfold rh;dsimp only;have r':ae[i]?=some (some d):=r1;split
  .rename_i v q;obtain⟨_,x,e1',e2⟩:=S1.sl i _ q;rw[r'] at e1';cases e1';exact⟨d,ae,h1,ns1,rfl,a1,S1,e2⟩
  .rename_i v q;obtain⟨n,o,q1,q2,q3,q4,q5,q6⟩:=S1.sl i _ q;rw[r'] at q2;cases q2;have hi:=(x_.mp q).1;have hn:i<ns1.length:=by rw[S1.l2];exact hi
   have mv:Mov (Oc X ns1) (Oc (Xn X n) (ns1.set i none)) h1 h1:=λm o' p q'=>⟨⟨λz=>by
    rcases z with z |rfl
    .exact p.1 z
    .exact p.2 (cp.mpr ⟨i,q1⟩),(fG p).2⟩,q'⟩
   have S2:=S1.putN' hi (s:=.no) rfl;refine⟨.ref n,ae,h1,ns1.set i none,rfl,a1.put (x:=none) hi (λ_ z=>by cases z) q rfl rfl S1.l2,n,o,rfl,q3,S1.nx i n q1,q4,q5,⟨S2.l1,S2.l2,S2.lh,λm z=>?_,S2.inj,λj m qj z=>?_,λj s qj=>?_⟩,q6.mono mv⟩
   .rcases z with z |rfl
    .exact S2.xl m z
    .exact dU q4
   .rcases z with z |rfl
    .exact S2.nx j m qj z
    .rcases cM hn qj with ⟨_,y⟩ |⟨y,z⟩
     .cases y
     .exact y (S1.inj j i _ z q1)
   .rcases cM hi qj with ⟨rfl,rfl⟩ |⟨z,qj'⟩
    .rw[de hn];rfl
    .rw[cR z];exact (S1.sl j s qj').mono mv λ_ _ _ q=>q
  .rename_i v q;exact⟨d,ae,h1,ns1,rfl,a1,S1,r',v,q⟩
  .trivial
def Kt(o:Bool)(i:Nat)(hF:RE F F3):RS (i0 F (gN i)) (wAsg o i F3):=λX h0 ns e ae h S=>PoS.toS (hF X h0 h.length ns e ae h S (z_ _)) λd t h1 ns1 e1 a1 S1 r1=>by
 show PoS X h0 ns e h (.nx (ae.set i (some d)) h1) (jQ o i t e1);unfold jQ;split
 .rename_i s0 q0;split
  .rename_i p0;have hi:=(x_.mp q0).1;cases t with
   |val v=>exact .nx (a1.put (x:=none) (s:=.sh v) hi (λ_ z=>by cases z) q0 p0 rfl S1.l2) (S1.putN hi ⟨rfl,d,rfl,Rd.mono (λm o p q=>⟨fG p,q⟩) r1⟩)
   |
    new v=>
    try dsimp only
    split
    .obtain⟨n,ob,rfl,q1,q2,q3,q4,q5,q6⟩:=r1;exact .nx (a1.put (x:=some n) (s:=.ow v) hi (λm z=>by cases z;exact q1) q0 p0 rfl S1.l2) (Sat.putO q5 q2 hi (I_ S.lh q1) q3 q4 q6)
    .exact .nx (a1.put (x:=none) (s:=.sh v) hi (λ_ z=>by cases z) q0 p0 rfl S1.l2) (S1.putN hi ⟨rfl,d,rfl,Rd.mono (λm o p q=>⟨fG p,q⟩) r1.new⟩)
   |
    bor j=>
    try dsimp only
    split
    .rename_i e2 v q2;obtain⟨ns2,S2,a2,r2⟩:=gz S1 r1 q2;have hq:∃s2,e2[i]?=some s2/\s2.pl=true:=by
      unfold dk at q2;dsimp only at q2;split at q2
      .cases q2;exact⟨s0,q0,p0⟩
      .rename_i u q3;cases q2;by_cases z:i=j
       .subst z;exact⟨_,de hi,rfl⟩
       .exact⟨s0,by rw[cR z];exact q0,p0⟩
      .cases q2
     obtain⟨s2,hq1,hq2⟩:=hq;have hi2:=(x_.mp hq1).1;exact .nx ((a1.trans S a2).put (x:=none) (s:=.sh v) hi2 (λ_ z=>by cases z) hq1 hq2 rfl S2.l2) (S2.putN hi2 ⟨rfl,d,rfl,Rd.mono (λm o p q=>⟨fG p,q⟩) r2⟩)
    .trivial
  .trivial
 .trivial
def yI(i:Nat):RG (gN i) (pN i):=λX h0 ns e ae h d v e' S r q=>by
 unfold pN at q;split at q
 .rename_i s q0;split at q
  .rename_i p0;cases q;have hi:=(x_.mp q0).1;exact⟨_,ns.set i none,rfl,S.putN hi ⟨rfl,d,rfl,Rd.mono (λm o p q=>⟨fG p,q⟩) r⟩,Stp.refl.put (x:=none) (s:=.sh v) hi (λ_ z=>by cases z) q0 p0 rfl S.l2⟩
  .cases q
 .cases q
def Lv:RGs gsN psN:=λX h0 ns e ae h ds vs e' S r q=>by
 cases r with
 |nil=>cases q;exact⟨ae,ns,rfl,S,.refl⟩
 |cons _ _=>cases q
def Nc(hg:RG g g3)(hs:RGs gs gs3):RGs (gsC g gs) (psC g3 gs3):=λX h0 ns e ae h ds vs e' S r q=>by
 cases r with
 |nil=>cases q
 |cons r rr=>obtain⟨e1,q1,q2⟩:=OZ.mp q;obtain⟨h_,ns1,p1,S1,a1⟩:=hg _ _ _ _ _ _ _ _ _ S r q1;obtain⟨ae2,ns2,p2,S2,a2⟩:=hs _ _ _ _ _ _ _ _ _ S1 (rr.mono (a1.mov S)) q2;refine⟨ae2,ns2,?_,S2,a1.trans S a2⟩;unfold gsC;dsimp only;rw[p1];exact p2
def rg_t(n:Nat)(hs:RGs gs gs3):RG (gT λds ae h=>if ds.length=n then gs ds ae h else .stuck) (pT n gs3):=λX h0 ns e ae h d v e' S r q=>by
 unfold pT at q;split at q
 .split at q
  .rename_i hn;obtain⟨ds,rfl,r2⟩:=ShR.tup (.inl r);obtain⟨h_,ns1,p1,S1,a1⟩:=hs _ _ _ _ _ _ _ _ _ S r2 q;refine⟨h_,ns1,?_,S1,a1⟩;unfold gT;dsimp only;rw[if_pos (by rw[r2.len];exact hn)];exact p1
  .cases q
 .cases q
def Iv(hg:RG g g3):RG (λd ae h=>noX (g d ae h)) g3:=λX h0 ns e ae h d v e' S r q=>by obtain⟨h_,ns1,p1,S1,a1⟩:=hg _ _ _ _ _ _ _ _ _ S r q;exact⟨h_,ns1,by dsimp only;rw[p1];rfl,S1,a1⟩
def E4(hF:RE F F3)(hg:RG g g3):RS (i0 F g) (Dw F3 g3):=λX h0 ns e ae h S=>PoS.toS (hF X h0 0 ns e ae h S (ON _)) λd t h1 ns1 e1 a1 S1 r1=>by
 try dsimp only
 split
 .rename_i e2 v q;obtain⟨ns2,S2,a2,r2⟩:=gz S1 r1 q;split
  .rename_i e3 q3;obtain⟨ae3,ns3,p3,S3,a3⟩:=hg _ _ _ _ _ _ _ _ _ S2 r2 q3;rw[p3];exact .nx ((a1.trans S a2).trans S a3) S3
  .trivial
 .trivial
def Ld(i j:Nat)(hA:RA A A3):RS (Dl i j A) (wPar i j A3):=λX h0 ns e ae h S=>PoS.toS (hA X h0 ns e ae h S) λds ts h1 ns1 e1 a1 S1 r1=>by
 try dsimp only
 cases q:dem e1 ts with
 |none=>trivial
 |
  some w=>
  obtain⟨e2,vs⟩:=w;obtain⟨ns2,S2,a2,r2⟩:=jZ S1 r1 q
  match vs,ds,r2 with
  | [],_,_=>trivial
  | [_],_,_=>trivial
  |_::_::_::_,_,_=>trivial
  |
   [v,u],[d,d'],r2=>
   dsimp only;split
   .rename_i e3 q3;obtain⟨e4,q4,q5⟩:=OZ.mp q3;cases r2 with
    |
     cons r rr=>
     cases rr with
     |
      cons r' rr=>
      obtain⟨ae3,ns3,p3,S3,a3⟩:=yI i _ _ _ _ _ _ _ _ _ S2 r q4;obtain⟨ae4,ns4,p4,S4,a4⟩:=yI j _ _ _ _ _ _ _ _ _ S3 (r'.mono (a3.mov S2)) q5;have z3:ae3=ae.set i (some d):=by have:=p3;unfold gN at this;cases this;rfl
      have z4:ae4=ae3.set j (some d'):=by have:=p4;unfold gN at this;cases this;rfl
      subst z4 z3;exact .nx (((a1.trans S a2).trans S a3).trans S a4) S4
   .trivial
def Ky(i:Nat)(hg:RO gg gg3)(hF:RE F F3):RS (vD i gg F) (BD i gg3 F3):=λX h0 ns e ae h S=>by
 unfold BD;split
 .rename_i x q0;obtain⟨_,dx,e1,r0⟩:=S.sl i _ q0;unfold vD;rw[e1];refine PoS.toS (hF X h0 0 ns e ae h S (ON _)) λd t h1 ns1 e1 a1 S1 r1=>?_;try dsimp only
  split
  .rename_i y q1;have b:=hg _ _ _ _ _ _ (.inl (r0.mono (a1.mov S))) (r1.sh S1 q1);split
   .rename_i z q2;rw[q2] at b;obtain⟨dz,p1,r2⟩:=b;split
    .rename_i e2 q3;rw[p1];obtain⟨ae3,ns3,p3,S3,a3⟩:=yI i _ _ _ _ _ _ _ _ _ S1 r2 q3;have z3:ae3=ae.set i (some dz):=by have:=p3;unfold gN at this;cases this;rfl
     subst z3;exact .nx (a1.trans S a3) S3
    .trivial
   .trivial
  .trivial
 .trivial
def TsR.len(r:TsR X ns ae h ds ts):ds.length=ts.length:=by
 induction r with
 |nil=>rfl
 |val _ _ ih=>rw[L_,L_,ih]
 |bor _ _ ih=>rw[L_,L_,ih]
def Bw(x:Str)(hA:RA A A3):RS (uR x A) (Av x A3):=λX h0 ns e ae h S=>PoS.toS (hA X h0 ns e ae h S) λds ts h1 ns1 e1 a1 S1 r1=>by
 try dsimp only
 by_cases hl:ts.length<=16777216
 .rw[if_pos hl,if_pos (by rw[TsR.len r1];exact hl)];exact⟨ae,h1,ns1,rfl,a1,S1⟩
 .rw[if_neg hl];trivial
end
noncomputable def Sl.re(s:Sl)(u:Val):Sl:=match s with
 |.ow _=>.ow u
 |.mu _=>.mu u
 |s=>s
def Sl.mv:Sl->Option Val
 |.ow v=>some v
 |.mu v=>some v
 |_=>none
section
variable{X:Nat->Prop}{h0:Nat}{ns:Ns}{e:E3}{ae:AE}{h:AH}
def Sat.write(S:Sat X h0 ns e ae h)(q:e[i]?=some s)(hm:s.mv=some u):∃n o,ae[i]?=some (some (.ref n))/\h[n]?=some o/\dh o/\Rc (Oc X ns) h o u/\
 ∀o' u',dh o'->Rc (Oc X ns) h o' u'->Mov (Oc X ns) (Oc X ns) h (h.set n o')/\Sat X h0 ns (e.set i (s.re u')) ae (h.set n o')/\Stp ns e h ns (e.set i (s.re u')) (h.set n o'):=by
 have hi:=(x_.mp q).1;have key:∃n o,ns[i]?=some (some n)/\ae[i]?=some (some (.ref n))/\h[n]?=some o/\dh o/\Rc (Oc X ns) h o u/\s.mt=true/\(∀o' u',dh o'->Rc (Oc X ns) (h.set n o') o' u'->SlR (Oc X ns) h0 (some (some n)) (some (some (.ref n))) (h.set n o') (s.re u')):=by
  have y:=S.sl i s q;cases s with
  |ow v=>cases hm;obtain⟨n,o,q1,q2,q3,q4,q5,q6⟩:=y;exact⟨n,o,q1,q2,q4,q5,q6,rfl,λo' u' hf r=>⟨n,o',rfl,rfl,q3,de (dU q4),hf,r⟩⟩
  |mu v=>cases hm;obtain⟨n,o,q1,q2,q4,q5,q6⟩:=y;exact⟨n,o,q1,q2,q4,q5,q6,rfl,λo' u' hf r=>⟨n,o',rfl,rfl,de (dU q4),hf,r⟩⟩
  |_=>cases hm
 obtain⟨n,o,k1,k2,k3,k4,k5,k6,k7⟩:=key;refine⟨n,o,k2,k3,k4,k5,λo' u' hf r=>?_⟩;have mv:Mov (Oc X ns) (Oc X ns) h (h.set n o'):=λm ob p q'=>⟨p,by have:m≠n:=λz=>p.2 (cp.mpr ⟨i,by rw[z];exact k1⟩);rw[cR this];exact q'⟩;refine⟨mv,⟨by rw[OB];exact S.l1,by rw[OB];exact S.l2,by rw[OB];exact S.lh,λm z=>by rw[OB];exact S.xl m z,S.inj,S.nx,λj s' qj=>?_⟩,?_⟩
 .rcases cM hi qj with ⟨rfl,rfl⟩ |⟨z,qj'⟩
  .rw[k1,k2];exact k7 o' u' hf (r.mono mv)
  .refine (S.sl j s' qj').mono mv λm ob qm qo=>?_;have:m≠n:=λy=>by subst y;exact z (S.inj j i m qm k1)
   rw[cR this];exact qo
 .refine⟨by rw[OB];exact z_ _,λm ob qm hM=>?_,λ_ _ q=>.inl q,λj s' qj hl=>?_,λj s' qj hl=>?_,λj v qj=>?_,λj v qj=>?_⟩
  .have:m≠n:=λy=>by subst y;exact hM ⟨i,s,k1,q,k6⟩
   rw[cR this];exact qm
  .have z:j≠i:=λz=>by subst z;rw[q] at qj;cases qj;cases s <;> first |cases hl;done |cases k6;done
   rw[cR z];exact⟨qj,rfl⟩
  .rcases cM hi qj with ⟨_,y⟩ |⟨z,qj'⟩
   .subst y;cases s <;> first |cases hl;done |cases k6;done
   .exact⟨qj',rfl⟩
  .rcases cM hi qj with ⟨rfl,y⟩ |⟨z,qj'⟩
   .cases s with
    |mu w=>exact⟨w,q,rfl⟩
    |ow w=>cases y
    |_=>cases k6
   .exact⟨v,qj',rfl⟩
  .by_cases z:j=i
   .subst z;rw[q] at qj;cases qj;exact⟨u',de hi,rfl⟩
   .exact⟨v,by rw[cR z];exact qj,rfl⟩
end
def BC(w2:D->D->D->AH->R Unit)(w3:Val->Val->Val->Option Val):Prop:=∀P h n o u di vi d v u',¬ P n->h[n]?=some o->dh o->Rc P h o u->ShR P h di vi->Rd P h d v->w3 u vi v=some u'->∃o',w2 (.ref n) di d h=.ok () (h.set n o')/\dh o'/\Rc P h o' u'
noncomputable def wSet(i:Nat)(G:ME3)(F:ME3)(w:Val->Val->Val->Option Val):MS3:=λe=>(F e).toS λt e1=>match (e1[i]?).bind Sl.mv with
 |none=>.stuck
 |some _=>(G e1).toS λt2 e2=>match rs e2 t2 with
  |none=>.stuck
  |some vi=>match dk e2 t.drop with
   |none=>.stuck
   |some (e3,v)=>match e3[i]? with
    |none=>.stuck
    |some s=>match s.mv with
     |none=>.stuck
     |some u=>match w u vi v with
      |some u'=>.nx (e3.set i (s.re u'))
      |none=>.stuck
def RM(m2:D->List D->AH->R D)(m3:Val->List Val->Option (Val×Val)):Prop:=∀P h n o u ds vs u' v,h[n]?=some o->dh o->Rc P h o u->Rds P h ds vs->m3 u vs=some (u',v)->mT h (.ref n)=true/\∃o' d,m2 (.ref n) ds h=.ok d (h.set n o')/\dh o'/\Rc P h o' u'/\Rd P h d v
noncomputable def mq:Val->Bool
 |.lst _=>true
 |_=>false
noncomputable def n6(i:Nat)(m:Val->List Val->Option (Val×Val))(A:MA3):ME3:=λe=>match e[i]? with
 |some s=>if (s.mv.map mq)=some true then (A e).bind λts e1=>match dem e1 ts with
  |some (e2,vs)=>match e2[i]? with
   |some s2=>match s2.mv with
    |some u=>match m u vs with
     |some (u',v)=>.ok (.val v) (e2.set i (s2.re u'))
     |none=>.stuck
    |none=>.stuck
   |none=>.stuck
  |none=>.stuck else .stuck
 |none=>.stuck
section
variable{F G:ME}{F3 G3:ME3}{A:MA}{A3:MA3}
def EZ{X:Nat->Prop}{h0:Nat}{ns:Ns}{e:E3}{ae:AE}{h:AH}(S:Sat X h0 ns e ae h){i:Nat}{u:Val}(q:(e[i]?).bind Sl.mv=some u):∃n o,ae[i]?=some (some (.ref n))/\h[n]?=some o/\dh o/\Rc (Oc X ns) h o u:=by obtain⟨s,q1,q2⟩:=OZ.mp q;obtain⟨n,o,k1,k2,k3,k4,_⟩:=S.write q1 q2;exact⟨n,o,k1,k2,k3,k4⟩
def Jv(i:Nat)(hw:BC w2 w3)(hG:RE G G3)(hF:RE F F3):RS (i0 F (gS (dN i) G w2)) (wSet i G3 F3 w3):=λX h0 ns e ae h S=>PoS.toS (hF X h0 0 ns e ae h S (ON _)) λd t h1 ns1 e1 a1 S1 r1=>by
 try dsimp only
 cases qm:(e1[i]?).bind Sl.mv with
 |none=>trivial
 |
  some u0=>
  obtain⟨n0,o0,b1,b2,b3,b4⟩:=EZ S1 qm;have L2e:∀h',(gS (dN i) G w2 d ae h').toS ae (λd_ h2=>SR.nx d_ h2)=(G ae h').toS ae λdi h2=>(w2 (.ref n0) di d h2).toS ae λ_ h3=>.nx ae h3:=λh'=>by
   unfold gS dN;rw[b1];simp only[ji];cases G ae h' with
   |ok di h2=>simp only[ji];show _=(w2 (.ref n0) di d h2).toS ae λ_ h3=>.nx ae h3;cases w2 (.ref n0) di d h2 <;> rfl
   |exc c h2=>rfl
   |stuck=>rfl
  rw[L2e];refine PoS.after S a1 (PoS.toS (hG X h0 0 ns1 e1 ae h1 S1 (ON _)) λdi t2 h2 ns2 e2 a2 S2 r2=>?_);try dsimp only
  cases qi:rs e2 t2 with
  |none=>trivial
  |
   some vi=>
   try dsimp only
   cases qd:dk e2 t.drop with
   |none=>trivial
   |
    some w=>
    obtain⟨e3,v⟩:=w;try dsimp only
    obtain⟨r1',hn⟩:=r1.drop;have r3:=r1'.stp S1 a2 hn;have si:=r2.sh S2 qi;obtain⟨ns3,S3,a3,r4⟩:=gz S2 r3 qd;have si3:ShR (Oc X ns3) h2 di vi:=by
     rcases si with z |⟨n,o,z1,z2,z3⟩
     .exact .inl (z.mono (a3.mov S2))
     .exact .inr ⟨n,o,z1,z2,z3.mono (a3.mov S2)⟩
    cases q3:e3[i]? with
    |none=>trivial
    |
     some s=>
     try dsimp only
     cases q4:s.mv with
     |none=>trivial
     |
      some u=>
      try dsimp only
      cases q5:w3 u vi v with
      |none=>trivial
      |
       some u'=>
       obtain⟨n,o,k1,k2,k3,k4,k5⟩:=S3.write q3 q4;rw[b1] at k1;cases k1;have nP:¬ Oc X ns3 n0:=λp=>by have z1:=((k5 (.lst []) (.lst []) trivial (.lst .nil)).1 _ _ p k2).2;have z2:=((k5 (.lst [.non]) (.lst [.non]) trivial (.lst (.cons .non .nil))).1 _ _ p k2).2;rw[de (dU k2)] at z1 z2;rw[<- z2] at z1;cases z1
       obtain⟨o',p1,p2,p3⟩:=hw _ _ _ _ _ _ _ _ _ _ nP k2 k3 k4 si3 r4 q5;obtain⟨mv,S4,a4⟩:=k5 o' u' p2 p3;rw[p1];exact .nx ((a2.trans S1 a3).trans S1 a4) S4
def AM(i:Nat)(hm:RM m2 m3)(hA:RA A A3):RE (eM m2 (dN i) A) (n6 i m3 A3):=λX h0 L ns e ae h S hl=>by
 unfold n6;cases q0:e[i]? with
 |none=>trivial
 |
  some s0=>
  dsimp only;split
  .rename_i hz;obtain⟨u0,z1,z2⟩:=OH.mp hz;obtain⟨n0,o0,b1,b2,b3,b4,_⟩:=S.write q0 z1;have hL:mT h (.ref n0)=true:=by
    cases u0 with
    |lst xs=>obtain⟨ds,_,e1,_⟩:=Rc.seq b2 b4;show (cE h n0).isSome=true;rw[e1];rfl
    |_=>cases z2
   have L2e:eM m2 (dN i) A ae h=(A ae h).bind λds h2=>m2 (.ref n0) ds h2:=by unfold eM dN;rw[b1];simp only[ji,hL,PM]
   rw[L2e];refine Po.bind S (hA X h0 ns e ae h S) λds ts h1 ns1 e1 a1 S1 r1=>?_;try dsimp only
   cases q1:dem e1 ts with
   |none=>trivial
   |
    some w=>
    obtain⟨e2,vs⟩:=w;try dsimp only
    obtain⟨ns2,S2,a2,r2⟩:=jZ S1 r1 q1;cases q2:e2[i]? with
    |none=>trivial
    |
     some s2=>
     try dsimp only
     cases q3:s2.mv with
     |none=>trivial
     |
      some u=>
      try dsimp only
      cases q4:m3 u vs with
      |none=>trivial
      |some w=>obtain⟨u',v⟩:=w;obtain⟨n,o,k1,k2,k3,k4,k5⟩:=S2.write q2 q3;rw[b1] at k1;cases k1;obtain⟨_,o',d,p1,p2,p3,p4⟩:=hm _ _ _ _ _ _ _ _ _ k2 k3 k4 r2 q4;obtain⟨mv,S4,a4⟩:=k5 o' u' p2 p3;exact⟨d,_,ns2,p1,a2.trans S1 a4,S4,p4.mono mv⟩
  .trivial
def Gn(i:Nat)(hm:RM m2 m3):RE (eM0 m2 (dN i)) (n6 i m3 qc):=by
 have:=AM i hm AI
 intro X h0 L ns e ae h S hl;have p:=this X h0 L ns e ae h S hl;have e1:eM m2 (dN i) kX ae h=eM0 m2 (dN i) ae h:=by unfold eM eM0 kX;rfl
 rw[e1] at p;exact p
end
noncomputable def kT:Sl->Sl
 |.ow v=>.lo v
 |.mu v=>.lm v
 |s=>s
noncomputable def mD:Sl->Sl
 |.lo v=>.ow v
 |.lm v=>.mu v
 |s=>s
noncomputable def lock(e:E3)(k:Nat):E3:=match e[k]? with
 |some s=>e.set k (kT s)
 |none=>e
noncomputable def unlock(e:E3)(k:Nat):E3:=match e[k]? with
 |some s=>e.set k (mD s)
 |none=>e
noncomputable def lockO(e:E3):Option Nat->E3
 |some k=>lock e k
 |none=>e
def gF(e:E3):Option Nat->E3
 |some k=>unlock e k
 |none=>e
section
variable{X:Nat->Prop}{h0:Nat}{ns ns':Ns}{e e':E3}{ae:AE}{h h':AH}
def SlR.lock(r:SlR P h0 n d h s):SlR P h0 n d h (kT s):=by cases s <;> exact r
def SlR.unlock(r:SlR P h0 n d h s):SlR P h0 n d h (mD s):=by cases s <;> exact r
def Sat.lock(S:Sat X h0 ns e ae h)(k:Nat):Sat X h0 ns (lock e k) ae h:=by
 unfold L3.lock;split
 .rename_i s q;have hi:=(x_.mp q).1;refine⟨by rw[OB];exact S.l1,by rw[OB];exact S.l2,S.lh,S.xl,S.inj,S.nx,λj s' qj=>?_⟩;rcases cM hi qj with ⟨rfl,rfl⟩ |⟨z,qj'⟩
  .exact (S.sl j s q).lock
  .exact S.sl j s' qj'
 .exact S
def Sat.unlock(S:Sat X h0 ns e ae h)(k:Nat):Sat X h0 ns (unlock e k) ae h:=by
 unfold L3.unlock;split
 .rename_i s q;have hi:=(x_.mp q).1;refine⟨by rw[OB];exact S.l1,by rw[OB];exact S.l2,S.lh,S.xl,S.inj,S.nx,λj s' qj=>?_⟩;rcases cM hi qj with ⟨rfl,rfl⟩ |⟨z,qj'⟩
  .exact (S.sl j s q).unlock
  .exact S.sl j s' qj'
 .exact S
def kh(z:j≠k):(lock e k)[j]?=e[j]?:=by
 unfold lock;split
 .rw[cR z]
 .rfl
def iM(z:j≠k):(unlock e k)[j]?=e[j]?:=by
 unfold unlock;split
 .rw[cR z]
 .rfl
def pS(q:e[k]?=some s):(lock e k)[k]?=some (kT s):=by unfold lock;rw[q];exact de (x_.mp q).1
def jE(q:e[k]?=some s):(unlock e k)[k]?=some (mD s):=by unfold unlock;rw[q];exact de (x_.mp q).1
def Stp.unlock(q:e[k]?=some s)(hs:s.mt=true)(a:Stp ns (L3.lock e k) h ns' e' h'):Stp ns e h ns' (L3.unlock e' k) h':=by
 have hl:(kT s).lk=true:=by cases s <;> first |rfl |cases hs
 have hu:mD (kT s)=s:=by cases s <;> first |rfl |cases hs
 obtain⟨qk,nk⟩:=a.lk k _ (pS q) hl;refine⟨a.len,λm o qm hM=>a.keep m o qm λ⟨j,s',z1,z2,z3⟩=>hM ?_,a.nw,λj s' qj hj=>?_,λj s' qj hj=>?_,λj v qj=>?_,λj v qj=>?_⟩
 .by_cases z:j=k
  .subst z;exact⟨j,s,z1,q,hs⟩
  .rw[kh z] at z2;exact⟨j,s',z1,z2,z3⟩
 .have z:j≠k:=λz=>by subst z;rw[q] at qj;cases qj;cases s <;> first |cases hs;done |cases hj;done
  rw[iM z];exact a.lk j s' (by rw[kh z];exact qj) hj
 .have z:j≠k:=λz=>by subst z;rw[jE qk,hu] at qj;cases qj;cases s <;> first |cases hs;done |cases hj;done
  rw[iM z] at qj;obtain⟨y1,y2⟩:=a.lk' j s' qj hj;rw[kh z] at y1;exact⟨y1,y2⟩
 .by_cases z:j=k
  .subst z;rw[jE qk,hu] at qj;cases qj;exact⟨v,q,nk⟩
  .rw[iM z] at qj;obtain⟨u,y1,y2⟩:=a.mu j v qj;rw[kh z] at y1;exact⟨u,y1,y2⟩
 .by_cases z:j=k
  .subst z;rw[q] at qj;cases qj;exact⟨v,by rw[jE qk,hu],nk⟩
  .obtain⟨u,y1,y2⟩:=a.mu' j v (by rw[kh z];exact qj);exact⟨u,by rw[iM z];exact y1,y2⟩
end
abbrev MI3:=E3->R3 (List Val×Option Nat)
def Stay(X:Nat->Prop)(ns:Ns)(k:Option Nat)(h h':AH):Prop:=∀(m:Nat) (o:Ob),h[m]?=some o->(Oc X ns m\/∃j:Nat,k=some j/\ns[j]?=some (some m))->h'[m]?=some o
def uD(X:Nat->Prop)(ns:Ns)(e:E3)(h:AH)(it:AIt)(p:List Val×Option Nat):Prop:=
 Rds (Oc X ns) h it.items p.1/\(∀h',Stay X ns p.2 h h'->it.guard h')/\∀k:Nat,p.2=some k->∃s,e[k]?=some s/\s.mt=true
def RI(I:MI)(J:MI3):Prop:=∀X h0 ns e ae h,Sat X h0 ns e ae h->Po X h0 ns e ae h (uD X) (I ae h) (J e)
noncomputable def iD:Val->Option (List Val)
 |.tup xs=>some xs
 |.lst xs=>some xs
 |_=>none
noncomputable def fK(t:Tm)(e:E3):Option (List Val×Option Nat):=match t with
 |.val v=>(iD v).map λxs=>(xs,none)
 |.new v=>(iD v).map λxs=>(xs,none)
 |.bor k=>match e[k]? with
  |some (.sh v)=>(iD v).map λxs=>(xs,none)
  |some (.ow (.lst xs))=>some (xs,some k)
  |some (.mu (.lst xs))=>some (xs,some k)
  |_=>none
noncomputable def D7(F:ME3):MI3:=λe=>(F e).bind λt e1=>match fK t e1 with
 |some p=>.ok p e1
 |none=>.stuck
def qU:Nat->List Val->List Val
 |_,[]=>[]
 |i,d::ds=>.tup [.int (i:Nat),d]::qU (i+1) ds
def DL(A:MA3):MI3:=λe=>(A e).bind λts e1=>match ts with
 | [t]=>(match fK t e1 with
  |some p=>.ok (qU 0 p.1,p.2) e1
  |none=>.stuck)
 |_=>.stuck
noncomputable def D9(A:MA3):MI3:=λe=>(A e).bind λts e1=>match ts with
 | [t,u]=>(match fK t e1,fK u e1 with
  |some (xs,k),some (ys,none)=>.ok (List.zipWith (λx y=>.tup [x,y]) xs ys,k) e1
  |_,_=>.stuck)
 |_=>.stuck
noncomputable def rf(lo:Int)(k:Nat):List Val:=(List.range k).map λi=>Val.int (lo+(i:Nat))
structure RgB(j:Int):Prop where
 lo:-(2^62)<=j
 hi:j<2^62
def iV:List Val->Option (List Val)
 | [.int j]=>@ite _ (RgB j) (Classical.propDecidable _) (some (rf 0 j.toNat)) none
 |_=>none
def qT:List Val->Option (List Val)
 | [.int i,.int j]=>@ite _ (RgB i/\RgB j) (Classical.propDecidable _) (some (rf i (j-i).toNat)) none
 |_=>none
noncomputable def ug(f:List Val->Option (List Val))(A:MA3):MI3:=λe=>(A e).bind λts e1=>match (rss e1 ts).bind f with
 |some xs=>.ok (xs,none) e1
 |none=>.stuck
section
variable{F:ME}{F3:ME3}{A:MA}{A3:MA3}
def xS(S:Sat X h0 ns e ae h)(r:Rd (Oc X ns) h d v)(q:iD v=some xs):∃it,iF d h=some it/\uD X ns e h it (xs,none):=by
 cases v with
 |tup ys=>cases q;obtain⟨ds,rfl,r2⟩:=ShR.tup (.inl r);exact⟨_,rfl,r2,λ_ _=>trivial,λ_ z=>nomatch z⟩
 |
  lst ys=>
  cases q;cases r with
  |
   cell p eo rc=>
   rename_i n o;obtain⟨ds,_,e1,r1⟩:=Rc.seq eo rc;refine⟨.lst n ds,by unfold iF;dsimp only;rw[e1];rfl,r1,λh' st=>?_,λ_ z=>nomatch z⟩;show cE h' n=some ds
   have:=st n o eo (.inl p)
   unfold cE at e1 ⊢;rw[eo] at e1;rw[this];exact e1
 |_=>cases q
def om(S:Sat X h0 ns e ae h)(r:relE X h0 L ae ns e h d t)(q:fK t e=some p):∃it,iF d h=some it/\uD X ns e h it p:=by
 cases t with
 |val v=>obtain⟨xs,q1,rfl⟩:=OH.mp q;exact xS S r q1
 |new v=>obtain⟨xs,q1,rfl⟩:=OH.mp q;exact xS S r.new q1
 |
  bor k=>
  have r':ae[k]?=some (some d):=r;have own:∀{s xs},e[k]?=some s->s.mv=some (.lst xs)->∃it,iF d h=some it/\uD X ns e h it (xs,some k):=λ{s xs} q qm=>by
   have hns:∃n,ns[k]?=some (some n)/\ae[k]?=some (some (.ref n)):=by
    have y:=S.sl k s q;cases s with
    |ow v=>obtain⟨n,o,y1,y2,_⟩:=y;exact⟨n,y1,y2⟩
    |mu v=>obtain⟨n,o,y1,y2,_⟩:=y;exact⟨n,y1,y2⟩
    |_=>cases qm
   obtain⟨n,y1,y2⟩:=hns;obtain⟨n',o,k1,k2,k3,k4,_⟩:=S.write q qm;rw[y2] at k1;cases k1;rw[r'] at y2;cases y2;obtain⟨ds,_,e2,r2⟩:=Rc.seq k2 k4;refine⟨.lst n ds,by unfold iF;dsimp only;rw[e2];rfl,r2,λh' st=>?_,λj z=>?_⟩
   .show cE h' n=some ds
    have:=st n o k2 (.inr ⟨k,rfl,y1⟩)
    unfold cE at e2 ⊢;rw[k2] at e2;rw[this];exact e2
   .cases z;exact⟨s,q,by cases s <;> first |rfl |cases qm⟩
  unfold fK at q;dsimp only at q;split at q
  .rename_i v qs;obtain⟨_,x,e2,r2⟩:=S.sl k _ qs;rw[r'] at e2;cases e2;obtain⟨xs,q1,rfl⟩:=OH.mp q;exact xS S r2 q1
  .rename_i xs qs;cases q;exact own qs rfl
  .rename_i xs qs;cases q;exact own qs rfl
  .cases q
noncomputable def Dm(d:D)(h:AH):R AIt:=match d with
 |.tup xs=>.ok (.tup xs) h
 |.ref n=>match cE h n with
  |some xs=>.ok (.lst n xs) h
  |none=>.stuck
 |_=>.stuck
def Ep(q:iF d h=some it):Dm d h=.ok it h:=by
 cases d with
 |tup xs=>cases q;rfl
 |ref n=>obtain⟨xs,y1,rfl⟩:=OH.mp (show (cE h n).map (AIt.lst n)=some it from q);unfold Dm;dsimp only;rw[y1]
 |_=>cases q
def Lo(hF:RE F F3):RI (Dc F) (D7 F3):=λX h0 ns e ae h S=>
 Po.bind S (hF X h0 0 ns e ae h S (ON _)) λd t h1 ns1 e1 a1 S1 r1=>by
  show Po X h0 ns1 e1 ae h1 (uD X) (Dm d h1) _;cases q:fK t e1 with
  |none=>trivial
  |some p=>dsimp only;obtain⟨it,q1,q2⟩:=om S1 r1 q;exact⟨it,h1,ns1,Ep q1,.refl,S1,q2⟩
def E9(k:Nat)(r:Rds P h ds vs):Rds P h (iZ k ds) (qU k vs):=
 r.ind (M:=λds vs=>∀k,Rds P h (iZ k ds) (qU k vs)) (λ_=>.nil) (λr _ ih k=>.cons (.tup (.cons (.int _) (.cons r .nil))) (ih (k+1))) k
def FC(r:Rds P h ds vs)(q:Rds P h es us):Rds P h (List.zipWith (λx y=>D.tup [x,y]) ds es) (List.zipWith (λx y=>Val.tup [x,y]) vs us):=
 r.ind (M:=λds vs=>∀{es:List D}{us:List Val},Rds P h es us->Rds P h (List.zipWith (λx y=>D.tup [x,y]) ds es) (List.zipWith (λx y=>Val.tup [x,y]) vs us)) (λ_=>.nil) (λr _ ih _ _ q=>by
  cases q with
  |nil=>exact .nil
  |cons q qq=>exact .cons (.tup (.cons r (.cons q .nil))) (ih qq)) q
def C8(r:TsR X ns ae h ds [t]):∃d,ds=[d]/\relE X h0 0 ae ns e h d t:=by
 cases r with
 |val r rr=>cases rr;exact⟨_,rfl,r⟩
 |bor r rr=>cases rr;exact⟨_,rfl,r⟩
def tsr2(r:TsR X ns ae h ds [t,u]):∃d d',ds=[d,d']/\relE X h0 0 ae ns e h d t/\relE X h0 0 ae ns e h d' u:=by
 cases r with
 |val r rr=>obtain⟨d',rfl,r'⟩:=C8 (h0:=h0) (e:=e) rr;exact⟨_,_,rfl,r,r'⟩
 |bor r rr=>obtain⟨d',rfl,r'⟩:=C8 (h0:=h0) (e:=e) rr;exact⟨_,_,rfl,r,r'⟩
def Jk(hA:RA A A3):RI (B4 A) (DL A3):=λX h0 ns e ae h S=>
 Po.bind S (hA X h0 ns e ae h S) λds ts h1 ns1 e1 a1 S1 r1=>by
  match ts,r1 with
  | [],_=>trivial
  |_::_::_,_=>trivial
  |
   [t],r1=>
   obtain⟨d,rfl,r2⟩:=C8 (h0:=h0) (e:=e1) r1;dsimp only;cases q:fK t e1 with
   |none=>trivial
   |some p=>obtain⟨it,q1,q2,q3,q4⟩:=om S1 r2 q;rw[q1];exact⟨.enm it,h1,ns1,rfl,.refl,S1,E9 0 q2,q3,q4⟩
def Jq(hA:RA A A3):RI (Bi A) (D9 A3):=λX h0 ns e ae h S=>
 Po.bind
  S (hA X h0 ns e ae h S) λds ts h1 ns1 e1 a1 S1 r1=>by
  match ts,r1 with
  | [],_=>trivial
  | [_],_=>trivial
  |_::_::_::_,_=>trivial
  |
   [t,u],r1=>
   obtain⟨d,d',rfl,r2,r3⟩:=tsr2 (h0:=h0) (e:=e1) r1;dsimp only;cases q:fK t e1 with
   |none=>trivial
   |
    some p=>
    obtain⟨xs,k⟩:=p;cases q':fK u e1 with
    |none=>trivial
    |
     some p'=>
     obtain⟨ys,k'⟩:=p';cases k' with
     |some _=>trivial
     |none=>obtain⟨it,q1,q2,q3,q4⟩:=om S1 r2 q;obtain⟨it',q1',q2',q3',q4'⟩:=om S1 r3 q';rw[q1,q1'];exact⟨.zip it it',h1,ns1,rfl,.refl,S1,FC q2 q2',λh' st=>⟨q3 h' st,q3' h' λm o hm hc=>st m o hm (hc.elim .inl λ⟨_,z,_⟩=>nomatch z)⟩,q4⟩
def El(lo:Int)(k:Nat):Rds P h (AIt.rng lo k).items (rf lo k):=by
 show Rds P h ((List.range k).map λi=>D.int (lo+(i:Nat))) ((List.range k).map λi=>Val.int (lo+(i:Nat)));generalize List.range k=l;induction l with
 |nil=>exact .nil
 |cons i l ih=>exact .cons (.int _) ih
def jA(r:ShRs P h ds [v]):∃d,ds=[d]/\ShR P h d v:=by cases r with |cons r rr=>cases rr;exact⟨_,rfl,r⟩
def xt(r:ShRs P h ds [v,u]):∃d d',ds=[d,d']/\ShR P h d v/\ShR P h d' u:=by cases r with |cons r rr=>cases rr with |cons r' rr=>cases rr;exact⟨_,_,rfl,r,r'⟩
def DK(hf:∀P h ds vs xs,ShRs P h ds vs->f3 vs=some xs->∃lo k,f2 ds h=.ok (.rng lo k) h/\xs=rf lo k)(hA:RA A A3):RI (λae h=>(A ae h).bind f2) (ug f3 A3):=λX h0 ns e ae h S=>
 Po.bind S (hA X h0 ns e ae h S) λds ts h1 ns1 e1 a1 S1 r1=>by
  try dsimp only
  split
  .rename_i xs q;obtain⟨vs,q1,q2⟩:=OZ.mp q;obtain⟨lo,k,p1,rfl⟩:=hf _ _ _ _ _ (TsR.sh S1 r1 q1) q2;rw[p1];exact Po.ret S1 ⟨El _ _,λ_ _=>trivial,λ_ z=>nomatch z⟩
  .trivial
def G8(hA:RA A A3):RI (B0 A) (ug iV A3):=DK (f2:=λds h1=>match ds with
 | [.int j]=>if -(2^62)<=j/\j<2^62 then .ok (.rng 0 j.toNat) h1 else .stuck
 |
  _=>.stuck) (λP h ds vs xs r q=>by
  unfold iV at q;split at q
  .split at q
   .rename_i hb;cases q;obtain⟨d,rfl,r2⟩:=jA r;obtain rfl:=r2.int;exact⟨_,_,by dsimp only;rw[if_pos ⟨hb.lo,hb.hi⟩],rfl⟩
   .cases q
  .cases q) hA
def Ia(hA:RA A A3):RI (Dn A) (ug qT A3):=DK (f2:=λds h1=>match ds with
 | [.int i,.int j]=>if -(2^62)<=i/\i<2^62/\-(2^62)<=j/\j<2^62 then .ok (.rng i (j-i).toNat) h1 else .stuck
 |
  _=>.stuck) (λP h ds vs xs r q=>by
  unfold qT at q;split at q
  .split at q
   .rename_i hb;cases q;obtain⟨d,d',rfl,r2,r3⟩:=xt r;obtain rfl:=r2.int;obtain rfl:=r3.int;exact⟨_,_,by dsimp only;rw[if_pos ⟨hb.1.lo,hb.1.hi,hb.2.lo,hb.2.hi⟩],rfl⟩
   .cases q
  .cases q) hA
end
noncomputable def SR3.loop(r:SR3)(f:E3->SR3):SR3:=match r with
 |.nx e=>f e
 |.ct e=>f e
 |.bk e=>.nx e
 |.rt d e=>.rt d e
 |.exc c e=>.exc c e
 |.stuck=>.stuck
noncomputable def dJ(g:MG3)(B:MS3):List Val->MS3
 | [],e=>.nx e
 |v::vs,e=>match g v e with
  |some e1=>(B e1).loop (dJ g B vs)
  |none=>.stuck
noncomputable def SR3.unl(k:Option Nat)(r:SR3):SR3:=match r with
 |.nx e=>.nx (gF e k)
 |.ct e=>.ct (gF e k)
 |.bk e=>.bk (gF e k)
 |.rt d e=>.rt d (gF e k)
 |.exc c e=>.exc c (gF e k)
 |.stuck=>.stuck
def wFor(I:MI3)(g:MG3)(B:MS3):MS3:=λe=>(I e).toS λp e1=>(dJ g B p.1 (lockO e1 p.2)).unl p.2
section
variable{I:MI}{I3:MI3}{g:MG}{g3:MG3}{B:MS}{B3:MS3}{c:MT}{c3:MT3}
def PoS.loop{X:Nat->Prop}{h0:Nat}{ns:Ns}{e:E3}{ae:AE}{h:AH}{r2:SR}{r3:SR3}{f2:AE->AH->SR}{f3:E3->SR3}(p:PoS X h0 ns e h r2 r3)
 (k:∀d_ h' ns' e',Stp ns e h ns' e' h'->Sat X h0 ns' e' d_ h'->PoS X h0 ns e h (f2 d_ h') (f3 e')):PoS X h0 ns e h (r2.loop f2) (r3.loop f3):=by
 cases r3 with
 |stuck=>trivial
 |nx e'=>obtain⟨d_,h',ns',q,q1,q2⟩:=p;rw[q];exact k d_ h' ns' e' q1 q2
 |ct e'=>obtain⟨d_,h',ns',q,q1,q2⟩:=p;rw[q];exact k d_ h' ns' e' q1 q2
 |bk e'=>obtain⟨d_,h',ns',q,q1,q2⟩:=p;rw[q];exact⟨d_,h',ns',rfl,q1,q2⟩
 |exc c e'=>obtain⟨d_,h',ns',q,q1,q2⟩:=p;rw[q];exact⟨d_,h',ns',rfl,q1,q2⟩
 |rt r e'=>obtain⟨d,d_,h',ns',q,q1,q2⟩:=p;rw[q];exact⟨d,d_,h',ns',rfl,q1,q2⟩
def Eu(S:Sat X h0 ns e ae h)(hk:∀j:Nat,k=some j->∃s,e[j]?=some s/\s.mt=true)(a:Stp ns (lockO e k) h ns' e' h'):Stay X ns k h h':=λm o q hm=>by
 refine a.keep m o q λ⟨i,s,z1,z2,z3⟩=>?_;rcases hm with hm |⟨j,rfl,hj⟩
 .exact hm.2 (cp.mpr ⟨i,z1⟩)
 .have:i=j:=S.inj i j m z1 hj;subst this;obtain⟨s',y1,y2⟩:=hk i rfl;have:(lockO e (some i))[i]?=some (kT s'):=pS y1;rw[this] at z2;cases z2;cases s' <;> first |cases y2;done |cases z3;done
def PoS.unl(hk:∀j:Nat,k=some j->∃s,e[j]?=some s/\s.mt=true)(p:PoS X h0 ns (lockO e k) h r2 r3):PoS X h0 ns e h r2 (r3.unl k):=by
 cases k with
 |none=>cases r3 <;> exact p
 |
  some j=>
  obtain⟨s,y1,y2⟩:=hk j rfl;cases r3 with
  |stuck=>trivial
  |nx e'=>obtain⟨d_,h',ns',q,q1,q2⟩:=p;exact⟨d_,h',ns',q,q1.unlock y1 y2,q2.unlock j⟩
  |ct e'=>obtain⟨d_,h',ns',q,q1,q2⟩:=p;exact⟨d_,h',ns',q,q1.unlock y1 y2,q2.unlock j⟩
  |bk e'=>obtain⟨d_,h',ns',q,q1,q2⟩:=p;exact⟨d_,h',ns',q,q1.unlock y1 y2,q2.unlock j⟩
  |exc c e'=>obtain⟨d_,h',ns',q,q1,q2⟩:=p;exact⟨d_,h',ns',q,q1.unlock y1 y2,q2.unlock j⟩
  |
   rt r e'=>
   obtain⟨d,d_,h',ns',q,q1,q2⟩:=p;refine⟨d,d_,h',ns',q,q1.unlock y1 y2,?_⟩;cases r with
   |val v=>exact⟨q2.1.unlock j,q2.2⟩
   |new v=>obtain⟨n,o,z1,z2,z3,z4,z5,z6,z7⟩:=q2;exact⟨n,o,z1,z2,z3,z4,z5,z6.unlock j,z7⟩
   |
    par i=>
    obtain⟨z1,z2,v,z3⟩:=q2;refine⟨z1.unlock j,z2,v,?_⟩;by_cases z:i=j
    .subst z;exact jE z3
    .exact (iM z).trans z3
   |pr v u=>obtain⟨d1,n,o,z1,z2,z3,z4,z5,z6,z7⟩:=q2;exact⟨d1,n,o,z1,z2,z3,z4,z5,z6.unlock j,z7⟩
def Sat.lockO(S:Sat X h0 ns e ae h)(k:Option Nat):Sat X h0 ns (lockO e k) ae h:=by
 cases k with
 |none=>exact S
 |some k=>exact S.lock k
def Gv{X:Nat->Prop}{h0:Nat}{ns:Ns}{e:E3}{ae:AE}{h:AH}{G:AH->Prop}(S:Sat X h0 ns e ae h)(hg:RG g g3)(hB:RS B B3)(hG:∀ns' e' h',Stp ns e h ns' e' h'->G h'):
 ∀{ds:List D}{vs:List Val},Rds (Oc X ns) h ds vs->∀{ns1:Ns}{e1:E3}{h_:AE}{h1:AH},Stp ns e h ns1 e1 h1->Sat X h0 ns1 e1 h_ h1->PoS X h0 ns e h (lA G g B ds h_ h1) (dJ g3 B3 vs e1):=by
 intro ds;induction ds with
 |nil=>intro vs r ns1 e1 h_ h1 a1 S1;cases r;unfold lA;rw[if_pos (hG _ _ _ a1)];exact .nx a1 S1
 |
  cons d0 ds ih=>
  intro vs r ns1 e1 h_ h1 a1 S1;cases r with
  |
   cons r rr=>
   unfold lA dJ;rw[if_pos (hG _ _ _ a1)];split
   .rename_i e2 q;obtain⟨ae2,ns2,p2,S2,a2⟩:=hg _ _ _ _ _ _ _ _ _ S1 (r.mono (a1.mov S)) q;rw[p2];have a12:=a1.trans S a2;show PoS X h0 ns e h ((B ae2 h1).loop _) _;refine PoS.loop (ae:=ae) (PoS.after S a12 (hB X h0 ns2 e2 ae2 h1 S2)) λae3 h3 ns3 e3 a3 S3=>ih rr a3 S3
   .trivial
def IV(hI:RI I I3)(hg:RG g g3)(hB:RS B B3):RS (Cs I g B) (wFor I3 g3 B3):=λX h0 ns e ae h S=>PoS.toS (hI X h0 ns e ae h S) λit p h1 ns1 e1 a1 S1 r1=>by obtain⟨r2,gd,hk⟩:=r1;refine PoS.after S a1 (PoS.unl hk ?_);have S2:=S1.lockO p.2;exact Gv S2 hg hB (λns' e' h' a=>gd h' (Eu S1 hk a)) r2 .refl S2
noncomputable def whV(c:MT3)(B:MS3):Nat->MS3
 |0,_=>.stuck
 |k+1,e=>(c e).toS λb e1=>if b=true then (B e1).loop (whV c B k) else .nx e1
open Classical in
def wWh(c:MT3)(B:MS3):MS3:=λe=>if q:∃k,whV c B k e ≠ .stuck then whV c B q.choose e else .stuck
theorem nA{c:MT3}{B:MS3}:∀{k:Nat}{e:E3},whV c B k e ≠ .stuck->whV c B (k+1) e=whV c B k e
 |0,_,q=>absurd rfl q
 |
  k+1,e,q=>by
  have e1:whV c B (k+2) e=(c e).toS λb e1=>if b=true then (B e1).loop (whV c B (k+1)) else .nx e1:=rfl
  have e2:whV c B (k+1) e=(c e).toS λb e1=>if b=true then (B e1).loop (whV c B k) else .nx e1:=rfl
  rw[e2] at q;rw[e1,e2];cases r:c e with
  |exc _ _=>rfl
  |stuck=>rfl
  |
   ok b h1=>
   rw[r] at q;cases b with
   |false=>rfl
   |
    true=>
    have q':(B h1).loop (whV c B k) ≠ .stuck:=q;show (B h1).loop (whV c B (k+1))=(B h1).loop (whV c B k);cases s:B h1 with
    |nx a2=>rw[s] at q';exact nA q'
    |ct a2=>rw[s] at q';exact nA q'
    |_=>rfl
def AL{c:MT3}{B:MS3}{k j:Nat}{e:E3}(q:whV c B k e ≠ .stuck)(hj:k<=j):whV c B j e=whV c B k e:=by
 induction hj with
 |refl=>rfl
 |step _ ih=>rw[nA (by rw[ih];exact q),ih]
def pj{c:MT3}{B:MS3}{k:Nat}{e:E3}(q:whV c B k e ≠ .stuck):wWh c B e=whV c B k e:=by
 have hq:∃k,whV c B k e ≠ .stuck:=⟨k,q⟩;unfold wWh;rw[dif_pos hq];rcases Nat.le_total hq.choose k with z |z
 .exact (AL hq.choose_spec z).symm
 .exact AL q z
def Dh(c:MT3)(B:MS3)(e:E3):wWh c B e=(c e).toS λb e1=>if b=true then (B e1).loop (wWh c B) else .nx e1:=by
 by_cases q:∃k,whV c B k e ≠ .stuck
 .obtain⟨k,q⟩:=q;rw[pj q];cases k with
  |zero=>exact absurd rfl q
  |
   succ k=>
   have e2:whV c B (k+1) e=(c e).toS λb e1=>if b=true then (B e1).loop (whV c B k) else .nx e1:=rfl
   rw[e2] at q ⊢;cases r:c e with
   |exc _ _=>rfl
   |stuck=>rfl
   |
    ok b h1=>
    rw[r] at q;cases b with
    |false=>rfl
    |
     true=>
     have q':(B h1).loop (whV c B k) ≠ .stuck:=q;show (B h1).loop (whV c B k)=(B h1).loop (wWh c B);cases s:B h1 with
     |nx a2=>rw[s] at q';exact (pj q').symm
     |ct a2=>rw[s] at q';exact (pj q').symm
     |_=>rfl
 .have e0:wWh c B e=.stuck:=by unfold wWh;rw[dif_neg q]
  rw[e0];have hs:∀k,whV c B (k+1) e=.stuck:=λk=>Qa λz=>q ⟨_,z⟩;cases r:c e with
  |stuck=>rfl
  |
   exc c' h'=>
   have:=hs 0
   unfold whV at this;rw[r] at this;cases this
  |
   ok b h1=>
   cases b with
   |
    false=>
    have:=hs 0
    unfold whV at this;rw[r] at this;cases this
   |
    true=>
    have h2:∀k,(B h1).loop (whV c B k)=.stuck:=λk=>by
     have:=hs k
     unfold whV at this;rw[r] at this;exact this
    show SR3.stuck=(B h1).loop (wWh c B);have lim:∀a2,(∀k,whV c B k a2=.stuck)->wWh c B a2=.stuck:=λa2 z=>by unfold wWh;rw[dif_neg (λ⟨k,y⟩=>y (z k))]
    cases s:B h1 with
    |nx a2=>rw[s] at h2;exact (lim a2 h2).symm
    |ct a2=>rw[s] at h2;exact (lim a2 h2).symm
    |stuck=>rfl
    |_=>have:=h2 0;rw[s] at this;cases this
def IW(p:PoS X h0 ns e h r2 r3)(q:r3 ≠ .stuck):r2 ≠ .stuck:=by
 cases r3 with
 |stuck=>exact absurd rfl q
 |nx e'=>obtain⟨d_,h',ns',z,_⟩:=p;rw[z];intro y;cases y
 |ct e'=>obtain⟨d_,h',ns',z,_⟩:=p;rw[z];intro y;cases y
 |bk e'=>obtain⟨d_,h',ns',z,_⟩:=p;rw[z];intro y;cases y
 |exc c e'=>obtain⟨d_,h',ns',z,_⟩:=p;rw[z];intro y;cases y
 |rt r e'=>obtain⟨d,d_,h',ns',z,_⟩:=p;rw[z];intro y;cases y
theorem zF(hc:RT c c3)(hB:RS B B3):∀(k:Nat) (X:Nat->Prop) (h0:Nat) (ns:Ns) (e:E3) (ae:AE) (h:AH),Sat X h0 ns e ae h->PoS X h0 ns e h (whN c B k ae h) (whV c3 B3 k e)
 |0,_,_,_,_,_,_,_=>trivial
 |
  k+1,X,h0,ns,e,ae,h,S=>by
  refine PoS.toS (hc X h0 ns e ae h S) λb b' h1 ns1 e1 a1 S1 r1=>?_;cases r1;try dsimp only
  split
  .exact PoS.after S a1 (PoS.loop (ae:=ae) (hB X h0 ns1 e1 ae h1 S1) λae2 h2 ns2 e2 a2 S2=>PoS.after S1 a2 (zF hc hB k X h0 ns2 e2 ae2 h2 S2))
  .exact .nx a1 S1
def Nq(hc:RT c c3)(hB:RS B B3):RS (sWh c B) (wWh c3 B3):=λX h0 ns e ae h S=>by
 by_cases q:∃k,whV c3 B3 k e ≠ .stuck
 .obtain⟨k,q⟩:=q;rw[pj q];have p:=zF hc hB k X h0 ns e ae h S;rw[A1 (IW p q)];exact p
 .unfold wWh;rw[dif_neg q];trivial
end
noncomputable def ij(o:Option Nat)(s:Sl)(e:E3):E3:=match o,s with
 |some i,.mu v=>(match e[i]? with
  |some t=>e.set i (t.re v)
  |none=>e)
 |_,_=>e
noncomputable def bW:List (Option Nat)->E3->E3->E3
 |o::sub,s::inner,e=>bW sub inner (ij o s e)
 |_,_,e=>e
def wK(hn:∀v,o=some i->s=.mu v->False):(ij o s e)[i]?=e[i]?:=by
 unfold ij;split
 .rename_i i' v;split
  .rename_i t q;by_cases z:i=i'
   .subst z;exact (hn v rfl rfl).elim
   .rw[cR z]
  .rfl
 .rfl
theorem qK:∀{sub:Rg}{e2 e:E3}{i:Nat},(∀(j:Nat) v,sub[j]?=some (some i)->e2[j]?=some (.mu v)->False)->(bW sub e2 e)[i]?=e[i]?
 | [],_,_,_,_=>rfl
 |_::_,[],_,_,_=>rfl
 |
  o::sub,s::e2,e,i,hn=>by
  show (bW sub e2 (ij o s e))[i]?=_;rw[qK (λj v q1 q2=>hn (j+1) v (by simpa using q1) (by simpa using q2))];exact wK λv z1 z2=>hn 0 v (by rw[z1];rfl) (by rw[z2];rfl)
theorem wH:∀{sub:Rg}{e2 e:E3}{i j:Nat}{v:Val},(∀(j k:Nat) i,sub[j]?=some (some i)->sub[k]?=some (some i)->j=k)->sub[j]?=some (some i)->e2[j]?=some (.mu v)->(bW sub e2 e)[i]?=(e[i]?).map (Sl.re · v)
 | [],_,_,_,j,_,_,q,_=>by simp at q
 |_::_,[],_,_,j,_,_,_,q=>by simp at q
 |
  o::sub,s::e2,e,i,0,v,hj,q1,q2=>by
  have z1:o=some i:=by simpa using q1
  have z2:s=.mu v:=by simpa using q2
  subst z1 z2;show (bW sub e2 (ij (some i) (.mu v) e))[i]?=_;rw[qK (λk u y1 _=>by have:=hj 0 (k+1) i rfl (by simpa using y1);omega)];unfold ij;dsimp only;split
  .rename_i t q;rw[de (x_.mp q).1,q];rfl
  .rename_i q;rw[q];rfl
 |
  o::sub,s::e2,e,i,j+1,v,hj,q1,q2=>by
  show (bW sub e2 (ij o s e))[i]?=_;have q1':sub[j]?=some (some i):=by simpa using q1
  rw[wH (λa b c y1 y2=>by have:=hj (a+1) (b+1) c (by simpa using y1) (by simpa using y2);omega) q1' (by simpa using q2)];rw[wK λv z1 _=>by have:=hj 0 (j+1) i (by rw[z1];rfl) q1;omega]
noncomputable def c5(sub:Rg)(ns:Ns):Ns:=sub.map λo=>o.bind λi=>(ns[i]?).bind id
def ef{sub:Rg}{ns:Ns}{j n:Nat}(q:(c5 sub ns)[j]?=some (some n)):∃i,sub[j]?=some (some i)/\ns[i]?=some (some n):=by
 unfold c5 at q;rw[OI] at q;cases z:sub[j]? with
 |none=>rw[z] at q;cases q
 |
  some o=>
  rw[z] at q;cases o with
  |none=>cases q
  |
   some i=>
   refine⟨i,rfl,?_⟩;have q':(ns[i]?).bind id=some n:=OE q;cases y:ns[i]? with
   |none=>rw[y] at q';cases q'
   |some w=>rw[y] at q';have:w=some n:=q';rw[this]
def ED{sub:Rg}{ns:Ns}{j i:Nat}{w:Option Nat}(q:sub[j]?=some (some i))(q2:ns[i]?=some w):(c5 sub ns)[j]?=some w:=by unfold c5;rw[OI,q];show some ((ns[i]?).bind id)=some w;rw[q2];rfl
structure Lnk(sub:Rg)(e ei:E3):Prop where
 inj:∀(j k:Nat) (i:Nat),sub[j]?=some (some i)->sub[k]?=some (some i)->j=k
 mu:∀(j:Nat) (v:Val),ei[j]?=some (.mu v)->∃(i:Nat) (s:Sl),sub[j]?=some (some i)/\e[i]?=some s/\s.mt=true
 mt:∀(j:Nat) (s:Sl),ei[j]?=some s->s.mt=true->∃v,s=.mu v
def Sat.back(S:Sat X h0 ns e ae h)(K:Lnk sub e ei)(a:Stp (c5 sub ns) ei h ns2 e2 h2)
 (hY:∀n,Y n->n<h2.length/\(X n\/h.length<=n)) (hXY:∀n,X n->Y n)
 (hc:∀(j:Nat) v n,e2[j]?=some (.mu v)->ns2[j]?=some (some n)->∃o,h2[n]?=some o/\dh o/\Rc (Oc Y ns) h2 o v):Sat Y h0 ns (bW sub e2 e) ae h2/\Stp ns e h ns (bW sub e2 e) h2:=by
 have hM:∀n,Mt (c5 sub ns) ei n->Mt ns e n:=λn ⟨j,s,z1,z2,z3⟩=>by obtain⟨v,rfl⟩:=K.mt j s z2 z3;obtain⟨i,s',y1,y2,y3⟩:=K.mu j v z2;obtain⟨i',y4,y5⟩:=ef z1;rw[y1] at y4;cases y4;exact⟨i,s',y5,y2,y3⟩
 have mv:Mov (Oc X ns) (Oc Y ns) h h2:=λn o p q=>⟨⟨λz=>by
  rcases (hY n z).2 with z |z
  .exact p.1 z
  .have:=dU q;omega,p.2⟩,a.keep n o q λz=>by obtain⟨j,s,z1,_⟩:=z;obtain⟨i,_,y⟩:=ef z1;exact p.2 (cp.mpr ⟨i,y⟩)⟩
 have key:∀i:Nat,(∃(j:Nat) (v:Val) (s:Sl),sub[j]?=some (some i)/\e2[j]?=some (.mu v)/\e[i]?=some s/\s.mt=true/\(bW sub e2 e)[i]?=some (s.re v)/\ns2[j]?=ns[i]?)\/((∀n,ns[i]?=some (some n)->¬ Mt (c5 sub ns) ei n)/\(bW sub e2 e)[i]?=e[i]?):=λi=>by
  by_cases hx:∃(j:Nat) (v:Val),sub[j]?=some (some i)/\e2[j]?=some (.mu v)
  .obtain⟨j,v,q1,q2⟩:=hx;obtain⟨u,q3,q4⟩:=a.mu j v q2;obtain⟨i',s,y1,y2,y3⟩:=K.mu j u q3;rw[q1] at y1;cases y1;refine .inl ⟨j,v,s,q1,q2,y2,y3,by rw[wH K.inj q1 q2,y2];rfl,?_⟩;rw[q4];have hl:i<ns.length:=by rw[S.l2];exact (x_.mp y2).1
   rw[OC hl];exact ED q1 (OC hl)
  .refine .inr ⟨λn q ⟨j,s,z1,z2,z3⟩=>hx ?_,qK λj v y1 y2=>hx ⟨j,v,y1,y2⟩⟩;obtain⟨v,rfl⟩:=K.mt j s z2 z3;obtain⟨i',y4,y5⟩:=ef z1;have:i'=i:=S.inj i' i n y5 q;subst this;obtain⟨v',y6,_⟩:=a.mu' j v z2;exact⟨j,v',y4,y6⟩
 have lenB:(bW sub e2 e).length=e.length:=by
  clear key hc a K S hY hXY hM mv;induction sub generalizing e2 e with
  |nil=>rfl
  |
   cons o sub ih=>
   cases e2 with
   |nil=>rfl
   |
    cons s e2=>
    show (bW sub e2 (ij o s e)).length=_;rw[ih];unfold ij;split
    .split
     .rw[OB]
     .rfl
    .rfl
 refine⟨⟨by rw[lenB];exact S.l1,by rw[lenB];exact S.l2,I_ S.lh a.len,λn z=>(hY n z).1,S.inj,λi n q z=>?_,λi s q=>?_⟩,⟨a.len,λm o q hm=>a.keep m o q λz=>hm (hM m z),λ_ _ q=>.inl q,λi s q hl=>?_,λi s q hl=>?_,λi v q=>?_,λi v q=>?_⟩⟩
 .rcases (hY n z).2 with z |z
  .exact S.nx i n q z
  .obtain⟨_,_,_,_,_,_,_,q',_⟩:=S.own q
   have:=dU q';omega
 .rcases key i with ⟨j,v,s0,k1,k2,k3,k4,k5,k6⟩ |⟨k1,k2⟩
  .rw[k5] at q;cases q;have y:=S.sl i s0 k3;cases s0 with
   |ow u=>obtain⟨n,o,y1,y2,y3,_⟩:=y;obtain⟨o',z1,z2,z3⟩:=hc j v n k2 (by rw[k6];exact y1);exact⟨n,o',y1,y2,y3,z1,z2,z3⟩
   |mu u=>obtain⟨n,o,y1,y2,_⟩:=y;obtain⟨o',z1,z2,z3⟩:=hc j v n k2 (by rw[k6];exact y1);exact⟨n,o',y1,y2,z1,z2,z3⟩
   |_=>cases k4
  .rw[k2] at q;exact (S.sl i s q).mono mv λn o q1 q2=>a.keep n o q2 (k1 n q1)
 .rcases key i with ⟨j,v,s0,k1,k2,k3,k4,k5,k6⟩ |⟨k1,k2⟩
  .rw[k3] at q;cases q;cases s <;> first |cases hl;done |cases k4;done
  .rw[k2];exact⟨q,rfl⟩
 .rcases key i with ⟨j,v,s0,k1,k2,k3,k4,k5,k6⟩ |⟨k1,k2⟩
  .rw[k5] at q;cases q;cases s0 <;> first |cases hl;done |cases k4;done
  .rw[k2] at q;exact⟨q,rfl⟩
 .rcases key i with ⟨j,u,s0,k1,k2,k3,k4,k5,k6⟩ |⟨k1,k2⟩
  .rw[k5] at q;cases s0 with
   |mu w=>exact⟨w,k3,rfl⟩
   |ow w=>cases q
   |_=>cases k4
  .rw[k2] at q;exact⟨v,q,rfl⟩
 .rcases key i with ⟨j,u,s0,k1,k2,k3,k4,k5,k6⟩ |⟨k1,k2⟩
  .rw[k3] at q;cases q;exact⟨u,k5,rfl⟩
  .exact⟨v,by rw[k2];exact q,rfl⟩
noncomputable def inS:Sl->Sl
 |.ow v=>.mu v
 |.lo v=>.lm v
 |s=>s
noncomputable def dm(sub:Rg)(e:E3):E3:=sub.map λo=>match o with
 |none=>.no
 |some i=>match e[i]? with
  |some s=>inS s
  |none=>.no
noncomputable def lcV(g:MG3)(c:MT3)(F:ME3):List Val->List Val->E3->R3 (List Val)
 | [],acc,e=>.ok acc e
 |v::vs,acc,e=>if acc.length<16777216 then (match g v e with
  |none=>.stuck
  |some e1=>(c e1).bind λb e2=>if b=true then (F e2).bind λt e3=>(match dk e3 t with
   |some (e4,y)=>lcV g c F vs (acc++[y]) e4
   |none=>.stuck) else lcV g c F vs acc e2) else .stuck
noncomputable def vLC(I:MI3)(sub:Rg)(g:MG3)(c:MT3)(F:ME3):ME3:=λe=>(I e).bind λp e1=>match lcV g c F p.1 [] (dm sub (lockO e1 p.2)) with
 |.ok ys e2=>if ys.length<=16777216 then .ok (.new (.lst ys)) (gF (bW sub e2 (lockO e1 p.2)) p.2) else .stuck
 |_=>.stuck
def pB(sub:Rg):Prop:=∀(j k:Nat) (i:Nat),sub[j]?=some (some i)->sub[k]?=some (some i)->j=k
def zV(h:(sub.filterMap id).Nodup):pB sub:=by
 induction sub with
 |nil=>intro j k i q;simp at q
 |
  cons o sub ih=>
  have f_:(sub.filterMap id).Nodup:=by
   cases o with
   |none=>simpa using h
   |some i=>rw[Pm] at h;simp at h;exact h.2
  have hno:∀(i k:Nat),o=some i->sub[k]?=some (some i)->False:=λi k z q=>by subst z;rw[Pm] at h;simp at h;exact h.1 (PH q)
  intro j k i q1 q2;cases j with
  |
   zero=>
   cases k with
   |zero=>rfl
   |succ k=>exact (hno i k (by simpa using q1) (by simpa using q2)).elim
  |
   succ j=>
   cases k with
   |zero=>exact (hno i j (by simpa using q2) (by simpa using q1)).elim
   |succ k=>exact OU (· + 1) (ih f_ j k i (by simpa using q1) (by simpa using q2))
def Xin(X:Nat->Prop)(ns:Ns)(sub:Rg)(n:Nat):Prop:=X n\/(some n∈ns/\some n∉c5 sub ns)
def nM(q:some n∈c5 sub ns):some n∈ns:=by obtain⟨j,q⟩:=cp.mp q;obtain⟨i,_,q2⟩:=ef q;exact cp.mpr ⟨i,q2⟩
def kF{sub:Rg}{e:E3}{j:Nat}{s:Sl}(q:(dm sub e)[j]?=some s):(sub[j]?=some none/\s=.no)\/(∃i,sub[j]?=some (some i)/\((e[i]?=none/\s=.no)\/∃t,e[i]?=some t/\s=inS t)):=by
 unfold dm at q;rw[OI] at q;cases z:sub[j]? with
 |none=>rw[z] at q;cases q
 |
  some o=>
  rw[z] at q;cases o with
  |none=>cases q;exact .inl ⟨rfl,rfl⟩
  |
   some i=>
   refine .inr ⟨i,rfl,?_⟩;have q':=OE q;dsimp only at q';cases y:e[i]? with
   |none=>rw[y] at q';exact .inl ⟨rfl,q'.symm⟩
   |some t=>rw[y] at q';exact .inr ⟨t,rfl,q'.symm⟩
def Sat.inner(S:Sat X h0 ns e ae h)(hs:pB sub):Sat (Xin X ns sub) h0 (c5 sub ns) (dm sub e) (kQ sub ae) h:=by
 refine⟨by unfold kQ dm;rw[v_,v_],by unfold c5 dm;rw[v_,v_],S.lh,λn z=>?_,λj k n q1 q2=>?_,λj n q z=>?_,λj s q=>?_⟩
 .rcases z with z |⟨z,_⟩
  .exact S.xl n z
  .obtain⟨i,z⟩:=cp.mp z;obtain⟨_,_,_,_,_,_,_,q',_⟩:=S.own z;exact dU q'
 .obtain⟨i,y1,y2⟩:=ef q1;obtain⟨i',y3,y4⟩:=ef q2
  have:=S.inj i i' n y2 y4
  subst this;exact hs j k i y1 y3
 .rcases z with z |⟨_,z⟩
  .obtain⟨i,y1,y2⟩:=ef q;exact S.nx i n y2 z
  .exact z (cp.mpr ⟨j,q⟩)
 .have mv:Mov (Oc X ns) (Oc (Xin X ns sub) (c5 sub ns)) h h:=λn o p q=>⟨⟨λz=>by
   rcases z with z |⟨z,_⟩
   .exact p.1 z
   .exact p.2 z,λz=>p.2 (nM z)⟩,q⟩
  have hj:∀{o},sub[j]?=some o->(c5 sub ns)[j]?=some (o.bind λi=>(ns[i]?).bind id)/\(kQ sub ae)[j]?=some (o.bind λi=>(ae[i]?).bind id):=λ{o} z=>by unfold c5 kQ;rw[OI,OI,z];exact⟨rfl,rfl⟩
  rcases kF q with ⟨z,rfl⟩ |⟨i,z,⟨y,rfl⟩ |⟨t,y,rfl⟩⟩
  .rw[(hj z).1];rfl
  .rw[(hj z).1];show some ((ns[i]?).bind id)=some none;have:ns[i]?=none:=by rw[Ph] at y ⊢;rw[S.l2];exact y
   rw[this];rfl
  .have k:=(S.sl i t y).mono mv λ_ _ _ q=>q;rw[(hj z).1,(hj z).2];show SlR _ h0 (some ((ns[i]?).bind id)) (some ((ae[i]?).bind id)) h (inS t);have w1:∀x,ns[i]?=some x->some ((ns[i]?).bind id)=some x:=λx q=>by rw[q];rfl
   have w2:∀x,ae[i]?=some x->some ((ae[i]?).bind id)=some x:=λx q=>by rw[q];rfl
   cases t with
   |no=>rw[w1 _ k];rfl
   |sh v=>obtain⟨k1,x,k2,k3⟩:=k;rw[w1 _ k1,w2 _ k2];exact⟨rfl,x,rfl,k3⟩
   |ow v=>obtain⟨m,o,k1,k2,_,k3⟩:=k;rw[w1 _ k1,w2 _ k2];exact⟨m,o,rfl,rfl,k3⟩
   |lo v=>obtain⟨m,o,k1,k2,_,k3⟩:=k;rw[w1 _ k1,w2 _ k2];exact⟨m,o,rfl,rfl,k3⟩
   |mu v=>obtain⟨m,o,k1,k2,k3⟩:=k;rw[w1 _ k1,w2 _ k2];exact⟨m,o,rfl,rfl,k3⟩
   |lm v=>obtain⟨m,o,k1,k2,k3⟩:=k;rw[w1 _ k1,w2 _ k2];exact⟨m,o,rfl,rfl,k3⟩
def w9(hs:pB sub):Lnk sub e (dm sub e):=by
 refine⟨hs,λj v q=>?_,λj s q hm=>?_⟩
 .rcases kF q with ⟨_,z⟩ |⟨i,z,⟨_,y⟩ |⟨t,y,y2⟩⟩
  .cases z
  .cases y
  .refine⟨i,t,z,y,?_⟩;cases t <;> first |rfl |cases y2
 .rcases kF q with ⟨_,z⟩ |⟨i,z,⟨_,y⟩ |⟨t,y,y2⟩⟩
  .subst z;cases hm
  .subst y;cases hm
  .subst y2;cases t with
   |ow v=>exact⟨v,rfl⟩
   |mu v=>exact⟨v,rfl⟩
   |_=>cases hm
section
variable{I:MI}{I3:MI3}{g:MG}{g3:MG3}{c:MT}{c3:MT3}{F:ME}{F3:ME3}
def HQ(S:Sat X h0 ns e ae h)(hg:RG g g3)(hc:RT c c3)(hF:RE F F3)(hG:∀ns' e' h',Stp ns e h ns' e' h'->G h'):
 ∀
  {ds:List D}{vs:List Val},Rds (Oc X ns) h ds vs->∀{acc:List D}{accv:List Val}{ns1:Ns}{e1:E3}{h_:AE}{h1:AH},Stp ns e h ns1 e1 h1->Sat X h0 ns1 e1 h_ h1->Rds (Oc X ns1) h1 acc accv->lcV g3 c3 F3 vs accv e1=.ok ys e2->
  ∃dy h2 ns2 ae2,lcL G g c F ds acc h_ h1=.ok dy h2/\Stp ns e h ns2 e2 h2/\Sat X h0 ns2 e2 ae2 h2/\Rds (Oc X ns2) h2 dy ys:=by
 intro ds;induction ds with
 |nil=>intro vs r acc accv ns1 e1 h_ h1 a1 S1 ra q;cases r;unfold lcL;rw[if_pos (hG _ _ _ a1)];cases q;exact⟨acc,h1,ns1,h_,rfl,a1,S1,ra⟩
 |
  cons d0 ds ih=>
  intro vs r acc accv ns1 e1 h_ h1 a1 S1 ra q;cases r with
  |
   cons r rr=>
   rename_i v vs;unfold lcV at q;unfold lcL;by_cases hl:accv.length<16777216
   .rw[if_pos hl] at q;rw[if_pos ⟨hG _ _ _ a1,by rw[ra.len];exact hl⟩];cases q1:g3 v e1 with
    |none=>rw[q1] at q;cases q
    |
     some e3=>
     rw[q1] at q;dsimp only at q;obtain⟨ae3,ns3,p3,S3,a3⟩:=hg _ _ _ _ _ _ _ _ _ S1 (r.mono (a1.mov S)) q1;rw[p3,ji];have a13:=a1.trans S a3;have pc:=hc X h0 ns3 e3 ae3 h1 S3;cases q4:c3 e3 with
     |stuck=>rw[q4] at q;cases q
     |exc _ _=>rw[q4] at q;cases q
     |
      ok b e4=>
      rw[q4] at q pc;obtain⟨b',h4,ns4,p4,a4,S4,rfl⟩:=pc;rw[p4,ji];have a14:=a13.trans S a4;have ra4:=(ra.mono (a3.mov S1)).mono (a4.mov S3);have q':(if b'=true then (F3 e4).bind λt e3=>(match dk e3 t with
       |some (e4,y)=>lcV g3 c3 F3 _ (accv++[y]) e4
       |none=>.stuck) else lcV g3 c3 F3 _ accv e4)=.ok ys e2:=q
      by_cases hb:b'=true
      .rw[if_pos hb] at q' ⊢;have pF:=hF X h0 0 ns4 e4 ae3 h4 S4 (ON _);cases q5:F3 e4 with
       |stuck=>rw[q5] at q';cases q'
       |exc _ _=>rw[q5] at q';cases q'
       |
        ok t e5=>
        rw[q5] at q' pF;obtain⟨d5,h5,ns5,p5,a5,S5,r5⟩:=pF;rw[p5,ji];have q'':(match dk e5 t with
         |some (e4,y)=>lcV g3 c3 F3 _ (accv++[y]) e4
         |none=>.stuck)=.ok ys e2:=q'
        cases q6:dk e5 t with
        |none=>rw[q6] at q'';cases q''
        |some w=>obtain⟨e6,y⟩:=w;rw[q6] at q'';obtain⟨ns6,S6,a6,r6⟩:=gz S5 r5 q6;exact ih rr ((a14.trans S a5).trans S a6) S6 (((ra4.mono (a5.mov S4)).mono (a6.mov S5)).append (.cons r6 .nil)) q''
      .rw[if_neg hb] at q' ⊢;exact ih rr a14 S4 ra4 q'
   .rw[if_neg hl] at q;cases q
def N0(hs:(sub.filterMap id).Nodup)(hI:RI I I3)(hg:RG g g3)(hc:RT c c3)(hF:RE F F3):RE (eLC I sub g c F) (vLC I3 sub g3 c3 F3):=λX h0 L ns e ae h S hl=>
 Po.bind
  S (hI X h0 ns e ae h S) λit p h1 ns1 e1 a1 S1 r1=>by
  try dsimp only
  obtain⟨r2,gd,hk⟩:=r1;have hs':=zV hs;have S2:=S1.lockO p.2;have S3:=S2.inner hs';cases q:lcV g3 c3 F3 p.1 [] (dm sub (lockO e1 p.2)) with
  |stuck=>trivial
  |exc _ _=>trivial
  |
   ok ys e2=>
   dsimp only;split
   .rename_i hy;have gd':∀ns' e' h',Stp (c5 sub ns1) (dm sub (lockO e1 p.2)) h1 ns' e' h'->it.guard h':=λns' e' h' a=>gd h' λm o qm hm=>a.keep m o qm λ⟨j,s,z1,z2,z3⟩=>by
     obtain⟨i,y1,y2⟩:=ef z1;rcases hm with hm |⟨k,hk1,hk2⟩
     .exact hm.2 (cp.mpr ⟨i,y2⟩)
     .have:i=k:=S1.inj i k m y2 hk2;subst this;obtain⟨s',w1,w2⟩:=hk i hk1;rcases kF z2 with ⟨z,_⟩ |⟨i',z,y⟩
      .rw[y1] at z;cases z
      .rw[y1] at z;cases z;have hl:(lockO e1 p.2)[i]?=some (kT s'):=by rw[hk1];exact pS w1
       rcases y with ⟨y,_⟩ |⟨t,y,rfl⟩
       .rw[hl] at y;cases y
       .rw[hl] at y;cases y;cases s' <;> first |cases w2;done |cases z3;done
    have mvi:Mov (Oc X ns1) (Oc (Xin X ns1 sub) (c5 sub ns1)) h1 h1:=λn o p q=>⟨⟨λz=>by
     rcases z with z |⟨z,_⟩
     .exact p.1 z
     .exact p.2 z,λz=>p.2 (nM z)⟩,q⟩
    obtain⟨dy,h2,ns2,ae2,p2,a2,S4,r4⟩:=HQ (G:=it.guard) S3 hg hc hF gd' (r2.mono mvi) .refl S3 .nil q;have k3:∀n,Oc (Xin X ns1 sub) ns2 n->Oc X ns1 n:=λn z=>⟨λy=>z.1 (.inl y),λy=>by
     by_cases w:some n∈c5 sub ns1
     .obtain⟨j,w⟩:=cp.mp w;obtain⟨s,v,o,b1,b2,_⟩:=S3.own w;rcases b2 with b2 |b2
      .obtain⟨v',rfl⟩:=(w9 (e:=lockO e1 p.2) hs').mt j s b1 b2;obtain⟨u,c1,c2⟩:=a2.mu' j v' b1;exact z.2 (cp.mpr ⟨j,by rw[c2];exact w⟩)
      .obtain⟨c1,c2⟩:=a2.lk j s b1 b2;exact z.2 (cp.mpr ⟨j,by rw[c2];exact w⟩)
     .exact z.1 (.inr ⟨y,w⟩)⟩
    have bk:=S2.back (Y:=X) (w9 hs') a2 (λn z=>⟨K_ (S2.xl n z) a2.len,.inl z⟩) (λ_ z=>z) λj v n q1 q2=>by obtain⟨s,u,o,b1,b2,b3,b4,b5,b6,b7⟩:=S4.own q2;rw[q1] at b1;cases b1;cases b3;exact⟨o,b5,b6,b7.mono λm o' z y=>⟨k3 m z,y⟩⟩
    obtain⟨S5,a5⟩:=bk;have r5:Rds (Oc X ns1) h2 dy ys:=r4.mono λm o' z y=>⟨k3 m z,y⟩;have i_:∀(e':E3),Sat X h0 ns1 e' ae h2->Stp ns1 e1 h1 ns1 e' h2->Po X h0 ns1 e1 ae h1 (relE X h0 L ae) ((noX (lcL it.guard g c F it.items [] (kQ sub ae) h1)).bind fL) (.ok (.new (.lst ys)) e'):=λe' S6 a6=>by rw[p2];have pp:=BvR.po (L:=L) (r:=fL dy h2) (b:=.new (.lst ys)) S6 (I_ hl (I_ a1.len a6.len)) ⟨.lst dy,by unfold fL;rw[if_pos (by rw[r5.len];exact hy)],trivial,.lst r5⟩;obtain⟨d,h',ns',y,y1,y2,y3⟩:=pp;exact⟨d,h',ns',y,a6.trans S1 y1,y2,y3⟩
    cases hp:p.2 with
    |none=>rw[hp] at S5 a5;exact i_ _ S5 a5
    |some k=>rw[hp] at S5 a5;obtain⟨s,w1,w2⟩:=hk k hp;exact i_ _ (S5.unlock k) (a5.unlock w1 w2)
   .trivial
end
inductive R3F where
 |ok (r:Rt) (mv:List Val) |exc (c:Str) (mv:List Val) |stuck
abbrev Fn3:=List Val->R3F
noncomputable def sl1(b:Bool)(v:Val):Sl:=if b=true then .mu v else .sh v
noncomputable def sls(ms:List Bool)(vs:List Val):E3:=List.zipWith sl1 ms vs
noncomputable def bQ:List Bool->List Val->E3
 |true::ms,v::vs=>.mu v::bQ ms vs
 |true::ms,[]=>.no::bQ ms []
 |false::ms,vs=>.no::bQ ms vs
 | [],_=>[]
noncomputable def muV:List Bool->E3->Option (List Val)
 |true::ms,.mu v::e=>(muV ms e).map (v :: ·)
 |true::_,_=>none
 |false::ms,_::e=>muV ms e
 |false::_,[]=>none
 | [],_=>some []
def RFp(X:Nat->Prop)(ps:Ns)(ms:List Bool)(vs:List Val)(ds:List D)(h:AH)(r2:R D):R3F->Prop
 |.stuck=>True
 |.ok r mv=>∃d h',r2=.ok d h'/\Stp ps (sls ms vs) h ps (bQ ms mv) h'/\RtR X h.length ps (bQ ms mv) (ds.map some) h' d r
 |.exc c mv=>∃h',r2=.exc c h'/\Stp ps (sls ms vs) h ps (bQ ms mv) h'/\Sat X h.length ps (bQ ms mv) (ds.map some) h'
def RF(ms:List Bool)(G2:Fn)(G3:Fn3):Prop:=∀X ps ds vs h,vs.length=ms.length->Sat X h.length ps (sls ms vs) (ds.map some) h->RFp X ps ms vs ds h (G2 ds h) (G3 vs)
noncomputable def fnV(ms:List Bool)(N:Nat)(F:MS3):Fn3:=λvs=>if vs.length=ms.length then (match F (sls ms vs++List.replicate (N-vs.length) .no) with
 |.nx e=>(match muV ms e with |some mv=>.ok (.val .non) mv |none=>.stuck)
 |.rt r e=>(match muV ms e with |some mv=>.ok r mv |none=>.stuck)
 |.exc c e=>(match muV ms e with |some mv=>.exc c mv |none=>.stuck)
 |_=>.stuck) else .stuck
def gD{ms:List Bool}{vs:List Val}{i:Nat}{s:Sl}(q:(sls ms vs)[i]?=some s):∃b v,ms[i]?=some b/\vs[i]?=some v/\s=sl1 b v:=by
 unfold sls at q;rw[Px] at q;cases h1:ms[i]? with
 |none=>rw[h1] at q;cases q
 |
  some b=>
  cases h2:vs[i]? with
  |none=>rw[h1,h2] at q;cases q
  |some v=>rw[h1,h2] at q;cases q;exact⟨b,v,rfl,rfl,rfl⟩
theorem jw:∀{ms:List Bool}{e:E3}{mv:List Val}{i:Nat}{s:Sl},muV ms e=some mv->(bQ ms mv)[i]?=some s->(ms[i]?=some false/\s=.no)\/(ms[i]?=some true/\∃v,e[i]?=some (.mu v)/\s=.mu v)
 | [],_,_,_,_,_,q=>by unfold bQ at q;simp at q
 |
  true::ms,.mu v::e,mv,i,s,q,q2=>by
  obtain⟨mv',z1,z2⟩:=OH.mp (show (muV ms e).map (v :: ·)=some mv from q);subst z2;cases i with
  |zero=>
   right;have:Sl.mu v=s:=by simpa [bQ] using q2
   subst this;exact⟨rfl,v,rfl,rfl⟩
  |
   succ i=>
   have:=jw (i:=i) (s:=s) z1 (by simpa [bQ] using q2)
   simpa using this
 |true::ms,[],mv,i,s,q,q2=>by cases q
 |true::ms,.no::e,mv,i,s,q,q2=>by cases q
 |true::ms,.sh v::e,mv,i,s,q,q2=>by cases q
 |true::ms,.ow v::e,mv,i,s,q,q2=>by cases q
 |true::ms,.lo v::e,mv,i,s,q,q2=>by cases q
 |true::ms,.lm v::e,mv,i,s,q,q2=>by cases q
 |false::ms,[],mv,i,s,q,q2=>by cases q
 |
  false::ms,t::e,mv,i,s,q,q2=>by
  cases i with
  |zero=>
   left;have:Sl.no=s:=by simpa [bQ] using q2
   exact⟨rfl,this.symm⟩
  |
   succ i=>
   have:=jw (i:=i) (s:=s) (show muV ms e=some mv from q) (by simpa [bQ] using q2)
   simpa using this
theorem p9:∀{ms:List Bool}{e:E3}{mv:List Val}{i:Nat},muV ms e=some mv->ms[i]?=some true->∃v,e[i]?=some (.mu v)/\(bQ ms mv)[i]?=some (.mu v)
 | [],_,_,i,_,q=>by simp at q
 |
  true::ms,.mu v::e,mv,i,q,q2=>by
  obtain⟨mv',z1,z2⟩:=OH.mp (show (muV ms e).map (v :: ·)=some mv from q);subst z2;cases i with
  |zero=>exact⟨v,rfl,rfl⟩
  |succ i=>obtain⟨u,y1,y2⟩:=p9 (i:=i) z1 (by simpa using q2);exact⟨u,by simpa using y1,by simpa [bQ] using y2⟩
 |true::ms,[],mv,i,q,q2=>by cases q
 |true::ms,.no::e,mv,i,q,q2=>by cases q
 |true::ms,.sh v::e,mv,i,q,q2=>by cases q
 |true::ms,.ow v::e,mv,i,q,q2=>by cases q
 |true::ms,.lo v::e,mv,i,q,q2=>by cases q
 |true::ms,.lm v::e,mv,i,q,q2=>by cases q
 |false::ms,[],mv,i,q,q2=>by cases q
 |
  false::ms,t::e,mv,i,q,q2=>by
  cases i with
  |zero=>simp at q2
  |succ i=>obtain⟨u,y1,y2⟩:=p9 (i:=i) (show muV ms e=some mv from q) (by simpa using q2);exact⟨u,by simpa using y1,by simpa [bQ] using y2⟩
theorem js:∀{ms:List Bool}{mv:List Val},(bQ ms mv).length=ms.length
 | [],_=>rfl
 |true::ms,v::mv=>by show (bQ ms mv).length+1=ms.length+1;rw[js]
 |true::ms,[]=>by show (bQ ms []).length+1=ms.length+1;rw[js]
 |false::ms,mv=>by show (bQ ms mv).length+1=ms.length+1;rw[js]
def Ed(hF:RS F F3):RF ms (fnD N F) (fnV ms N F3):=λX ps ds vs h hl S=>by
 unfold fnV;rw[if_pos hl];have lS:(sls ms vs).length=vs.length:=by unfold sls;rw[PQ];omega
 have lD:ds.length=vs.length:=by have:=S.l1;rw[v_,lS] at this;exact this
 have lP:ps.length=vs.length:=S.l2.trans lS;have ltS:∀{i:Nat},i<ms.length->i<(sls ms vs).length:=λh=>by omega
 have ltP:∀{i:Nat},i<(sls ms vs).length->i<ps.length:=λh=>S.l2.symm ▸ h;have S1
  : Sat X h.length (ps++List.replicate (N-vs.length) none) (sls ms vs++List.replicate (N-vs.length) .no) (ds.map some++List.replicate (N-vs.length) none) h:=by
  have mns:∀n,some n∈ps++List.replicate (N-vs.length) (none:Option Nat) ↔ some n∈ps:=λn=>by
   rw[O4];constructor
   .rintro (z |z)
    .exact z
    .have:=List.eq_of_mem_replicate z;cases this
   .exact .inl
  have gns:∀{i n:Nat},(ps++List.replicate (N-vs.length) (none:Option Nat))[i]?=some (some n)->ps[i]?=some (some n):=λ{i n} q=>by
   rw[Qx] at q;split at q
   .exact q
   .rw[O6] at q;split at q <;> cases q
  refine⟨?_,?_,S.lh,S.xl,λi j n q1 q2=>S.inj i j n (gns q1) (gns q2),λi n q=>S.nx i n (gns q),λi s q=>?_⟩
  .rw[H_,H_,Pa,Pa,S.l1]
  .rw[H_,H_,Pa,Pa,S.l2]
  .rw[Qx] at q;split at q
   .rename_i hi;have k:=S.sl i s q;rw[OD (ltP hi),OD (by rw[S.l1];exact hi)];exact k.mono (λn o p q=>⟨⟨p.1,λz=>p.2 ((mns n).mp z)⟩,q⟩) λ_ _ _ q=>q
   .rename_i hi;rw[O6] at q;split at q
    .cases q;rw[OO (by rw[S.l2];exact Nat.le_of_not_lt hi),O6,if_pos (by rw[S.l2];assumption)];rfl
    .cases q
 have p:=hF _ _ _ _ _ _ S1;have e2:fnD N F ds h=match F (ds.map some++List.replicate (N-vs.length) none) h with
  |.nx _ h'=>.ok .non h'
  |.rt d h'=>.ok d h'
  |.exc c _ h'=>.exc c h'
  |_=>.stuck:=by rw[<- lD];rfl
 rw[e2];have i_:∀(Y:Nat->Prop) (ns':Ns) (e':E3) (d_:AE) (h':AH) (mv:List Val),(∀n,X n->Y n)->Stp (ps++List.replicate (N-vs.length) none) (sls ms vs++List.replicate (N-vs.length) .no) h ns' e' h'->Sat Y h.length ns' e' d_ h'->muV ms e'=some mv->
  Stp ps (sls ms vs) h ps (bQ ms mv) h'/\Sat Y h.length ps (bQ ms mv) (ds.map some) h'/\∀n,Oc Y ns' n->Oc Y ps n:=by
  intro Y ns' e' d_ h' mv hXY a S2 qm;have kmu:∀{i:Nat},ms[i]?=some true->∃v u n o,e'[i]?=some (.mu v)/\(bQ ms mv)[i]?=some (.mu v)/\(sls ms vs)[i]?=some (.mu u)/\ns'[i]?=ps[i]?/\ps[i]?=some (some n)/\(ds.map some)[i]?=some (some (.ref n))/\h'[n]?=some o/\dh o/\Rc (Oc Y ns') h' o v:=by intro i hi;obtain⟨v,y1,y2⟩:=p9 qm hi;have hil:i<ms.length:=(x_.mp hi).1;obtain⟨u,y3,y4⟩:=a.mu i v y1;rw[OD (ltS hil)] at y3;rw[OD (ltP (ltS hil))] at y4;obtain⟨n,o,z1,z2,_⟩:=S.sl i _ y3;obtain⟨n',o',w1,w2,w3,w4,w5⟩:=S2.sl i _ y1;rw[y4,z1] at w1;cases w1;exact⟨v,u,n,o',y1,y2,y3,y4,z1,z2,w3,w4,w5⟩
  have kown:∀{i n:Nat},ps[i]?=some (some n)->ms[i]?=some true:=λ{i n} q=>by
   obtain⟨s,v,o,z1,z2,_⟩:=S.own q;obtain⟨b,u,y1,_,y2⟩:=gD z1;cases b with
   |true=>exact y1
   |false=>subst y2;rcases z2 with z2 |z2 <;> cases z2
  have koc:∀n,Oc Y ns' n->Oc Y ps n:=λn z=>⟨z.1,λy=>by obtain⟨i,y⟩:=cp.mp y;obtain⟨v,u,n',o,_,_,_,k1,k2,_⟩:=kmu (kown y);exact z.2 (cp.mpr ⟨i,by rw[k1];exact y⟩)⟩;refine⟨⟨a.len,λm o q hm=>a.keep m o q λ⟨i,s,z1,z2,z3⟩=>hm ?_,λ_ _ q=>.inl q,λi s q hl'=>?_,λi s q hl'=>?_,λi v q=>?_,λi v q=>?_⟩,⟨?_,?_,I_ (z_ _) a.len,S2.xl,S.inj,λi n q z=>?_,λi s q=>?_⟩,koc⟩
  .rw[Qx] at z1;split at z1
   .rename_i hi;rw[OD (by rw[<- S.l2];exact hi)] at z2;exact⟨i,s,z1,z2,z3⟩
   .rw[O6] at z1;split at z1 <;> cases z1
  .obtain⟨b,u,_,_,y⟩:=gD q;subst y;cases b <;> cases hl'
  .rcases jw qm q with ⟨_,z⟩ |⟨_,v,_,z⟩ <;> subst z <;> cases hl'
  .rcases jw qm q with ⟨_,z⟩ |⟨z,_⟩
   .cases z
   .obtain⟨v',u,n,o,_,_,k1,_⟩:=kmu z;exact⟨u,k1,rfl⟩
  .obtain⟨b,u,y1,_,y2⟩:=gD q;cases b with
   |false=>cases y2
   |true=>obtain⟨v',u,n,o,_,k0,k1,_⟩:=kmu y1;exact⟨v',k0,rfl⟩
  .rw[v_,js];omega
  .rw[js];omega
  .obtain⟨v,u,n',o,_,_,_,k1,k2,_⟩:=kmu (kown q);exact S2.nx i n (by rw[k1];exact q) z
  .rcases jw qm q with ⟨z,rfl⟩ |⟨z,v,z2,rfl⟩
   .have hil:i<ms.length:=(x_.mp z).1;have hi:i<(sls ms vs).length:=ltS hil;obtain⟨b,u,y1,_,y2⟩:=gD (OC hi);rw[z] at y1;cases y1;have k:=S.sl i _ (OC hi);rw[y2] at k;exact k.1
   .obtain⟨v',u,n,o,k0,_,_,k1,k2,k3,k4,k5,k6⟩:=kmu z;rw[z2] at k0;cases k0;exact⟨n,o,k2,k3,k4,k5,k6.mono λm o' y q=>⟨koc m y,q⟩⟩
 generalize F3 (sls ms vs++List.replicate (N-vs.length) .no)=r3 at *;cases r3 with
 |stuck=>trivial
 |bk _=>trivial
 |ct _=>trivial
 |
  nx e'=>
  obtain⟨d_,h',ns',q,a,S2⟩:=p;rw[q];dsimp only;cases qm:muV ms e' with
  |none=>trivial
  |some mv=>obtain⟨a3,S3,koc⟩:=i_ X ns' e' d_ h' mv (λ_ z=>z) a S2 qm;exact⟨.non,h',rfl,a3,S3,.non⟩
 |
  exc c e'=>
  obtain⟨d_,h',ns',q,a,S2⟩:=p;rw[q];dsimp only;cases qm:muV ms e' with
  |none=>trivial
  |some mv=>obtain⟨a3,S3,koc⟩:=i_ X ns' e' d_ h' mv (λ_ z=>z) a S2 qm;exact⟨h',rfl,a3,S3⟩
 |
  rt r e'=>
  obtain⟨d,d_,h',ns',q,a,rr⟩:=p;rw[q];dsimp only;cases qm:muV ms e' with
  |none=>trivial
  |
   some mv=>
   cases r with
   |val v=>obtain⟨a3,S3,koc⟩:=i_ X ns' e' d_ h' mv (λ_ z=>z) a rr.1 qm;exact⟨d,h',rfl,a3,S3,rr.2.mono λm o y q=>⟨koc m y,q⟩⟩
   |new v=>obtain⟨n,o,z1,z2,z3,z4,z5,z6,z7⟩:=rr;obtain⟨a3,S3,koc⟩:=i_ (Xn X n) ns' e' d_ h' mv (λ_ z=>.inl z) a z6 qm;exact⟨d,h',rfl,a3,n,o,z1,z2,z3,z4,z5,S3,z7.mono λm o y q=>⟨koc m y,q⟩⟩
   |pr v u=>obtain⟨d1,n,o,z1,z2,z3,z4,z5,z6,z7,z8⟩:=rr;obtain⟨a3,S3,koc⟩:=i_ (Xn X n) ns' e' d_ h' mv (λ_ z=>.inl z) a z6 qm;exact⟨d,h',rfl,a3,d1,n,o,z1,z2,z3,z4,z5,S3,z7.mono λm o y q=>⟨koc m y,q⟩,z8.mono λm o y q=>⟨koc m y,q⟩⟩
   |
    par i=>
    obtain⟨R1,R2,v,R3⟩:=rr;obtain⟨a3,S3,koc⟩:=i_ X ns' e' d_ h' mv (λ_ z=>z) a R1 qm;obtain⟨u,k1,k2⟩:=a.mu i v R3;have hi:i<(sls ms vs).length:=by apply Decidable.byContradiction;intro hi;rw[OO (Nat.le_of_not_lt hi),O6] at k1;split at k1 <;> cases k1
    rw[OD hi] at k1;rw[OD (by rw[S.l2];exact hi)] at k2;obtain⟨m,o,w1,w2,_⟩:=S.sl i _ k1;obtain⟨m',o',x1,x2,_⟩:=R1.sl i _ R3;rw[k2,w1] at x1;cases x1;rw[R2] at x2;cases x2;obtain⟨v',y,_⟩:=a3.mu' i u k1;exact⟨_,h',rfl,a3,S3,w2,v',y⟩
noncomputable def jO(i:Nat):List Tm->Bool
 |.bor j::ts=>(i==j) || jO i ts
 |_::ts=>jO i ts
 | []=>false
noncomputable def iR(i:Nat):List Bool->List Tm->Bool
 |true::ms,.bor j::ts=>(i==j) || iR i ms ts
 |_::ms,_::ts=>iR i ms ts
 |_,_=>false
noncomputable def okA(e:E3):List Bool->List Tm->Bool
 |true::ms,.bor i::ts=>((e[i]?).bind Sl.mv).isSome && !(jO i ts)&&okA e ms ts
 |true::_,_::_=>false
 |false::ms,.bor i::ts=>!(iR i ms ts)&&okA e ms ts
 |false::ms,_::ts=>okA e ms ts
 | [],[]=>true
 |_,_=>false
noncomputable def qX(b:Bool)(t:Tm):Option Nat:=match b,t with
 |true,.bor i=>some i
 |_,_=>none
noncomputable def b8(ms:List Bool)(ts:List Tm):List (Option Nat):=List.zipWith qX ms ts
noncomputable def bX(e:E3):List Bool->List Tm->List Nat
 |false::ms,.bor i::ts=>(match e[i]? with
  |some (.sh _)=>bX e ms ts
  |_=>i::bX e ms ts)
 |_::ms,_::ts=>bX e ms ts
 |_,_=>[]
mutual
def flatV:Val->Bool
 |.tup xs=>flatVs xs
 |.lst _=>false
 |.kl _=>false
 |.dct _=>false
 |.set _=>false
 |_=>true
def flatVs:List Val->Bool
 | []=>true
 |v::vs=>flatV v&&flatVs vs
end
noncomputable def oW:List (Key×Val)->Bool
 | []=>true
 |(_,v)::vs=>flatV v&&oW vs
noncomputable def flatC:Val->Bool
 |.lst xs=>flatVs xs
 |.dct xs=>oW xs
 |.set _=>true
 |_=>false
def gX:Rt->Bool
 |.val v=>flatV v
 |.new v=>flatC v
 |.par _=>true
 |.pr v u=>flatV v&&flatC u
noncomputable def nS(e:E3):List Nat->Option E3
 | []=>some e
 |i::is=>match dk e (.bor i) with
  |some (e1,_)=>nS e1 is
  |none=>none
def Rt.tm(ts:List Tm):Rt->Tm
 |.val v=>.val v
 |.new v=>.new v
 |.par i=>(ts[i]?).getD (.val .non)
 |.pr v u=>.val (.tup [v,u])
noncomputable def Ec(ms:List Bool)(G:Fn3)(A:MA3):ME3:=λe=>(A e).bind λts e1=>match rss e1 ts with
 |none=>.stuck
 |some vs=>if okA e1 ms ts=true then (match G vs with
  |.stuck=>.stuck
  |.ok r mv=>if (bX e1 ms ts).isEmpty || (gX r&&mv.all flatC) then .ok (r.tm ts) (bW (b8 ms ts) (bQ ms mv) e1) else (match nS e1 (bX e1 ms ts) with
   |some e2=>.ok (r.tm ts) (bW (b8 ms ts) (bQ ms mv) e2)
   |none=>.stuck)
  |.exc c mv=>if (bX e1 ms ts).isEmpty || mv.all flatC then .exc c (bW (b8 ms ts) (bQ ms mv) e1) else .stuck) else .stuck
section
variable{P P':Nat->Prop}{h h':AH}
def Rd.flat(f:flatV v=true)(r:Rd P h d v):Rd P' h' d v:=
 @Rd.rec P h (λd v _=>flatV v=true->Rd P' h' d v) (λo v _=>flatV v=true->Rd P' h' .non v) (λds vs _=>flatVs vs=true->Rds P' h' ds vs) (λws us _=>True) (λ_=>.non) (λb _=>.bl b) (λi _=>.int i) (λx _=>.str x) (λn _=>.ty n) (λx _=>.glb x) (λx _=>.exc x) (λ_ ih f=>.tup (ih f)) (λ_ _ f=>absurd f A_) (λ_ _ r _ f=>by cases r <;> exact absurd f A_) (λ_ _ f=>absurd f A_) (λ_ _ f=>absurd f A_) (λ_ _ f=>absurd f A_) (λ_ f=>absurd f A_) (λ_=>.nil) (λ_ _ a b f=>.cons (a (D_ .. ▸ f).1) (b (D_ .. ▸ f).2)) trivial (λ_ _ _ _=>trivial) d v r f
def Rds.flat(f:flatVs v=true)(r:Rds P h d v):Rds P' h' d v:=
 r.ind (M:=λds vs=>flatVs vs=true->Rds P' h' ds vs) (λ_=>.nil) (λr _ ih f=>by rw[flatVs,D_] at f;exact .cons (Rd.flat f.1 r) (ih f.2)) f
def Rk.flat(f:oW v=true)(r:Rk P h d v):Rk P' h' d v:=
 r.ind (M:=λds vs=>oW vs=true->Rk P' h' ds vs) (λ_=>.nil) (λr _ ih f=>by rw[oW,D_] at f;exact .cons (Rd.flat f.1 r) (ih f.2)) f
def Rc.flat(f:flatC v=true)(r:Rc P h o v):Rc P' h' o v:=by
 cases r with
 |lst r=>exact .lst (Rds.flat (by simpa [flatC] using f) r)
 |fz r=>simp [flatC] at f
 |dct r=>exact .dct (Rk.flat (by simpa [flatC] using f) r)
 |set xs=>exact .set xs
end
theorem qZ:∀{ts:List Tm}{k:Nat},ts[k]?=some (.bor i)->jO i ts=true
 | [],_,q=>by simp at q
 |
  t::ts,0,q=>by
  have:t=.bor i:=by simpa using q
  subst this;simp [jO]
 |
  t::ts,k+1,q=>by
  have:=qZ (ts:=ts) (k:=k) (by simpa using q)
  cases t <;> simp [jO,this]
theorem xo:∀{ms:List Bool}{ts:List Tm}{k:Nat},ms[k]?=some true->ts[k]?=some (.bor i)->iR i ms ts=true
 | [],_,_,q,_=>by simp at q
 |_::_,[],_,_,q=>by simp at q
 |
  b::ms,t::ts,0,q1,q=>by
  have:t=.bor i:=by simpa using q
  have:b=true:=by simpa using q1
  subst_vars;simp [iR]
 |
  b::ms,t::ts,k+1,q1,q=>by
  have:=xo (ms:=ms) (ts:=ts) (k:=k) (by simpa using q1) (by simpa using q)
  cases b <;> cases t <;> simp [iR,this]
theorem mO:∀{ms:List Bool}{ts:List Tm}{k:Nat},okA e ms ts=true->ms[k]?=some true->∃i,ts[k]?=some (.bor i)/\∃u,(e[i]?).bind Sl.mv=some u
 | [],_,_,_,q=>by simp at q
 |b::ms,[],_,o,_=>by cases b <;> simp [okA] at o
 |
  b::ms,t::ts,0,o,q=>by
  have:b=true:=by simpa using q
  subst this;cases t with
  |bor i=>simp only[okA,D_] at o;exact⟨i,rfl,Pb.mp o.1.1⟩
  |_=>simp [okA] at o
 |
  b::ms,t::ts,k+1,o,q=>by
  have o':okA e ms ts=true:=by cases b <;> cases t <;> simp only[okA,D_] at o <;> first |exact o.2 |exact o |(simp at o;done)
  obtain⟨i,y⟩:=mO (k:=k) o' (by simpa using q);exact⟨i,by simpa using y⟩
theorem ky:∀{ms:List Bool}{ts:List Tm}{k j i:Nat},okA e ms ts=true->ms[k]?=some true->ts[k]?=some (.bor i)->ts[j]?=some (.bor i)->j=k
 | [],_,_,_,_,_,q,_,_=>by simp at q
 |b::ms,[],_,_,_,o,_,_,_=>by cases b <;> simp [okA] at o
 |b::ms,t::ts,0,0,i,o,q1,q2,q3=>rfl
 |
  b::ms,t::ts,0,j+1,i,o,q1,q2,q3=>by
  have h1:b=true:=by simpa using q1
  have h2:t=.bor i:=by simpa using q2
  subst h1 h2;simp only[okA,D_] at o
  have:=qZ (i:=i) (ts:=ts) (k:=j) (by simpa using q3)
  rw[this] at o;simp at o
 |
  b::ms,t::ts,k+1,0,i,o,q1,q2,q3=>by
  have h2:t=.bor i:=by simpa using q3
  subst h2;have hm:=xo (i:=i) (ms:=ms) (ts:=ts) (k:=k) (by simpa using q1) (by simpa using q2);have hb:=qZ (i:=i) (ts:=ts) (k:=k) (by simpa using q2);cases b <;> simp [okA,hm,hb] at o
 |
  b::ms,t::ts,k+1,j+1,i,o,q1,q2,q3=>by
  have o':okA e ms ts=true:=by cases b <;> cases t <;> simp only[okA,D_] at o <;> first |exact o.2 |exact o |(simp at o;done)
  exact OU (· + 1) (ky (k:=k) (j:=j) (i:=i) o' (by simpa using q1) (by simpa using q2) (by simpa using q3))
theorem iu:∀{ms:List Bool}{ts:List Tm},okA e ms ts=true->ms.length=ts.length
 | [],[],_=>rfl
 | [],_::_,o=>by simp [okA] at o
 |b::ms,[],o=>by cases b <;> simp [okA] at o
 |
  b::ms,t::ts,o=>by
  have o':okA e ms ts=true:=by cases b <;> cases t <;> simp only[okA,D_] at o <;> first |exact o.2 |exact o |(simp at o;done)
  exact OU (· + 1) (iu o')
theorem nD:∀{ms:List Bool}{ts:List Tm}{k i:Nat},ms[k]?=some false->ts[k]?=some (.bor i)->(∀v,e[i]?≠some (.sh v))->i∈bX e ms ts
 | [],_,_,_,q,_,_=>by simp at q
 |_::_,[],_,_,_,q,_=>by simp at q
 |
  b::ms,t::ts,0,i,q1,q2,hn=>by
  have h1:b=false:=by simpa using q1
  have h2:t=.bor i:=by simpa using q2
  subst h1 h2;unfold bX;split
  .rename_i v q;exact absurd q (hn v)
  .exact C_ ..
 |
  b::ms,t::ts,k+1,i,q1,q2,hn=>by
  have ih:=nD (ms:=ms) (ts:=ts) (k:=k) (by simpa using q1) (by simpa using q2) hn;cases b <;> cases t <;> simp only[bX] <;> first |exact ih |(split;exact ih;exact y_ _ ih)
def gB{ms:List Bool}{ts:List Tm}{k i:Nat}(q:(b8 ms ts)[k]?=some (some i)):ms[k]?=some true/\ts[k]?=some (.bor i):=by
 unfold b8 at q;rw[Px] at q;cases h1:ms[k]? with
 |none=>rw[h1] at q;cases q
 |
  some b=>
  cases h2:ts[k]? with
  |none=>rw[h1,h2] at q;cases q
  |some t=>rw[h1,h2] at q;have q':qX b t=some i:=OE q;cases b <;> cases t <;> first |(cases q';done) |(cases q';exact⟨rfl,rfl⟩)
def E6{ms:List Bool}{ts:List Tm}{k i:Nat}(q1:ms[k]?=some true)(q2:ts[k]?=some (.bor i)):(b8 ms ts)[k]?=some (some i):=by unfold b8;rw[Px,q1,q2];rfl
theorem xb:∀{ts:List Tm}{vs:List Val}{k:Nat}{v:Val},rss e ts=some vs->vs[k]?=some v->∃t,ts[k]?=some t/\rs e t=some v
 | [],_,_,_,q,q2=>by cases q;simp at q2
 |
  t::ts,vs,k,v,q,q2=>by
  unfold rss at q;split at q
  .rename_i u us e1 e2;cases q;cases k with
   |zero=>
    have:u=v:=by simpa using q2
    subst this;exact⟨t,rfl,e1⟩
   |succ k=>obtain⟨t',y1,y2⟩:=xb (k:=k) e2 (by simpa using q2);exact⟨t',by simpa using y1,y2⟩
  .cases q
theorem jW:∀{ts:List Tm}{vs:List Val},rss e ts=some vs->vs.length=ts.length
 | [],_,q=>by cases q;rfl
 |
  t::ts,vs,q=>by
  unfold rss at q;split at q
  .rename_i u us e1 e2;cases q;exact OU (· + 1) (jW e2)
  .cases q
theorem TsR.get:∀{ds:List D}{ts:List Tm}{k:Nat}{t:Tm},TsR X ns ae h ds ts->ts[k]?=some t->∃d,ds[k]?=some d/\((∃v,t=.val v/\Rd (Oc X ns) h d v)\/∃i,t=.bor i/\ae[i]?=some (some d))
 |_,_,_,_,.nil,q=>by simp at q
 |_,_,0,_,.val r rr,q=>by have:=(by simpa using q:Tm.val _=_);subst this;exact⟨_,rfl,.inl ⟨_,rfl,r⟩⟩
 |_,_,0,_,.bor r rr,q=>by have:=(by simpa using q:Tm.bor _=_);subst this;exact⟨_,rfl,.inr ⟨_,rfl,r⟩⟩
 |_,_,k+1,t,.val r rr,q=>by obtain⟨d,y⟩:=rr.get (k:=k) (by simpa using q);exact⟨d,by simpa using y⟩
 |_,_,k+1,t,.bor r rr,q=>by obtain⟨d,y⟩:=rr.get (k:=k) (by simpa using q);exact⟨d,by simpa using y⟩
def Xc(X:Nat->Prop)(ns:Ns)(e:E3)(ms:List Bool)(ts:List Tm)(n:Nat):Prop:=(X n\/some n∈ns)/\some n∉c5 (b8 ms ts) ns/\∀i∈bX e ms ts,ns[i]?≠some (some n)
def nX(S:Sat X h0 ns e ae h)(rt:TsR X ns ae h ds ts)(qv:rss e ts=some vs)(ok:okA e ms ts=true):
 Sat (Xc X ns e ms ts) h.length (c5 (b8 ms ts) ns) (sls ms vs) (ds.map some) h:=by
 have l1:=iu ok;have l2:=jW qv;have l3:=TsR.len rt;have hs:pB (b8 ms ts):=λj k i q1 q2=>ky ok (gB q2).1 (gB q2).2 (gB q1).2;have mv:Mov (Oc X ns) (Oc (Xc X ns e ms ts) (c5 (b8 ms ts) ns)) h h:=λn o p q=>⟨⟨λz=>by
  rcases z.1 with z |z
  .exact p.1 z
  .exact p.2 z,λz=>p.2 (nM z)⟩,q⟩
 refine⟨?_,?_,z_ _,λn z=>?_,λj k n q1 q2=>?_,λj n q z=>z.2.1 (cp.mpr ⟨j,q⟩),λk s q=>?_⟩
 .unfold sls;rw[v_,PQ];omega
 .unfold c5 b8 sls;rw[v_,PQ,PQ];omega
 .rcases z.1 with z |z
  .exact S.xl n z
  .obtain⟨i,z⟩:=cp.mp z;obtain⟨_,_,_,_,_,_,_,q',_⟩:=S.own z;exact dU q'
 .obtain⟨i,y1,y2⟩:=ef q1;obtain⟨i',y3,y4⟩:=ef q2
  have:=S.inj i i' n y2 y4
  subst this;exact hs j k i y1 y3
 .obtain⟨b,v,
   q1,q2,rfl⟩:=gD q
  obtain⟨t,q3,q4⟩:=xb qv q2;obtain⟨d,q5,q6⟩:=rt.get q3;have qd:(ds.map some)[k]?=some (some d):=by rw[OI,q5];rfl
  rw[qd];have qn:(c5 (b8 ms ts) ns)[k]?=some ((qX b t).bind λi=>(ns[i]?).bind id):=by unfold c5 b8;rw[OI,Px,q1,q3];rfl
  rw[qn];cases b with
  |
   true=>
   obtain⟨i,y1,u,y2⟩:=mO ok q1;rw[q3] at y1;cases y1;have q4':(e[i]?).bind Sl.val=some v:=q4;obtain⟨s,z1,z2⟩:=OZ.mp y2;rw[z1] at q4';have hv:s.val=some v:=q4';have huv:u=v:=by cases s <;> first |cases z2;done |(cases z2;cases hv;rfl)
   subst huv;have hns:∃n,ns[i]?=some (some n):=by
    have y:=S.sl i s z1;cases s with
    |ow v=>obtain⟨n,o,y1,_⟩:=y;exact⟨n,y1⟩
    |mu v=>obtain⟨n,o,y1,_⟩:=y;exact⟨n,y1⟩
    |_=>cases z2
   obtain⟨n,hn⟩:=hns;obtain⟨n',o,k1,k2,k3,k4,_⟩:=S.write z1 z2;rcases q6 with ⟨_,z,_⟩ |⟨i',z,q6⟩
   .cases z
   .cases z;rw[q6] at k1;cases k1;obtain⟨_,_,_,_,_,_,w,_⟩:=S.own hn;rw[q6] at w;cases w;exact⟨n,o,by show some ((ns[i]?).bind id)=_;rw[hn];rfl,rfl,k2,k3,k4.mono mv⟩
  |
   false=>
   refine⟨by cases t <;> rfl,d,rfl,?_⟩;rcases q6 with ⟨u,rfl,q6⟩ |⟨i,rfl,q6⟩
   .cases q4;exact q6.mono mv
   .have q4':(
     e[i]?).bind Sl.val=some v:=q4
    rcases S.bor q6 q4' with z |⟨n,o,rfl,z1,z2⟩
    .exact z.mono mv
    .refine .cell ⟨λy=>?_,λy=>?_⟩ z1 (z2.mono mv)
     .
      by_cases hsh:∃w,e[i]?=some (.sh w)
      .obtain⟨w,hsh⟩:=hsh;obtain⟨_,x,w1,w2⟩:=S.sl i _ hsh;rw[q6] at w1;cases w1;cases w2 with
       |cell p _ _=>rcases y.1 with y |y;exact p.1 y;exact p.2 y
      .have hl:=nD q1 q3 λw z=>hsh ⟨w,z⟩;cases w:ns[i]? with
       |
        none=>
        have hi:i<e.length:=by
         cases z:e[i]? with
         |none=>rw[z] at q4';cases q4'
         |some _=>exact (x_.mp z).1
        rw[Ph,S.l2] at w;omega
       |
        some w'=>
        cases w' with
        |
         none=>
         cases z:e[i]? with
         |none=>rw[z] at q4';cases q4'
         |
          some s=>
          have k:=S.sl i s z;rw[w] at k;cases s with
          |no=>rw[z] at q4';cases q4'
          |sh w=>exact hsh ⟨w,z⟩
          |ow w=>obtain⟨_,_,k,_⟩:=k;cases k
          |lo w=>obtain⟨_,_,k,_⟩:=k;cases k
          |mu w=>obtain⟨_,_,k,_⟩:=k;cases k
          |lm w=>obtain⟨_,_,k,_⟩:=k;cases k
        |some n'=>obtain⟨_,_,_,_,_,_,w2,_⟩:=S.own w;rw[q6] at w2;cases w2;exact y.2.2 i hl w
     .obtain⟨j,y⟩:=cp.mp y;obtain⟨i',y1,y2⟩:=ef y;obtain⟨y3,y4⟩:=gB y1;obtain⟨_,_,_,_,_,_,w2,_⟩:=S.own y2;have:i'
       = i:=by
       cases w:ns[i]? with
       |
        none=>
        have hi:i<e.length:=by
         cases z:e[i]? with
         |none=>rw[z] at q4';cases q4'
         |some _=>exact (x_.mp z).1
        rw[Ph,S.l2] at w;omega
       |
        some w'=>
        cases w' with
        |some n'=>obtain⟨_,_,_,_,_,_,w3,_⟩:=S.own w;rw[q6] at w3;cases w3;exact S.inj i' i n y2 w
        |
         none=>
         cases z:e[i]? with
         |none=>rw[z] at q4';cases q4'
         |
          some s=>
          have k:=S.sl i s z;rw[w,q6] at k;cases s with
          |no=>rw[z] at q4';cases q4'
          |
           sh w=>
           obtain⟨_,x,k1,k2⟩:=k;cases k1;cases k2 with
           |cell p _ _=>exact (p.2 (cp.mpr ⟨i',y2⟩)).elim
          |ow w=>obtain⟨_,_,k,_⟩:=k;cases k
          |lo w=>obtain⟨_,_,k,_⟩:=k;cases k
          |mu w=>obtain⟨_,_,k,_⟩:=k;cases k
          |lm w=>obtain⟨_,_,k,_⟩:=k;cases k
      subst this
      have:=ky ok y3 y4 q3
      subst this;rw[q1] at y3;cases y3
theorem gx:∀{ms:List Bool}{mv:List Val}{j:Nat}{v:Val},(bQ ms mv)[j]?=some (.mu v)->v∈mv
 | [],_,_,_,q=>by simp [bQ] at q
 |true::ms,u::mv,0,v,q=>by
  have:Sl.mu u=.mu v:=by simpa [bQ] using q
  cases this;exact C_ ..
 |true::ms,u::mv,j+1,v,q=>y_ _ (gx (ms:=ms) (mv:=mv) (j:=j) (by simpa [bQ] using q))
 |true::ms,[],0,v,q=>by simp [bQ] at q
 |true::ms,[],j+1,v,q=>gx (ms:=ms) (mv:=[]) (j:=j) (by simpa [bQ] using q)
 |false::ms,mv,0,v,q=>by simp [bQ] at q
 |false::ms,mv,j+1,v,q=>gx (ms:=ms) (mv:=mv) (j:=j) (by simpa [bQ] using q)
theorem nH:∀{ms:List Bool}{ts:List Tm}{i:Nat},i∈bX e ms ts->∃k:Nat,ms[k]?=some false/\ts[k]?=some (.bor i)
 | [],_,_,q=>by simp [bX] at q
 |_::_,[],_,q=>by simp [bX] at q
 |
  b::ms,t::ts,i,q=>by
  have up:i∈bX e ms ts->∃k:Nat,(b::ms)[k]?=some false/\(t::ts)[k]?=some (.bor i):=λz=>by obtain⟨k,y1,y2⟩:=nH z;exact⟨k+1,by simpa using y1,by simpa using y2⟩
  cases b <;> cases t <;> simp only[bX] at q <;> first |exact up q |skip
  split at q
  .exact up q
  .rcases N_.mp q with rfl |q
   .exact⟨0,rfl,rfl⟩
   .exact up q
def Fs(q:dk e (.bor i)=some (e1,v)):(∀j,j≠i->e1[j]?=e[j]?)/\e1[i]?=some (.sh v)/\(e[i]?).bind Sl.val=some v:=by
 unfold dk at q;dsimp only at q;split at q
 .rename_i u q1;cases q;exact⟨λ_ _=>rfl,q1,by rw[q1];rfl⟩
 .rename_i u q1;cases q;exact⟨λj z=>cR z,de (x_.mp q1).1,by rw[q1];rfl⟩
 .cases q
theorem uH:∀{is:List Nat}{ns:Ns}{e e2:E3},Sat X h0 ns e ae h->(∀i∈is,∃d,ae[i]?=some (some d))->nS e is=some e2->∃ns2,Sat X h0 ns2 e2 ae h/\Stp ns e h ns2 e2 h/\(∀i,i∉is->e2[i]?=e[i]?)/\(∀i∈is,∃v,e2[i]?=some (.sh v))/\∀i:Nat,(e2[i]?).bind Sl.val=(e[i]?).bind Sl.val
 | [],ns,e,e2,S,_,q=>by cases q;exact⟨ns,S,.refl,λ_ _=>rfl,(λ_ z=>by cases z),λ_=>rfl⟩
 |
  i::is,ns,e,e2,S,hd,q=>by
  unfold nS at q;split at q
  .rename_i e1 v q1;obtain⟨d,hd0⟩:=hd i (C_ ..);obtain⟨ns1,S1,a1,r1⟩:=gz (L:=0) (t:=.bor i) S hd0 q1;obtain⟨ns2,S2,a2,k1,k2,k3⟩:=uH S1 (λj z=>hd j (y_ _ z)) q;obtain⟨y1,y2,y3⟩:=Fs q1;refine⟨ns2,S2,a1.trans S a2,λj hj=>?_,λj hj=>?_,λj=>?_⟩
   .rw[N_,not_or] at hj;rw[k1 j hj.2,y1 j hj.1]
   .by_cases z:j∈is
    .exact k2 j z
    .rcases N_.mp hj with rfl |hj
     .exact⟨v,by rw[k1 j z];exact y2⟩
     .exact absurd hj z
   .rw[k3 j];by_cases z:j=i
    .subst z;rw[y2,y3];rfl
    .rw[y1 j z]
  .cases q
theorem rO:∀{ms:List Bool}{ts:List Tm},(∀(k i:Nat),ms[k]?=some true->ts[k]?=some (.bor i)->e2[i]?=e[i]?)->okA e ms ts=true->okA e2 ms ts=true
 | [],[],_,o=>rfl
 | [],_::_,_,o=>by simp [okA] at o
 |b::ms,[],_,o=>by cases b <;> simp [okA] at o
 |
  b::ms,t::ts,hk,o=>by
  have o':okA e ms ts=true:=by cases b <;> cases t <;> simp only[okA,D_] at o <;> first |exact o.2 |exact o |(simp at o;done)
  have ih:=rO (λk i q1 q2=>hk (k+1) i (by simpa using q1) (by simpa using q2)) o';cases b with
  |false=>cases t <;> simp only[okA,D_] at o ⊢ <;> first |exact⟨o.1,ih⟩ |exact ih
  |
   true=>
   cases t with
   |bor i=>simp only[okA,D_] at o ⊢;rw[hk 0 i rfl rfl];exact⟨o.1,ih⟩
   |_=>simp [okA] at o
theorem vH:∀{ms:List Bool}{ts:List Tm},(∀(k i:Nat),ms[k]?=some false->ts[k]?=some (.bor i)->∃v,e[i]?=some (.sh v))->bX e ms ts=[]
 | [],_,_=>by simp [bX]
 |_::_,[],_=>by simp [bX]
 |
  b::ms,t::ts,hk=>by
  have ih:=vH (λk i q1 q2=>hk (k+1) i (by simpa using q1) (by simpa using q2));cases b <;> cases t <;> simp only[bX] <;> first |exact ih |skip
  rename_i i;obtain⟨v,q⟩:=hk 0 i rfl rfl;rw[q];exact ih
theorem rP(hv:∀i:Nat,(e2[i]?).bind Sl.val=(e[i]?).bind Sl.val):∀(ts:List Tm),rss e2 ts=rss e ts
 | []=>rfl
 |
  t::ts=>by
  unfold rss;rw[rP hv ts];have:rs e2 t=rs e t:=by
   cases t with
   |bor i=>exact hv i
   |_=>rfl
  rw[this]
def nO(ok:okA e ms ts=true):Lnk (b8 ms ts) e (sls ms vs):=by
 refine⟨λj k i q1 q2=>ky ok (gB q2).1 (gB q2).2 (gB q1).2,λj v q=>?_,λj s q hm=>?_⟩
 .obtain⟨b,u,q1,_,q2⟩:=gD q;cases b with
  |false=>cases q2
  |true=>obtain⟨i,y1,w,y2⟩:=mO ok q1;obtain⟨s,z1,z2⟩:=OZ.mp y2;exact⟨i,s,E6 q1 y1,z1,by cases s <;> first |rfl |cases z2⟩
 .obtain⟨b,u,q1,_,q2⟩:=gD q;cases b with
  |false=>subst q2;cases hm
  |true=>exact⟨u,q2⟩
section
variable{X:Nat->Prop}{h0 L:Nat}{ns:Ns}{e:E3}{ae:AE}{h:AH}{ms:List Bool}{ts:List Tm}{ds:List D}{vs:List Val}{S2:Fn}{G3:Fn3}
def kj(Y:Nat->Prop)(hY:∀n,Y n->X n\/Y n)(hl:bX e ms ts=[])(z:¬ Xc X ns e ms ts n)(z2:some n∉c5 (b8 ms ts) ns):Oc X ns n:=by refine⟨λy=>z ⟨.inl y,z2,λi hi=>by rw[hl] at hi;cases hi⟩,λy=>z ⟨.inr y,z2,λi hi=>by rw[hl] at hi;cases hi⟩⟩
def n8{B:Prop}(S:Sat X h0 ns e ae h)(ok:okA e ms ts=true)(a:Stp (c5 (b8 ms ts) ns) (sls ms vs) h (c5 (b8 ms ts) ns) (bQ ms mv) h')(hf:bX e ms ts=[]\/(B/\mv.all flatC=true))(z2:h.length<=n)(z4:h'[n]?=some o)(S3:Sat (Xn (Xc X ns e ms ts) n) h.length (c5 (b8 ms ts) ns) (bQ ms mv) (ds.map some) h'):
 Sat (Xn X n) h0 ns (bW (b8 ms ts) (bQ ms mv) e) ae h'/\Stp ns e h ns (bW (b8 ms ts) (bQ ms mv) e) h'/\(bX e ms ts=[]->∀m,Oc (Xn (Xc X ns e ms ts) n) (c5 (b8 ms ts) ns) m->Oc (Xn X n) ns m):=by
 have K:=nO (vs:=vs) ok;have kk:bX e ms ts=[]->∀m,Oc (Xn (Xc X ns e ms ts) n) (c5 (b8 ms ts) ns) m->Oc (Xn X n) ns m:=λhf m z=>by
  have:=kj X (λ_ z=>.inl z) hf (λy=>z.1 (.inl y)) z.2
  exact⟨λy=>by
   rcases y with y |y
   .exact this.1 y
   .exact z.1 (.inr y),this.2⟩
 obtain⟨S4,a4⟩:=S.back (Y:=Xn X n) K a (λm z=>by
  rcases z with z |rfl
  .exact⟨K_ (S.xl m z) a.len,.inl z⟩
  .exact⟨dU z4,.inr z2⟩) (λ_ z=>.inl z) λj w n' q1 q2=>by
  obtain⟨s,u,o,b1,b2,b3,b4,b5,b6,b7⟩:=S3.own q2;rw[q1] at b1;cases b1;cases b3;rcases hf with hf |hf
  .exact⟨o,b5,b6,b7.mono λm o' z y=>⟨kk hf m z,y⟩⟩
  .exact⟨o,b5,b6,b7.flat (OA.mp hf.2 w (gx q1))⟩
 exact⟨S4,a4,kk⟩
def wR(S:Sat X h0 ns e ae h)(hL:L<=h.length)(rt:TsR X ns ae h ds ts)(qv:rss e ts=some vs)(ok:okA e ms ts=true)(hG:RF ms S2 G3)(q:G3 vs=.ok r mv)(hf:bX e ms ts=[]\/(gX r=true/\mv.all flatC=true)):
 Po X h0 ns e ae h (relE X h0 L ae) (S2 ds h) (.ok (r.tm ts) (bW (b8 ms ts) (bQ ms mv) e)):=by
 have p:=hG _ _ ds vs h (by rw[jW qv,iu ok]) (nX S rt qv ok);rw[q] at p;obtain⟨d,h',p1,a,rr⟩:=p;have K:=nO (vs:=vs) ok;have xcl:∀n,X n->n<h.length:=S.xl;cases r with
 |
  val v=>
  obtain⟨S3,rv⟩:=rr;obtain⟨S4,a4⟩:=S.back (Y:=X) K a (λn z=>⟨K_ (xcl n z) a.len,.inl z⟩) (λ_ z=>z) λj w n q1 q2=>by
   obtain⟨s,u,o,b1,b2,b3,b4,b5,b6,b7⟩:=S3.own q2;rw[q1] at b1;cases b1;cases b3;rcases hf with hf |hf
   .exact⟨o,b5,b6,b7.mono λm o' z y=>⟨kj X (λ_ z=>.inl z) hf z.1 z.2,y⟩⟩
   .exact⟨o,b5,b6,b7.flat (OA.mp hf.2 w (gx q1))⟩
  refine⟨d,h',ns,p1,a4,S4,?_⟩;rcases hf with hf |hf
  .exact rv.mono λm o' z y=>⟨kj X (λ_ z=>.inl z) hf z.1 z.2,y⟩
  .exact rv.flat hf.1
 |
  new v=>
  obtain⟨n,o,z1,z2,z3,z4,z5,S3,z7⟩:=rr;obtain⟨S4,a4,r4⟩:=n8 S ok a hf z2 z4 S3;refine⟨d,h',ns,p1,a4,S4.weak λ_ z=>.inl z,n,o,z1,I_ hL z2,λy=>by have:=xcl n y;omega,z4,z5,S4,?_⟩;rcases hf with hf |hf
  .exact z7.mono λm o' z y=>⟨r4 hf m z,y⟩
  .exact z7.flat hf.1
 |
  pr v u=>
  obtain⟨d1,n,o,rfl,z2,z3,z4,z5,S3,z6,z7⟩:=rr;obtain⟨S4,a4,r4⟩:=n8 S ok a hf z2 z4 S3;have on:Oc X ns n:=⟨λy=>by have:=xcl n y;omega,λy=>by obtain⟨i,y⟩:=cp.mp y;exact S4.nx i n y (.inr rfl)⟩;have wk:Mov (Oc (Xn X n) ns) (Oc X ns) h' h':=λm o' z y=>⟨⟨λc=>z.1 (.inl c),z.2⟩,y⟩;refine⟨_,h',ns,p1,a4,S4.weak λ_ z=>.inl z,.tup (.cons ?_ (.cons (.cell on z4 ?_) .nil))⟩
  .rcases hf with hf |hf
   .exact (z6.mono λm o' z y=>⟨r4 hf m z,y⟩).mono wk
   .exact z6.flat (D_ _ _ ▸ hf.1).1
  .rcases hf with hf |hf
   .exact (z7.mono λm o' z y=>⟨r4 hf m z,y⟩).mono wk
   .exact z7.flat (D_ _ _ ▸ hf.1).2
 |
  par i=>
  obtain⟨S3,w1,w,w2⟩:=rr;obtain⟨S4,a4⟩:=S.back (Y:=X) K a (λn z=>⟨K_ (xcl n z) a.len,.inl z⟩) (λ_ z=>z) λj w n q1 q2=>by
   obtain⟨s,u,o,b1,b2,b3,b4,b5,b6,b7⟩:=S3.own q2;rw[q1] at b1;cases b1;cases b3;rcases hf with hf |hf
   .exact⟨o,b5,b6,b7.mono λm o' z y=>⟨kj X (λ_ z=>.inl z) hf z.1 z.2,y⟩⟩
   .exact⟨o,b5,b6,b7.flat (OA.mp hf.2 w (gx q1))⟩
  refine⟨d,h',ns,p1,a4,S4,?_⟩;obtain⟨u,x1,_⟩:=a.mu i w w2;obtain⟨b,u',x2,_,x3⟩:=gD x1;cases b with
  |false=>cases x3
  |
   true=>
   obtain⟨k,y1,_⟩:=mO ok x2;obtain⟨d',y2,z⟩:=rt.get y1;have e1:(Rt.par i).tm ts=.bor k:=by show (ts[i]?).getD _=_;rw[y1];rfl
   rw[e1];rcases z with ⟨_,z,_⟩ |⟨j,z,z2⟩
   .cases z
   .cases z;rw[OI,y2] at w1;cases w1;exact z2
def CZ(S:Sat X h0 ns e ae h)(rt:TsR X ns ae h ds ts)(qv:rss e ts=some vs)(ok:okA e ms ts=true)(hG:RF ms S2 G3)(q:G3 vs=.exc c mv)(hf:bX e ms ts=[]\/mv.all flatC=true):
 Po X h0 ns e ae h (relE X h0 L ae) (S2 ds h) (.exc c (bW (b8 ms ts) (bQ ms mv) e)):=by
 have p:=hG _ _ ds vs h (by rw[jW qv,iu ok]) (nX S rt qv ok);rw[q] at p;obtain⟨h',p1,a,S3⟩:=p;have K:=nO (vs:=vs) ok;obtain⟨S4,a4⟩:=S.back (Y:=X) K a (λn z=>⟨K_ (S.xl n z) a.len,.inl z⟩) (λ_ z=>z) λj w n q1 q2=>by
  obtain⟨s,u,o,b1,b2,b3,b4,b5,b6,b7⟩:=S3.own q2;rw[q1] at b1;cases b1;cases b3;rcases hf with hf |hf
  .exact⟨o,b5,b6,b7.mono λm o' z y=>⟨kj X (λ_ z=>.inl z) hf z.1 z.2,y⟩⟩
  .exact⟨o,b5,b6,b7.flat (OA.mp hf w (gx q1))⟩
 exact⟨h',ns,p1,a4,S4⟩
def En(hn:n=ms.length)(hG:RF ms S2 G3)(hA:RA A A3):RE (sT n S2 A) (Ec ms G3 A3):=λX h0 L ns e ae h S hl=>
 Po.bind
  S (hA X h0 ns e ae h S) λds ts h1 ns1 e1 a1 S1 r1=>by
  try dsimp only
  cases qv:rss e1 ts with
  |none=>trivial
  |
   some vs=>
   dsimp only;by_cases ok:okA e1 ms ts=true
   .rw[if_pos ok];have c_:ds.length=n:=by rw[hn,iu ok];exact TsR.len r1
    rw[if_pos c_];have hL:L<=h1.length:=I_ hl a1.len;cases q:G3 vs with
    |stuck=>trivial
    |
     exc c mv=>
     dsimp only;by_cases hf:((bX e1 ms ts).isEmpty || mv.all flatC)=true
     .rw[if_pos hf];refine CZ S1 r1 qv ok hG q ?_;rw[Bool.or_eq_true] at hf;rcases hf with hf |hf
      .exact .inl (List.isEmpty_iff.mp hf)
      .exact .inr hf
     .rw[if_neg hf];trivial
    |
     ok r mv=>
     dsimp only;by_cases hf:((bX e1 ms ts).isEmpty || (gX r&&mv.all flatC))=true
     .rw[if_pos hf];refine wR S1 hL r1 qv ok hG q ?_;rw[Bool.or_eq_true,D_] at hf;rcases hf with hf |hf
      .exact .inl (List.isEmpty_iff.mp hf)
      .exact .inr hf
     .rw[if_neg hf];cases qd:nS e1 (bX e1 ms ts) with
      |none=>trivial
      |
       some e2=>
       dsimp only;obtain⟨ns2,S2',a2,k1,k2,k3⟩:=uH S1 (λi hi=>by
        obtain⟨k,_,y⟩:=nH hi;obtain⟨d,_,z⟩:=r1.get y;rcases z with ⟨_,z,_⟩ |⟨j,z,z2⟩
        .cases z
        .cases z;exact⟨d,z2⟩) qd
       have ok2:okA e2 ms ts=true:=rO (λk i q1 q2=>k1 i λz=>by
        obtain⟨k',y1,y2⟩:=nH z
        have:=ky ok q1 q2 y2
        subst this;rw[q1] at y1;cases y1) ok
       have ln:bX e2 ms ts=[]:=vH λk i q1 q2=>by
        by_cases z:i∈bX e1 ms ts
        .exact k2 i z
        .rw[k1 i z];exact Qa λw=>z (nD q1 q2 λv y=>w ⟨v,y⟩)
       have pp:=wR (L:=L) S2' hL (r1.stp S1 a2) (by rw[rP k3];exact qv) ok2 hG q (.inl ln);obtain⟨d,h',ns',y,y1,y2,y3⟩:=pp;exact⟨d,h',ns',y,a2.trans S1 y1,y2,y3⟩
   .rw[if_neg ok];trivial
end
noncomputable def aI(f:Int->Int->Val):Val->Val->Bv:=λx y=>match x,y with
 |.int i,.int j=>.val (f i j)
 |_,_=>.stuck
open Classical in
def aIc(C:Int->Int->Prop)(f:Int->Int->Val):Val->Val->Bv:=λx y=>match x,y with
 |.int i,.int j=>if C i j then .val (f i j) else .stuck
 |_,_=>.stuck
noncomputable def yO:Val->Val->Bv:=λx y=>match x,y with
 |.lst xs,.lst ys=>if xs.length+ys.length<=16777216 then .new (.lst (xs++ys)) else .stuck
 |.tup xs,.tup ys=>if xs.length+ys.length<=16777216 then .val (.tup (xs++ys)) else .stuck
 |_,_=>.stuck
noncomputable def Di:Val->Val->Bv:=λx y=>match x,y with
 |.int i,.int j=>.val (.int (i+j))
 |x,y=>yO x y
noncomputable def aMin:=aI λi j=>.int (i-j)
def xQ:=aIc CMulA λi j=>.int (i*j)
def xv:=aIc CDivB λi j=>.int (i.fdiv j)
def xX:=aIc (λ_ j=>j≠0) λi j=>.int (i.fmod j)
def yA:=aIc iS λi j=>.int (i^j.toNat)
def yW:=aIc iS λi j=>.int (i*2^j.toNat)
noncomputable def aLt:=aI λi j=>.bl (decide (i<j))
noncomputable def aGt:=aI λi j=>.bl (decide (j<i))
noncomputable def aGe:=aI λi j=>.bl (decide (j<=i))
noncomputable def A6:Val->Bv:=λx=>match x with
 |.int i=>.val (.int (-i))
 |_=>.stuck
noncomputable def aIx:Val->Val->Bv:=λx y=>match x.items,y with
 |some xs,.int i=>(match atI xs i with
  |some v=>.val v
  |none=>.stuck)
 |_,_=>.stuck
section
def vF(hr:∀i j P h,Rd P h (f2 i j) (f3 i j)):RO (gI f2) (aI f3):=λP h d1 d2 v1 v2 r1 r2=>by
 unfold aI;split
 .obtain rfl:=r1.int;obtain rfl:=r2.int;exact⟨_,rfl,hr _ _ P h⟩
 .trivial
def pf(hr:∀i j P h,Rd P h (f2 i j) (f3 i j)):RO (gIc C f2) (aIc C f3):=λP h d1 d2 v1 v2 r1 r2=>by
 unfold aIc;split
 .obtain rfl:=r1.int;obtain rfl:=r2.int;split
  .rename_i hc;exact⟨_,by unfold gIc;dsimp only;rw[if_pos hc],hr _ _ P h⟩
  .trivial
 .trivial
def KR:RO nI yO:=λP h d1 d2 v1 v2 r1 r2=>by
 unfold yO;split
 .obtain⟨n,ds,rfl,e1,_,q1⟩:=r1.lst;obtain⟨m,es,rfl,e2,_,q2⟩:=r2.lst;split
  .rename_i hl;exact⟨.lst (ds++es),by unfold nI;dsimp only;rw[e1,e2];dsimp only;rw[if_pos (by rw[q1.len,q2.len];exact hl)],trivial,.lst (q1.append q2)⟩
  .trivial
 .obtain⟨ds,rfl,q1⟩:=r1.tup;obtain⟨es,rfl,q2⟩:=r2.tup;split
  .rename_i hl;exact⟨_,by unfold nI;dsimp only;rw[if_pos (by rw[q1.len,q2.len];exact hl)],.tup (q1.append q2)⟩
  .trivial
 .trivial
def HV:RO yS Di:=λP h d1 d2 v1 v2 r1 r2=>by
 unfold Di;split
 .obtain rfl:=r1.int;obtain rfl:=r2.int;exact⟨_,rfl,.int _⟩
 .rename_i hn;have k:=KR P h d1 d2 v1 v2 r1 r2;have e:yS d1 d2 h=nI d1 d2 h\/yO v1 v2=.stuck:=by
   cases v1 <;> first |(right;rfl) |(left;skip)
   .obtain⟨ds,rfl,_⟩:=r1.tup;rfl
   .obtain⟨n,ds,rfl,_⟩:=r1.lst;rfl
  rcases e with e |e
  .rw[e];exact k
  .rw[e];trivial
def JQ:RO B5 aMin:=vF λ_ _ _ _=>.int _
def JO:RO CH xQ:=pf λ_ _ _ _=>.int _
def Ks:RO CJ xv:=pf λ_ _ _ _=>.int _
def Jy:RO A7 xX:=pf λ_ _ _ _=>.int _
def KP:RO BR yA:=pf λ_ _ _ _=>.int _
def HJ:RO Ck yW:=pf λ_ _ _ _=>.int _
def Mm:RO gLt aLt:=vF λ_ _ _ _=>.bl _
def Nv:RO gGt aGt:=vF λ_ _ _ _=>.bl _
def Ol:RO gGe aGe:=vF λ_ _ _ _=>.bl _
def Lp:RU yk A6:=λP h d v r=>by
 unfold A6;split
 .obtain rfl:=r.int;exact⟨_,rfl,.int _⟩
 .trivial
def NU(r:Rds P h ds vs)(e:atI vs i=some v):∃d,atI ds i=some d/\Rd P h d v:=by
 unfold atI at e ⊢;rw[r.len];cases q:ixN vs.length i with
 |none=>rw[q] at e;cases e
 |some j=>rw[q] at e;exact r.get e
def M0:RO gIx aIx:=λP h d1 d2 v1 v2 r1 r2=>by
 unfold aIx;split
 .rename_i xs i e1;obtain⟨ds,e2,q⟩:=r1.items e1;obtain rfl:=r2.int;split
  .rename_i v e3;obtain⟨d,e4,q2⟩:=NU q e3;exact⟨d,by unfold gIx;rw[e2];dsimp only;rw[e4],q2⟩
  .trivial
 .trivial
end
mutual
def eS:Nat->Val->Option PyData
 |0,_=>none
 |_+1,.non=>some .none
 |_+1,.bl b=>some (.bool b)
 |_+1,.int i=>some (.int i)
 |_+1,.str x=>some (.str x)
 |k+1,.tup xs=>(gp k xs).map .tuple
 |k+1,.lst xs=>(gp k xs).map .list
 |_+1,_=>none
def gp:Nat->List Val->Option (List PyData)
 |_,[]=>some []
 |k,x::xs=>match eS k x,gp k xs with
  |some a,some b=>some (a::b)
  |_,_=>none
end
def Dr(hk:∀d v pd,Rd P h d v->eS k v=some pd->gb k h d=some pd):∀{ds:List D}{vs:List Val}{ps:List PyData},Rds P h ds vs->gp k vs=some ps->ds.mapM (gb k h)=some ps:=by
 intro ds;induction ds with
 |nil=>intro vs ps r q;cases r;unfold gp at q;cases q;rfl
 |
  cons d0 ds ih=>
  intro vs ps r q;cases r with
  |
   cons r rr=>
   unfold gp at q;split at q
   .rename_i a b e1 e2;cases q;rw[P5,hk _ _ _ r e1,ih rr e2];rfl
   .cases q
theorem qg:∀(k:Nat) (d:D) (v:Val) (pd:PyData),ShR P h d v->eS k v=some pd->gb k h d=some pd
 |0,_,_,_,_,q=>by unfold eS at q;cases q
 |
  k+1,d,v,pd,r,q=>by
  have ih:∀{ds:List D}{vs:List Val}{ps:List PyData},Rds P h ds vs->gp k vs=some ps->ds.mapM (gb k h)=some ps:=Dr λd v pd r q=>qg k d v pd (.inl r) q;cases v with
  |non=>obtain rfl:=r.non;simp only[eS] at q;cases q;rfl
  |bl b=>obtain rfl:=r.bl;simp only[eS] at q;cases q;rfl
  |int b=>obtain rfl:=r.int;simp only[eS] at q;cases q;rfl
  |str b=>obtain rfl:=r.str;simp only[eS] at q;cases q;rfl
  |tup xs=>obtain⟨ds,rfl,r2⟩:=r.tup;simp only[eS] at q;obtain⟨ps,q1,rfl⟩:=OH.mp q;show (ds.mapM (gb k h)).map PyData.tuple=_;rw[ih r2 q1];rfl
  |lst xs=>obtain⟨n,ds,rfl,_,e1,r2⟩:=r.lst;simp only[eS] at q;obtain⟨ps,q1,rfl⟩:=OH.mp q;unfold gb;rw[e1];show (ds.mapM (gb k h)).map PyData.list=_;rw[ih r2 q1];rfl
  |_=>simp only[eS] at q;cases q
noncomputable def eh(x y:Val):Option Bool:=match eS 164 x,eS 164 y with
 |some a,some b=>if shp a=true/\shp b=true then some (PyData.eqv a b) else none
 |_,_=>none
noncomputable def aEq(n_:Bool):Val->Val->Bv:=λx y=>match eh x y with
 |some b=>.val (.bl (if n_ then !b else b))
 |none=>.stuck
def G7(r1:ShR P h d1 v1)(r2:ShR P h d2 v2)(q:eh v1 v2=some b):uO h d1 d2=some b:=by
 unfold eh at q;split at q
 .rename_i a c e1 e2;unfold uO;rw[qg 164 _ _ _ r1 e1,qg 164 _ _ _ r2 e2];exact q
 .cases q
def Eb(n_:Bool):RO (gEq n_) (aEq n_):=λP h d1 d2 v1 v2 r1 r2=>by
 unfold aEq;split
 .rename_i b q;exact⟨_,by unfold gEq;rw[G7 r1 r2 q],.bl _⟩
 .trivial
noncomputable def oY:Val->Bool
 |.non=>true
 |.bl _=>true
 |.int _=>true
 |.str _=>true
 |_=>false
noncomputable def xy:Val->V
 |.bl b=>.bl b
 |.int i=>.int i
 |.str x=>.str x
 |_=>.non
noncomputable def eq1(x y:Val):Bool:=eqV (xy x) (xy y)
noncomputable def aIn(n_:Bool):Val->Val->Bv:=λx y=>match y.items with
 |some xs=>if oY x=true/\xs.all oY=true then .val (.bl (if n_ then !(xs.any λd=>eq1 d x) else xs.any λd=>eq1 d x)) else .stuck
 |none=>.stuck
def wY(r:ShR P h d v)(f:oY v=true):mE d=true/\toV d=xy v:=by
 cases v with
 |non=>obtain rfl:=r.non;exact⟨rfl,rfl⟩
 |bl b=>obtain rfl:=r.bl;exact⟨rfl,rfl⟩
 |int b=>obtain rfl:=r.int;exact⟨rfl,rfl⟩
 |str b=>obtain rfl:=r.str;exact⟨rfl,rfl⟩
 |_=>cases f
def BM(x:D)(y:Val)(hx:toV x=xy y):∀{ds:List D}{vs:List Val},Rds P h ds vs->vs.all oY=true->ds.all mE=true/\(ds.any λd=>eqF d x)=vs.any λd=>eq1 d y:=by
 intro ds;induction ds with
 |nil=>intro vs r f;cases r;exact⟨rfl,rfl⟩
 |
  cons d0 ds ih=>
  intro vs r f;cases r with
  |cons r rr=>rw[PC,D_] at f;obtain⟨h1,h2⟩:=wY (.inl r) f.1;obtain⟨h3,h4⟩:=ih rr f.2;refine⟨by rw[PC,h1,h3];rfl,?_⟩;rw[Pg,Pg,h4];unfold eqF eq1;rw[h2,hx]
def D8(n_:Bool):RO (gIn n_) (aIn n_):=λP h d1 d2 v1 v2 r1 r2=>by
 unfold aIn;split
 .rename_i xs e;obtain⟨ds,e2,q⟩:=r2.items e;split
  .rename_i hf;obtain⟨f1,f2⟩:=wY r1 hf.1;obtain⟨f3,f4⟩:=BM d1 v1 f2 q hf.2;exact⟨_,by unfold gIn;rw[e2];dsimp only;rw[if_pos ⟨f1,f3⟩,f4],.bl _⟩
  .trivial
 .trivial
noncomputable def yw(n_:Bool):Val->Val->Bv:=λx y=>match x,y with
 |.non,.non=>.val (.bl (!n_))
 |_,.non=>.val (.bl n_)
 |_,_=>.stuck
def y9(n_:Bool):RO (lQ n_) (yw n_):=λP h d1 d2 v1 v2 r1 r2=>by
 unfold yw;split
 .obtain rfl:=r1.non;obtain rfl:=r2.non;exact⟨_,rfl,.bl _⟩
 .rename_i hn;obtain rfl:=r2.non;have:d1 ≠ .non:=by
   rintro rfl;rcases r1 with r |⟨n,o,z,_⟩
   .cases r;exact hn rfl
   .cases z
  refine⟨_,?_,.bl n_⟩;unfold lQ;split
  .exact absurd rfl this
  .rfl
  .rename_i h1 h2;exact (h1 rfl).elim
 .trivial
noncomputable def BE:List Val->Bv:=λvs=>match vs with
 | [v]=>(match v.items with
  |some xs=>.val (.int xs.length)
  |none=>(match v with
   |.str z=>if z.length<=16777216 then .val (.int z.length) else .stuck
   |_=>.stuck))
 |_=>.stuck
noncomputable def Dp:List Val->Bv:=λvs=>match vs with
 | [.int i]=>.val (.int (if i<0 then -i else i))
 |_=>.stuck
noncomputable def xU:List Val->Bv:=λvs=>match vs with
 | [.int i,.int j]=>.val (.int (if j<i then j else i))
 |_=>.stuck
noncomputable def mh:List Val->Option (List Bool)
 | []=>some []
 |.bl b::r=>(mh r).map (b :: ·)
 |_=>none
noncomputable def kZ:List Val->Option (List Int)
 | []=>some []
 |.int b::r=>(kZ r).map (b :: ·)
 |_=>none
noncomputable def CW:List Val->Bv:=λvs=>match vs with
 | [.lst xs]=>(match mh xs with
  |some bs=>.val (.bl (bs.all id))
  |none=>.stuck)
 |_=>.stuck
noncomputable def BL:List Val->Bv:=λvs=>match vs with
 | [.lst xs]=>(match kZ xs with
  |some bs=>.val (.int bs.sum)
  |none=>.stuck)
 |_=>.stuck
noncomputable def yr:List Val->Bv:=λvs=>match vs with
 | [v]=>(match v.items with
  |some xs=>.new (.lst xs)
  |none=>.stuck)
 |_=>.stuck
def tK:List Val->Bv:=λvs=>match vs with
 | [v]=>(match v.items with
  |some xs=>.val (.tup xs)
  |none=>.stuck)
 |_=>.stuck
def GQ:RFn tG BE:=λP h ds vs r=>by
 unfold BE;split
 .obtain⟨d,hd,rr1⟩:=jA r;subst hd;clear r;have r:=rr1;split
  .rename_i xs e;obtain⟨es,e2,q⟩:=r.items e;exact⟨_,by unfold tG;dsimp only;rw[e2],by rw[<- q.len];exact .int _⟩
  .split
   .rename_i z _;obtain rfl:=r.str;split
    .rename_i hl;exact⟨_,by show (if z.length<=16777216 then _ else _)=_;rw[if_pos hl],.int _⟩
    .trivial
   .trivial
 .trivial
def Iq:RFn yh Dp:=λP h ds vs r=>by
 unfold Dp;split
 .obtain⟨d,hd,rr1⟩:=jA r;subst hd;clear r;have r:=rr1;obtain rfl:=r.int;exact⟨_,rfl,.int _⟩
 .trivial
def Fh:RFn sV xU:=λP h ds vs r=>by
 unfold xU;split
 .obtain⟨d,d',hd,rr1,r'⟩:=xt r;subst hd;clear r;have r:=rr1;obtain rfl:=r.int;obtain rfl:=r'.int;exact⟨_,rfl,.int _⟩
 .trivial
def M3:∀{ds:List D}{vs:List Val}{bs:List Bool},Rds P h ds vs->mh vs=some bs->jI ds=some bs:=by
 intro ds;induction ds with
 |nil=>intro vs bs r q;cases r;cases q;rfl
 |
  cons d0 ds ih=>
  intro vs bs r q;cases r with
  |
   cons r rr=>
   rename_i v vs;cases v with
   |bl b=>obtain rfl:=ShR.bl (.inl r);obtain⟨b',q1,rfl⟩:=OH.mp (show (mh vs).map (b :: ·)=some bs from q);show (jI _).map (b :: ·)=_;rw[ih rr q1];rfl
   |_=>cases q
def JT:∀{ds:List D}{vs:List Val}{bs:List Int},Rds P h ds vs->kZ vs=some bs->iK ds=some bs:=by
 intro ds;induction ds with
 |nil=>intro vs bs r q;cases r;cases q;rfl
 |
  cons d0 ds ih=>
  intro vs bs r q;cases r with
  |
   cons r rr=>
   rename_i v vs;cases v with
   |int b=>obtain rfl:=ShR.int (.inl r);obtain⟨b',q1,rfl⟩:=OH.mp (show (kZ vs).map (b :: ·)=some bs from q);show (iK _).map (b :: ·)=_;rw[ih rr q1];rfl
   |_=>cases q
def KG:RFn uv CW:=λP h ds vs r=>by
 unfold CW;split
 .obtain⟨d,hd,rr1⟩:=jA r;subst hd;clear r;have r:=rr1;obtain⟨n,es,rfl,_,e1,q⟩:=r.lst;split
  .rename_i bs e2;exact⟨_,by unfold uv;dsimp only;rw[e1];show (match jI es with |some bs=>_ |none=>_)=_;rw[M3 q e2],.bl _⟩
  .trivial
 .trivial
def JD:RFn uX BL:=λP h ds vs r=>by
 unfold BL;split
 .obtain⟨d,hd,rr1⟩:=jA r;subst hd;clear r;have r:=rr1;obtain⟨n,es,rfl,_,e1,q⟩:=r.lst;split
  .rename_i bs e2;exact⟨_,by unfold uX;dsimp only;rw[e1];show (match iK es with |some bs=>_ |none=>_)=_;rw[JT q e2],.int _⟩
  .trivial
 .trivial
def FA:RFn pw yr:=λP h ds vs r=>by
 unfold yr;split
 .obtain⟨d,hd,rr1⟩:=jA r;subst hd;clear r;have r:=rr1;split
  .rename_i xs e;obtain⟨es,e2,q⟩:=r.items e;exact⟨.lst es,by unfold pw;dsimp only;rw[e2],trivial,.lst q⟩
  .trivial
 .trivial
def CG:RFn l9 tK:=λP h ds vs r=>by
 unfold tK;split
 .obtain⟨d,hd,rr1⟩:=jA r;subst hd;clear r;have r:=rr1;split
  .rename_i xs e;obtain⟨es,e2,q⟩:=r.items e;exact⟨_,by unfold l9;dsimp only;rw[e2],.tup q⟩
  .trivial
 .trivial
noncomputable def tyC:Val->Option Cl
 |.non=>some (.b "NoneType")
 |.bl _=>some (.b "bool")
 |.int _=>some (.b "int")
 |.str _=>some (.b "str")
 |.tup _=>some (.b "tuple")
 |.exc x=>some (.o x)
 |.lst _=>some (.b "list")
 |.dct _=>some (.b "dict")
 |_=>none
noncomputable def clV:Val->Option Cl
 |.ty n=>some (.b n)
 |.glb x=>some (.o x)
 |_=>none
noncomputable def yi:List Val->Option (List Cl)
 | []=>some []
 |v::vs=>match clV v,yi vs with
  |some c,some cs=>some (c::cs)
  |_,_=>none
noncomputable def NM:Val->Option (List Cl)
 |.tup cs=>yi cs
 |v=>(clV v).map ([·])
noncomputable def C0(kt:kU):List Val->Bv:=λvs=>match vs with
 | [v,c]=>(match tyC v,NM c with
  |some t,some (c0::cr)=>(match iz kt t (c0::cr),kit kt t c0 with
   |some b,some _=>.val (.bl b)
   |_,_=>.stuck)
  |_,_=>.stuck)
 |_=>.stuck
def Mb(r:ShR P h d v)(q:tyC v=some t):tyD h d=some t:=by
 cases v with
 |non=>obtain rfl:=r.non;exact q
 |bl b=>obtain rfl:=r.bl;exact q
 |int b=>obtain rfl:=r.int;exact q
 |str b=>obtain rfl:=r.str;exact q
 |exc b=>obtain rfl:=r.exc;exact q
 |tup b=>obtain⟨ds,rfl,_⟩:=r.tup;exact q
 |lst b=>obtain⟨n,ds,rfl,e,_⟩:=r.lst;unfold tyD;dsimp only;rw[e];exact q
 |dct b=>obtain⟨n,ds,rfl,e,_⟩:=r.dct;unfold tyD;dsimp only;rw[e];exact q
 |_=>cases q
def Dy(r:ShR P h d v)(q:clV v=some c):clD d=some c:=by
 cases v with
 |ty b=>obtain rfl:=r.ty;exact q
 |glb b=>obtain rfl:=r.glb;exact q
 |_=>cases q
def Ih:∀{ds:List D}{vs:List Val}{cs:List Cl},Rds P h ds vs->yi vs=some cs->ds.mapM clD=some cs:=by
 intro ds;induction ds with
 |nil=>intro vs cs r q;cases r;cases q;rfl
 |
  cons d0 ds ih=>
  intro vs cs r q;cases r with
  |
   cons r rr=>
   unfold yi at q;split at q
   .rename_i c cs' e1 e2;cases q;rw[P5,Dy (.inl r) e1,ih rr e2];rfl
   .cases q
def Iw(kt:kU):RFn (uA kt) (C0 kt):=λP h ds vs r=>by
 unfold C0;split
 .rename_i v c;obtain⟨d,d',rfl,r1,r2⟩:=xt r;split
  .rename_i t c0 cr e1 e2;have e3:=Mb r1 e1;split
   .rename_i b b' e4 e5;refine⟨.bl b,?_,.bl b⟩;unfold uA;dsimp only;rw[e3];dsimp only;by_cases ht:∃cs,c=.tup cs
    .obtain⟨cs,rfl⟩:=ht;obtain⟨es,rfl,q⟩:=r2.tup;dsimp only;rw[Ih q e2];dsimp only;rw[e4,e5]
    .have e2':(clV c).map ([·])=some (c0::cr):=by
      cases c with
      |tup cs=>exact absurd ⟨cs,rfl⟩ ht
      |_=>exact e2
     obtain⟨cl,y1,y2⟩:=OH.mp e2';cases y2;have y3:=Dy r2 y1;have hd:∀cs,d' ≠ .tup cs:=λcs z=>by subst z;cases y3
     split
     .rename_i cs;exact absurd rfl (hd cs)
     .rw[y3];dsimp only;have:kit kt t c0=some b:=by
       unfold iz at e4;rw[e5] at e4 ⊢;cases b' with
       |true=>exact e4
       |false=>unfold iz at e4;exact e4
      rw[this]
   .trivial
  .trivial
 .trivial
noncomputable def hE(xs:List Val)(lo hi:Option Int):List Val:=(xs.drop (HT.sIx xs.length 0 lo)).take (HT.sIx xs.length xs.length hi-HT.sIx xs.length 0 lo)
abbrev MO3:=E3->R3 (Option Int)
def C6(_:Ns)(_:E3)(_:AH)(b c:Option Int):Prop:=b=c
def ROp(F:MO)(G:MO3):Prop:=∀X h0 ns e ae h,Sat X h0 ns e ae h->Po X h0 ns e ae h C6 (F ae h) (G e)
noncomputable def Ay:MO3:=λe=>.ok none e
noncomputable def Ab(F:ME3):MO3:=λe=>(F e).bind λt e1=>match rs e1 t with
 |some (.int i)=>.ok (some i) e1
 |_=>.stuck
noncomputable def aSl(x:Val)(lo hi:Option Int):Bv:=match x with
 |.tup xs=>if HT.sIx xs.length 0 lo=0/\HT.sIx xs.length xs.length hi=xs.length then .stuck else .val (.tup (hE xs lo hi))
 |.lst xs=>.new (.lst (hE xs lo hi))
 |.kl xs=>.new (.lst (hE xs lo hi))
 |_=>.stuck
noncomputable def vSl(F:ME3)(L U:MO3):ME3:=λe=>(F e).bind λt e1=>(L e1).bind λlo e2=>(U e2).bind λhi e3=>match rs e3 t.drop with
 |some v=>(aSl v lo hi).at e3
 |none=>.stuck
def GL:ROp yF Ay:=λX h0 ns e ae h S=>Po.ret S rfl
def Fw(hF:RE F F3):ROp (x9 F) (Ab F3):=λX h0 ns e ae h S=>
 Po.bind S (hF X h0 0 ns e ae h S (ON _)) λd t h1 ns1 e1 a1 S1 r1=>by
  by_cases hq:∃i,rs e1 t=some (.int i)
  .obtain⟨i,hq⟩:=hq;have hd:=(r1.sh S1 hq).int;subst hd;show Po X h0 ns1 e1 ae h1 C6 (R.ok (some i) h1) (match rs e1 t with |some (.int i)=>R3.ok (some i) e1 |_=>.stuck);rw[hq];exact Po.ret S1 rfl
  .have:(match rs e1 t with |some (.int i)=>R3.ok (some i) e1 |_=>.stuck)=(.stuck:R3 (Option Int)):=by
    split
    .rename_i i q;exact absurd ⟨i,q⟩ hq
    .rfl
   show Po X h0 ns1 e1 ae h1 C6 _ (match rs e1 t with |some (.int i)=>R3.ok (some i) e1 |_=>.stuck);rw[this];trivial
def Nt(hF:RE F F3)(hL:ROp L L3')(hU:ROp U U3):RE (eSl F L U) (vSl F3 L3' U3):=λX h0 LL ns e ae h S hl=>
 Po.bind
  S (hF X h0 LL ns e ae h S hl) λd t h1 ns1 e1 a1 S1 r1=>Po.bind S1 (hL X h0 ns1 e1 ae h1 S1) λlo lo' h2 ns2 e2 a2 S2 r2=>Po.bind S2 (hU X h0 ns2 e2 ae h2 S2) λhi hi' h3 ns3 e3 a3 S3 r3=>by
  cases r2;cases r3;obtain⟨r1',hn⟩:=r1.drop;have r4:=(r1'.stp S1 a2 hn).stp S2 a3 hn;try dsimp only
  split
  .rename_i v q;have rr:=r4.sh S3 q;refine BvR.po S3 (I_ hl (I_ a1.len (I_ a2.len a3.len))) ?_;unfold aSl;split
   .rename_i xs;obtain⟨ds,rfl,q1⟩:=rr.tup;split
    .trivial
    .rename_i hne;refine⟨_,by unfold gSl;dsimp only;rw[if_neg (by rw[q1.len];exact hne)],.tup ?_⟩;unfold L2.cutD hE;rw[q1.len];exact (q1.drop _).take _
   .rename_i xs;obtain⟨n,ds,rfl,_,e1,q1⟩:=rr.lst;refine⟨.lst (L2.cutD ds lo hi),by unfold gSl;dsimp only;rw[e1],trivial,.lst ?_⟩;unfold L2.cutD hE;rw[q1.len];exact (q1.drop _).take _
   .rename_i xs;have key:∃ds,gSl d lo hi h3=.ok (.ref h3.length) (h3++[.lst (L2.cutD ds lo hi)])/\Rds (Oc X ns3) h3 ds xs:=by
     rcases rr with rr |⟨n,o,rfl,e,rr⟩
     .cases rr with
      |kl q1=>exact⟨_,rfl,q1⟩
      |cell p e rc=>cases rc with |fz q1=>exact⟨_,by unfold gSl cE;dsimp only;rw[e],q1⟩
     .cases rr with |fz q1=>exact⟨_,by unfold gSl cE;dsimp only;rw[e],q1⟩
    obtain⟨ds,e1,q1⟩:=key;refine⟨.lst (L2.cutD ds lo hi),e1,trivial,.lst ?_⟩;unfold L2.cutD hE;rw[q1.len];exact (q1.drop _).take _
   .trivial
  .trivial
noncomputable def qJ:Val->List Val->Option (Val×Val):=λu vs=>match u,vs with
 |.lst xs,[v]=>if xs.length<16777216 then some (.lst (xs++[v]),.non) else none
 |_,_=>none
def nF:Val->List Val->Option (Val×Val):=λu vs=>match u,vs with
 |.lst xs,[]=>some (.lst xs.reverse,.non)
 |_,_=>none
section
variable{P:Nat->Prop}{h:AH}
def D2(e:h[n]?=some o)(r:Rc P h o (.lst xs)):mT h (.ref n)=true/\∃ds,h[n]?=some (.lst ds)/\Rds P h ds xs/\∀f,mH h (.ref n) f=f n ds:=by obtain⟨ds,e1,e2,q⟩:=Rc.seq e r;refine⟨by show (cE h n).isSome=true;rw[e2];rfl,ds,e1,q,λf=>?_⟩;unfold mH;dsimp only;rw[e1]
def rds1(r:Rds P h ds [v]):∃d,ds=[d]/\Rd P h d v:=by cases r with |cons r rr=>cases rr;exact⟨_,rfl,r⟩
end
def AJ:RM mG qJ:=λP h n o u ds vs u' v e hf r rs q=>by
 unfold qJ at q;split at q
 .split at q
  .rename_i hl;cases q;obtain⟨q1,es,q2,q3,q4⟩:=D2 e r;obtain⟨d,rfl,rd⟩:=rds1 rs;refine⟨q1,.lst (es++[d]),.non,?_,trivial,.lst (q3.append (.cons rd .nil)),.non⟩;unfold mG;rw[q4];dsimp only;rw[if_pos (by rw[q3.len];exact hl)]
  .cases q
 .cases q
def yq:RM kM nF:=λP h n o u ds vs u' v e hf r rs q=>by
 unfold nF at q;split at q
 .cases q;obtain⟨q1,es,q2,q3,q4⟩:=D2 e r;cases rs;exact⟨q1,.lst es.reverse,.non,by unfold kM;rw[q4],trivial,.lst q3.reverse,.non⟩
 .cases q
structure PEx where
 F:ME
 G:ME3
 ok:RE F G
structure PTs where
 F:MT
 G:MT3
 ok:RT F G
structure PAs where
 F:MA
 G:MA3
 ok:RA F G
structure PSt where
 F:MS
 G:MS3
 ok:RS F G
structure PGt where
 F:MG
 G:MG3
 ok:RG F G
structure PGs where
 F:MGs
 G:lC
 ok:RGs F G
structure PIt where
 F:MI
 G:MI3
 ok:RI F G
structure POp where
 F:MO
 G:MO3
 ok:ROp F G
structure PO2 where
 F:D->D->AH->R D
 G:Val->Val->Bv
 ok:RO F G
structure PU1 where
 F:D->AH->R D
 G:Val->Bv
 ok:RU F G
structure PBf where
 F:Fn
 G:List Val->Bv
 ok:RFn F G
structure PMm where
 F:D->List D->AH->R D
 G:Val->List Val->Option (Val×Val)
 ok:RM F G
structure PSe where
 F:D->D->D->AH->R Unit
 G:Val->Val->Val->Option Val
 ok:BC F G
structure PFn where
 ms:List Bool
 F:Fn
 G:Fn3
 ok:RF ms F G
structure PFx(ms:List Bool) where
 F:Fn
 G:Fn3
 ok:RF ms F G
noncomputable section
noncomputable def PFx.fn{ms:List Bool}(p:PFx ms):PFn:=⟨ms,p.F,p.G,p.ok⟩
noncomputable def ax(i:Nat):PEx:=⟨dN i,BS i,Hw i⟩
noncomputable def bC(i:Int):PEx:=⟨eC (.int i),vC (.int i),nV λ_ _=>.int i⟩
noncomputable def pBl(i:Bool):PEx:=⟨eC (.bl i),vC (.bl i),nV λ_ _=>.bl i⟩
noncomputable def bZ(i:Str):PEx:=⟨eC (.str i),vC (.str i),nV λ_ _=>.str i⟩
def iY:PEx:=⟨eC .non,vC .non,nV λ_ _=>.non⟩
noncomputable def pTy(i:String):PEx:=⟨eC (.ty i),vC (.ty i),nV λ_ _=>.ty i⟩
noncomputable def xY(i:Str):PEx:=⟨eC (.glb i),vC (.glb i),nV λ_ _=>.glb i⟩
noncomputable def vv(d:D)(v:Val)(r:∀P h,Rd P h d v):PEx:=⟨eC d,vC v,nV r⟩
noncomputable def pUn(o:PU1)(a:PEx):PEx:=⟨eUn o.F a.F,vUn o.G a.G,LW o.ok a.ok⟩
noncomputable def pOp(o:PO2)(a b:PEx):PEx:=⟨eOp o.F a.F b.F,vOp o.G a.G b.G,Mg o.ok a.ok b.ok⟩
noncomputable def bx:PAs:=⟨kX,qc,AI⟩
noncomputable def ai(a:PEx)(r:PAs):PAs:=⟨mR a.F r.F,DX a.G r.G,Ez a.ok r.ok⟩
noncomputable def pFn(o:PBf)(a:PAs):PEx:=⟨eFn o.F a.F,vFn o.G a.G,Oo o.ok a.ok⟩
noncomputable def cx(a:PAs):PEx:=⟨eFn jJ a.F,vTup a.G,Ir a.ok⟩
noncomputable def c7(a:PAs):PEx:=⟨eFn fL a.F,vLst a.G,KC a.ok⟩
noncomputable def ip(a b:PEx):PEx:=⟨CQ a.F b.F,vAnd a.G b.G,HP a.ok b.ok⟩
noncomputable def tZ(a:PEx):PEx:=⟨C1 a.F,vNot a.G,HH a.ok⟩
def pIf(c:PTs)(a b:PEx):PEx:=⟨eIf c.F a.F b.F,vIf c.G a.G b.G,MK c.ok a.ok b.ok⟩
noncomputable def qOf(a:PEx):PTs:=⟨tOf a.F,cOf a.G,NB a.ok⟩
noncomputable def qAn(a b:PTs):PTs:=⟨tAn a.F b.F,cAn a.G b.G,Nz a.ok b.ok⟩
noncomputable def qO(a b:PTs):PTs:=⟨tO a.F b.F,cO a.G b.G,rt_o a.ok b.ok⟩
noncomputable def qNo(a:PTs):PTs:=⟨tNo a.F,cNo a.G,Mk a.ok⟩
noncomputable def qY:PTs:=⟨tY,cY,rt_y⟩
noncomputable def xNx:PSt:=⟨sNx,wNx,Ow⟩
noncomputable def xCt:PSt:=⟨sCt,wCt,My⟩
noncomputable def bH(a:PEx):PSt:=⟨xI a.F,wRet a.G,K0 a.ok⟩
noncomputable def dD(a:PEx):PSt:=⟨yj a.F,DJ a.G,FQ a.ok⟩
noncomputable def bE(a b:PSt):PSt:=⟨Bc a.F b.F,wSeq a.G b.G,Kg a.ok b.ok⟩
noncomputable def xIf(c:PTs)(a b:PSt):PSt:=⟨sIf c.F a.F b.F,wIf c.G a.G b.G,N2 c.ok a.ok b.ok⟩
noncomputable def bO(o:Bool)(i:Nat)(a:PEx):PSt:=⟨i0 a.F (gN i),wAsg o i a.G,Kt o i a.ok⟩
noncomputable def gtN(i:Nat):PGt:=⟨gN i,pN i,yI i⟩
noncomputable def cU:PGs:=⟨gsN,psN,Lv⟩
noncomputable def bM(a:PGt)(b:PGs):PGs:=⟨gsC a.F b.F,psC a.G b.G,Nc a.ok b.ok⟩
noncomputable def gtT(n:Nat)(a:PGs):PGt:=⟨gT λds ae h=>if ds.length=n then a.F ds ae h else .stuck,pT n a.G,rg_t n a.ok⟩
noncomputable def gtX(a:PGt):PGt:=⟨λd ae h=>noX (a.F d ae h),a.G,Iv a.ok⟩
noncomputable def fS(a:PEx)(g:PGt):PSt:=⟨i0 a.F g.F,Dw a.G g.G,E4 a.ok g.ok⟩
noncomputable def jP(i j:Nat)(a:PAs):PSt:=⟨Dl i j a.F,wPar i j a.G,Ld i j a.ok⟩
noncomputable def CI(i:Nat)(o:PO2)(a:PEx):PSt:=⟨vD i o.F a.F,BD i o.G a.G,Ky i o.ok a.ok⟩
noncomputable def gh(c:Str)(a:PAs):PSt:=⟨uR c a.F,Av c a.G,Bw c a.ok⟩
noncomputable def uP(i:Nat)(w:PSe)(k a:PEx):PSt:=⟨i0 a.F (gS (dN i) k.F w.F),wSet i k.G a.G w.G,Jv i w.ok k.ok a.ok⟩
noncomputable def jU(i:Nat)(m:PMm)(a:PAs):PEx:=⟨eM m.F (dN i) a.F,n6 i m.G a.G,AM i m.ok a.ok⟩
noncomputable def xR(i:Nat)(m:PMm):PEx:=⟨eM0 m.F (dN i),n6 i m.G qc,Gn i m.ok⟩
noncomputable def cm(a:PEx):PIt:=⟨Dc a.F,D7 a.G,Lo a.ok⟩
def kL(a:PAs):PIt:=⟨B0 a.F,ug iV a.G,G8 a.ok⟩
def sO(a:PAs):PIt:=⟨Dn a.F,ug qT a.G,Ia a.ok⟩
def yR(a:PAs):PIt:=⟨B4 a.F,DL a.G,Jk a.ok⟩
noncomputable def yD(a:PAs):PIt:=⟨Bi a.F,D9 a.G,Jq a.ok⟩
def eE(i:PIt)(g:PGt)(b:PSt):PSt:=⟨Cs i.F g.F b.F,wFor i.G g.G b.G,IV i.ok g.ok b.ok⟩
def xWh(c:PTs)(b:PSt):PSt:=⟨sWh c.F b.F,wWh c.G b.G,Nq c.ok b.ok⟩
def pLC(i:PIt)(sub:Rg)(hs:(sub.filterMap id).Nodup)(g:PGt)(c:PTs)(a:PEx):PEx:=⟨eLC i.F sub g.F c.F a.F,vLC i.G sub g.G c.G a.G,N0 hs i.ok g.ok c.ok a.ok⟩
noncomputable def bD(f:PFn)(a:PAs):PEx:=⟨sT f.ms.length f.F a.F,Ec f.ms f.G a.G,En rfl f.ok a.ok⟩
noncomputable def oN:POp:=⟨yF,Ay,GL⟩
noncomputable def oS(a:PEx):POp:=⟨x9 a.F,Ab a.G,Fw a.ok⟩
noncomputable def pSl(a:PEx)(l u:POp):PEx:=⟨eSl a.F l.F u.F,vSl a.G l.G u.G,Nt a.ok l.ok u.ok⟩
noncomputable def PFx.none(ms:List Bool)(N:Nat:=0):PFx ms:=⟨λ_ _=>.stuck,λ_=>.stuck,λ_ _ _ _ _ _ _=>trivial⟩
noncomputable def PFx.of(ms:List Bool)(N:Nat)(c:PSt):PFx ms:=⟨fnD N c.F,fnV ms N c.G,Ed c.ok⟩
noncomputable def fnP(ms:List Bool)(N:Nat)(c:PSt):PFn:=⟨ms,fnD N c.F,fnV ms N c.G,Ed c.ok⟩
noncomputable def cH:PO2:=⟨yS,Di,HV⟩
noncomputable def pW:PO2:=⟨B5,aMin,JQ⟩
def cq:PO2:=⟨CH,xQ,JO⟩
def jT:PO2:=⟨CJ,xv,Ks⟩
def dY:PO2:=⟨A7,xX,Jy⟩
def p7:PO2:=⟨BR,yA,KP⟩
def Cc:PO2:=⟨Ck,yW,HJ⟩
noncomputable def bLt:PO2:=⟨gLt,aLt,Mm⟩
noncomputable def bGt:PO2:=⟨gGt,aGt,Nv⟩
noncomputable def bGe:PO2:=⟨gGe,aGe,Ol⟩
noncomputable def bIx:PO2:=⟨gIx,aIx,M0⟩
noncomputable def bEq:PO2:=⟨gEq false,aEq false,Eb false⟩
noncomputable def bNe:PO2:=⟨gEq true,aEq true,Eb true⟩
noncomputable def bIn:PO2:=⟨gIn false,aIn false,D8 false⟩
noncomputable def lj:PO2:=⟨gIn true,aIn true,D8 true⟩
noncomputable def bIs:PO2:=⟨lQ false,yw false,y9 false⟩
def yu:PO2:=⟨lQ true,yw true,y9 true⟩
noncomputable def Cm:PO2:=⟨gI λi j=>.int (i+j),aI λi j=>.int (i+j),vF λ_ _ _ _=>.int _⟩
noncomputable def tW:PU1:=⟨yk,A6,Lp⟩
noncomputable def cn:PBf:=⟨tG,BE,GQ⟩
noncomputable def oZ:PBf:=⟨yh,Dp,Iq⟩
noncomputable def tM:PBf:=⟨sV,xU,Fh⟩
noncomputable def sR:PBf:=⟨uv,CW,KG⟩
noncomputable def iG:PBf:=⟨uX,BL,JD⟩
noncomputable def oC:PBf:=⟨pw,yr,FA⟩
noncomputable def kf:PBf:=⟨l9,tK,CG⟩
noncomputable def eK(kt:kU):PBf:=⟨uA kt,C0 kt,Iw kt⟩
noncomputable def eR:PMm:=⟨mG,qJ,AJ⟩
noncomputable def lV:PMm:=⟨kM,nF,yq⟩
end
theorem pR:∀(ns:List Int),Rds P h (ns.map D.int) (ns.map Val.int)
 | []=>.nil
 |_::r=>.cons (.int _) (pR r)
def law3(p:PFn)(hm:p.ms=[false])(hG:∀ns:List Int,ns.length<=63->p.G [.kl (ns.map .int)]=.ok (.val (.bl true)) [])(d:D)(h:AH)(ns:List Int)(hl:ns.length<=63)(sc:Script h d ns):∃h',p.F [d] h=.ok (.bl true) h':=by
 have hp:=p.ok;rw[hm] at hp;have rd:Rd (Oc (λ_=>False) [none]) h d (.kl (ns.map .int)):=by
  rcases sc.form with ⟨n,rfl,e⟩ |rfl
  .exact .cell ⟨λz=>z,by simp⟩ e (.fz (pR ns))
  .exact .kl (pR ns)
 have S:Sat (λ_=>False) h.length [none] (sls [false] [.kl (ns.map .int)]) ([d].map some) h:=by
  refine⟨rfl,rfl,z_ _,λ_ z=>z.elim,λi j n q=>?_,λi n q z=>z,λi s q=>?_⟩
  .cases i with
   |zero=>simp at q
   |succ i=>simp at q
  .cases i with
   |
    zero=>
    have:sl1 false (.kl (ns.map .int))=s:=by simpa [sls] using q
    subst this;exact⟨rfl,d,rfl,rd⟩
   |succ i=>simp [sls] at q
 have:=hp _ _ [d] [.kl (ns.map .int)] h rfl S
 rw[hG ns hl] at this;obtain⟨d',h',e,_,_,r⟩:=this;cases r with
 |bl=>exact⟨h',e⟩
 |cell p e r=>cases r
section
variable(e:E3)
@[simp] theorem mM(a:α)(f:α->E3->R3 β):(R3.ok a e).bind f=f a e:=rfl
@[simp] theorem Mz(a:α)(f:α->E3->SR3):(R3.ok a e).toS f=f a e:=rfl
@[simp] theorem L9(f:E3->SR3):(SR3.nx e).then f=f e:=rfl
@[simp] theorem Lu(r:Rt)(f:E3->SR3):(SR3.rt r e).then f=.rt r e:=rfl
@[simp] theorem Oq(f:E3->SR3):(SR3.ct e).then f=.ct e:=rfl
@[simp] theorem JM(c:Str)(f:E3->SR3):(SR3.exc c e).then f=.exc c e:=rfl
@[simp] theorem i5(f:E3->SR3):(SR3.nx e).loop f=f e:=rfl
@[simp] theorem D4(f:E3->SR3):(SR3.ct e).loop f=f e:=rfl
@[simp] theorem NW(r:Rt)(f:E3->SR3):(SR3.rt r e).loop f=.rt r e:=rfl
@[simp] theorem LH(r:SR3):r.unl none=r:=by cases r <;> rfl
@[simp] theorem CP:lockO e none=e:=rfl
@[simp] theorem ye:gF e none=e:=rfl
@[simp] theorem Hr(v:Val):(Bv.val v).at e=.ok (.val v) e:=rfl
@[simp] theorem HE(v:Val):(Bv.new v).at e=.ok (.new v) e:=rfl
@[simp] theorem HL(v:Val):rs e (.val v)=some v:=rfl
@[simp] theorem J2(v:Val):rs e (.new v)=some v:=rfl
@[simp] theorem Hm(i:Nat):rs e (.bor i)=(e[i]?).bind Sl.val:=rfl
@[simp] theorem KN(v:Val):(Tm.val v).drop=.val v:=rfl
@[simp] theorem GU(v:Val):(Tm.new v).drop=.val v:=rfl
@[simp] theorem Iu(i:Nat):(Tm.bor i).drop=.bor i:=rfl
@[simp] theorem EU:rss e []=some []:=rfl
@[simp] theorem CN(t:Tm)(ts:List Tm):rss e (t::ts)=match rs e t,rss e ts with
 |some v,some vs=>some (v::vs)
 |_,_=>none:=rfl
@[simp] theorem GY(v:Val):dk e (.val v)=some (e,v):=rfl
@[simp] theorem Kr(v:Val):dk e (.new v)=some (e,v):=rfl
@[simp] theorem zR:dem e []=some (e,[]):=rfl
@[simp] theorem EX(t:Tm)(ts:List Tm):dem e (t::ts)=match dk e t with
 |some (e1,v)=>match dem e1 ts with
  |some (e2,vs)=>some (e2,v::vs)
  |none=>none
 |none=>none:=rfl
@[simp] theorem Kf(b:Bool):bOf (some (.bl b))=some b:=rfl
@[simp] theorem Na(i:Nat):(ax i).G e=match e[i]? with
 |some (.sh v)=>.ok (.val v) e
 |some .no=>.stuck
 |some _=>.ok (.bor i) e
 |none=>.stuck:=rfl
@[simp] theorem M9(i:Int):(bC i).G e=.ok (.val (.int i)) e:=rfl
@[simp] theorem v_bl(i:Bool):(pBl i).G e=.ok (.val (.bl i)) e:=rfl
@[simp] theorem LQ(i:Str):(bZ i).G e=.ok (.val (.str i)) e:=rfl
@[simp] theorem N8:iY.G e=.ok (.val .non) e:=rfl
@[simp] theorem v_ty(i:String):(pTy i).G e=.ok (.val (.ty i)) e:=rfl
@[simp] theorem LK(i:Str):(xY i).G e=.ok (.val (.glb i)) e:=rfl
@[simp] theorem v_un(o:PU1)(a:PEx):(pUn o a).G e=(a.G e).bind λt e1=>match rs e1 t with
 |some v=>(o.G v).at e1
 |none=>.stuck:=rfl
@[simp] theorem v_op(o:PO2)(a b:PEx):(pOp o a b).G e=(a.G e).bind λt1 e1=>(b.G e1).bind λt2 e2=>match rs e2 t1.drop,rs e2 t2 with
 |some v1,some v2=>(o.G v1 v2).at e2
 |_,_=>.stuck:=rfl
@[simp] theorem N4:bx.G e=.ok [] e:=rfl
@[simp] theorem Jg(a:PEx)(r:PAs):(ai a r).G e=(a.G e).bind λt e1=>(r.G e1).bind λts e2=>.ok (t.drop::ts) e2:=rfl
@[simp] theorem v_fn(o:PBf)(a:PAs):(pFn o a).G e=(a.G e).bind λts e1=>match rss e1 ts with
 |some vs=>(o.G vs).at e1
 |none=>.stuck:=rfl
@[simp] theorem Mc(a:PAs):(cx a).G e=(a.G e).bind λts e1=>match dem e1 ts with
 |some (e2,vs)=>if vs.length<=16777216 then .ok (.val (.tup vs)) e2 else .stuck
 |none=>.stuck:=rfl
@[simp] theorem Lw(a:PAs):(c7 a).G e=(a.G e).bind λts e1=>match dem e1 ts with
 |some (e2,vs)=>if vs.length<=16777216 then .ok (.new (.lst vs)) e2 else .stuck
 |none=>.stuck:=rfl
@[simp] theorem MW(a b:PEx):(ip a b).G e=(a.G e).bind λt e1=>match bOf (rs e1 t) with
 |some true=>b.G e1
 |some false=>.ok (.val (.bl false)) e1
 |none=>.stuck:=rfl
@[simp] theorem Nk(a:PEx):(tZ a).G e=(a.G e).bind λt e1=>match bOf (rs e1 t) with
 |some b=>.ok (.val (.bl (!b))) e1
 |none=>.stuck:=rfl
@[simp] theorem v_if(c:PTs)(a b:PEx):(pIf c a b).G e=(c.G e).bind λk e1=>if k=true then a.G e1 else b.G e1:=rfl
@[simp] theorem c_of(a:PEx):(qOf a).G e=(a.G e).bind λt e1=>match bOf (rs e1 t) with
 |some b=>.ok b e1
 |none=>.stuck:=rfl
@[simp] theorem c_an(a b:PTs):(qAn a b).G e=(a.G e).bind λk e1=>if k=true then b.G e1 else .ok false e1:=rfl
@[simp] theorem c_o(a b:PTs):(qO a b).G e=(a.G e).bind λk e1=>if k=true then .ok true e1 else b.G e1:=rfl
@[simp] theorem c_no(a:PTs):(qNo a).G e=(a.G e).bind λk e1=>.ok (!k) e1:=rfl
@[simp] theorem c_y:qY.G e=.ok true e:=rfl
@[simp] theorem x_nx:xNx.G e=.nx e:=rfl
@[simp] theorem x_ct:xCt.G e=.ct e:=rfl
@[simp] theorem ML(a:PEx):(bH a).G e=(a.G e).toS rh:=rfl
@[simp] theorem EA(v:Val):rh (.val v) e=.rt (.val v) e:=rfl
@[simp] theorem GA(v:Val):rh (.new v) e=.rt (.new v) e:=rfl
@[simp] theorem Gg(i:Nat):rh (.bor i) e=match e[i]? with
 |some (.sh v)=>.rt (.val v) e
 |some (.ow v)=>.rt (.new v) (e.set i .no)
 |some (.mu _)=>.rt (.par i) e
 |_=>.stuck:=rfl
@[simp] theorem J6(a:PEx):(dD a).G e=(a.G e).toS λ_ e1=>.nx e1:=rfl
@[simp] theorem DN(a b:PSt):(bE a b).G e=(a.G e).then b.G:=rfl
@[simp] theorem x_if(c:PTs)(a b:PSt):(xIf c a b).G e=(c.G e).toS λk e1=>if k=true then a.G e1 else b.G e1:=rfl
@[simp] theorem M1(o:Bool)(i:Nat)(a:PEx):(bO o i a).G e=(a.G e).toS (jQ o i):=rfl
@[simp] theorem Mv:Sl.no.pl=true:=rfl
@[simp] theorem LY(v:Val):(Sl.sh v).pl=true:=rfl
@[simp] theorem Gu(o:Bool)(i:Nat)(v:Val):jQ o i (.val v) e=match e[i]? with
 |some s0=>if s0.pl=true then .nx (e.set i (.sh v)) else .stuck
 |none=>.stuck:=by unfold jQ;rfl
@[simp] theorem Cu(i:Nat)(v:Val):jQ true i (.new v) e=match e[i]? with
 |some s0=>if s0.pl=true then .nx (e.set i (.ow v)) else .stuck
 |none=>.stuck:=by unfold jQ;rfl
@[simp] theorem Bl(i:Nat)(v:Val):jQ false i (.new v) e=match e[i]? with
 |some s0=>if s0.pl=true then .nx (e.set i (.sh v)) else .stuck
 |none=>.stuck:=by unfold jQ;rfl
@[simp] theorem g_n(i:Nat)(v:Val):(gtN i).G v e=match e[i]? with
 |some s=>if s.pl=true then some (e.set i (.sh v)) else none
 |none=>none:=rfl
@[simp] theorem g_sn:cU.G [] e=some e:=rfl
@[simp] theorem g_sc(a:PGt)(b:PGs)(v:Val)(vs:List Val):(bM a b).G (v::vs) e=(a.G v e).bind λe1=>b.G vs e1:=rfl
@[simp] theorem g_t(n:Nat)(a:PGs)(vs:List Val):(gtT n a).G (.tup vs) e=if vs.length=n then a.G vs e else none:=rfl
@[simp] theorem g_x(a:PGt)(v:Val):(gtX a).G v e=a.G v e:=rfl
@[simp] theorem Iz(a:PEx)(g:PGt):(fS a g).G e=(a.G e).toS λt e1=>match dk e1 t with
 |some (e2,v)=>match g.G v e2 with
  |some e3=>.nx e3
  |none=>.stuck
 |none=>.stuck:=rfl
@[simp] theorem NQ(i j:Nat)(a:PAs):(jP i j a).G e=(a.G e).toS λts e1=>match dem e1 ts with
 |some (e2,[v,u])=>match (pN i v e2).bind (pN j u) with
  |some e3=>.nx e3
  |none=>.stuck
 |_=>.stuck:=rfl
@[simp] theorem NC(i:Nat)(v:Val):pN i v e=match e[i]? with
 |some s=>if s.pl=true then some (e.set i (.sh v)) else none
 |none=>none:=rfl
@[simp] theorem Mj(i:Nat)(o:PO2)(a:PEx):(CI i o a).G e=match e[i]? with
 |some (.sh x)=>(a.G e).toS λt e1=>match rs e1 t with
  |some y=>match o.G x y with
   |.val z=>match pN i z e1 with
    |some e2=>.nx e2
    |none=>.stuck
   |_=>.stuck
  |none=>.stuck
 |_=>.stuck:=rfl
@[simp] theorem F7(c:Str)(a:PAs):(gh c a).G e=(a.G e).toS λts e1=>if ts.length<=16777216 then .exc c e1 else .stuck:=rfl
@[simp] theorem Np(i:Nat)(w:PSe)(k a:PEx):(uP i w k a).G e=(a.G e).toS λt e1=>match (e1[i]?).bind Sl.mv with
 |none=>.stuck
 |some _=>(k.G e1).toS λt2 e2=>match rs e2 t2 with
  |none=>.stuck
  |some vi=>match dk e2 t.drop with
   |none=>.stuck
   |some (e3,v)=>match e3[i]? with
    |none=>.stuck
    |some s=>match s.mv with
     |none=>.stuck
     |some u=>match w.G u vi v with
      |some u'=>.nx (e3.set i (s.re u'))
      |none=>.stuck:=rfl
@[simp] theorem Og(v:Val):(Sl.ow v).mv=some v:=rfl
@[simp] theorem Nr(v:Val):(Sl.mu v).mv=some v:=rfl
@[simp] theorem Ny(v u:Val):(Sl.ow v).re u=.ow u:=rfl
@[simp] theorem N1(v u:Val):(Sl.mu v).re u=.mu u:=rfl
@[simp] theorem Hv(v:Val):(Sl.ow v).val=some v:=rfl
@[simp] theorem KU(v:Val):(Sl.mu v).val=some v:=rfl
@[simp] theorem M5(i:Nat)(m:PMm)(a:PAs):(jU i m a).G e=match e[i]? with
 |some s=>if (s.mv.map mq)=some true then (a.G e).bind λts e1=>match dem e1 ts with
  |some (e2,vs)=>match e2[i]? with
   |some s2=>match s2.mv with
    |some u=>match m.G u vs with
     |some (u',v)=>.ok (.val v) (e2.set i (s2.re u'))
     |none=>.stuck
    |none=>.stuck
   |none=>.stuck
  |none=>.stuck else .stuck
 |none=>.stuck:=rfl
@[simp] theorem Ik(i:Nat)(m:PMm):(xR i m).G e=match e[i]? with
 |some s=>if (s.mv.map mq)=some true then (match s.mv with
  |some u=>match m.G u [] with
   |some (u',v)=>.ok (.val v) (e.set i (s.re u'))
   |none=>.stuck
  |none=>.stuck) else .stuck
 |none=>.stuck:=by
 show n6 i m.G qc e=_;unfold n6;cases q:e[i]? with
 |none=>rfl
 |
  some s=>
  dsimp only;split
  .simp only[qc,mM,zR,q];try rfl
  .rfl
@[simp] theorem Dk(xs:List Val):mq (.lst xs)=true:=rfl
@[simp] theorem ND(a:PEx):(cm a).G e=(a.G e).bind λt e1=>match fK t e1 with
 |some p=>.ok p e1
 |none=>.stuck:=rfl
@[simp] theorem MB(a:PAs):(yR a).G e=(a.G e).bind λts e1=>match ts with
 | [t]=>(match fK t e1 with
  |some p=>.ok (qU 0 p.1,p.2) e1
  |none=>.stuck)
 |_=>.stuck:=rfl
@[simp] theorem L4(a:PAs):(yD a).G e=(a.G e).bind λts e1=>match ts with
 | [t,u]=>(match fK t e1,fK u e1 with
  |some (xs,k),some (ys,none)=>.ok (List.zipWith (λx y=>.tup [x,y]) xs ys,k) e1
  |_,_=>.stuck)
 |_=>.stuck:=rfl
@[simp] theorem Hb(v:Val):fK (.val v) e=(iD v).map λxs=>(xs,none):=rfl
@[simp] theorem HS(v:Val):fK (.new v) e=(iD v).map λxs=>(xs,none):=rfl
@[simp] theorem J5(xs:List Val):iD (.tup xs)=some xs:=rfl
@[simp] theorem HM(xs:List Val):iD (.lst xs)=some xs:=rfl
@[simp] theorem NI(a:PAs):(kL a).G e=(a.G e).bind λts e1=>match (rss e1 ts).bind iV with
 |some xs=>.ok (xs,none) e1
 |none=>.stuck:=rfl
@[simp] theorem Mr(a:PAs):(sO a).G e=(a.G e).bind λts e1=>match (rss e1 ts).bind qT with
 |some xs=>.ok (xs,none) e1
 |none=>.stuck:=rfl
@[simp] theorem Nj(i:PIt)(g:PGt)(b:PSt):(eE i g b).G e=(i.G e).toS λp e1=>(dJ g.G b.G p.1 (lockO e1 p.2)).unl p.2:=rfl
@[simp] theorem j6(g:MG3)(B:MS3):dJ g B [] e=.nx e:=rfl
theorem bY(g:MG3)(B:MS3)(v:Val)(vs:List Val):dJ g B (v::vs) e=match g v e with
 |some e1=>(B e1).loop (dJ g B vs)
 |none=>.stuck:=rfl
def xD(c:PTs)(b:PSt):(xWh c b).G e=(c.G e).toS λk e1=>if k=true then (b.G e1).loop (xWh c b).G else .nx e1:=Dh c.G b.G e
@[simp] theorem v_lc(i:PIt)(sub:Rg)(hs:(sub.filterMap id).Nodup)(g:PGt)(c:PTs)(a:PEx):(pLC i sub hs g c a).G e=(i.G e).bind λp e1=>match lcV g.G c.G a.G p.1 [] (dm sub (lockO e1 p.2)) with
 |.ok ys e2=>if ys.length<=16777216 then .ok (.new (.lst ys)) (gF (bW sub e2 (lockO e1 p.2)) p.2) else .stuck
 |_=>.stuck:=rfl
@[simp] theorem Ic(f:PFn)(a:PAs):(bD f a).G e=(a.G e).bind λts e1=>match rss e1 ts with
 |none=>.stuck
 |some vs=>if okA e1 f.ms ts=true then (match f.G vs with
  |.stuck=>.stuck
  |.ok r mv=>if (bX e1 f.ms ts).isEmpty || (gX r&&mv.all flatC) then .ok (r.tm ts) (bW (b8 f.ms ts) (bQ f.ms mv) e1) else (match nS e1 (bX e1 f.ms ts) with
   |some e2=>.ok (r.tm ts) (bW (b8 f.ms ts) (bQ f.ms mv) e2)
   |none=>.stuck)
  |.exc c mv=>if (bX e1 f.ms ts).isEmpty || mv.all flatC then .exc c (bW (b8 f.ms ts) (bQ f.ms mv) e1) else .stuck) else .stuck:=rfl
@[simp] theorem JE(ts:List Tm)(v:Val):(Rt.val v).tm ts=.val v:=rfl
@[simp] theorem JH(ts:List Tm)(v:Val):(Rt.new v).tm ts=.new v:=rfl
@[simp] theorem bA(ts:List Tm)(v u:Val):(Rt.pr v u).tm ts=.val (.tup [v,u]):=rfl
@[simp] theorem o_n:oN.G e=.ok none e:=rfl
@[simp] theorem o_s(a:PEx):(oS a).G e=(a.G e).bind λt e1=>match rs e1 t with
 |some (.int i)=>.ok (some i) e1
 |_=>.stuck:=rfl
@[simp] theorem v_sl(a:PEx)(l u:POp):(pSl a l u).G e=(a.G e).bind λt e1=>(l.G e1).bind λlo e2=>(u.G e2).bind λhi e3=>match rs e3 t.drop with
 |some v=>(aSl v lo hi).at e3
 |none=>.stuck:=rfl
theorem bT(ms:List Bool)(N:Nat)(c:PSt)(vs:List Val):(fnP ms N c).G vs=if vs.length=ms.length then (match c.G (sls ms vs++List.replicate (N-vs.length) .no) with
 |.nx e=>(match muV ms e with |some mv=>.ok (.val .non) mv |none=>.stuck)
 |.rt r e=>(match muV ms e with |some mv=>.ok r mv |none=>.stuck)
 |.exc c e=>(match muV ms e with |some mv=>.exc c mv |none=>.stuck)
 |_=>.stuck) else .stuck:=rfl
theorem fC(ms:List Bool)(N:Nat)(c:PSt)(vs:List Val):(PFx.of ms N c).G vs=if vs.length=ms.length then (match c.G (sls ms vs++List.replicate (N-vs.length) .no) with
 |.nx e=>(match muV ms e with |some mv=>.ok (.val .non) mv |none=>.stuck)
 |.rt r e=>(match muV ms e with |some mv=>.ok r mv |none=>.stuck)
 |.exc c e=>(match muV ms e with |some mv=>.exc c mv |none=>.stuck)
 |_=>.stuck) else .stuck:=rfl
@[simp] theorem Mo(p:PFx ms):p.fn.ms=ms:=rfl
@[simp] theorem fx_G(p:PFx ms)(vs:List Val):p.fn.G vs=p.G vs:=rfl
end
@[simp] theorem Nd(i j:Int):cH.G (.int i) (.int j)=.val (.int (i+j)):=rfl
@[simp] theorem NP(i j:Int):pW.G (.int i) (.int j)=.val (.int (i-j)):=rfl
@[simp] theorem k_lt(i j:Int):bLt.G (.int i) (.int j)=.val (.bl (decide (i<j))):=rfl
@[simp] theorem k_gt(i j:Int):bGt.G (.int i) (.int j)=.val (.bl (decide (j<i))):=rfl
@[simp] theorem k_ge(i j:Int):bGe.G (.int i) (.int j)=.val (.bl (decide (j<=i))):=rfl
@[simp] theorem Mf(i j:Int):Cm.G (.int i) (.int j)=.val (.int (i+j)):=rfl
@[simp] theorem Oe(i:Int):tW.G (.int i)=.val (.int (-i)):=rfl
def cJ(c:CMulA i j):cq.G (.int i) (.int j)=.val (.int (i*j)):=by show xQ (.int i) (.int j)=_;unfold xQ aIc;dsimp only;rw[if_pos c]
def mP(c:CDivB i j):jT.G (.int i) (.int j)=.val (.int (i.fdiv j)):=by show xv (.int i) (.int j)=_;unfold xv aIc;dsimp only;rw[if_pos c]
def iI(c:j≠0):dY.G (.int i) (.int j)=.val (.int (i.fmod j)):=by show xX (.int i) (.int j)=_;unfold xX aIc;dsimp only;rw[if_pos c]
def D6(c:iS i j):p7.G (.int i) (.int j)=.val (.int (i^j.toNat)):=by show yA (.int i) (.int j)=_;unfold yA aIc;dsimp only;rw[if_pos c]
def M8(c:iS i j):Cc.G (.int i) (.int j)=.val (.int (i*2^j.toNat)):=by show yW (.int i) (.int j)=_;unfold yW aIc;dsimp only;rw[if_pos c]
@[simp] theorem k_ix(x:Val)(i:Int):bIx.G x (.int i)=match x.items with
 |some xs=>(match atI xs i with
  |some v=>.val v
  |none=>.stuck)
 |none=>.stuck:=by show aIx x (.int i)=_;unfold aIx;cases x.items <;> rfl
@[simp] theorem K6(xs:List Val):(Val.tup xs).items=some xs:=rfl
@[simp] theorem AW(xs:List Val):(Val.lst xs).items=some xs:=rfl
@[simp] theorem LC(xs:List Val):(Val.kl xs).items=some xs:=rfl
@[simp] theorem k_eq(x y:Val):bEq.G x y=match eh x y with
 |some b=>.val (.bl b)
 |none=>.stuck:=by show aEq false x y=_;unfold aEq;cases eh x y <;> rfl
@[simp] theorem k_ne(x y:Val):bNe.G x y=match eh x y with
 |some b=>.val (.bl (!b))
 |none=>.stuck:=by show aEq true x y=_;unfold aEq;cases eh x y <;> rfl
@[simp] theorem Mw(x y:Int):eh (.int x) (.int y)=some (x==y):=rfl
def eq_str(hx:PyData.strOk x=true)(hy:PyData.strOk y=true):eh (.str x) (.str y)=some (x==y):=by unfold eh;show (if shp (.str x)=true/\shp (.str y)=true then _ else _)=_;rw[if_pos ⟨jM hx (ON _),jM hy (ON _)⟩];rfl
@[simp] theorem k_is(x:Val):bIs.G x .non=match x with
 |.non=>.val (.bl true)
 |_=>.val (.bl false):=by cases x <;> rfl
@[simp] theorem LP(x:Val):yu.G x .non=match x with
 |.non=>.val (.bl false)
 |_=>.val (.bl true):=by cases x <;> rfl
@[simp] theorem M4(v:Val):cn.G [v]=match v.items with
 |some xs=>.val (.int xs.length)
 |none=>(match v with
  |.str z=>if z.length<=16777216 then .val (.int z.length) else .stuck
  |_=>.stuck):=rfl
@[simp] theorem LJ(i:Int):oZ.G [.int i]=.val (.int (if i<0 then -i else i)):=rfl
@[simp] theorem N7(i j:Int):tM.G [.int i,.int j]=.val (.int (if j<i then j else i)):=rfl
@[simp] theorem Lz(xs:List Val):sR.G [.lst xs]=match mh xs with
 |some bs=>.val (.bl (bs.all id))
 |none=>.stuck:=rfl
@[simp] theorem NJ(xs:List Val):iG.G [.lst xs]=match kZ xs with
 |some bs=>.val (.int bs.sum)
 |none=>.stuck:=rfl
@[simp] theorem HY(v:Val):oC.G [v]=match v.items with
 |some xs=>.new (.lst xs)
 |none=>.stuck:=rfl
@[simp] theorem F1(v:Val):kf.G [v]=match v.items with
 |some xs=>.val (.tup xs)
 |none=>.stuck:=rfl
@[simp] theorem B7(xs:List Val)(v:Val):eR.G (.lst xs) [v]=if xs.length<16777216 then some (.lst (xs++[v]),.non) else none:=rfl
@[simp] theorem rQ:∀(bs:List Int),kZ (bs.map Val.int)=some bs
 | []=>rfl
 |b::r=>by show (kZ (r.map Val.int)).map (b :: ·)=_;rw[rQ r];rfl
def Aq{K:W.Frag}{mg:Ra}{X:Cx}{ES:L2.St->XK}{sts:List Stmt}:DSs K mg X ES sts (λ_ _=>.stuck):=λpins s σ H D I ⟨_,_,_,_,_,p⟩=>p.elim
section
variable(K:W.Frag)(mg:Ra)(X:Cx)(ES:L2.St->XK)
@[irreducible] def DE(e:Expr)(F:ME):Prop:=L2.DE K mg X ES e F
@[irreducible] def DT(e:Expr)(F:MT):Prop:=L2.DT K mg X ES e F
@[irreducible] def DA(es:List Expr)(F:MA):Prop:=L2.DA K mg X ES es F
@[irreducible] def DS(st:Stmt)(F:MS):Prop:=L2.DS K mg X ES st F
@[irreducible] def DSs(st:List Stmt)(F:MS):Prop:=L2.DSs K mg X ES st F
@[irreducible] def DI(tg a_:Expr)(F:MI):Prop:=L2.DI K mg X ES tg a_ F
end
section
variable{K:W.Frag}{mg:Ra}{X:Cx}{ES:L2.St->XK}{e a b c o i tg a_ g_:Expr}{es:List Expr}{st:Stmt}{sts sts':List Stmt}{p q r:PEx}{A:PAs}{t u:PTs}{x y:PSt}{g:PGt}{gs:PGs}{I:PIt}{pos:Pos}
def vn(i:Nat){x:Str}(hN:X.N[i]?=some x:=by rfl)(hv:Vis X.env.scope x:=by first |exact Or.inl rfl |exact Or.inr (Or.inl rfl) |exact Or.inr (Or.inr rfl))(hd:(x==("__debug__" : Str))=false:=by decide)(hcd:(x==("__classdict__" : Str))=false:=by decide):DE K mg X ES (.Name x pos) (ax i).F:=by with_unfolding_all exact IX i hN hv hd hcd
def pC{i:Int}{j:Nat}:DE K mg X ES (.Constant (.int i) j pos) (bC i).F:=by with_unfolding_all exact HC
def Mn{i:Bool}{j:Nat}:DE K mg X ES (.Constant (.bool i) j pos) (pBl i).F:=by with_unfolding_all exact Mq
def HD:DE K mg X ES (.Constant .none j pos) iY.F:=by with_unfolding_all exact Lf
def K9{i:Str}{j:Nat}:DE K mg X ES (.Constant (.str i) j pos) (bZ i).F:=by with_unfolding_all exact Kw
def JA{x:Str}(hg:Gl X x)(ha:∃a,mg x=some (.ref a))(hm:X.mg=mg:=by rfl)(hd:(x==("__debug__" : Str))=false:=by decide):DE K mg X ES (.Name x pos) (xY x).F:=by with_unfolding_all exact Jj hg ha hm hd
def Nl{x:Str}{d:D}{v:Val}{r:∀P h,Rd P h d v}(hg:Gl X x)(ha:GC K mg x d)(hm:X.mg=mg:=by rfl)(hd:(x==("__debug__" : Str))=false:=by decide):DE K mg X ES (.Name x pos) (vv d v r).F:=by with_unfolding_all exact NX hg ha hm hd
def MD{x:Str}{n:String}(hg:Gl X x)(hm:mg x=none)(hv:bootBuiltins x=some (.type n))(he:X.mg=mg:=by rfl)(hn:x ≠ "__name__":=by decide)(hd:(x==("__debug__" : Str))=false:=by decide):DE K mg X ES (.Name x pos) (pTy n).F:=by with_unfolding_all exact NZ hg hm hv he hn hd
def yV(ho:OpR X (binaryOp op) r')(hd:OpD K mg r' k.F)(ha:DE K mg X ES a p.F)(hb:DE K mg X ES b q.F):DE K mg X ES (.BinOp a op b pos) (pOp k p q).F:=by with_unfolding_all exact L5 ho hd ha hb
def Of(hr:IxR X r')(hd:OpD K mg r' k.F)(ha:DE K mg X ES a p.F)(hb:DE K mg X ES b q.F)(hs:pP b:=by exact λ_ _=>rfl):DE K mg X ES (.Subscript a b pos) (pOp k p q).F:=by with_unfolding_all exact Nw hr hd ha hb hs
def Kn(ho:OpR X (compareOp op) r')(hd:OpD K mg r' k.F)(ha:DE K mg X ES a p.F)(hb:DE K mg X ES b q.F)(hm:behindInMarks op b=false:=by first |exact An _ |with_unfolding_all rfl):DE K mg X ES (.Compare a [op] [b] pos) (pOp k p q).F:=by with_unfolding_all exact G4 ho hd ha hb hm
def GV(ho:OpR X (compareOp op) r')(hd:OpD K mg r' k.F)(ha:DE K mg X ES a p.F)(hb:DE K mg X ES b q.F)(hm:behindInMarks op b=false:=by first |exact An _ |with_unfolding_all rfl):DT K mg X ES (.Compare a [op] [b] pos) (qOf (pOp k p q)).F:=by with_unfolding_all exact Kz ho hd ha hb hm
def vc(ha:DE K mg X ES a p.F)(he:∀u_,isTrue a X.env u_=(do let v <- u_;standAt a.pos;holding [v] (truthy v)):=by intro _;rfl):DT K mg X ES a (qOf p).F:=by with_unfolding_all exact Jz ha he
def vt(ha:DT K mg X ES a t.F):DT K mg X ES (.UnaryOp .Not a pos) (qNo t).F:=by with_unfolding_all exact Lq ha
def Fg(ha:DT K mg X ES a t.F):DW K mg X ES (.BoolOp .And [a] pos) t.F:=by with_unfolding_all exact EJ ha
def Km(ha:DT K mg X ES a t.F):DW K mg X ES (.BoolOp .Or [a] pos) t.F:=by with_unfolding_all exact Jb ha
def JZ(ha:DT K mg X ES a t.F)(hb:DW K mg X ES (.BoolOp .And (b::es) pos) u.F):DW K mg X ES (.BoolOp .And (a::b::es) pos) (qAn t u).F:=by with_unfolding_all exact HR ha hb
def LD(ha:DT K mg X ES a t.F)(hb:DW K mg X ES (.BoolOp .Or (b::es) pos) u.F):DW K mg X ES (.BoolOp .Or (a::b::es) pos) (qO t u).F:=by with_unfolding_all exact LA ha hb
def ZW.dt(h:DW K mg X ES a t.F):DT K mg X ES a t.F:=by with_unfolding_all exact DW.dt h
def zt_w{op}(h:DW K mg X ES (.BoolOp op es pos) t.F):DT K mg X ES (.BoolOp op es pos) t.F:=ZW.dt h
def KA{op}(h:DE K mg X ES a p.F):DE K mg X ES (.BoolOp op [a] pos) p.F:=by with_unfolding_all exact Ha h
def HZ(ha:DE K mg X ES a p.F)(hb:DE K mg X ES (.BoolOp .And (b::es) pos) q.F):DE K mg X ES (.BoolOp .And (a::b::es) pos) (ip p q).F:=by with_unfolding_all exact IJ ha hb
def He(ha:DE K mg X ES a p.F):DE K mg X ES (.UnaryOp .Not a pos) (tZ p).F:=by with_unfolding_all exact Hu ha
def LS(hc:DT K mg X ES c t.F)(ha:DE K mg X ES a p.F)(hb:DE K mg X ES b q.F):DE K mg X ES (.IfExp c a b pos) (pIf t p q).F:=by with_unfolding_all exact NR hc ha hb
def Mh(ho:UnR X (unaryOp op) r')(hd:UnD K mg r' k.F)(ha:DE K mg X ES a p.F):DE K mg X ES (.UnaryOp op a pos) (pUn k p).F:=by with_unfolding_all exact MF ho hd ha
def AY:DA K mg X ES [] bx.F:=by with_unfolding_all exact JX
def cW(ha:DE K mg X ES e p.F)(hr:DA K mg X ES es A.F)(hs:starEach (e::es) X.env=(false,eval e X.env)::starEach es X.env:=by rfl):DA K mg X ES (e::es) (ai p A).F:=by with_unfolding_all exact FZ ha hr hs
def Ad{x1}(h:DA K mg X ES es A.F):DE K mg X ES (.Tuple es x1 pos) (cx A).F:=by with_unfolding_all exact Jh h
def vm(h:DA K mg X ES es A.F):DE K mg X ES (.List es pos) (c7 A).F:=by with_unfolding_all exact KY h
def fR{id:String}{r':List V->Hp->VK->Prop}{k:PBf}{x:Str}{p0:Pos}(hc:CallR X (.builtin id) r')(hd:dg K mg r' k.F)(hg:Gl X x)(hm:mg x=none)(hv:bootBuiltins x=some (.builtin id))(ha:DA K mg X ES (e::es) A.F)(hk:X.mg=mg:=by rfl)(hn:x ≠ "__name__":=by decide)(hdb:(x==("__debug__" : Str))=false:=by decide)(he:starEach (e::es) X.env=(false,eval e X.env)::starEach es X.env:=by rfl)(hpl:(backTo pos (starEach es X.env)).any (·.1)=false:=by rfl):DE K mg X ES (.Call (.Name x p0) (e::es) [] pos) (pFn k A).F:=by with_unfolding_all exact BG hc hd hg hm hv ha hk hn hdb he hpl
def rD{id:String}{r':List V->Hp->VK->Prop}{k:PBf}{x:Str}{p0:Pos}(hc:CallR X (.type id) r')(hd:dg K mg r' k.F)(hg:Gl X x)(hm:mg x=none)(hv:bootBuiltins x=some (.type id))(ha:DA K mg X ES (e::es) A.F)(hk:X.mg=mg:=by rfl)(hn:x ≠ "__name__":=by decide)(hdb:(x==("__debug__" : Str))=false:=by decide)(he:starEach (e::es) X.env=(false,eval e X.env)::starEach es X.env:=by rfl)(hpl:(backTo pos (starEach es X.env)).any (·.1)=false:=by rfl):DE K mg X ES (.Call (.Name x p0) (e::es) [] pos) (pFn k A).F:=by with_unfolding_all exact zP hc hd hg hm hv ha hk hn hdb he hpl
def Bo{f:PFn}{x:Str}{p0:Pos}{k n:Nat}{ps:List Str}(C:Callee X.prog X.w X.K X.mg X.base x k ps (spD K mg n f.F))(hr:Room k X.A)(hg:Gl X x)(hx:mB X ES)(ha:DA K mg X ES (e::es) A.F)(hn:f.ms.length=n)(hdb:(x==("__debug__" : Str))=false)(he:starEach (e::es) X.env=(false,eval e X.env)::starEach es X.env)(hpl:(backTo pos (starEach es X.env)).any (·.1)=false):DE K mg X ES (.Call (.Name x p0) (e::es) [] pos) (bD f A).F:=by subst hn;with_unfolding_all exact Ct C hr hg hx ha hdb he hpl
def Ei:DSs K mg X ES [] xNx.F:=by with_unfolding_all exact FO
def eW(h1:DS K mg X ES st x.F):DSs K mg X ES [st] x.F:=by with_unfolding_all exact GG h1
def bG(h1:DS K mg X ES st x.F)(h2:DSs K mg X ES sts y.F):DSs K mg X ES (st::sts) (bE x y).F:=by with_unfolding_all exact BW h1 h2
def vQ:DS K mg X ES (.Continue pos) xCt.F:=by with_unfolding_all exact vJ
def iO(he:DE K mg X ES e p.F):DS K mg X ES (.Return (some e) pos) (bH p).F:=by with_unfolding_all exact Jr he
def wj(he:DE K mg X ES e p.F)(hs:swapsWith e none pos.line X.env=pure false:=by rfl):DS K mg X ES (.Expr e pos) (dD p).F:=by with_unfolding_all exact FW he hs
def mI(hc:DT K mg X ES c t.F)(ha:DSs K mg X ES sts x.F)(hb:DSs K mg X ES sts' y.F):DS K mg X ES (.If c sts sts' pos) (xIf t x y).F:=by with_unfolding_all exact LG hc ha hb
def Fl{i:Nat}{x:Str}(hN:X.N.Nodup)(hi:X.N[i]?=some x)(hx:Loc X.env.scope x)(hf:X.fn x=true\/X.env.scope.names.lookup x=some .local):DG K mg X ES (.Name x pos) (gtN i).F:=GD hN hi hx hf
def Er:DGs K mg X ES [] cU.F:=Gs
def CO(h1:DG K mg X (λ_=>E0) e g.F)(h2:DGs K mg X (λ_=>E0) es gs.F)(hs:(assignEach (e::es) X.env).map (·.2)=assign e X.env::(assignEach es X.env).map (·.2):=by rfl):DGs K mg X (λ_=>E0) (e::es) (bM g gs).F:=Bt h1 h2 hs
def K7(hK:X.K=K)(hc:X.calm=true)(h:DGs K mg X (λ_=>E0) es gs.F)(hn:(assignEach es X.env).length=n:=by rfl)(hst:(assignEach es X.env).findIdx? (·.1)=none:=by rfl):DG K mg X (λ_=>E0) (.Tuple es k pos) (gtT n gs).F:=IL hK hc h hn hst
def ZG.weak(hg:DG K mg X (λ_=>E0) e g.F):DG K mg X ES e (gtX g).F:=DG.weak hg
def qW(he:DE K mg X ES e p.F)(hg:DG K mg X ES a g.F)(hs:swapsWithSole [a] e pos.line X.env=pure false:=by rfl)(hw:swappedStores [a] e X.env=pure none:=by rfl)(h1:(assignEach [a] X.env).map (·.2)=[assign a X.env]:=by rfl):DS K mg X ES (.Assign [a] e pos) (fS p g).F:=by with_unfolding_all exact Af he hg hs hw h1
def Fj(he:DE K mg X ES e p.F)(ho:DE K mg X ES o (ax j).F)(hi:DE K mg X ES i q.F)(hs':xA X r')(hd:yP K mg r' w.F)(hs:swapsWithSole [.Subscript o i p1] e pos.line X.env=pure false:=by rfl)(hw:swappedStores [.Subscript o i p1] e X.env=pure none:=by rfl)(h1:(assignEach [.Subscript o i p1] X.env).map (·.2)=[assign (.Subscript o i p1) X.env]:=by rfl)
 (ha:∀v,assign (.Subscript o i p1) X.env v=(do
  let ov <- holding [v] (eval o X.env)
  let iv <- holding [v,ov] (eval i X.env)
  standAt p1
  holding [v,ov,iv] (setItem ov iv v)
  release [v,ov,iv] []):=by intro _;rfl):DS K mg X ES (.Assign [.Subscript o i p1] e pos) (uP j w q p).F:=by with_unfolding_all exact Af he (J8 ho hi hs' hd ha) hs hw h1
def Ip{ow:Bool}{i:Nat}{x:Str}{t_:Pos}(hN:X.N.Nodup)(hi:X.N[i]?=some x)(hx:Loc X.env.scope x)(he:DE K mg X ES e p.F)(hs:swapsWith e (some (.Name x t_)) pos.line X.env=pure false)(hf:X.fn x=true\/X.env.scope.names.lookup x=some .local):DS K mg X ES (.Assign [.Name x t_] e pos) (bO ow i p).F:=by with_unfolding_all exact G0 hN hi hx he hs hf
def JK{i j:Nat}{x y:Str}{px py pt:Pos}{kt k2 pt2}(hN:X.N.Nodup)(ha:DA K mg X ES [a,b] A.F)(hc:X.calm=true:=by rfl)(hi:X.N[i]?=some x:=by rfl)(hj:X.N[j]?=some y:=by rfl)(hij:i≠j:=by decide)(hx:X.env.scope.names.lookup x=some .local:=by rfl)(hy:X.env.scope.names.lookup y=some .local:=by rfl)(hw:swappedStores [.Tuple [.Name x px,.Name y py] kt pt] (.Tuple [a,b] k2 pt2) X.env=pure (some [x,y]):=by rfl)(hs:swapsWithSole [.Tuple [.Name x px,.Name y py] kt pt] (.Tuple [a,b] k2 pt2) pos.line X.env=pure false:=by rfl):DS K mg X ES (.Assign [.Tuple [.Name x px,.Name y py] kt pt] (.Tuple [a,b] k2 pt2) pos) (jP i j A).F:=by with_unfolding_all exact HB hc hN hi hj hij hx hy ha hw hs
def Jo{i:Nat}{x:Str}{op:Operator}{ti:TIp}{t_:Pos}{k:PO2}(hN:X.N.Nodup)(he:DE K mg X ES e p.F)(ho:PIp X op ti)(hd:IpD K mg ti k.F)(hi:X.N[i]?=some x:=by rfl)(hx:Loc X.env.scope x:=by first |exact Or.inl rfl |exact Or.inr rfl)(hf:X.fn x=true\/X.env.scope.names.lookup x=some .local:=by first |exact .inl rfl |exact .inr rfl |assumption):DS K mg X ES (.AugAssign (.Name x t_) op e pos) (CI i k p).F:=by with_unfolding_all exact KJ hN hi hx he ho hd hf
def Df{x:Str}{C:Addr}{E:XK}{np cpos:Pos}(hc:X.calm=true)(hR:Rz X E)(hg:Gl X x)(hm:mg x=some (.ref C))(hq:W.excIn X.K C nz "ValueError.__new__"=true)(ha:DA K mg X (λ_=>E) (e::es) A.F)(hk:X.mg=mg:=by rfl)(he:starEach (e::es) X.env=(false,eval e X.env)::starEach es X.env:=by rfl)(j':(backTo cpos (starEach es X.env)).any (·.1)=false:=by rfl)(hd:(x==("__debug__" : Str))=false:=by decide):DS K mg X (λ_=>E) (.Raise (some (.Call (.Name x np) (e::es) [] cpos)) none pos) (gh x A).F:=by with_unfolding_all exact Dj hc hR hg hm hq ha hk he j' hd
def IF(hK:X.K=K)(he:DE K mg X ES e p.F):DI K mg X ES tg e (cm p).F:=by with_unfolding_all exact GW hK he
def zG(hg:Gl X "range")(hm:mg "range"=none)(ha:DA K mg X ES [a] A.F)(hk:X.mg=mg:=by rfl)(hs:starEach [a] X.env=[(false,eval a X.env)]:=by rfl):DI K mg X ES tg (.Call (.Name "range" p0) [a] [] pos) (kL A).F:=by with_unfolding_all exact Ah hg hm ha hk hs
def zk(hg:Gl X "range")(hm:mg "range"=none)(ha:DA K mg X ES [a,b] A.F)(hk:X.mg=mg:=by rfl)(hs:starEach [a,b] X.env=[(false,eval a X.env),(false,eval b X.env)]:=by rfl)(hs2:starEach [b] X.env=[(false,eval b X.env)]:=by rfl):DI K mg X ES tg (.Call (.Name "range" p0) [a,b] [] pos) (sO A).F:=by with_unfolding_all exact zK hg hm ha hk hs hs2
def Fz(hK:X.K=K)(hg:Gl X "enumerate")(hm:mg "enumerate"=none)(ha:DA K mg X ES [a] A.F)(hk:X.mg=mg:=by rfl)(hs:starEach [a] X.env=[(false,eval a X.env)]:=by rfl):DI K mg X ES (.Tuple elts x1 tp) (.Call (.Name "enumerate" p0) [a] [] pos) (yR A).F:=by with_unfolding_all exact Fb hK hg hm ha hk hs
def Jn(hK:X.K=K)(hg:Gl X "zip")(hm:mg "zip"=none)(ha:DA K mg X ES [a,b] A.F)(hk:X.mg=mg:=by rfl)(hs:starEach [a,b] X.env=[(false,eval a X.env),(false,eval b X.env)]:=by rfl)(hs2:starEach [b] X.env=[(false,eval b X.env)]:=by rfl):DI K mg X ES (.Tuple elts x1 tp) (.Call (.Name "zip" p0) [a,b] [] pos) (yD A).F:=by with_unfolding_all exact Lh hK hg hm ha hk hs hs2
def iJ(hp:PassesOwn (model X.prog X.w) X.A X.env X.xe)(hc:X.calm=true)(hi:DI K mg X ES tg a_ I.F)(hg:DG K mg X ES tg g.F)(hb:DSs K mg X ES sts x.F)(hs:∀x,foldedSetIterable a_ X.env x=pure x:=by intro _;rfl):DS K mg X ES (.For tg a_ sts [] pos) (eE I g x).F:=by with_unfolding_all exact IM hp hc hi hg hb hs
def BP(hp:PassesOwn (model X.prog X.w) X.A X.env X.xe)(hc:DT K mg X ES c t.F)(hb:DSs K mg X ES sts x.F):DS K mg X ES (.While c sts [] pos) (xWh t x).F:=by with_unfolding_all exact A4 hp hc hb
def NY{scope:Scope}(M:List Str)(kn:List (Str×NameKind))(N:List Str)(sub:Rg){hsb:(sub.filterMap id).Nodup}(hc:X.calm=true)(hi:DI K mg X ES tg a_ I.F)(hg:∀cl C s₂ H fp,DG K mg (bL X N scope cl C s₂ H fp) (λ_=>E0) tg g.F)(he:∀cl C s₂ H fp,DE K mg (bL X N scope cl C s₂ H fp) (λ_=>E0) g_ p.F)(hM:X.N=M)(hkn:X.env.scope.names=kn)(f_:eI M scope.names sub N=true)(hk:scope.kind=.function)(o_:∀x∈scope.names,x.2 ≠ .cell)(b_:∀x∈scope.names,x.2=.local->scope.names.lookup x.1=some .local)(l_:fP kn scope.names=true)(p_:sub.length=N.length)(hs:∀x,foldedSetIterable a_ X.env x=pure x):DE K mg X ES (.ListComp g_ [⟨tg,a_,[],0⟩] scope pos) (pLC I sub hsb g qY p).F:=by with_unfolding_all exact MV M kn N sub hc hi hg he hM hkn f_ hk o_ b_ l_ p_ hs
def F4{scope:Scope}(M:List Str)(kn:List (Str×NameKind))(N:List Str)(sub:Rg){hsb:(sub.filterMap id).Nodup}(hc:X.calm=true)(hi:DI K mg X ES tg a_ I.F)(hg:∀cl C s₂ H fp,DG K mg (bL X N scope cl C s₂ H fp) (λ_=>E0) tg g.F)(ht:∀cl C s₂ H fp,DT K mg (bL X N scope cl C s₂ H fp) (λ_=>E0) c t.F)(he:∀cl C s₂ H fp,DE K mg (bL X N scope cl C s₂ H fp) (λ_=>E0) g_ p.F)(hM:X.N=M)(hkn:X.env.scope.names=kn)(f_:eI M scope.names sub N=true)(hk:scope.kind=.function)(o_:∀x∈scope.names,x.2 ≠ .cell)(b_:∀x∈scope.names,x.2=.local->scope.names.lookup x.1=some .local)(l_:fP kn scope.names=true)(p_:sub.length=N.length)(hs:∀x,foldedSetIterable a_ X.env x=pure x):DE K mg X ES (.ListComp g_ [⟨tg,a_,[c],0⟩] scope pos) (pLC I sub hsb g t p).F:=by with_unfolding_all exact Gw M kn N sub hc hi hg ht he hM hkn f_ hk o_ b_ l_ p_ hs
def NA{ow:Bool}{px spos:Pos}{iT:Nat}{xT:Str}{scope:Scope}(M:List Str)(kn:List (Str×NameKind))(N:List Str)(sub:Rg){hsb:(sub.filterMap id).Nodup}(hc:X.calm=true)(hN:X.N.Nodup)(hix:X.N[iT]?=some xT)(hxl:Loc X.env.scope xT)(hi:DI K mg X ES tg a_ I.F)(hg:∀cl C s₂ H fp,DG K mg (bL X N scope cl C s₂ H fp) (λ_=>E0) tg g.F)(he:∀cl C s₂ H fp,DE K mg (bL X N scope cl C s₂ H fp) (λ_=>E0) g_ p.F)(hsw:swapsWith (.ListComp g_ [⟨tg,a_,[],0⟩] scope pos) (some (.Name xT px)) spos.line X.env=pure true)(hM:X.N=M)(hkn:X.env.scope.names=kn)(f_:eI M scope.names sub N=true)(hk:scope.kind=.function)(o_:∀x∈scope.names,x.2 ≠ .cell)(b_:∀x∈scope.names,x.2=.local->scope.names.lookup x.1=some .local)(l_:fP kn scope.names=true)(p_:sub.length=N.length)(hs:∀x,foldedSetIterable a_ X.env x=pure x)(hf:X.fn xT=true\/X.env.scope.names.lookup xT=some .local):DS K mg X ES (.Assign [.Name xT px] (.ListComp g_ [⟨tg,a_,[],0⟩] scope pos) spos) (bO ow iT (pLC I sub hsb g qY p)).F:=by with_unfolding_all exact Nu M kn N sub hc hN hix hxl hi hg he hsw hM hkn f_ hk o_ b_ l_ p_ hs hf
def GN{ow:Bool}{px spos:Pos}{iT:Nat}{xT:Str}{scope:Scope}(M:List Str)(kn:List (Str×NameKind))(N:List Str)(sub:Rg){hsb:(sub.filterMap id).Nodup}(hc:X.calm=true)(hN:X.N.Nodup)(hix:X.N[iT]?=some xT)(hxl:Loc X.env.scope xT)(hi:DI K mg X ES tg a_ I.F)(hg:∀cl C s₂ H fp,DG K mg (bL X N scope cl C s₂ H fp) (λ_=>E0) tg g.F)(ht:∀cl C s₂ H fp,DT K mg (bL X N scope cl C s₂ H fp) (λ_=>E0) c t.F)(he:∀cl C s₂ H fp,DE K mg (bL X N scope cl C s₂ H fp) (λ_=>E0) g_ p.F)(hsw:swapsWith (.ListComp g_ [⟨tg,a_,[c],0⟩] scope pos) (some (.Name xT px)) spos.line X.env=pure true)(hM:X.N=M)(hkn:X.env.scope.names=kn)(f_:eI M scope.names sub N=true)(hk:scope.kind=.function)(o_:∀x∈scope.names,x.2 ≠ .cell)(b_:∀x∈scope.names,x.2=.local->scope.names.lookup x.1=some .local)(l_:fP kn scope.names=true)(p_:sub.length=N.length)(hs:∀x,foldedSetIterable a_ X.env x=pure x)(hf:X.fn xT=true\/X.env.scope.names.lookup xT=some .local):DS K mg X ES (.Assign [.Name xT px] (.ListComp g_ [⟨tg,a_,[c],0⟩] scope pos) spos) (bO ow iT (pLC I sub hsb g t p)).F:=by with_unfolding_all exact Fc M kn N sub hc hN hix hxl hi hg ht he hsw hM hkn f_ hk o_ b_ l_ p_ hs hf
def zE{j:Nat}{name:Str}{id:String}{apos cpos:Pos}{r':V->List V->Hp->VK->Prop}{k:PMm}(hK:X.K=K)(slot:Slot "list" name id)(hty:typeOf (.builtin id)=pure (.type "method_descriptor"))(hm:MtM X id r')(hd:MtD K mg r' k.F)(ho:DE K mg X ES o (ax j).F)(ha:DA K mg X ES (e::es) A.F)(r_:attributeBase o name X.env (eval o X.env)=eval o X.env:=by rfl)(hfew:((backTo cpos (starEach (e::es) X.env)).all (λx=>!x.1)&&(backToKw cpos (keywordEach [] X.env)).all (λx=>x.1.isSome)&&decide ((e::es).length+([]:List Keyword).length+(if ([]:List Keyword).isEmpty then 0 else 1)<30))=true:=by rfl)(s_:(apos.endLine==cpos.line)=true:=by rfl)(hs:starEach (e::es) X.env=(false,eval e X.env)::starEach es X.env:=by rfl)(j':(backTo cpos (starEach es X.env)).any (·.1)=false:=by rfl):DE K mg X ES (.Call (.Attribute o name apos) (e::es) [] cpos) (jU j k A).F:=by with_unfolding_all exact de_m hK slot hty hm hd ho ha r_ hfew s_ hs j'
def EV{j:Nat}{name:Str}{id:String}{apos cpos:Pos}{r':V->List V->Hp->VK->Prop}{k:PMm}(hK:X.K=K)(slot:Slot "list" name id)(hty:typeOf (.builtin id)=pure (.type "method_descriptor"))(hm:MtM X id r')(hd:MtD K mg r' k.F)(ho:DE K mg X ES o (ax j).F)(r_:attributeBase o name X.env (eval o X.env)=eval o X.env:=by rfl)(s_:(apos.endLine==cpos.line)=true:=by rfl):DE K mg X ES (.Call (.Attribute o name apos) [] [] cpos) (xR j k).F:=by with_unfolding_all exact N6 hK slot hty hm hd ho r_ s_
def wI:DO K mg X ES none oN.F:=Fe
def xn(he:DE K mg X ES e p.F):DO K mg X ES (some e) (oS p).F:=by with_unfolding_all exact Et he
def tD{l u:POp}{lo hi:Option Expr}{p2:Pos}(hK:X.K=K)(he:DE K mg X ES e p.F)(hl:DO K mg X ES lo l.F)(hu:DO K mg X ES hi u.F):DE K mg X ES (.Subscript e (.Slice lo hi none p2) pos) (pSl p l u).F:=by with_unfolding_all exact Bm hK he hl hu
def uj:OpD K mg (λx y H Q=>rI0 (λi j=>.int (i+j)) x y H Q\/(pV x y H Q\/(mF K x y H Q\/mU K x y H Q))) cH.F:=Hf
def Ii:OpD K mg (rI0 λi j=>.int (i-j)) pW.F:=Kl
def HW:OpD K mg (rI CMulA λi j=>.int (i*j)) cq.F:=KZ
def KQ:OpD K mg (rI CDivB λi j=>.int (i.fdiv j)) jT.F:=IQ
def Ju:OpD K mg (rI (λ_ j=>j≠0) λi j=>.int (i.fmod j)) dY.F:=Jw
def H9:OpD K mg (rI iS λi j=>.int (i^j.toNat)) p7.F:=Jc
def Kd:OpD K mg (rI iS λi j=>.int (i*2^j.toNat)) Cc.F:=JI
def D1:OpD K mg (rI0 λi j=>.bl (decide (i<j))) bLt.F:=LN
def DY:OpD K mg (rI0 λi j=>.bl (decide (j<i))) bGt.F:=Om
def Dv:OpD K mg (rI0 λi j=>.bl (decide (j<=i))) bGe.F:=Oi
def Oa:OpD K mg (λx y H Q=>xW K x y H Q\/yQ K x y H Q) bIx.F:=G5
def DZ:OpD K mg (yK K) bEq.F:=Jx
def NS:OpD K mg (yH K) bNe.F:=KO
def D5:OpD K mg (rIn K false) bIn.F:=(zX false)
def J9:OpD K mg (rIn K true) lj.F:=(zX true)
def Nh:OpD K mg (λx y H Q=>y=.non/\Q (.bl (decide (x=.non))) H) bIs.F:=F8
def IU:OpD K mg (λx y H Q=>y=.non/\Q (.bl (!decide (x=.non))) H) yu.F:=CM
def GO:dg K mg (λxs H Q=>(∃p ys,xs=[.ref p]/\(SqL K H p ys\/SqT K H p ys)/\Q (.int ys.length) H)\/(∃z,xs=[.str z]/\z.length<=sizeLine/\Q (.int z.length) H)) cn.F:=Hz
def Hc:dg K mg (λxs H Q=>∃i,xs=[.int i]/\Q (.int (if i<0 then -i else i)) H) oZ.F:=Ki
def Ek:dg K mg (λxs H Q=>∃i j,xs=[.int i,.int j]/\Q (.int (if j<i then j else i)) H) tM.F:=FD
def zM:dg K mg (λxs H Q=>∃(a:Addr) (bs:List Bool),xs=[.ref a]/\SqL K H a (bs.map V.bl)/\Q (.bl (bs.all id)) H) sR.F:=JC
def j8:dg K mg (λxs H Q=>∃(a:Addr) (ns:List Int),xs=[.ref a]/\SqL K H a (ns.map V.int)/\Q (.int ns.sum) H) iG.F:=JJ
def xk:dg K mg (λxs H Q=>∃p ys,xs=[.ref p]/\(SqL K H p ys\/SqT K H p ys)/\∀l,H l=none->Q (.ref l) (upd H l (.lst ys))) oC.F:=FL
def BB:dg K mg (λxs H Q=>∃p ys,xs=[.ref p]/\((SqL K H p ys/\∀l,H l=none->Q (.ref l) (upd H l (.tup ys)))\/(SqT K H p ys/\Q (.ref p) H))) kf.F:=Bu
def Ib(ok:KitsOk K mg kt):dg K mg (λxs H Q=>(∃x c t v b,xs=[x,c]/\TyX K H x t/\gL c=some v/\W.kitOne K t v=some b/\Q (.bl b) H)\/
 (∃x tp cs t vs b,xs=[x,.ref tp]/\SqT K H tp cs/\TyX K H x t/\cs.mapM gL=some vs/\W.kitAny K t vs=some b/\Q (.bl b) H)) (eK kt).F:=Hg ok
def rM:MtD K mg pQ eR.F:=zH
def yL:MtD K mg nU lV.F:=yf
def Lg:IpD K mg (ipI λi j=>i+j) Cm.F:=Es
def Ka:UnD K mg (rU λi=>.int (-i)) tW.F:=K4
variable{P:Program}{w:World}{base:Heap}{fx:Str}{fst:Stmt}{k n m:Nat}{ps N:List Str}{ms:List Bool}
def okP(D:Def K mg fx fst)(S:FnScope N ps (bF fst))
 (hb:∀(kV doc pm:Value) (an:Option Addr) (cdv ct:Value) (us:List Value),us.length=ps.length->bindArgs (W.fnOf fx fx (ee fst) (cC fst) (bF fst) .none kV doc pm an cdv ct) ⟨us,[]⟩=pure (ps.zip us))
 (j_:∀(f:Addr) (cdv:Value) (A:Around) (outer:List Env) (s:Shared) (H:Hp) (E:XK),Room k (A.deeper (envOfC fx (bF fst) s.heap.objs.size f cdv))->
  DSs K mg (fJ (CX1 P w) P w K mg base N fx (bF fst) f cdv A outer s H E) (λ_=>E) (cC fst) x.F) (hn:ps.length=n) (hm:N.length=m):Callee P w K mg base fx (k+1) ps (spD K mg n (fnP ms m x).F):=by
 subst hn hm;with_unfolding_all exact D.okD S hb j_
def okX(D:Def K mg fx fst)(S:FnScope N ps (bF fst))
 (hb:∀(kV doc pm:Value) (an:Option Addr) (cdv ct:Value) (us:List Value),us.length=ps.length->bindArgs (W.fnOf fx fx (ee fst) (cC fst) (bF fst) .none kV doc pm an cdv ct) ⟨us,[]⟩=pure (ps.zip us))
 (j_:∀(f:Addr) (cdv:Value) (A:Around) (outer:List Env) (s:Shared) (H:Hp) (E:XK),Room k (A.deeper (envOfC fx (bF fst) s.heap.objs.size f cdv))->
  DSs K mg (fJ (CX1 P w) P w K mg base N fx (bF fst) f cdv A outer s H E) (λ_=>E) (cC fst) x.F) (hn:ps.length=n) (hm:N.length=m):Callee P w K mg base fx (k+1) ps (spD K mg n (PFx.of ms m x).F):=by
 subst hn hm;with_unfolding_all exact D.okD S hb j_
def ok0(D:Def K mg fx fst)(S:FnScope N ps (bF fst))
 (hb:∀(kV doc pm:Value) (an:Option Addr) (cdv ct:Value) (us:List Value),us.length=ps.length->bindArgs (W.fnOf fx fx (ee fst) (cC fst) (bF fst) .none kV doc pm an cdv ct) ⟨us,[]⟩=pure (ps.zip us)) (hn:ps.length=n:=by rfl):Callee P w K mg base fx (k+1) ps (spD K mg n (PFx.none ms).F):=by
 subst hn;exact D.okD (F:=λ_ _=>.stuck) S hb λ_ _ _ _ _ _ _ _=>Aq
end
def KW(b:Bool)(ms:List Bool)(v:Val)(vs:List Val):sls (b::ms) (v::vs)=sl1 b v::sls ms vs:=rfl
def EO:sls [] []=[]:=rfl
def MZ(v:Val):sl1 true v=.mu v:=rfl
def NV(v:Val):sl1 false v=.sh v:=rfl
section
variable(e:E3)
def Ft:okA e [] []=true:=rfl
def Ig(i:Nat)(ms:List Bool)(ts:List Tm):okA e (true::ms) (.bor i::ts)=(((e[i]?).bind Sl.mv).isSome && !(jO i ts)&&okA e ms ts):=rfl
def KS(i:Nat)(ms:List Bool)(ts:List Tm):okA e (false::ms) (.bor i::ts)=(!(iR i ms ts)&&okA e ms ts):=rfl
def K5(v:Val)(ms:List Bool)(ts:List Tm):okA e (false::ms) (.val v::ts)=okA e ms ts:=rfl
def Cv(i:Nat):jO i []=false:=rfl
def IA(i:Nat)(v:Val)(ts:List Tm):jO i (.val v::ts)=jO i ts:=rfl
def B6(i:Nat):iR i [] []=false:=rfl
def Gq(i j:Nat)(ms:List Bool)(ts:List Tm):iR i (true::ms) (.bor j::ts)=((i==j) || iR i ms ts):=rfl
def G1(i:Nat)(t:Tm)(ms:List Bool)(ts:List Tm):iR i (false::ms) (t::ts)=iR i ms ts:=by cases t <;> rfl
def zS:bX e [] []=[]:=rfl
theorem ER(i:Nat)(ms:List Bool)(ts:List Tm):bX e (false::ms) (.bor i::ts)=match e[i]? with
 |some (.sh _)=>bX e ms ts
 |_=>i::bX e ms ts:=rfl
def FP(v:Val)(ms:List Bool)(ts:List Tm):bX e (false::ms) (.val v::ts)=bX e ms ts:=rfl
def Ku(t:Tm)(ms:List Bool)(ts:List Tm):bX e (true::ms) (t::ts)=bX e ms ts:=by cases t <;> rfl
end
def z9:b8 [] []=[]:=rfl
def GJ(b:Bool)(t:Tm)(ms:List Bool)(ts:List Tm):b8 (b::ms) (t::ts)=qX b t::b8 ms ts:=rfl
def EH(i:Nat):qX true (.bor i)=some i:=rfl
def JN(t:Tm):qX false t=none:=by cases t <;> rfl
def Cj(e:E3):bW [] [] e=e:=rfl
def JP(o:Option Nat)(sub:Rg)(s:Sl)(i e:E3):bW (o::sub) (s::i) e=bW sub i (ij o s e):=rfl
theorem E7(i:Nat)(v:Val)(e:E3):ij (some i) (.mu v) e=match e[i]? with
 |some t=>e.set i (t.re v)
 |none=>e:=rfl
def Jp(s:Sl)(e:E3):ij none s e=e:=rfl
def CC(vs:List Val):bQ [] vs=[]:=rfl
def Hk(ms:List Bool)(v:Val)(vs:List Val):bQ (true::ms) (v::vs)=.mu v::bQ ms vs:=rfl
def JW(ms:List Bool)(vs:List Val):bQ (false::ms) vs=.no::bQ ms vs:=by cases vs <;> rfl
def Ge(e:E3):muV [] e=some []:=by cases e <;> rfl
def MC(ms:List Bool)(v:Val)(e:E3):muV (true::ms) (.mu v::e)=(muV ms e).map (v :: ·):=rfl
def Ni(ms:List Bool)(s:Sl)(e:E3):muV (false::ms) (s::e)=muV ms e:=by cases s <;> rfl
def zg(v:Val):gX (.val v)=flatV v:=rfl
def Aw(v:Val):gX (.new v)=flatC v:=rfl
def bp(v u:Val):gX (.pr v u)=(flatV v&&flatC u):=rfl
def zI(xs:List Val):flatC (.lst xs)=flatVs xs:=rfl
def dE:flatVs []=true:=by simp [flatVs]
def cN(v:Val)(vs:List Val):flatVs (v::vs)=(flatV v&&flatVs vs):=by simp [flatVs]
def iQ(i:Int):flatV (.int i)=true:=by simp [flatV]
def Cp(i:Bool):flatV (.bl i)=true:=by simp [flatV]
def iN(i:Str):flatV (.str i)=true:=by simp [flatV]
def zx:flatV .non=true:=by simp [flatV]
def fq(xs:List Val):flatV (.tup xs)=flatVs xs:=by simp [flatV]
def kS(h0:0<=i)(h:l[i.toNat]?=some x):atI l i=some x:=by have hl:=(x_.mp h).1;unfold atI ixN;rw[if_pos h0,if_pos (by omega)];exact h
section
variable(a b c d:α)(l:List α)
def ati0:atI (a::l) 0=some a:=kS (by decide) rfl
def ati1:atI (a::b::l) 1=some b:=kS (by decide) rfl
def ati2:atI (a::b::c::l) 2=some c:=kS (by decide) rfl
def ati3:atI (a::b::c::d::l) 3=some d:=kS (by decide) rfl
end
mutual
def vq:Val->Val->Bool
 |.non,.non=>true
 |.bl a,.bl b=>a==b
 |.bl a,.int j=>(if a then 1 else 0)==j
 |.int i,.bl b=>i==(if b then 1 else 0)
 |.int i,.int j=>i==j
 |.str x,.str y=>x==y
 |.tup xs,.tup ys=>vqs xs ys
 |.lst xs,.lst ys=>vqs xs ys
 |_,_=>false
def vqs:List Val->List Val->Bool
 | [],[]=>true
 |x::xs,y::ys=>vq x y&&vqs xs ys
 |_,_=>false
end
mutual
def wfV:Nat->Val->Bool
 |_,.non=>true
 |_,.bl _=>true
 |_,.int _=>true
 |_,.str x=>PyData.strOk x
 |k+1,.tup xs=>i4 k xs
 |k+1,.lst xs=>i4 k xs
 |_,_=>false
def i4:Nat->List Val->Bool
 |_,[]=>true
 |k,x::xs=>wfV k x&&i4 k xs
end
mutual
def iU:Val->PyData
 |.bl b=>.bool b
 |.int i=>.int i
 |.str x=>.str x
 |.tup xs=>.tuple (fY xs)
 |.lst xs=>.list (fY xs)
 |_=>.none
def fY:List Val->List PyData
 | []=>[]
 |x::xs=>iU x::fY xs
end
mutual
theorem pX:∀(k:Nat) (v:Val),wfV k v=true->(∀j,k<j->eS j v=some (iU v))/\(iU v).canLay0=true/\(iU v).depth<=k
 |k,.non,_=>⟨λj hj=>by cases j with |zero=>exact absurd hj (Py _) |succ j=>rfl,rfl,ON _⟩
 |k,.bl b,_=>⟨λj hj=>by cases j with |zero=>exact absurd hj (Py _) |succ j=>rfl,rfl,ON _⟩
 |k,.int b,_=>⟨λj hj=>by cases j with |zero=>exact absurd hj (Py _) |succ j=>rfl,rfl,ON _⟩
 |k,.str b,w=>⟨λj hj=>by cases j with |zero=>exact absurd hj (Py _) |succ j=>rfl,by cases k <;> exact w,ON _⟩
 |0,.tup xs,w=>absurd w A_
 |0,.lst xs,w=>absurd w A_
 |
  k+1,.tup xs,w=>by
  obtain⟨h1,h2,h3⟩:=nG k xs w;exact⟨λj hj=>by cases j with |zero=>exact absurd hj (Py _) |succ j=>simp only[eS,iU,h1 j (Nat.lt_of_succ_lt_succ hj),Option.map_some],h2,by simpa [iU,PyData.depth] using h3⟩
 |
  k+1,.lst xs,w=>by
  obtain⟨h1,h2,h3⟩:=nG k xs w;exact⟨λj hj=>by cases j with |zero=>exact absurd hj (Py _) |succ j=>simp only[eS,iU,h1 j (Nat.lt_of_succ_lt_succ hj),Option.map_some],h2,by simpa [iU,PyData.depth] using h3⟩
 |k,.ty _,w=>by cases k <;> exact absurd w A_
 |k,.glb _,w=>by cases k <;> exact absurd w A_
 |k,.exc _,w=>by cases k <;> exact absurd w A_
 |k,.kl _,w=>by cases k <;> exact absurd w A_
 |k,.dct _,w=>by cases k <;> exact absurd w A_
 |k,.set _,w=>by cases k <;> exact absurd w A_
theorem nG:∀(k:Nat) (vs:List Val),i4 k vs=true->(∀j,k<j->gp j vs=some (fY vs))/\PyData.canLayAll0 (fY vs)=true/\PyData.depthAll (fY vs)<=k
 |k,[],_=>⟨λj hj=>by simp [gp,fY],rfl,ON _⟩
 |
  k,v::vs,w=>by
  have w':(wfV k v&&i4 k vs)=true:=w;rw[D_] at w';obtain⟨h1,h2,h3⟩:=pX k v w'.1;obtain⟨i1,i2,i3⟩:=nG k vs w'.2;exact⟨λj hj=>by simp [gp,fY,h1 j hj,i1 j hj],by simp [fY,PyData.canLayAll0,h2,i2],Nat.max_le.mpr ⟨h3,i3⟩⟩
end
mutual
theorem Ak:∀(k:Nat) (v u:Val),wfV k v=true->wfV k u=true->PyData.eqv (iU v) (iU u)=vq v u
 |
  k,v,u,hv,hu=>by
  cases v <;> first |(cases k <;> exact absurd hv A_) |skip
  all_goals (cases u <;> first |(cases k <;> exact absurd hu A_) |rfl |(cases k with |zero=>exact absurd hv A_ |succ k=>exact vZ k _ _ hv hu))
theorem vZ:∀(k:Nat) (v u:List Val),i4 k v=true->i4 k u=true->PyData.eqvAll (fY v) (fY u)=vqs v u
 |_,[],[],_,_=>rfl
 |_,[],_::_,_,_=>rfl
 |_,_::_,[],_,_=>rfl
 |
  k,x::xs,y::ys,hv,hu=>by
  have h1:(wfV k x&&i4 k xs)=true:=hv;have h2:(wfV k y&&i4 k ys)=true:=hu;rw[D_] at h1 h2;show (PyData.eqv (iU x) (iU y)&&PyData.eqvAll (fY xs) (fY ys))=(vq x y&&vqs xs ys);rw[Ak k x y h1.1 h2.1,vZ k xs ys h1.2 h2.2]
end
def Kb(hk:k<=160)(hx:wfV k x=true)(hy:wfV k y=true):eh x y=some (vq x y):=by obtain⟨h1,h2,h3⟩:=pX k x hx;obtain⟨i1,i2,i3⟩:=pX k y hy;unfold eh;rw[h1 164 (by omega),i1 164 (by omega)];dsimp only;rw[if_pos ⟨jM h2 (by omega),jM i2 (by omega)⟩,Ak k x y hx hy]
def Me(hx:wfV 60 x=true)(hy:wfV 60 y=true):eh x y=some (vq x y):=Kb (by decide) hx hy
mutual
theorem wa:∀(k:Nat) (v:Val),wfV k v=true->vq v v=true
 |
  k,v,hv=>by
  cases v <;> first |(cases k <;> exact absurd hv A_) |rfl |exact beq_self_eq_true _ |(cases k with |zero=>exact absurd hv A_ |succ k=>exact uu k _ hv)
theorem uu:∀(k:Nat) (v:List Val),i4 k v=true->vqs v v=true
 |_,[],_=>rfl
 |
  k,x::xs,hv=>by
  have h1:(wfV k x&&i4 k xs)=true:=hv;rw[D_] at h1;show (vq x x&&vqs xs xs)=true;rw[wa k x h1.1,uu k xs h1.2];rfl
end
noncomputable def fV(q:Rat):Val:=.tup [.int q.num,.int q.den]
structure Bx where
 l:Rat
 t:Rat
 w:Rat
 h:Rat
structure Bx.Ok(b:Bx):Prop where
 w:0<b.w
 h:0<b.h
structure Bx.Sz(n:Nat)(b:Bx):Prop where
 l:L2.Sz n b.l
 t:L2.Sz n b.t
 w:L2.Sz n b.w
 h:L2.Sz n b.h
noncomputable def bV(b:Bx):Val:=.tup [fV b.l,fV b.t,fV b.w,fV b.h]
def yB(q:Rat)(k:Nat):wfV (k+1) (fV q)=true:=by simp [fV,wfV,i4]
noncomputable def knV:Val->Bool
 |.exc _=>false
 |v=>(tyC v).isSome
noncomputable def jR:Nat->Val->Bool
 |k+1,.tup xs=>xs.all (jR k)
 |_,v=>knV v
noncomputable def jm:Val->Bool
 |.int _=>true
 |_=>false
noncomputable def ck:Val->Bool
 |.tup [.int a,.int b]=>decide (1<=b)&&decide (Int.gcd a b=1)
 |_=>false
noncomputable def kH:Val->Bool
 |.tup (.int a::_)=>decide (0<a)
 |_=>false
noncomputable def iC:Val->Bool
 |.tup [a,b,c,d]=>ck a&&(ck b&&(ck c&&(ck d&&(kH c&&kH d))))
 |_=>false
noncomputable def jG:Val->Bool
 |.int i=>decide (1<=i)
 |_=>false
noncomputable def gZ:Val->Bool
 |.tup _=>true
 |_=>false
def L7(h1:1<=b)(h2:Int.gcd a b=1):Val.tup [.int a,.int b]=fV ((a:Rat)/(b:Rat)):=by
 have hb:b≠0:=by omega
 have h:=o3 (a:=a) hb;have s:=Fr.self (by omega) h2;unfold fV;rw[<- h.1,<- h.2,s.1,s.2]
def lg(q:Rat):ck (fV q)=true:=by
 show (decide (1<=(q.den:Int))&&decide (Int.gcd q.num q.den=1))=true
 have:=q.den_pos
 rw[J_ (by omega),J_ (wQ q)];rfl
def zD(h:ck d=true):∃q,d=fV q:=by
 unfold ck at h;split at h
 .simp only[D_,P1] at h;exact⟨_,L7 h.1 h.2⟩
 .cases h
def wJ(q:Rat):kH (fV q)=decide (0<q):=by show decide (0<q.num)=decide (0<q);rw[decide_eq_decide];exact wN
def Bn(h:b.Ok):iC (bV b)=true:=by show (ck (fV b.l)&&(ck (fV b.t)&&(ck (fV b.w)&&(ck (fV b.h)&&(kH (fV b.w)&&kH (fV b.h))))))=true;rw[lg,lg,lg,lg,wJ,wJ,J_ h.w,J_ h.h];rfl
def IC(b:Bx):jR 2 (bV b)=true:=by simp [bV,fV,jR,knV,tyC]
theorem qI(P:E3->Prop):∀(vs acc:List Val) (e:E3),P e->(∀v∈vs,∀e,P e->∃e1 t e2,g v e=some e1/\F e1=.ok t e2/\dk e2 t=some (e2,f v)/\P e2)->acc.length+vs.length<=16777216->∃e',P e'/\lcV g cY F vs acc e=.ok (acc++vs.map f) e'
 | [],acc,e,hp,_,_=>⟨e,hp,by simp [lcV]⟩
 |
  v::vs,acc,e,hp,hf,hl=>by
  obtain⟨e1,t,e2,q1,q2,q3,q4⟩:=hf v (C_ ..) e hp;obtain⟨e',p',q5⟩:=qI P vs (acc++[f v]) e2 q4 (λu hu=>hf u (y_ _ hu)) (by simp at hl ⊢;omega);refine⟨e',p',?_⟩;unfold lcV;rw[if_pos (by simp at hl;omega),q1];simp only[cY,mM,PM,q2,q3,q5];simp
noncomputable def rgV(k:Nat):List Val:=(List.range k).map λj=>Val.int (j:Nat)
def Gh(h:k<1000000):iV [.int (k:Nat)]=some (rgV k):=by simp only[iV];rw[if_pos (⟨by omega,by omega⟩:RgB _),Qk];unfold rf rgV;simp only[Int.zero_add]
def kr(h0:0<=i)(h:i<1000000):iV [.int i]=some (rgV i.toNat):=by
 have:=Gh (k:=i.toNat) (by omega)
 rwa [show ((i.toNat:Nat):Int)=i from by omega] at this
theorem me(f:α->Val)(st:σ->α->σ)(P:σ->E3->Prop):∀(l:List α) (s:σ) (e:E3),P s e->(∀a∈l,∀s e,P s e->∃e1 e2,g (f a) e=some e1/\(B e1=.nx e2\/B e1=.ct e2)/\P (st s a) e2)->∃e',P (l.foldl st s) e'/\dJ g B (l.map f) e=.nx e'
 | [],s,e,hp,_=>⟨e,hp,rfl⟩
 |
  a::l,s,e,hp,hf=>by
  obtain⟨e1,e2,q1,q2,q3⟩:=hf a (C_ ..) s e hp;obtain⟨e',p',q4⟩:=me f st P l (st s a) e2 q3 λu hu=>hf u (y_ _ hu);refine⟨e',p',?_⟩;rw[B_,bY,q1];rcases q2 with q2 |q2 <;> simp only[q2,i5,D4,q4]
theorem gA(fv fw:α->Val)(P:E3->Prop):∀(l:List α) (acc:List Val) (e:E3),P e->(∀a∈l,∀e,P e->∃e1 t e2,g (fv a) e=some e1/\F e1=.ok t e2/\dk e2 t=some (e2,fw a)/\P e2)->acc.length+l.length<=16777216->∃e',P e'/\lcV g qY.G F (l.map fv) acc e=.ok (acc++l.map fw) e'
 | [],acc,e,hp,_,_=>⟨e,hp,by simp [lcV]⟩
 |
  v::vs,acc,e,hp,hf,hl=>by
  obtain⟨e1,t,e2,q1,q2,q3,q4⟩:=hf v (C_ ..) e hp;obtain⟨e',p',q5⟩:=gA fv fw P vs (acc++[fw v]) e2 q4 (λu hu=>hf u (y_ _ hu)) (by simp at hl ⊢;omega);refine⟨e',p',?_⟩;rw[B_];unfold lcV;have cy:qY.G=cY:=rfl;rw[cy] at q5 ⊢;rw[if_pos (by simp at hl;omega),q1];simp only[cY,mM,PM,q2,q3,q5];simp
def IS(v:Val):inS (.mu v)=.mu v:=rfl
def HK(v:Val):inS (.sh v)=.sh v:=rfl
def Ej(i:Nat)(v:Val)(e:E3):ij (some i) (.sh v) e=e:=rfl
noncomputable def BO(ms:List Bool)(r:SR3):R3F:=match r with
 |.nx e=>(match muV ms e with |some mv=>.ok (.val .non) mv |none=>.stuck)
 |.rt r e=>(match muV ms e with |some mv=>.ok r mv |none=>.stuck)
 |.exc c e=>(match muV ms e with |some mv=>.exc c mv |none=>.stuck)
 |_=>.stuck
def MH(h:vs.length=ms.length):(fnP ms N c).G vs=BO ms (c.G (sls ms vs++List.replicate (N-vs.length) .no)):=by rw[bT,if_pos h];rfl
def Ml(ms:List Bool)(r:Rt)(e:E3):BO ms (.rt r e)=match muV ms e with |some mv=>.ok r mv |none=>.stuck:=rfl
def eV{Q:SR3->Prop}(I:E3->Prop){a b:PSt}{e:E3}(h1:∃e1,a.G e=.nx e1/\I e1)(h2:∀e1,I e1->Q (b.G e1)):Q ((bE a b).G e):=by obtain⟨e1,q,i⟩:=h1;rw[DN,q];exact h2 e1 i
def sm8(h:m.natAbs<1099511627776):Sm 8000 m:=K_ (show m.natAbs<2^40 from h) (OS (by decide) (by decide))
def rb{m:Int}(h:0<m):(0:Rat)<(m:Rat):=Rat.intCast_pos.mpr h
def iq{a b:Int}(h1:0<a)(h2:0<b):(0:Rat)<(a:Rat)/(b:Rat):=by rw[Pf];exact Qn (rb h1) (Rat.inv_pos.mpr (rb h2))
def Hd(xs ys:List Val):cH.G (.lst xs) (.lst ys)=if xs.length+ys.length<=16777216 then .new (.lst (xs++ys)) else .stuck:=rfl
theorem ar1{α:Type}{P:List α->Prop}(h:∀a,P [a]):∀us:List α,us.length=1->P us
 | [a],_=>h a
theorem ar2{α:Type}{P:List α->Prop}(h:∀a b,P [a,b]):∀us:List α,us.length=2->P us
 | [a,b],_=>h a b
theorem ar3{α:Type}{P:List α->Prop}(h:∀a b c,P [a,b,c]):∀us:List α,us.length=3->P us
 | [a,b,c],_=>h a b c
theorem ar4{α:Type}{P:List α->Prop}(h:∀a b c d,P [a,b,c,d]):∀us:List α,us.length=4->P us
 | [a,b,c,d],_=>h a b c d
theorem ar5{α:Type}{P:List α->Prop}(h:∀a b c d e,P [a,b,c,d,e]):∀us:List α,us.length=5->P us
 | [a,b,c,d,e],_=>h a b c d e
theorem ar6{α:Type}{P:List α->Prop}(h:∀a b c d e f,P [a,b,c,d,e,f]):∀us:List α,us.length=6->P us
 | [a,b,c,d,e,f],_=>h a b c d e f
section
variable{P:Nat->Prop}{h:AH}
def Oh(r:Rk P h ws us):lkD us k=some v->∃d,lkD ws k=some d/\Rd P h d v:=
 r.ind (M:=λws us=>lkD us k=some v->∃d,lkD ws k=some d/\Rd P h d v) (λq=>by cases q) (λ{k2 d v2 ds vs} r _ ih q=>by
  unfold lkD at q ih ⊢;rw[Pd] at q ⊢;dsimp only at q ⊢;by_cases hk:k2=k
  .rw[J_ hk] at q ⊢;cases q;exact⟨d,rfl,r⟩
  .rw[F_ hk] at q ⊢;exact ih q)
def FV(r:Rk P h ws us):us.map (·.1)=ws.map (·.1):=
 r.ind (M:=λws us=>us.map (·.1)=ws.map (·.1)) rfl λ_ _ ih=>by rw[B_,B_,ih]
def Ko(r:Rk P h ws us):ws.length=us.length:=
 r.ind (M:=λws us=>ws.length=us.length) rfl λ_ _ ih=>OU (· + 1) ih
def Je(r:Rk P h ws us)(q:Rk P h ws' us'):Rk P h (ws++ws') (us++us'):=
 r.ind (M:=λws us=>Rk P h (ws++ws') (us++us')) q λr _ ih=>.cons r ih
def GR(rd:Rd P h d v)(r:Rk P h ws us):Rk P h (lF ws k d) (lF us k v):=by
 unfold lF;rw[tU (FV r)];by_cases hc:(ws.any λkv=>decide (kv.1=k))=true
 .rw[if_pos hc,if_pos hc];exact r.ind (M:=λws us=>Rk P h (ws.map λkv=>if kv.1=k then (kv.1,d) else kv) (us.map λkv=>if kv.1=k then (kv.1,v) else kv)) .nil (λ{k2 d2 v2 ds vs} r _ ih=>by
   rw[B_,B_];dsimp only;by_cases hk:k2=k
   .rw[if_pos hk,if_pos hk];exact .cons rd ih
   .rw[if_neg hk,if_neg hk];exact .cons r ih)
 .rw[if_neg hc,if_neg hc];exact Je r (.cons rd .nil)
def HN:∀{ks:List Key}{ds:List D}{vs:List Val},Rds P h ds vs->Rk P h (ks.zip ds) (ks.zip vs):=by
 intro ks;induction ks with
 |nil=>intro ds vs _;exact .nil
 |
  cons k ks ih=>
  intro ds vs r;cases r with
  |nil=>exact .nil
  |cons r rr=>exact .cons r (ih rr)
end
def BN:Val->Val->Bv:=λx y=>match x with
 |.dct kvs=>(match y with
  |.str k=>(match lkD kvs (.inr k) with
   |some v=>.val v
   |none=>.stuck)
  |_=>.stuck)
 |_=>.stuck
def Hi:RO uC BN:=λP h d1 d2 v1 v2 r1 r2=>by
 unfold BN;split
 .rename_i kvs;split
  .rename_i k;split
   .rename_i v q;obtain⟨n,ws,rfl,e,rk⟩:=r1.dct;obtain rfl:=r2.str;obtain⟨d,q1,rd⟩:=Oh rk q;refine⟨d,?_,rd⟩;unfold uC;dsimp only;rw[e];dsimp only;rw[q1]
   .trivial
  .trivial
 .trivial
def iX:PO2:=⟨uC,BN,Hi⟩
def sD:Val->Val->Val->Option Val:=λo i v=>match o with
 |.dct kvs=>(match i with
  |.str k=>if kvs.length<16777216 then some (.dct (lF kvs (.inr k) v)) else none
  |_=>none)
 |_=>none
def JG:BC wD sD:=λP h n o u di vi d v u' np e hf r ri rd q=>by
 unfold sD at q;split at q
 .rename_i kvs;split at q
  .rename_i k;split at q
   .rename_i hl;cases q;obtain rfl:=ri.str;cases r with
    |dct rk=>rename_i ws;refine⟨.dct (lF ws (.inr k) d),?_,trivial,.dct (GR rd rk)⟩;unfold wD;dsimp only;rw[e];dsimp only;rw[if_pos (by rw[Ko rk];exact hl)]
   .cases q
  .cases q
 .cases q
def seD:PSe:=⟨wD,sD,JG⟩
def yM(ks:List Str)(A:MA3):ME3:=λe=>(A e).bind λts e1=>match dem e1 ts with
 |some (e2,vs)=>if ks.length=vs.length then .ok (.new (.dct ((ks.map Sum.inr).zip vs))) e2 else .stuck
 |none=>.stuck
def GF(ks:List Str)(hA:RA A A3):RE (oI ks A) (yM ks A3):=λX h0 L ns e ae h S hl=>by
 have SG:=S.grow (.dct []);have p:=hA (Xn X h.length) h0 ns e ae (h++[.dct []]) SG;unfold yM oI;cases q:A3 e with
 |stuck=>trivial
 |exc c e'=>rw[q] at p;obtain⟨h',ns',y,a,S'⟩:=p;exact⟨h',ns',by rw[y];rfl,(Stp.grow _).trans S a,S'.weak λn z=>.inl z⟩
 |
  ok ts e1=>
  rw[q] at p;obtain⟨ds,h1,ns1,y,a1,S1,r1⟩:=p;rw[y];show Po X h0 ns e ae h (relE X h0 L ae) _ (match dem e1 ts with
   |some (e2,vs)=>if ks.length=vs.length then .ok (.new (.dct ((ks.map Sum.inr).zip vs))) e2 else .stuck
   |none=>.stuck)
  cases qd:dem e1 ts with
  |none=>trivial
  |
   some w=>
   obtain⟨e2,vs⟩:=w;dsimp only;by_cases c_:ks.length=vs.length
   .rw[if_pos c_];obtain⟨ns2,S2,a2,r2⟩:=jZ S1 r1 qd;have hk:h1[h.length]?=some (.dct []):=a1.keep _ _ wm λ⟨i,s,z,_⟩=>SG.nx i _ z (.inr rfl);have A:=((Stp.grow (.dct [])).trans S a1).trans S a2;have hlt:=dU hk;have mv:Mov (Oc (Xn X h.length) ns2) (Oc (Xn X h.length) ns2) h1 (h1.set h.length (.dct ((ks.map Sum.inr).zip ds))):=λm o p q=>⟨p,by have:m≠h.length:=λz=>p.1 (.inr z);rw[cR this];exact q⟩;have S3:Sat (Xn X h.length) h0 ns2 e2 ae (h1.set h.length (.dct ((ks.map Sum.inr).zip ds))):=⟨S2.l1,S2.l2,by rw[OB];exact S2.lh,λm z=>by rw[OB];exact S2.xl m z,S2.inj,S2.nx,λj s qj=>(S2.sl j s qj).mono mv λm o qm qo=>by have:m≠h.length:=λz=>S2.nx j m qm (.inr z);rw[cR this];exact qo⟩;have A3':Stp ns e h ns2 e2 (h1.set h.length (.dct ((ks.map Sum.inr).zip ds))):=⟨by rw[OB];exact A.len,λm o qm hm=>by have:m≠h.length:=OF (dU qm);rw[cR this];exact A.keep m o qm hm,A.nw,A.lk,A.lk',A.mu,A.mu'⟩;refine⟨.ref h.length,_,ns2,?_,A3',S3.weak λn z=>.inl z,h.length,_,rfl,hl,λz=>O8 _ (S.xl _ z),de hlt,trivial,S3,.dct ((HN r2).mono mv)⟩;show (match h1[h.length]? with
     |some (.dct [])=>if ks.length=ds.length then R.ok (D.ref h.length) (h1.set h.length (.dct ((ks.map Sum.inr).zip ds))) else .stuck
     |_=>.stuck)=_
    rw[hk];dsimp only;rw[if_pos (by rw[r2.len];exact c_)]
   .rw[if_neg c_];trivial
def yJ(ks:List Str)(a:PAs):PEx:=⟨oI ks a.F,yM ks a.G,GF ks a.ok⟩
theorem zt(e:E3)(ks:List Str)(a:PAs):(yJ ks a).G e=(a.G e).bind λts e1=>match dem e1 ts with
 |some (e2,vs)=>if ks.length=vs.length then .ok (.new (.dct ((ks.map Sum.inr).zip vs))) e2 else .stuck
 |none=>.stuck:=rfl
section
variable{K:W.Frag}{mg:Ra}{X:Cx}{ES:L2.St->XK}{a b:Expr}{p q:PEx}{pos:Pos}
def FH(hu:X.A.units+1<cLine)(ha:DE K mg X ES a p.F)(hb:DE K mg X ES b q.F)(hs:yy b):DE K mg X ES (.Subscript a b pos) (pOp iX p q).F:=by with_unfolding_all exact Gk hu ha hb hs
def nE(hv:DE K mg X ES v F)(hr:PPs X pos ks vs (tps K mg ES prs)):PPs X pos (some (.Constant (.str k) j kp)::ks) (v::vs) (tps K mg ES ((k,F)::prs)):=by with_unfolding_all exact C9 hv hr
def FF(hp:PPs X pos keys values (tps K mg ES prs))(h1:ks=prs.map (·.1):=by rfl)(h2:A.F=aL prs:=by rfl)(hn:ks.Nodup:=by decide)(hall:keys.all (·.isSome)=true:=by rfl)(hl:keys.length=values.length:=by rfl)(h0:keys≠[]:=by intro h;cases h)(h15:keys.length<=15:=by decide)(hp15:prs.length<=15:=by decide):DE K mg X ES (.Dict keys values pos) (yJ ks A).F:=by subst h1;show DE K mg X ES (.Dict keys values pos) (oI (prs.map (·.1)) A.F);rw[h2];with_unfolding_all exact E8 hp hall hl h0 h15 hn hp15
end
theorem rF(P:Nat->E3->Prop)(m:Nat)(hs:∀i,i<m->∀e,P i e->∃e1 e2,g (.int (i:Nat)) e=some e1/\(B e1=.nx e2\/B e1=.ct e2)/\P (i+1) e2):∀(k i:Nat) (e:E3),i+k=m->P i e->∃e',P m e'/\dJ g B ((List.range' i k).map λj=>Val.int (j:Nat)) e=.nx e'
 |
  0,i,e,h,p=>by
  obtain rfl:i=m:=by omega
  exact⟨e,p,rfl⟩
 |
  k+1,i,e,h,p=>by
  obtain⟨e1,e2,q1,q2,q3⟩:=hs i (by omega) e p;obtain⟨e',p',q4⟩:=rF P m hs k (i+1) e2 (by omega) q3;refine⟨e',p',?_⟩;rw[List.range'_succ,B_,bY,q1];rcases q2 with q2 |q2
  .simp only[q2,i5];exact q4
  .simp only[q2,D4];exact q4
def tV(P:Nat->E3->Prop)(m:Nat)(h0:P 0 e)(hs:∀i,i<m->∀e,P i e->∃e1 e2,g (.int (i:Nat)) e=some e1/\(B e1=.nx e2\/B e1=.ct e2)/\P (i+1) e2):∃e',P m e'/\dJ g B (rgV m) e=.nx e':=by
 have:=rF P m hs m 0 e (by omega) h0
 rw[<- List.range_eq_range'] at this;exact this
def vo(xs:List Val)(n:Nat):hE xs none (some (n:Int))=xs.take n:=by
 unfold hE;rw[HT.sIx_none,HT.sIx_nat,List.drop_zero,Nat.sub_zero];by_cases h:n<=xs.length
 .rw[Nat.min_eq_left h]
 .rw[Nat.min_eq_right (by omega),Pt (z_ _),Pt (by omega)]
def tf(xs:List Val)(n:Nat):hE xs (some (n:Int)) none=xs.drop n:=by
 unfold hE;rw[HT.sIx_none,HT.sIx_nat];by_cases h:n<=xs.length
 .rw[Nat.min_eq_left h,Pt (by rw[List.length_drop];exact z_ _)]
 .rw[Nat.min_eq_right (by omega),List.drop_of_length_le (z_ _),List.drop_of_length_le (by omega),PR]
def wC(xs:List Val):hE xs none (some (-1))=xs.dropLast:=by unfold hE;rw[HT.sIx_none,List.drop_zero,Nat.sub_zero,List.dropLast_eq_take];show xs.take (if (-1:Int)<0 then ((-1:Int)+(xs.length:Int)).toNat else min (-1:Int).toNat xs.length)=_;rw[if_pos (by decide)];congr 1;omega
def ka(xs:List Val)(lo hi:Option Int):aSl (.lst xs) lo hi=.new (.lst (hE xs lo hi)):=rfl
def NG(xs:List Val)(lo hi:Option Int):aSl (.kl xs) lo hi=.new (.lst (hE xs lo hi)):=rfl
noncomputable def pU(n:Nat)(u:lC):MG3:=λv e=>match v with
 |.tup vs=>if vs.length=n then u vs e else none
 |.lst vs=>if vs.length=n then u vs e else none
 |_=>none
section
variable{gs:MGs}{gs3:lC}
def rg_u(n:Nat)(hs:RGs gs gs3):RG (gU λds ae h=>if ds.length=n then gs ds ae h else .stuck) (pU n gs3):=λX h0 ns e ae h d v e' S r q=>by
 unfold pU at q;split at q
 .split at q
  .rename_i hn;obtain⟨ds,rfl,r2⟩:=ShR.tup (.inl r);obtain⟨h_,ns1,p1,S1,a1⟩:=hs _ _ _ _ _ _ _ _ _ S r2 q;refine⟨h_,ns1,?_,S1,a1⟩;unfold gU;dsimp only;rw[if_pos (by rw[r2.len];exact hn)];exact p1
  .cases q
 .split at q
  .rename_i hn;obtain⟨m,ds,rfl,_,eq,r2⟩:=ShR.lst (.inl r);obtain⟨h_,ns1,p1,S1,a1⟩:=hs _ _ _ _ _ _ _ _ _ S r2 q;refine⟨h_,ns1,?_,S1,a1⟩;unfold gU;dsimp only;rw[eq];dsimp only;rw[if_pos (by rw[r2.len];exact hn)];exact p1
  .cases q
 .cases q
end
noncomputable def gtU(n:Nat)(a:PGs):PGt:=⟨gU λds ae h=>if ds.length=n then a.F ds ae h else .stuck,pU n a.G,rg_u n a.ok⟩
section
variable{e:E3}
def g_uL(n:Nat)(a:PGs)(vs:List Val):(gtU n a).G (.lst vs) e=if vs.length=n then a.G vs e else none:=rfl
end
section
variable{K:W.Frag}{mg:Ra}{X:Cx}{es:List Expr}{gs:PGs}{pos:Pos}
def IH{k n:Nat}(hK:X.K=K)(hc:X.calm=true)(h:DGs K mg X (λ_=>E0) es gs.F)(hn:(assignEach es X.env).length=n:=by rfl)(hst:(assignEach es X.env).findIdx? (·.1)=none:=by rfl):DG K mg X (λ_=>E0) (.Tuple es k pos) (gtU n gs).F:=K8 hK hc h hn hst
end
def CK:List Val->Bv:=λvs=>match vs with
 | [.int j]=>if -(2^62)<=j/\j<=16777216 then .new (.lst (rgV j.toNat)) else .stuck
 |_=>.stuck
def Kx:RFn qR CK:=λP h ds vs r=>by
 unfold CK;split
 .obtain⟨d,hd,rr1⟩:=jA r;subst hd;split
  .rename_i j hb;have e:=rr1.int;subst e;refine⟨.lst (Cw j),by unfold qR;dsimp only;rw[if_pos hb],trivial,.lst ?_⟩;unfold Cw rgV;generalize List.range j.toNat=l;induction l with
   |nil=>exact .nil
   |cons i l ih=>exact .cons (.int _) ih
  .trivial
 .trivial
noncomputable def iH:PBf:=⟨qR,CK,Kx⟩
def sJ{j:Int}(h:-(2^62)<=j/\j<=16777216):iH.G [.int j]=.new (.lst (rgV j.toNat)):=if_pos h
section
variable{K:W.Frag}{mg:Ra}{X:Cx}{ES:L2.St->XK}{a:Expr}{A:PAs}{pos q2 p1 p2:Pos}
def GS(hc:X.calm=true)(hl:Gl X "list")(hml:mg "list"=none)(hg:Gl X "range")(hm:mg "range"=none)(ha:DA K mg X ES [a] A.F)(hk:X.mg=mg:=by rfl)(hs:starEach [a] X.env=[(false,eval a X.env)]:=by rfl)
 (hs1:starEach [.Call (.Name "range" p2) [a] [] q2] X.env=[(false,eval (.Call (.Name "range" p2) [a] [] q2) X.env)]:=by rfl):
 DE K mg X ES (.Call (.Name "list" p1) [.Call (.Name "range" p2) [a] [] q2] [] pos) (pFn iH A).F:=by with_unfolding_all exact Hj hc hl hml hg hm ha hk hs hs1
end
def uN(n_:Bool)(n:Str)(kvs:List (Str×Int)):Val->Val->Bv:=λx y=>match x,y with
 |.str k,.glb m=>if m=n then .val (.bl (n_ ^^ (lkS kvs k).isSome)) else .stuck
 |_,_=>.stuck
def oG(n:Str)(kvs:List (Str×Int)):Val->Val->Bv:=λx y=>match x,y with
 |.glb m,.str k=>(match lkS kvs k with
  |some i=>if m=n then .val (.int i) else .stuck
  |none=>.stuck)
 |_,_=>.stuck
def J1(n_:Bool)(n:Str)(kvs:List (Str×Int)):RO (uK n_ n kvs) (uN n_ n kvs):=λP h d1 d2 v1 v2 r1 r2=>by
 unfold uN;split
 .split
  .rename_i hm;obtain rfl:=r1.str;obtain rfl:=r2.glb;exact⟨_,by unfold uK;dsimp only;rw[if_pos hm],.bl _⟩
  .trivial
 .trivial
def EW(n:Str)(kvs:List (Str×Int)):RO (o7 n kvs) (oG n kvs):=λP h d1 d2 v1 v2 r1 r2=>by
 unfold oG;split
 .split
  .rename_i i e;split
   .rename_i hm;obtain rfl:=r1.glb;obtain rfl:=r2.str;exact⟨_,by unfold o7;dsimp only;rw[e];dsimp only;rw[if_pos hm],.int _⟩
   .trivial
  .trivial
 .trivial
def yE(n:Str)(kvs:List (Str×Int)):PO2:=⟨uK true n kvs,uN true n kvs,J1 true n kvs⟩
def sU(n:Str)(kvs:List (Str×Int)):PO2:=⟨o7 n kvs,oG n kvs,EW n kvs⟩
def Hn(n:Str)(kvs:List (Str×Int))(k:Str):(yE n kvs).G (.str k) (.glb n)=.val (.bl (!(lkS kvs k).isSome)):=by show uN true n kvs (.str k) (.glb n)=_;unfold uN;dsimp only;rw[if_pos rfl];cases (lkS kvs k).isSome <;> rfl
def Iy{n:Str}{kvs:List (Str×Int)}{k:Str}{i:Int}(h:lkS kvs k=some i):(sU n kvs).G (.glb n) (.str k)=.val (.int i):=by show oG n kvs (.glb n) (.str k)=_;unfold oG;dsimp only;rw[h];dsimp only;rw[if_pos rfl]
section
variable{K:W.Frag}{mg:Ra}{n:Str}{kvs:List (Str×Int)}
def FE:OpD K mg (BK true mg n kvs) (yE n kvs).F:=E2 true
def Gf:OpD K mg (yG mg n kvs) (sU n kvs).F:=Cf
end
theorem qE{g:MG3}{c:MT3}{F:ME3}{α:Type}(pz:α->Bool)(fv fw:α->Val)(P:E3->Prop):∀(l:List α) (acc:List Val) (e:E3),P e->(∀a∈l,∀e,P e->∃e1 e2,g (fv a) e=some e1/\c e1=.ok (pz a) e2/\P e2/\(pz a=true->∃t e3,F e2=.ok t e3/\dk e3 t=some (e3,fw a)/\P e3))->acc.length+l.length<=16777216->∃e',P e'/\lcV g c F (l.map fv) acc e=.ok (acc++(l.filter pz).map fw) e'
 | [],acc,e,hp,_,_=>⟨e,hp,by simp [lcV]⟩
 |
  a::l,acc,e,hp,hf,hl=>by
  obtain⟨e1,e2,q1,q2,q3,q4⟩:=hf a (C_ ..) e hp;rw[L_] at hl;cases hz:pz a with
  |false=>obtain⟨e',p',q⟩:=qE pz fv fw P l acc e2 q3 (λu hu=>hf u (y_ _ hu)) (by omega);refine⟨e',p',?_⟩;rw[hz] at q2;rw[B_];unfold lcV;rw[if_pos (by omega),q1];simp only[q2,mM,PV,Qs,q];rw[List.filter_cons_of_neg (by rw[hz];exact A_)]
  |true=>obtain⟨t,e3,r1,r2,r3⟩:=q4 hz;obtain⟨e',p',q⟩:=qE pz fv fw P l (acc++[fw a]) e3 r3 (λu hu=>hf u (y_ _ hu)) (by simp;omega);refine⟨e',p',?_⟩;rw[hz] at q2;rw[B_];unfold lcV;rw[if_pos (by omega),q1];simp only[q2,mM,PM,r1,r2,q];rw[List.filter_cons_of_pos hz,B_,O1];rfl
def oF(xs:List Int):(xs.map Val.int).all oY=true:=by rw[List.all_map,OA];intro x _;rfl
def tL(xs:List Int)(a:Int):((xs.map Val.int).any λd=>eq1 d (.int a))=xs.contains a:=by
 induction xs with
 |nil=>rfl
 |cons x xs ih=>rw[B_,Pg,ih,List.contains_cons];congr 1;show (x==a)=(a==x);rw[Bool.eq_iff_iff,OX,OX];exact⟨Eq.symm,Eq.symm⟩
def zr(xs:List Int)(a:Int):lj.G (.int a) (.lst (xs.map .int))=.val (.bl (!xs.contains a)):=by show aIn true (.int a) (.lst (xs.map .int))=_;unfold aIn;dsimp only [Val.items];rw[if_pos ⟨rfl,oF xs⟩,tL];rfl
def B8(xs:List Int)(a:Int):bIn.G (.int a) (.lst (xs.map .int))=.val (.bl (xs.contains a)):=by show aIn false (.int a) (.lst (xs.map .int))=_;unfold aIn;dsimp only [Val.items];rw[if_pos ⟨rfl,oF xs⟩,tL];rfl
section
variable{K:W.Frag}{mg:Ra}{X:Cx}{ES:L2.St->XK}{e:Expr}{es:List Expr}{p:PEx}{A:PAs}{pos:Pos}
def zcF{f:PFn}{x:Str}{p0:Pos}{k j n:Nat}{ps:List Str}(C:Callee X.prog X.w X.K X.mg X.base x j ps (spD K mg n f.F))(hr:Room k X.A)(ha:DA K mg X ES (e::es) A.F)(hk:j<=k:=by omega)(hg:Gl X x:=by exact rfl)(hx:mB X ES:=by first |exact vW Ot |exact Bp |assumption)(hn:f.ms.length=n:=by rfl)(hdb:(x==("__debug__" : Str))=false:=by decide)(he:starEach (e::es) X.env=(false,eval e X.env)::starEach es X.env:=by rfl)(hpl:(backTo pos (starEach es X.env)).any (·.1)=false:=by rfl):DE K mg X ES (.Call (.Name x p0) (e::es) [] pos) (bD f A).F:=Bo C (hr.mono hk) hg hx ha hn hdb he hpl
def zsS{ow:Bool}(i:Nat){x:Str}{t_:Pos}(hN:X.N.Nodup)(he:DE K mg X ES e p.F)(hi:X.N[i]?=some x:=by exact rfl)(hx:Loc X.env.scope x:=by first |exact Or.inl rfl |exact Or.inr rfl)(hs:swapsWith e (some (.Name x t_)) pos.line X.env=pure false:=by rfl)(hf:X.fn x=true\/X.env.scope.names.lookup x=some .local:=by first |exact .inl rfl |exact .inr rfl |assumption):DS K mg X ES (.Assign [.Name x t_] e pos) (bO ow i p).F:=Ip hN hi hx he hs hf
def zgN(i:Nat){x:Str}(hN:X.N.Nodup)(hi:X.N[i]?=some x:=by exact rfl)(hx:Loc X.env.scope x:=by first |exact Or.inl rfl |exact Or.inr rfl)(hf:X.fn x=true\/X.env.scope.names.lookup x=some .local:=by first |exact .inl rfl |exact .inr rfl |assumption):DG K mg X ES (.Name x pos) (gtN i).F:=Fl hN hi hx hf
end
def BY:Val->Val->Bv:=λx y=>match x,y with
 |.bl a,.bl b=>.val (.bl (a != b))
 |_,_=>.stuck
def Jf:RO yC BY:=λP h d1 d2 v1 v2 r1 r2=>by
 unfold BY;split
 .obtain rfl:=r1.bl;obtain rfl:=r2.bl;exact⟨_,rfl,.bl _⟩
 .trivial
def xO:PO2:=⟨yC,BY,Jf⟩
def Ng(a b:Bool):xO.G (.bl a) (.bl b)=.val (.bl (a != b)):=rfl
def JR{K:W.Frag}{mg:Ra}:OpD K mg Bk xO.F:=EF
open PySem PySem.Spec PyProof.Rows L2 PySem.W
noncomputable def adr(K:Frag)(x:Str):Addr:=match nsIn K mainGlobals x with
 |some (some (.ref a))=>a
 |_=>0
noncomputable def mr(K:Frag)(x:Str):Bool:=match nsIn K mainGlobals x with
 |some (some (.ref _))=>true
 |_=>false
noncomputable def xP(K:Frag)(x:Str):Bool:=match nsIn K mainGlobals x with
 |some none=>true
 |_=>false
noncomputable def xcB(K:Frag)(C:Addr):Bool:=(clsIn K C).isSome&&(findIn K (.ref C) "__getattribute__" == some (some (.builtin "BaseException.__getattribute__"))&&(findIn K (.ref C) "__getattr__" == some none&&(findIn K (.ref C) "__class__" == some (some (.builtin "object.__class__"))&&(specialIn K (.builtin "object.__class__") "__get__" == some (some (.builtin "getset_descriptor.__get__"))&&(takesIn K (.builtin "object.__class__")==some true&&(mroIn K C (.type "object")==some true&&mroIn K C (.type "BaseException")==some true))))))
noncomputable def hdB(K:Frag)(C:Addr):Bool:=typeIn K (.ref C)==some (.type "type")&&((clsIn K C).isSome&&mroIn K C (.type "BaseException")==some true)
noncomputable def clA(K:Frag):Cl->Value
 |.b n=>.type n
 |.o x=>.ref (adr K x)
noncomputable def By(K:Frag):Cl->Bool
 |.b _=>true
 |.o x=>mr K x
noncomputable def BU(K:Frag)(p:Cl×Cl×Bool):Bool:=kitOne K (clA K p.1) (clA K p.2.1)==some p.2.2&&(By K p.1&&By K p.2.1)
noncomputable def xkB(K:Frag):Cl->Bool
 |.b _=>true
 |.o x=>xcB K (adr K x)
noncomputable def yn:D->Value->Bool
 |.int i,.int j _=>i==j
 |.str x,.str y _=>x==y
 |.non,.none=>true
 |.bl b,.bool c=>b==c
 |_,_=>false
noncomputable def dV:D->V
 |.int i=>.int i
 |.str x=>.str x
 |.bl b=>.bl b
 |_=>.non
noncomputable def sN:List D->List Value->Bool
 | [],[]=>true
 |d::ds,v::vs=>yn d v&&sN ds vs
 |_,_=>false
noncomputable def gcB(K:Frag)(x:Str):D->Bool
 |.tup ds=>(match nsIn K mainGlobals x with
  |some (some (.ref a))=>(match K.lookup a with
   |some ⟨.type "tuple",_,.seq its _,_⟩=>decide (its.size<=1000)&&sN ds its.toList
   |_=>false)
  |_=>false)
 |d=>match nsIn K mainGlobals x with
  |some (some v)=>yn d v
  |_=>false
noncomputable def bFn:List String:=["abs", "all", "any", "isinstance", "len", "max", "min", "sorted", "sum"]
noncomputable def bTy:List String:=["bool", "dict", "int", "list", "set", "str", "tuple"]
noncomputable def bIt:List String:=["range", "zip", "enumerate"]
def H0:(bFn.all λn=>bootBuiltins (Str.ofString n)==some (.builtin n))=true:=by decide
def IE:(bTy.all λn=>bootBuiltins (Str.ofString n)==some (.type n))=true:=by decide
def boF{n:String}(h:bFn.contains n=true):bootBuiltins (Str.ofString n)=some (.builtin n):=OX.mp (OA.mp H0 n (O2.mp h))
def boT{n:String}(h:bTy.contains n=true):bootBuiltins (Str.ofString n)=some (.type n):=OX.mp (OA.mp IE n (O2.mp h))
structure Tb where
 us:List Str
 rs:List Str
 hs:List (Str×List Str)
 kt:kU
 gs:List (Str×D)
noncomputable def Tb.ok(b:Tb)(K:Frag):Bool:=(bFn++(bTy++bIt)).all (λn=>xP K (Str.ofString n))&&(b.us.all (mr K)&&(b.rs.all (λx=>excIn K (adr K x) nz "ValueError.__new__" && mr K x)&&(b.hs.all (λp=>hdB K (adr K p.1)&&p.2.all λc=>mroIn K (adr K c) (.ref (adr K p.1))==some true&&mr K c)&&(b.kt.all (λp=>BU K p&&xkB K p.1)&&b.gs.all λp=>gcB K p.1 p.2))))
structure Tx(b:Tb)(K:Frag)(mg:Ra):Prop where
 n:∀{n:String},(bFn++(bTy++bIt)).contains n=true->mg (Str.ofString n)=none
 m:∀{x:Str},b.us.contains x=true->mg x=some (.ref (adr K x))
 x:∀{x:Str},b.rs.contains x=true->excIn K (adr K x) nz "ValueError.__new__"=true
 h:∀{x:Str}{l:List Str},(x,l)∈b.hs->XHand K (adr K x)/\∀c∈l,∀Ce,mg c=some (.ref Ce)->mroIn K Ce (.ref (adr K x))=some true
 k:KitsOk K mg b.kt
 g:∀{x:Str}{d:D},b.gs.lookup x=some d->GC K mg x d
section
variable{K:Frag}{h:Heap}{mg:Ra}{x:Str}(X:K.In h)(G:h.Ns mainGlobals mg)
include X G
def sP(e:mr K x=true):mg x=some (.ref (adr K x)):=by
 unfold mr at e;split at e
 .rename_i a q;unfold adr;rw[q];exact mg_of X G q
 .cases e
def Ea(e:xP K x=true):mg x=none:=by
 unfold xP at e;split at e
 .rename_i q;exact mg_none_of X G q
 .cases e
omit X G in
def Mi{C:Addr}(e:xcB K C=true):XCls K C:=by simp only[xcB,D_,OX] at e;obtain⟨e1,e2,e3,e4,e5,e6,e7,e8⟩:=e;exact⟨e1,e2,e3,e4,e5,e6,e7,e8⟩
def DB{c:Cl}{v:Value}(e:By K c=true)(q:ClV mg c v):v=clA K c:=by
 cases c with
 |b n=>exact q
 |o y=>obtain⟨a,rfl,m⟩:=q;rw[sP X G (show mr K y=true from e)] at m;cases m;rfl
omit X G in
def zU{d:D}{v:Value}(e:yn d v=true):RelV (dV d) v/\∀ρ H,RelD K mg ρ H d (dV d):=by
 unfold yn at e;split at e
 .cases OX.mp e;exact⟨⟨_,rfl⟩,λ_ _=>.int _⟩
 .cases OX.mp e;exact⟨⟨_,rfl⟩,λ_ _=>.str _⟩
 .exact⟨rfl,λ_ _=>.non⟩
 .cases OX.mp e;exact⟨rfl,λ_ _=>.bl _⟩
 .cases e
omit X G in
theorem xh:∀{ds:List D}{vs:List Value},sN ds vs=true->Vals (ds.map dV) vs/\∀ρ H,RelDs K mg ρ H ds (ds.map dV)
 | [],[],_=>⟨.nil,λ_ _=>.nil⟩
 |
  d::ds,v::vs,e=>by
  rw[sN,D_] at e;obtain⟨a1,a2⟩:=zU (K:=K) (mg:=mg) e.1;obtain⟨b1,b2⟩:=xh e.2;exact⟨.cons a1 b1,λρ H=>.cons (a2 ρ H) (b2 ρ H)⟩
 | [],_::_,e=>nomatch e
 |_::_,[],e=>nomatch e
def NF{d:D}(e:gcB K x d=true):GC K mg x d:=by
 unfold gcB at e;split at e
 .rename_i ds;split at e
  .rename_i a q;split at e
   .rename_i dd its n sl l;rw[D_] at e;obtain⟨v1,v2⟩:=xh (K:=K) (mg:=mg) e.2;exact Lm X G q l (I_ (of_decide_eq_true e.1) (by decide)) v1 v2
   .cases e
  .cases e
 .split at e
  .rename_i v q;obtain⟨v1,v2⟩:=zU (K:=K) (mg:=mg) e;exact⟨_,_,mg_of X G q,v1,v2⟩
  .cases e
omit X G in
theorem ze{d:D}:∀{l:List (Str×D)},l.lookup x=some d->(x,d)∈l
 | [],h=>nomatch h
 |
  (y,e)::l,h=>by
  rw[Pq] at h;split at h
  .rename_i q;cases h;rw[OX.mp q];exact C_
  .exact y_ _ (ze h)
def Ou{b:Tb}(e:b.ok K=true):Tx b K mg:=by
 unfold Tb.ok at e;simp only[D_] at e;obtain⟨e1,e2,e3,e4,e5,e6⟩:=e;simp only[OA,D_] at e1 e2 e3 e4 e5 e6;refine⟨λh=>Ea X G (e1 _ (O2.mp h)),λh=>sP X G (e2 _ (O2.mp h)),λh=>(e3 _ (O2.mp h)).1,λh=>?_,⟨λp hp t v h1 h2=>?_,λp hp x C e' m=>?_⟩,λh=>NF X G (e6 _ (ze h))⟩
 .obtain⟨a1,a2⟩:=e4 _ h;refine⟨?_,λc hc Ce m=>?_⟩
  .simp only[hdB,D_,OX] at a1;exact⟨a1.1,a1.2.1,a1.2.2⟩
  .obtain⟨b1,b2⟩:=a2 c hc;rw[sP X G b2] at m;cases m;exact OX.mp b1
 .obtain⟨a1,_⟩:=e5 p hp;simp only[BU,D_,OX] at a1;rw[DB X G a1.2.1 h1,DB X G a1.2.2 h2];exact a1.1
 .obtain⟨a1,a2⟩:=e5 p hp;simp only[BU,D_,OX] at a1;have a3:=a1.2.1;rw[e'] at a2 a3;rw[sP X G (show mr K x=true from a3)] at m;cases m;exact Mi a2
end
def dNm(s:Stmt):Str:=match s with
 |.FunctionDef n ..=>n
 |_=>""
def AllD(K:Frag)(mg:Ra)(top:Nat->Stmt):List Nat->Prop
 | []=>True
 |i::l=>Def K mg (dNm (top i)) (top i)/\AllD K mg top l
theorem AllD.get{K:Frag}{mg:Ra}{top:Nat->Stmt}:∀{l:List Nat},AllD K mg top l->∀i,l.contains i=true->Def K mg (dNm (top i)) (top i)
 | [],_,i,h=>nomatch h
 |
  j::l,⟨a,b⟩,i,h=>by
  rcases N_.mp (O2.mp h) with rfl |h
  .exact a
  .exact b.get i (O2.mpr h)
structure Ty(b:Tb)(top:Nat->Stmt)(ds:List Nat)(K:Frag)(mg:Ra):Prop extends Tx b K mg where
 d:AllD K mg top ds
noncomputable def scB(N P:List Str)(sc:Scope):Bool:=decide (sc.kind=.function)&&(!sc.isCoroutine&&(!sc.isGenerator&&(decide N.Nodup&&(decide (N.take P.length=P)&&(P.all (λx=>decide (sc.names.lookup x=some .local\/sc.names.lookup x=some .cell))&&sc.names.all λy=>decide (y.2 ≠ .free))))))
def bJ{N P:List Str}{sc:Scope}(e:scB N P sc=true):FnScope N P sc:=by simp only[scB,D_,P1,OA,Bool.not_eq_true'] at e;obtain⟨e1,e2,e3,e4,e5,e6,e7⟩:=e;exact⟨e1,e2,e3,e4,e5,e6,e7⟩
section
variable{K:W.Frag}{mg:Ra}{X:Cx}{ES:L2.St->XK}{c tg a_ g_:Expr}{p:PEx}{t:PTs}{x:PSt}{g:PGt}{I:PIt}{pos:Pos}
def gJ{scope:Scope}(M:List Str)(kn:List (Str×NameKind))(N:List Str)(sub:Rg){hsb:(sub.filterMap id).Nodup}(hi:DI K mg X ES tg a_ I.F)(hg:N.Nodup->∀cl C s₂ H fp,DG K mg (bL X N scope cl C s₂ H fp) (λ_=>E0) tg g.F)(he:N.Nodup->∀cl C s₂ H fp,DE K mg (bL X N scope cl C s₂ H fp) (λ_=>E0) g_ p.F)(hnd:N.Nodup:=by decide)(hc:X.calm=true:=by rfl)(hM:X.N=M:=by rfl)(hkn:X.env.scope.names=kn:=by rfl)(f_:eI M scope.names sub N=true:=by decide)(hk:scope.kind=.function:=by rfl)(o_:∀x∈scope.names,x.2 ≠ .cell:=by decide)(b_:∀x∈scope.names,x.2=.local->scope.names.lookup x.1=some .local:=by decide)(l_:fP kn scope.names=true:=by decide)(p_:sub.length=N.length:=by rfl)(hs:∀x,foldedSetIterable a_ X.env x=pure x:=by intro _;rfl):DE K mg X ES (.ListComp g_ [⟨tg,a_,[],0⟩] scope pos) (pLC I sub hsb g qY p).F:=NY M kn N sub hc hi (hg hnd) (he hnd) hM hkn f_ hk o_ b_ l_ p_ hs
def Kj{scope:Scope}(M:List Str)(kn:List (Str×NameKind))(N:List Str)(sub:Rg){hsb:(sub.filterMap id).Nodup}(hi:DI K mg X ES tg a_ I.F)(hg:N.Nodup->∀cl C s₂ H fp,DG K mg (bL X N scope cl C s₂ H fp) (λ_=>E0) tg g.F)(ht:N.Nodup->∀cl C s₂ H fp,DT K mg (bL X N scope cl C s₂ H fp) (λ_=>E0) c t.F)(he:N.Nodup->∀cl C s₂ H fp,DE K mg (bL X N scope cl C s₂ H fp) (λ_=>E0) g_ p.F)(hnd:N.Nodup:=by decide)(hc:X.calm=true:=by rfl)(hM:X.N=M:=by rfl)(hkn:X.env.scope.names=kn:=by rfl)(f_:eI M scope.names sub N=true:=by decide)(hk:scope.kind=.function:=by rfl)(o_:∀x∈scope.names,x.2 ≠ .cell:=by decide)(b_:∀x∈scope.names,x.2=.local->scope.names.lookup x.1=some .local:=by decide)(l_:fP kn scope.names=true:=by decide)(p_:sub.length=N.length:=by rfl)(hs:∀x,foldedSetIterable a_ X.env x=pure x:=by intro _;rfl):DE K mg X ES (.ListComp g_ [⟨tg,a_,[c],0⟩] scope pos) (pLC I sub hsb g t p).F:=F4 M kn N sub hc hi (hg hnd) (ht hnd) (he hnd) hM hkn f_ hk o_ b_ l_ p_ hs
def zSlc{ow:Bool}{px spos:Pos}{iT:Nat}{xT:Str}{scope:Scope}(hN:X.N.Nodup)(M:List Str)(kn:List (Str×NameKind))(N:List Str)(sub:Rg){hsb:(sub.filterMap id).Nodup}(hi:DI K mg X ES tg a_ I.F)(hg:N.Nodup->∀cl C s₂ H fp,DG K mg (bL X N scope cl C s₂ H fp) (λ_=>E0) tg g.F)(he:N.Nodup->∀cl C s₂ H fp,DE K mg (bL X N scope cl C s₂ H fp) (λ_=>E0) g_ p.F)(hsw:swapsWith (.ListComp g_ [⟨tg,a_,[],0⟩] scope pos) (some (.Name xT px)) spos.line X.env=pure true:=by rfl)(hnd:N.Nodup:=by decide)(hc:X.calm=true:=by rfl)(hix:X.N[iT]?=some xT:=by rfl)(hxl:Loc X.env.scope xT:=by first |exact Or.inl rfl |exact Or.inr rfl)(hM:X.N=M:=by rfl)(hkn:X.env.scope.names=kn:=by rfl)(f_:eI M scope.names sub N=true:=by decide)(hk:scope.kind=.function:=by rfl)(o_:∀x∈scope.names,x.2 ≠ .cell:=by decide)(b_:∀x∈scope.names,x.2=.local->scope.names.lookup x.1=some .local:=by decide)(l_:fP kn scope.names=true:=by decide)(p_:sub.length=N.length:=by rfl)(hs:∀x,foldedSetIterable a_ X.env x=pure x:=by intro _;rfl)(hf:X.fn xT=true\/X.env.scope.names.lookup xT=some .local:=by first |exact .inl rfl |exact .inr rfl |assumption):DS K mg X ES (.Assign [.Name xT px] (.ListComp g_ [⟨tg,a_,[],0⟩] scope pos) spos) (bO ow iT (pLC I sub hsb g qY p)).F:=NA M kn N sub hc hN hix hxl hi (hg hnd) (he hnd) hsw hM hkn f_ hk o_ b_ l_ p_ hs hf
def Kc{ow:Bool}{px spos:Pos}{iT:Nat}{xT:Str}{scope:Scope}(hN:X.N.Nodup)(M:List Str)(kn:List (Str×NameKind))(N:List Str)(sub:Rg){hsb:(sub.filterMap id).Nodup}(hi:DI K mg X ES tg a_ I.F)(hg:N.Nodup->∀cl C s₂ H fp,DG K mg (bL X N scope cl C s₂ H fp) (λ_=>E0) tg g.F)(ht:N.Nodup->∀cl C s₂ H fp,DT K mg (bL X N scope cl C s₂ H fp) (λ_=>E0) c t.F)(he:N.Nodup->∀cl C s₂ H fp,DE K mg (bL X N scope cl C s₂ H fp) (λ_=>E0) g_ p.F)(hsw:swapsWith (.ListComp g_ [⟨tg,a_,[c],0⟩] scope pos) (some (.Name xT px)) spos.line X.env=pure true:=by rfl)(hnd:N.Nodup:=by decide)(hc:X.calm=true:=by rfl)(hix:X.N[iT]?=some xT:=by rfl)(hxl:Loc X.env.scope xT:=by first |exact Or.inl rfl |exact Or.inr rfl)(hM:X.N=M:=by rfl)(hkn:X.env.scope.names=kn:=by rfl)(f_:eI M scope.names sub N=true:=by decide)(hk:scope.kind=.function:=by rfl)(o_:∀x∈scope.names,x.2 ≠ .cell:=by decide)(b_:∀x∈scope.names,x.2=.local->scope.names.lookup x.1=some .local:=by decide)(l_:fP kn scope.names=true:=by decide)(p_:sub.length=N.length:=by rfl)(hs:∀x,foldedSetIterable a_ X.env x=pure x:=by intro _;rfl)(hf:X.fn xT=true\/X.env.scope.names.lookup xT=some .local:=by first |exact .inl rfl |exact .inr rfl |assumption):DS K mg X ES (.Assign [.Name xT px] (.ListComp g_ [⟨tg,a_,[c],0⟩] scope pos) spos) (bO ow iT (pLC I sub hsb g t p)).F:=GN M kn N sub hc hN hix hxl hi (hg hnd) (ht hnd) (he hnd) hsw hM hkn f_ hk o_ b_ l_ p_ hs hf
end
section
variable{K:W.Frag}{mg:Ra}{P:Program}{w:World}{base:Heap}{fx:Str}{fst:Stmt}{k n m:Nat}{ps N:List Str}{ms:List Bool}{x:PSt}
def bU(D:Def K mg fx fst)(S:FnScope N ps (bF fst))
 (hb:∀(kV doc pm:Value) (an:Option Addr) (cdv ct:Value) (us:List Value),us.length=ps.length->bindArgs (W.fnOf fx fx (ee fst) (cC fst) (bF fst) .none kV doc pm an cdv ct) ⟨us,[]⟩=pure (ps.zip us))
 (j_:N.Nodup->∀(f:Addr) (cdv:Value) (A:Around) (outer:List Env) (s:Shared) (H:Hp) (E:XK),Room k (A.deeper (envOfC fx (bF fst) s.heap.objs.size f cdv))->
  DSs K mg (fJ (CX1 P w) P w K mg base N fx (bF fst) f cdv A outer s H E) (λ_=>E) (cC fst) x.F) (hn:ps.length=n:=by rfl) (hm:N.length=m:=by rfl):Callee P w K mg base fx (k+1) ps (spD K mg n (fnP ms m x).F):=okP D S hb (j_ S.nd) hn hm
def qF(D:Def K mg fx fst)(S:FnScope N ps (bF fst))
 (hb:∀(kV doc pm:Value) (an:Option Addr) (cdv ct:Value) (us:List Value),us.length=ps.length->bindArgs (W.fnOf fx fx (ee fst) (cC fst) (bF fst) .none kV doc pm an cdv ct) ⟨us,[]⟩=pure (ps.zip us))
 (j_:N.Nodup->∀(f:Addr) (cdv:Value) (A:Around) (outer:List Env) (s:Shared) (H:Hp) (E:XK),Room k (A.deeper (envOfC fx (bF fst) s.heap.objs.size f cdv))->
  DSs K mg (fJ (CX1 P w) P w K mg base N fx (bF fst) f cdv A outer s H E) (λ_=>E) (cC fst) x.F) (hn:ps.length=n:=by rfl) (hm:N.length=m:=by rfl):Callee P w K mg base fx (k+1) ps (spD K mg n (PFx.of ms m x).F):=okX D S hb (j_ S.nd) hn hm
end
section
variable{K:Frag}{h:Heap}{mg:Ra}(X:K.In h)(G:h.Ns mainGlobals mg)
include X G
def KI(e:Dt.all (xP K)=true)(P:Addr)(q:Str):¬ C4 K mg P q:=λ⟨x,f,oc,od,fd,sl,c,a1,a2,a3,_⟩=>by
 have:=Ea X G (OA.mp e x a1)
 rw[a3] at this;cases this
end
def AS{K:W.Frag}{mg:Ra}:yP K mg yp seD.F:=F5
section
variable{X:Nat->Prop}{h0:Nat}{ns:Ns}{e:E3}{ae:AE}{h:AH}
def BF{i:Nat}{v:Val}(S1:Sat X h0 ns e ae h)(q:e[i]?=some (.ow v)):∃n o,ae[i]?=some (some (.ref n))/\h0<=n/\¬ X n/\h[n]?=some o/\dh o/\Sat (Xn X n) h0 (ns.set i none) (e.set i .no) ae h/\Rc (Oc (Xn X n) (ns.set i none)) h o v/\Mov (Oc X ns) (Oc (Xn X n) (ns.set i none)) h h:=by
 obtain⟨n,o,q1,q2,q3,q4,q5,q6⟩:=S1.sl i _ q;have hi:=(x_.mp q).1;have hn:i<ns.length:=by rw[S1.l2];exact hi
 have mv:Mov (Oc X ns) (Oc (Xn X n) (ns.set i none)) h h:=λm o' p q'=>⟨⟨λz=>by
  rcases z with z |rfl
  .exact p.1 z
  .exact p.2 (cp.mpr ⟨i,q1⟩),(fG p).2⟩,q'⟩
 have S2:=S1.putN' hi (s:=.no) rfl;refine⟨n,o,q2,q3,S1.nx i n q1,q4,q5,⟨S2.l1,S2.l2,S2.lh,λm z=>?_,S2.inj,λj m qj z=>?_,λj s qj=>?_⟩,q6.mono mv,mv⟩
 .rcases z with z |rfl
  .exact S2.xl m z
  .exact dU q4
 .rcases z with z |rfl
  .exact S2.nx j m qj z
  .rcases cM hn qj with ⟨_,y⟩ |⟨y,z⟩
   .cases y
   .exact y (S1.inj j i _ z q1)
 .rcases cM hi qj with ⟨rfl,rfl⟩ |⟨z,qj'⟩
  .rw[de hn];rfl
  .rw[cR z];exact (S1.sl j s qj').mono mv λ_ _ _ q=>q
end
def DR(F:ME3)(i:Nat):MS3:=λe=>(F e).toS λt e1=>match dk e1 t with
 |some (e2,v)=>match e2[i]? with
  |some (.ow u)=>.rt (.pr v u) (e2.set i .no)
  |_=>.stuck
 |none=>.stuck
def Fp{F:ME}{F3:ME3}(i:Nat)(hF:RE F F3):RS (xI (eFn jJ (mR F (mR (dN i) kX)))) (DR F3 i):=λX h0 ns e ae h S=>by
 have p:=hF X h0 h0 ns e ae h S S.lh;show PoS X h0 ns e h ((((F ae h).bind λx h1=>((dN i ae h1).bind λy h2=>(kX ae h2).bind λys h3=>R.ok (y::ys) h3).bind λxs h2=>R.ok (x::xs) h2).bind jJ).toS ae λd h1=>.rt d h1) ((F3 e).toS _);generalize F3 e=r at *;cases r with
 |stuck=>trivial
 |exc c e'=>obtain⟨h',ns',q,q1,q2⟩:=p;rw[q];exact⟨ae,h',ns',rfl,q1,q2⟩
 |
  ok t e1=>
  obtain⟨d,h1,ns1,q,a1,S1,r1⟩:=p;show PoS X h0 ns e h _ (match dk e1 t with
   |some (e2,v)=>match e2[i]? with
    |some (.ow u)=>.rt (.pr v u) (e2.set i .no)
    |_=>.stuck
   |none=>.stuck)
  cases q2:dk e1 t with
  |none=>trivial
  |
   some ev=>
   obtain⟨e2,v⟩:=ev;obtain⟨ns2,S2,a2,r2⟩:=gz S1 r1 q2;dsimp only;split
   .rename_i u qi;obtain⟨n,o,g1,g2,g3,g4,g5,g6,g7,g8⟩:=BF S2 qi;have hi:=(x_.mp qi).1;have ev:dN i ae h1=.ok (.ref n) h1:=by unfold dN;rw[g1]
    rw[q];show PoS X h0 ns e h ((((dN i ae h1).bind λy h2=>(kX ae h2).bind λys h3=>R.ok (y::ys) h3).bind λxs h2=>R.ok (d::xs) h2).bind jJ |>.toS ae λd h1=>.rt d h1) _;rw[ev];exact⟨.tup [d,.ref n],ae,h1,ns2.set i none,rfl,(a1.trans S a2).put (x:=none) hi (λ_ z=>by cases z) qi rfl rfl S2.l2,d,n,o,rfl,g2,g3,g4,g5,g6,r2.mono g8,g7⟩
   .trivial
def xZ(p:PEx)(i:Nat):PSt:=⟨(bH (cx (ai p (ai (ax i) bx)))).F,DR p.G i,Fp i p.ok⟩
@[simp] theorem bz(p:PEx)(i:Nat)(e:E3):(xZ p i).G e=(p.G e).toS λt e1=>match dk e1 t with
 |some (e2,v)=>match e2[i]? with
  |some (.ow u)=>.rt (.pr v u) (e2.set i .no)
  |_=>.stuck
 |none=>.stuck:=rfl
def wUn2(a b:Nat)(ms:List Bool)(G:Fn3)(A:MA3):MS3:=λe=>(A e).toS λts e1=>match rss e1 ts with
 |none=>.stuck
 |some vs=>if okA e1 ms ts=true then (match G vs with
  |.ok (.pr v u) mv=>if ((bX e1 ms ts).isEmpty || (gX (.pr v u)&&mv.all flatC))=true then (match (bW (b8 ms ts) (bQ ms mv) e1)[a]?,(bW (b8 ms ts) (bQ ms mv) e1)[b]? with
   |some sa,some sb=>if sa.pl=true/\sb.pl=true then .nx (((bW (b8 ms ts) (bQ ms mv) e1).set a (.sh v)).set b (.ow u)) else .stuck
   |_,_=>.stuck) else .stuck
  |_=>.stuck) else .stuck
def HU{a b n:Nat}{ms:List Bool}{S2:Fn}{G3:Fn3}{A:MA}{A3:MA3}(hab:a≠b)(hn:n=ms.length)(hG:RF ms S2 G3)(hA:RA A A3):RS (i0 (sT n S2 A) (gtX (gtT 2 (bM (gtN a) (bM (gtN b) cU)))).F) (wUn2 a b ms G3 A3):=λX h0 ns e ae h S=>by
 have p:=hA X h0 ns e ae h S;show PoS X h0 ns e h ((((A ae h).bind λds h1=>if ds.length=n then S2 ds h1 else .stuck)).toS ae λd h1=>((gtX (gtT 2 (bM (gtN a) (bM (gtN b) cU)))).F d ae h1).toS ae λd_ h2=>.nx d_ h2) ((A3 e).toS _);generalize A3 e=r at *;cases r with
 |stuck=>trivial
 |exc c e'=>obtain⟨h',ns',q,q1,q2⟩:=p;rw[q];exact⟨ae,h',ns',rfl,q1,q2⟩
 |
  ok ts e1=>
  obtain⟨ds,h1,ns1,q,a1,S1,r1⟩:=p;show PoS X h0 ns e h _ (match rss e1 ts with
   |none=>.stuck
   |some vs=>if okA e1 ms ts=true then (match G3 vs with
    |.ok (.pr v u) mv=>if ((bX e1 ms ts).isEmpty || (gX (.pr v u)&&mv.all flatC))=true then (match (bW (b8 ms ts) (bQ ms mv) e1)[a]?,(bW (b8 ms ts) (bQ ms mv) e1)[b]? with
     |some sa,some sb=>if sa.pl=true/\sb.pl=true then .nx (((bW (b8 ms ts) (bQ ms mv) e1).set a (.sh v)).set b (.ow u)) else .stuck
     |_,_=>.stuck) else .stuck
    |_=>.stuck) else .stuck)
  cases qv:rss e1 ts with
  |none=>trivial
  |
   some vs=>
   dsimp only;by_cases ok:okA e1 ms ts=true
   .rw[if_pos ok];split
    .rename_i v u mv qG;split
     .rename_i hf0;split
      .rename_i sa sb qa qb;split
       .rename_i hp;have hf:bX e1 ms ts=[]\/(gX (.pr v u)=true/\mv.all flatC=true):=by
         rw[Bool.or_eq_true,D_] at hf0;rcases hf0 with z |z
         .exact .inl (List.isEmpty_iff.mp z)
         .exact .inr z
        have pp:=hG _ _ ds vs h1 (by rw[jW qv,iu ok]) (nX S1 r1 qv ok);rw[qG] at pp;obtain⟨d,h',p1,st,d1,m,o,rfl,z2,z3,z4,z5,S3,z6,z7⟩:=pp;obtain⟨S4,a4,r4⟩:=n8 S1 ok st hf z2 z4 S3;have c_:ds.length=n:=by rw[hn,iu ok];exact TsR.len r1
        have z6':Rd (Oc (Xn X m) ns1) h' d1 v:=by
         rcases hf with hf |hf
         .exact z6.mono λm o' z y=>⟨r4 hf m z,y⟩
         .exact z6.flat (D_ _ _ ▸ hf.1).1
        have z7':Rc (Oc (Xn X m) ns1) h' o u:=by
         rcases hf with hf |hf
         .exact z7.mono λm o' z y=>⟨r4 hf m z,y⟩
         .exact z7.flat (D_ _ _ ▸ hf.1).2
        have hnx:¬ X m:=λy=>by have:=S1.xl m y;omega
        generalize bW (b8 ms ts) (bQ ms mv) e1=e2 at *;have ha:=(x_.mp qa).1;have hb:=(x_.mp qb).1;have S5:=S4.putN ha (s:=.sh v) (d:=some d1) ⟨rfl,d1,rfl,z6'.mono λm o p q=>⟨fG p,q⟩⟩;have hb':b<(e2.set a (.sh v)).length:=by rw[OB];exact hb
        have S6:=Sat.putO S5 hnx hb' (I_ S1.lh z2) z4 z5 (z7'.mono λm o p q=>⟨fG p,q⟩);have st1:=(a1.trans S a4).put (x:=none) (s:=.sh v) ha (λ_ z=>by cases z) qa hp.1 rfl S4.l2;have st2:=st1.put (x:=some m) (s:=.ow u) (s0:=sb) hb' (λk z=>by cases z;exact I_ a1.len z2) (by rw[P6 hab];exact qb) hp.2 rfl S5.l2;rw[q];show PoS X h0 ns e h ((if ds.length=n then S2 ds h1 else .stuck).toS ae _) _;rw[if_pos c_,p1];exact⟨_,_,_,rfl,st2,S6⟩
       .trivial
      .trivial
     .trivial
    .trivial
   .rw[if_neg ok];trivial
def CS(a b:Nat)(hab:a≠b)(f:PFn)(A:PAs):PSt:=⟨(fS (bD f A) (gtX (gtT 2 (bM (gtN a) (bM (gtN b) cU))))).F,wUn2 a b f.ms f.G A.G,HU hab rfl f.ok A.ok⟩
@[simp] theorem bB(a b:Nat)(hab:a≠b)(f:PFn)(A:PAs)(e:E3):(CS a b hab f A).G e=(A.G e).toS λts e1=>match rss e1 ts with
 |none=>.stuck
 |some vs=>if okA e1 f.ms ts=true then (match f.G vs with
  |.ok (.pr v u) mv=>if ((bX e1 f.ms ts).isEmpty || (gX (.pr v u)&&mv.all flatC))=true then (match (bW (b8 f.ms ts) (bQ f.ms mv) e1)[a]?,(bW (b8 f.ms ts) (bQ f.ms mv) e1)[b]? with
   |some sa,some sb=>if sa.pl=true/\sb.pl=true then .nx (((bW (b8 f.ms ts) (bQ f.ms mv) e1).set a (.sh v)).set b (.ow u)) else .stuck
   |_,_=>.stuck) else .stuck
  |_=>.stuck) else .stuck:=rfl
section
variable{K:W.Frag}{mg:Ra}{X:Cx}{ES:L2.St->XK}{e t:Expr}{p:PEx}{f:PFn}{A:PAs}{i j:Nat}{pos:Pos}
def FK(he:DE K mg X ES e (cx (ai p (ai (ax i) bx))).F):DS K mg X ES (.Return (some e) pos) (xZ p i).F:=iO he
def GX{hij:i≠j}(he:DE K mg X ES e (bD f A).F)(hg:DG K mg X ES t (gtX (gtT 2 (bM (gtN i) (bM (gtN j) cU)))).F)(hs:swapsWithSole [t] e pos.line X.env=pure false:=by rfl)(hw:swappedStores [t] e X.env=pure none:=by rfl)(h1:(assignEach [t] X.env).map (·.2)=[assign t X.env]:=by rfl):DS K mg X ES (.Assign [t] e pos) (CS i j hij f A).F:=qW he hg hs hw h1
end
structure TyD(dn:Str)(kvs:List (Str×Int))(w:World)(b:Tb)(top:Nat->Stmt)(ds:List Nat)(K:W.Frag)(mg:Ra):Prop extends Ty b top ds K mg where
 kd:KDict w K mg dn kvs
end L3
namespace Wb
open L2
noncomputable def lc(qs:List Rat)(c:Nat):Nat:=qs.foldl (λc q=>Nat.lcm c q.den) c
noncomputable def gc(ws:List Int)(g:Nat):Nat:=ws.foldl (λg w=>Int.gcd (g:Int) w) g
noncomputable def wh(L:Nat)(qs:List Rat):List Int:=qs.map λq=>q.num*((L/q.den:Nat):Int)
noncomputable def ws(qs:List Rat):List Int:=wh (lc qs 1) qs
def dv(qs:List Rat):Nat:=gc (ws qs) 0
end Wb
namespace L3
open PySem L2
def df(b:Bx):Rat:=if b.w<b.h then b.h/b.w else b.w/b.h
noncomputable def shL(s l:Rat)(W:Int):Int->List Int->List (Rat×Rat)
 |_,[]=>[]
 |a,w::ws=>(s+l*((a:Rat)/(W:Rat)),l*((w:Rat)/(W:Rat)))::shL s l W (a+w) ws
theorem qM(s l:Rat)(W:Int):∀(ws:List Int) (a:Int),(shL s l W a ws).length=ws.length
 | [],_=>rfl
 |w::ws,a=>by unfold shL;rw[L_,L_,qM s l W ws (a+w)]
noncomputable def eA(b:Bx)(way:Str)(ws:List Int):List Bx:=if way="across" then (shL b.l b.w ws.sum 0 ws).map λp=>⟨p.1,b.t,p.2,b.h⟩ else (shL b.t b.h ws.sum 0 ws).map λp=>⟨b.l,p.1,b.w,p.2⟩
theorem iL:∀{l:List Int},(∀w∈l,1<=w)->(l.length:Int)<=l.sum
 | [],_=>by simp
 |
  x::l,h=>by
  rw[OJ,L_]
  have:=h x (C_ ..)
  have:=iL (l:=l) λw hw=>h w (y_ _ hw)
  omega
theorem pY:∀(ws:List Int) (a:Int),0<=a->(∀w∈ws,1<=w)->a+ws.sum<=W->p∈shL s l W a ws->∃a' w:Int,0<=a'/\a'<=W/\1<=w/\w<=W/\p=(s+l*((a':Rat)/(W:Rat)),l*((w:Rat)/(W:Rat)))
 | [],_,_,_,_,h=>nomatch h
 |
  w::ws,a,ha,hw,hs,h=>by
  have h1:=hw w (C_ ..);have h2:=iL (l:=ws) λx hx=>hw x (y_ _ hx);rw[OJ] at hs;unfold shL at h;rcases N_.mp h with rfl |h
  .exact⟨a,w,ha,by omega,h1,by omega,rfl⟩
  .exact pY ws (a+w) (by omega) (λx hx=>hw x (y_ _ hx)) (by omega) h
def uT(hb:b.Ok)(hs:b.Sz n)(hw:∀w∈ws,1<=w)(mW:Sm m ws.sum)(h:b'∈eA b way ws):b'.Ok/\b'.Sz (n+(n+m)+1):=by
 have key:∀(s l:Rat),Sz n s->Sz n l->0<l->∀p∈shL s l ws.sum 0 ws,Sz (n+(n+m)+1) p.1/\Sz (n+(n+m)+1) p.2/\0<p.2:=by intro s l hs hl l0 p hp;obtain⟨a',w,h1,h2,h3,h4,rfl⟩:=pY ws 0 (by omega) hw (by omega) hp;have z1:Sz m ((a':Rat)/(ws.sum:Rat)):=Sz.div (by omega) (mW.of_le (by omega)) mW m (z_ _) (z_ _);have z2:Sz m ((w:Rat)/(ws.sum:Rat)):=Sz.div (by omega) (mW.of_le (by omega)) mW m (z_ _) (z_ _);exact⟨hs.add (hl.mul z1),(hl.mul z2).mono (by omega),Qn l0 (iq (by omega) (by omega))⟩
 unfold eA at h;split at h
 .obtain⟨p,hp,rfl⟩:=OQ.mp h;obtain⟨k1,k2,k3⟩:=key _ _ hs.l hs.w hb.1 p hp;exact⟨⟨k3,hb.2⟩,⟨k1,hs.t.mono (by omega),k2,hs.h.mono (by omega)⟩⟩
 .obtain⟨p,hp,rfl⟩:=OQ.mp h;obtain⟨k1,k2,k3⟩:=key _ _ hs.t hs.h hb.2 p hp;exact⟨⟨hb.1,k3⟩,⟨hs.l.mono (by omega),k1,hs.w.mono (by omega),k2⟩⟩
noncomputable def cF(b:Bx)(way:Str)(u v:Int):Bx:=(eA b way [u,v]).headD b
noncomputable def cI(b:Bx)(way:Str)(u v:Int):Bx:=((eA b way [u,v]).drop 1).headD b
def lX(b:Bx)(way:Str)(u v:Int):eA b way [u,v]=[cF b way u v,cI b way u v]:=by unfold cF cI eA;split <;> rfl
def FU(hb:b.Ok)(hs:b.Sz n)(hu:1<=u)(hv:1<=v)(mW:Sm m (u+v)):(cF b way u v).Ok/\(cF b way u v).Sz (n+(n+m)+1):=by refine uT (way:=way) (ws:=[u,v]) hb hs ?_ (by simpa using mW) (by rw[lX];exact C_ ..);intro w hw;simp at hw;omega
def Ga(hb:b.Ok)(hs:b.Sz n)(hu:1<=u)(hv:1<=v)(mW:Sm m (u+v)):(cI b way u v).Ok/\(cI b way u v).Sz (n+(n+m)+1):=by refine uT (way:=way) (ws:=[u,v]) hb hs ?_ (by simpa using mW) (by rw[lX];simp);intro w hw;simp at hw;omega
noncomputable def liV(l:List Int):Val:=.lst (l.map .int)
noncomputable def cL(ws:List Int)(i:Int):Int:=ws.getD i.toNat 0
def Inr(ws nums:List Int):Prop:=∀i∈nums,0<=i/\i<(ws.length:Nat)
def wt(ws l:List Int):Int:=(l.map (cL ws)).sum
def DQ{ws:List Int}{i:Int}(h0:0<=i)(h1:i<(ws.length:Nat)):atI (ws.map Val.int) i=some (.int (cL ws i)):=by
 have hi:i.toNat<ws.length:=by omega
 refine kS h0 ?_;rw[OI,OC hi];unfold cL;rw[O7,OC hi];rfl
def nN{ws:List Int}{i:Int}(h0:0<=i)(h1:i<(ws.length:Nat)):cL ws i∈ws:=by
 have hi:i.toNat<ws.length:=by omega
 unfold cL;rw[O7,OC hi];exact List.getElem_mem hi
def ox(hw:∀w∈ws,1<=w)(hr:Inr ws l):(l.length:Int)<=wt ws l:=by
 have:=iL (l:=l.map (cL ws)) λw h=>by obtain⟨i,hi,rfl⟩:=OQ.mp h;exact hw _ (nN (hr i hi).1 (hr i hi).2)
 rw[v_] at this;exact this
def A0(ws l r:List Int):wt ws (l++r)=wt ws l+wt ws r:=by unfold wt;rw[O0,List.sum_append]
def BH{l r:List Int}(h:l.Perm r):l.sum=r.sum:=by
 induction h with
 |nil=>rfl
 |cons x _ ih=>rw[OJ,OJ,ih]
 |swap x y l=>rw[OJ,OJ,OJ,OJ];omega
 |trans _ _ h1 h2=>rw[h1,h2]
def jg(h:l.Perm r):wt ws l=wt ws r:=BH (h.map _)
def rst(nums l:List Int):List Int:=nums.filter λx=>!l.contains x
structure Lot(nums l:List Int):Prop where
 sub:l.Sublist nums
 ne:l≠[]
 lt:l.length<nums.length
def Lot.mono(h:Lot p l)(s:p.Sublist q):Lot q l:=⟨h.sub.trans s,h.ne,K_ h.lt s.length_le⟩
def Lot.more(h:Lot p l)(x:Int):Lot (p++[x]) (l++[x]):=⟨h.sub.append (List.Sublist.refl _),by simp,by have:=h.lt;simp;omega⟩
def Lot.self(h:p≠[])(x:Int):Lot (p++[x]) p:=⟨List.sublist_append_left ..,h,by simp⟩
def kG(h:l.Sublist nums):nums.Nodup->(l++rst nums l).Perm nums:=by
 induction h with
 |slnil=>intro _;exact .nil
 |
  cons a s ih=>
  intro nd;rw[OR] at nd;rename_i l nums;have ha:¬ a∈l:=λz=>nd.1 (s.subset z);have e:rst (a::nums) l=a::rst nums l:=by unfold rst;rw[List.filter_cons_of_pos];simp [ha]
  rw[e];exact List.perm_middle.trans ((ih nd.2).cons a)
 |
  cons_cons a s ih=>
  intro nd;rw[OR] at nd;rename_i l nums;have e:rst (a::nums) (a::l)=rst nums l:=by unfold rst;rw[List.filter_cons_of_neg (by simp)];refine List.filter_congr λx hx=>?_;have:x≠a:=λz=>nd.1 (z ▸ hx);simp [this]
  rw[e];exact (ih nd.2).cons a
def mQ(h:Lot nums l)(nd:nums.Nodup):Lot nums (rst nums l):=by have p:=(kG h.sub nd).length_eq;rw[H_] at p;have h1:=h.lt;have h2:=Ox.mpr h.ne;refine⟨List.filter_sublist,λz=>?_,by omega⟩;rw[z,OM] at p;omega
def Cq(nd:nums.Nodup)(k:Nat):rst nums (nums.take k)=nums.drop k:=by
 have e:rst nums (nums.take k)=(nums.take k++nums.drop k).filter λx=>!(nums.take k).contains x:=by rw[Qt];rfl
 rw[e,List.filter_append];have nd':(nums.take k++nums.drop k).Nodup:=by rw[Qt];exact nd
 rw[P0] at nd';have h1:(nums.take k).filter (λx=>!(nums.take k).contains x)=[]:=by rw[List.filter_eq_nil_iff];intro x hx;simp [hx]
 have h2:(nums.drop k).filter (λx=>!(nums.take k).contains x)=nums.drop k:=by rw[List.filter_eq_self];intro x hx;have:¬ x∈nums.take k:=λz=>nd'.2.2 x z x hx rfl;simp [this]
 rw[h1,h2];rfl
def fT:List (List Int)->List Int->List (List Int)
 |L,[]=>L
 |L,x::rest=>fT (L++L.map λl=>l++[x]) rest
def cK(kind:Str)(nums:List Int):List (List Int):=if kind="order" then (List.range' 1 (nums.length-1)).map λi=>nums.take i else match nums with
 | []=>[]
 |x::rest=>(fT [[x]] rest).dropLast
theorem kY:∀(rest p:List Int) (M:List (List Int)),p≠[]->(∀l∈M,Lot p l)->∃M',fT (M++[p]) rest=M'++[p++rest]/\(∀l∈M',Lot (p++rest) l)/\(rest≠[]->M'≠[])/\(M≠[]->M'≠[])
 | [],p,M,hp,hM=>⟨M,by unfold fT;rw[O9],by simpa using hM,λz=>absurd rfl z,λz=>z⟩
 |
  x::rest,p,M,hp,hM=>by
  obtain⟨M',q1,q2,q3,q4⟩:=kY rest (p++[x]) (M++[p]++M.map λl=>l++[x]) (by simp) (λl hl=>by
   rcases O4.mp hl with hl |hl
   .rcases O4.mp hl with hl |hl
    .exact (hM l hl).mono (List.sublist_append_left ..)
    .rw[OG] at hl;subst hl;exact .self hp x
   .obtain⟨l',h',rfl⟩:=OQ.mp hl;exact (hM l' h').more x)
  refine⟨M',?_,by rw[O1] at q2;exact q2,λ_=>q4 (by simp),λ_=>q4 (by simp)⟩;unfold fT;rw[<- show (M++[p]++(M.map λl=>l++[x]))++[p++[x]]=M++[p]++(M++[p]).map (λl=>l++[x]) by simp,q1];simp
def uz(h:l∈cK kind nums):Lot nums l:=by
 unfold cK at h;split at h
 .obtain⟨i,hi,rfl⟩:=OQ.mp h;rw[List.mem_range'_1] at hi;refine⟨List.take_sublist ..,λz=>?_,by rw[Pp];omega⟩
  have:=OU List.length z
  rw[Pp,OM] at this;omega
 .split at h
  .exact nomatch h
  .rename_i x rest;obtain⟨M',q1,q2,_,_⟩:=kY rest [x] [] (by simp) (λ_ z=>nomatch z);rw[OL] at q1;rw[q1,List.dropLast_concat] at h;exact q2 l h
def FX(h:2<=nums.length):cK kind nums≠[]:=by
 unfold cK;split
 .intro z
  have:=OU List.length z
  rw[v_,List.length_range',OM] at this;omega
 .split
  .simp at h
  .rename_i x rest;obtain⟨M',q1,_,q3,_⟩:=kY rest [x] [] (by simp) (λ_ z=>nomatch z);rw[OL] at q1;rw[q1,List.dropLast_concat];exact q3 (by rintro rfl;simp at h)
theorem mj:∀(rest:List Int) (L:List (List Int)),(fT L rest).length=L.length*2^rest.length
 | [],L=>by simp [fT]
 |
  x::rest,L=>by
  unfold fT;rw[mj rest,H_,v_,L_,Nat.pow_succ,<- Nat.two_mul,Qz 2,Nat.mul_assoc,Qz 2]
def lE(h:nums.length<=10):(cK kind nums).length<=1000:=by
 unfold cK;split
 .rw[v_,List.length_range'];omega
 .split
  .simp
  .rename_i x rest;rw[L_] at h;rw[List.length_dropLast,mj];have:2^rest.length<=2^9:=OS (by decide) (by omega);simp;omega
def cuV(c:Str×List Int×List Int):Val:=.tup [.str c.1,liV c.2.1,liV c.2.2]
def eL(nums l:List Int):List (Str×List Int×List Int):=[("across",l,rst nums l),("down",l,rst nums l)]
def bI(kind:Str)(nums:List Int):List (Str×List Int×List Int):=(cK kind nums).flatMap (eL nums)
def mx(x y:Rat):Rat:=if x<y then y else x
def cX(f:Bx->List Int->Rat)(ws:List Int)(b:Bx)(c:Str×List Int×List Int):Rat:=mx (f (cF b c.1 (wt ws c.2.1) (wt ws c.2.2)) c.2.1) (f (cI b c.1 (wt ws c.2.1) (wt ws c.2.2)) c.2.2)
def cD(o:Option Rat)(q:Rat):Option Rat:=match o with
 |none=>some q
 |some p=>if q<p then some q else some p
def bst(kind:Str)(ws:List Int):Nat->Bx->List Int->Rat
 |0,b,_=>df b
 |k+1,b,nums=>if nums.length=1 then df b else ((bI kind nums).foldl (λo c=>cD o (cX (bst kind ws k) ws b c)) none).getD 0
def pH(o:Option Rat)(q:Rat):∃p,cD o q=some p:=by
 unfold cD;split
 .exact⟨_,rfl⟩
 .split <;> exact⟨_,rfl⟩
theorem rB(f:α->Rat):∀(l:List α) (p:Rat),∃q,l.foldl (λo c=>cD o (f c)) (some p)=some q
 | [],p=>⟨p,rfl⟩
 |
  c::l,p=>by
  obtain⟨q,e⟩:=pH (some p) (f c);rw[PX,e];exact rB f l q
def j9(f:α->Rat)(h:l≠[]):∃q,l.foldl (λo c=>cD o (f c)) none=some q:=by
 cases l with
 |nil=>exact absurd rfl h
 |cons c l=>rw[PX];exact rB f l _
structure CutOk(nums:List Int)(c:Str×List Int×List Int):Prop where
 way:c.1="across" \/ c.1="down"
 one:Lot nums c.2.1
 two:Lot nums c.2.2
 rest:c.2.2=rst nums c.2.1
def fh(nd:nums.Nodup)(h:c∈bI kind nums):CutOk nums c:=by
 obtain⟨l,hl,hc⟩:=List.mem_flatMap.mp h;have lo:=uz hl;unfold eL at hc;rcases N_.mp hc with rfl |hc
 .exact⟨.inl rfl,lo,mQ lo nd,rfl⟩
 .rw[OG] at hc;subst hc;exact⟨.inr rfl,lo,mQ lo nd,rfl⟩
def j5(h:2<=nums.length):bI kind nums≠[]:=by
 have:=FX (kind:=kind) h
 unfold bI;cases e:cK kind nums with
 |nil=>exact absurd e this
 |cons l ls=>rw[List.flatMap_cons];unfold eL;simp
inductive Tr(ws:List Int):Bx->List Int->Val->Rat->Prop
 |leaf (b:Bx) (i:Int):Tr ws b [i] (.int i) (df b)
 |node {b:Bx}{way:Str}{l r:List Int}{t1 t2:Val}{q1 q2:Rat} (hw:way="across" \/ way="down") (h1:Tr ws (cF b way (wt ws l) (wt ws r)) l t1 q1) (h2:Tr ws (cI b way (wt ws l) (wt ws r)) r t2 q2):Tr ws b (l++r) (.tup [.str way,.tup [t1,t2]]) (mx q1 q2)
def Tr.flat(h:Tr ws b l t q):flatV t=true:=by
 induction h with
 |leaf=>exact iQ _
 |node _ _ _ ih1 ih2=>simp [fq,cN,dE,iN,ih1,ih2]
open PySem PySem.Spec PyProof.Rows L2
section
variable{kind:Str}{ws nums:List Int}{bd:Rat}{b:Bx}{k:Nat}
def thn(ws:List Int)(b:Bx)(i:Int)(nums:List Int):Rat:=df b*((cL ws i:Rat)/(wt ws nums:Rat))
def brw(f:Bx->List Int->Option Val)(ws:List Int)(b:Bx)(c:Str×List Int×List Int):Option (Bool×Val):=match f (cF b c.1 (wt ws c.2.1) (wt ws c.2.2)) c.2.1 with
 |some p=>some (false,p)
 |none=>match f (cI b c.1 (wt ws c.2.1) (wt ws c.2.2)) c.2.2 with
  |some p=>some (true,p)
  |none=>none
def rwV(r:Bool×Val):Val:=.tup [.int (if r.1 then 1 else 0),r.2]
def brg(kind:Str)(ws:List Int)(bd:Rat):Nat->Bx->List Int->Option Val
 |0,_,_=>none
 |
  k+1,b,nums=>if nums.length=1 then (if df b<bd then none else some (.tup [.str "shape"])) else
  match nums.find? λi=>!decide (thn ws b i nums<bd) with
  |some i=>some (.tup [.str "thin",.int i])
  |none=>if ((bI kind nums).all λc=>(brw (brg kind ws bd k) ws b c).isSome)=true then some (.tup [.str "cases",.tup ((bI kind nums).map λc=>rwV ((brw (brg kind ws bd k) ws b c).getD (false,.non)))]) else none
def dP(c:Str×List Int×List Int)(r:Bool):List Int:=if r then c.2.2 else c.2.1
def fA(ws:List Int)(b:Bx)(c:Str×List Int×List Int)(r:Bool):Bx:=if r then cI b c.1 (wt ws c.2.1) (wt ws c.2.2) else cF b c.1 (wt ws c.2.1) (wt ws c.2.2)
def Pap(kind:Str):Nat->List Int->Val->Prop
 |0,_,_=>False
 |k+1,nums,v=>(nums.length=1/\v=.tup [.str "shape"])\/(∃i∈nums,v=.tup [.str "thin",.int i])\/(nums.length≠1/\∃g:Str×List Int×List Int->Bool×Val,v=.tup [.str "cases",.tup ((bI kind nums).map λc=>rwV (g c))]/\∀c∈bI kind nums,Pap kind k (dP c (g c).1) (g c).2)
inductive Brs(kind:Str)(ws:List Int)(bd:Rat):Nat->Bx->List Int->Val->Bool->Prop
 |sh {k:Nat}{b:Bx}{nums:List Int}:nums.length=1->Brs kind ws bd (k+1) b nums (.tup [.str "shape"]) (!decide (df b<bd))
 |th {k:Nat}{b:Bx}{nums:List Int}{i:Int}:i∈nums->Brs kind ws bd (k+1) b nums (.tup [.str "thin",.int i]) (!decide (thn ws b i nums<bd))
 |cs {k:Nat}{b:Bx}{nums:List Int} (g:Str×List Int×List Int->Bool×Val) (t:Str×List Int×List Int->Bool):nums.length≠1->(∀c∈bI kind nums,Brs kind ws bd k (fA ws b c (g c).1) (dP c (g c).1) (g c).2 (t c))->Brs kind ws bd (k+1) b nums (.tup [.str "cases",.tup ((bI kind nums).map λc=>rwV (g c))]) ((bI kind nums).all t)
theorem tu:∀{k:Nat}{b:Bx}{nums:List Int}{v:Val},Pap kind k nums v->∃t,Brs kind ws bd k b nums v t
 |0,_,_,_,h=>h.elim
 |
  k+1,b,nums,v,h=>by
  rcases h with ⟨h1,rfl⟩ |⟨i,hi,rfl⟩ |⟨h1,g,rfl,hg⟩
  .exact⟨_,.sh h1⟩
  .exact⟨_,.th hi⟩
  .have:∀c,∃t,c∈bI kind nums->Brs kind ws bd k (fA ws b c (g c).1) (dP c (g c).1) (g c).2 t:=λc=>by
    by_cases hc:c∈bI kind nums
    .obtain⟨t,ht⟩:=tu (b:=fA ws b c (g c).1) (hg c hc);exact⟨t,λ_=>ht⟩
    .exact⟨false,λz=>absurd z hc⟩
   exact⟨_,.cs g (λc=>(this c).choose) h1 λc hc=>(this c).choose_spec hc⟩
def Cz{f:Bx->List Int->Option Val}{c:Str×List Int×List Int}{r:Bool×Val}(h:brw f ws b c=some r):f (fA ws b c r.1) (dP c r.1)=some r.2:=by
 unfold brw at h;split at h
 .rename_i e;cases h;exact e
 .split at h
  .rename_i e;cases h;exact e
  .cases h
theorem pk:∀{k:Nat}{b:Bx}{nums:List Int}{v:Val},brg kind ws bd k b nums=some v->Pap kind k nums v/\Brs kind ws bd k b nums v true
 |0,_,_,_,h=>nomatch h
 |
  k+1,b,nums,v,h=>by
  unfold brg at h;split at h
  .rename_i h1;split at h
   .cases h
   .rename_i h2;cases h
    have:=Brs.sh (kind:=kind) (ws:=ws) (bd:=bd) (k:=k) (b:=b) h1
    rw[F_ h2] at this;exact⟨.inl ⟨h1,rfl⟩,this⟩
  .rename_i h1;split at h
   .rename_i i e;cases h
    have:=Brs.th (kind:=kind) (ws:=ws) (bd:=bd) (k:=k) (b:=b) (Qb e)
    rw[List.find?_some e] at this;exact⟨.inr (.inl ⟨i,Qb e,rfl⟩),this⟩
   .split at h
    .rename_i ha;cases h;rw[OA] at ha;have key:∀c∈bI kind nums,brg kind ws bd k (fA ws b c ((brw (brg kind ws bd k) ws b c).getD (false,.non)).1) (dP c ((brw (brg kind ws bd k) ws b c).getD (false,.non)).1)=some ((brw (brg kind ws bd k) ws b c).getD (false,.non)).2:=λc hc=>by obtain⟨r,e⟩:=Pb.mp (ha c hc);rw[e];exact Cz e
     refine⟨.inr (.inr ⟨h1,λc=>(brw (brg kind ws bd k) ws b c).getD (false,.non),rfl,λc hc=>(pk (key c hc)).1⟩),?_⟩
     have:=Brs.cs (kind:=kind) (ws:=ws) (bd:=bd) (k:=k) (b:=b) (λc=>(brw (brg kind ws bd k) ws b c).getD (false,.non)) (λ_=>true) h1 λc hc=>(pk (key c hc)).2
     rw[OA.mpr λ_ _=>rfl] at this;exact this
    .cases h
theorem p8(f:α->Rat):∀(l:List α) (o:Option Rat) (q:Rat),l.foldl (λo c=>cD o (f c)) o=some q->(∀p,o=some p->q<=p)/\∀c∈l,q<=f c
 | [],o,q,h=>⟨λp e=>by rw[List.foldl_nil] at h;rw[h] at e;cases e;exact PJ,λ_ z=>nomatch z⟩
 |
  c::l,o,q,h=>by
  rw[PX] at h;obtain⟨p,e⟩:=pH o (f c);rw[e] at h;obtain⟨h1,h2⟩:=p8 f l (some p) q h;have hp:=h1 p rfl;have m1:p<=f c/\∀x,o=some x->p<=x:=by
   unfold cD at e;split at e
   .cases e;exact⟨PJ,λ_ z=>nomatch z⟩
   .split at e
    .rename_i x hx;cases e;exact⟨PJ,λy z=>by cases z;exact OW hx⟩
    .rename_i x hx;cases e;exact⟨OT.mp hx,λy z=>by cases z;exact PJ⟩
  refine⟨λx z=>O3 hp (m1.2 x z),λd hd=>?_⟩;rcases N_.mp hd with rfl |hd
  .exact O3 hp m1.1
  .exact h2 d hd
theorem nY:∀{k:Nat}{b:Bx}{nums:List Int},nums.Nodup->nums≠[]->nums.length<=k->bd<=bst kind ws k b nums->∃v,brg kind ws bd k b nums=some v
 |0,_,nums,_,h0,hk,_=>absurd (Ox.mpr h0) (by omega)
 |
  k+1,b,nums,nd,h0,hk,hb=>by
  have h0':=Ox.mpr h0;unfold brg;unfold bst at hb;split
  .rename_i h1;rw[if_pos h1] at hb;rw[if_neg (OT.mpr hb)];exact⟨_,rfl⟩
  .rename_i h1;rw[if_neg h1] at hb;split
   .exact⟨_,rfl⟩
   .obtain⟨q,e⟩:=j9 (λc=>cX (bst kind ws k) ws b c) (j5 (kind:=kind) (nums:=nums) (by omega));rw[e] at hb;have le:=(p8 _ _ _ _ e).2;rw[if_pos]
    .exact⟨_,rfl⟩
    .rw[OA];intro c hc;have co:=fh nd hc;have l1:=co.one.lt;have l2:=co.two.lt;have hm:=O3 hb (le c hc);unfold brw;split
     .rfl
     .rename_i e1;split
      .rfl
      .rename_i e2;exfalso;unfold cX mx at hm;split at hm
       .obtain⟨v,hv⟩:=nY (co.two.sub.nodup nd) co.two.ne (by omega) hm;rw[hv] at e2;cases e2
       .obtain⟨v,hv⟩:=nY (co.one.sub.nodup nd) co.one.ne (by omega) hm;rw[hv] at e1;cases e1
end
def DU{a b c:Rat}(hc:0<c)(h:a*c<=b):a<=b/c:=by
 have e:a=a*c/c:=by rw[Pf,QL,Qh _ (Rat.ne_of_gt hc),Rat.mul_one]
 rw[e,Pf,Pf];exact O_ h (OW (Rat.inv_pos.mpr hc))
def kK{w h x:Rat}(w0:0<w)(h0:0<h)(x0:0<x)(x1:x<=1):(if w<h then h/w else w/h)*x<=if w*x<h then h/(w*x) else w*x/h:=by
 have wx:=Qn w0 x0;have le:w*x<=w*1:=Pk x1 (OW w0);rw[Rat.mul_one] at le;split
 .rename_i l;rw[if_pos (Rat.not_le.mp λz=>Rat.not_le.mpr l (O3 z le))];refine DU wx ?_;have e:h/w*x*(w*x)=h*(x*x):=by grind
  rw[e];have k1:x*x<=x*1:=Pk x1 (OW x0);have k2:h*(x*x)<=h*1:=Pk (by grind) (OW h0);rw[Rat.mul_one] at k2;exact k2
 .rename_i l;split
  .rename_i k;refine DU wx ?_;have e:w/h*x*(w*x)=(w*x)*(w*x)/h:=by grind
   have k1:(w*x)*(w*x)<=h*h:=O3 (Pk (OW k) (OW wx)) (O_ (OW k) (OW h0));have k2:(w*x)*(w*x)/h<=h*h/h:=by rw[Pf,Pf];exact O_ k1 (OW (Rat.inv_pos.mpr h0))
   have e2:h*h/h=h:=by grind
   rw[e,<- e2];grind
  .have e:w/h*x=w*x/h:=by grind
   rw[e];exact PJ
def uL{w h:Rat}(w0:0<w)(h0:0<h):(if w<h then h/w else w/h)=if h<w then w/h else h/w:=by
 split
 .rename_i l;rw[if_neg (OT.mpr (OW l))]
 .rename_i l;split
  .rfl
  .rename_i k;have:w=h:=Rat.le_antisymm (OT.mp k) (OT.mp l);rw[this]
def zf{b:Bx}{way:Str}{u v:Int}(ok:b.Ok)(hu:1<=u)(hv:1<=v):df b*((u:Rat)/((u+v:Int):Rat))<=df (cF b way u v)/\df b*((v:Rat)/((u+v:Int):Rat))<=df (cI b way u v):=by
 have fr:∀x:Int,1<=x->x<=u+v->(0:Rat)<(x:Rat)/((u+v:Int):Rat)/\(x:Rat)/((u+v:Int):Rat)<=1:=λx h1 h2=>by
  refine⟨iq (by omega) (by omega),?_⟩;have p:(0:Rat)<((u+v:Int):Rat):=by exact_mod_cast (show (0:Int)<u+v by omega)
  have q:(x:Rat)<=((u+v:Int):Rat):=by exact_mod_cast h2
  have:=O_ (c:=((u+v:Int):Rat)⁻¹) q (OW (Rat.inv_pos.mpr p))
  rw[Qh _ (Rat.ne_of_gt p)] at this;rw[Pf];exact this
 have es:[u,v].sum=u+v:=by rw[OJ,OJ,List.sum_nil];omega
 obtain⟨a1,a2⟩:=fr u hu (by omega);obtain⟨b1,b2⟩:=fr v hv (by omega);by_cases hw:way="across"
 .have c1:cF b way u v=⟨b.l+b.w*(((0:Int):Rat)/((u+v:Int):Rat)),b.t,b.w*((u:Rat)/((u+v:Int):Rat)),b.h⟩:=by unfold cF eA;rw[if_pos hw,es];rfl
  have c2:cI b way u v=⟨b.l+b.w*(((0+u:Int):Rat)/((u+v:Int):Rat)),b.t,b.w*((v:Rat)/((u+v:Int):Rat)),b.h⟩:=by unfold cI eA;rw[if_pos hw,es];rfl
  rw[c1,c2];exact⟨kK ok.w ok.h a1 a2,kK ok.w ok.h b1 b2⟩
 .have c1:cF b way u v=⟨b.l,b.t+b.h*(((0:Int):Rat)/((u+v:Int):Rat)),b.w,b.h*((u:Rat)/((u+v:Int):Rat))⟩:=by unfold cF eA;rw[if_neg hw,es];rfl
  have c2:cI b way u v=⟨b.l,b.t+b.h*(((0+u:Int):Rat)/((u+v:Int):Rat)),b.w,b.h*((v:Rat)/((u+v:Int):Rat))⟩:=by unfold cI eA;rw[if_neg hw,es];rfl
  rw[c1,c2];unfold df;dsimp only;rw[uL ok.w ok.h,uL ok.w (Qn ok.h a1),uL ok.w (Qn ok.h b1)];exact⟨kK ok.h ok.w a1 a2,kK ok.h ok.w b1 b2⟩
def rR{b:Bx}{way:Str}{u v:Int}(ok:b.Ok)(w1:1<=u)(w2:1<=v):(cF b way u v).Ok/\(cI b way u v).Ok:=by
 have key:∀b'∈eA b way [u,v],b'.Ok:=λb' hb=>by
  have ps:∀(s l:Rat),0<l->∀p∈shL s l [u,v].sum 0 [u,v],0<p.2:=λs l l0 p hp=>by
   obtain⟨a',w,h1,h2,h3,h4,rfl⟩:=pY _ 0 (by omega) (λw hw=>by
    rcases N_.mp hw with rfl |hw
    .exact w1
    .rw[OG] at hw;rw[hw];exact w2) (by omega) hp
   exact Qn l0 (iq (by omega) (by omega))
  unfold eA at hb;split at hb
  .obtain⟨p,hp,rfl⟩:=OQ.mp hb;exact⟨ps _ _ ok.w p hp,ok.h⟩
  .obtain⟨p,hp,rfl⟩:=OQ.mp hb;exact⟨ok.w,ps _ _ ok.h p hp⟩
 rw[lX] at key;exact⟨key _ (C_ ..),key _ (y_ _ (C_ ..))⟩
def sW(x y:Rat):x<=mx x y/\y<=mx x y:=by
 unfold mx;split
 .rename_i l;exact⟨OW l,PJ⟩
 .rename_i l;exact⟨PJ,OT.mp l⟩
theorem xg(f:α->Rat):∀(l:List α) (o:Option Rat) (q:Rat),l.foldl (λo c=>cD o (f c)) o=some q->o=some q\/∃c∈l,q=f c
 | [],o,q,h=>.inl h
 |
  c::l,o,q,h=>by
  rw[PX] at h;rcases xg f l _ q h with e |⟨d,hd,e⟩
  .unfold cD at e;split at e
   .cases e;exact .inr ⟨c,C_ ..,rfl⟩
   .split at e
    .cases e;exact .inr ⟨c,C_ ..,rfl⟩
    .cases e;exact .inl rfl
  .exact .inr ⟨d,y_ _ hd,e⟩
section
variable{kind:Str}{ws:List Int}
def wF{k:Nat}{b:Bx}{nums:List Int}(h1:2<=nums.length):∃c∈bI kind nums,bst kind ws (k+1) b nums=cX (bst kind ws k) ws b c:=by
 unfold bst;rw[if_neg (by omega)];obtain⟨q,e⟩:=j9 (λc=>cX (bst kind ws k) ws b c) (j5 (kind:=kind) h1);rw[e];rcases xg _ _ _ _ e with z |z
 .cases z
 .exact z
def Ae{nums:List Int}{c:Str×List Int×List Int}(hw:∀w∈ws,1<=w)(hr:Inr ws nums)(nd:nums.Nodup)(hc:CutOk nums c):1<=wt ws c.2.1/\1<=wt ws c.2.2/\wt ws nums=wt ws c.2.1+wt ws c.2.2/\∀i∈nums,i∈c.2.1\/i∈c.2.2:=by
 have p:=kG hc.one.sub nd;rw[<- hc.rest] at p;have g1:=ox hw (l:=c.2.1) λi hi=>hr i (hc.one.sub.subset hi);have g2:=ox hw (l:=c.2.2) λi hi=>hr i (hc.two.sub.subset hi)
 have:=Ox.mpr hc.one.ne
 have:=Ox.mpr hc.two.ne
 exact⟨by omega,by omega,by rw[<- jg p,A0],λi hi=>O4.mp (p.mem_iff.mpr hi)⟩
theorem zj(hw:∀w∈ws,1<=w):∀(k:Nat) {b:Bx}{nums:List Int}{i:Int},b.Ok->Inr ws nums->nums.Nodup->nums.length<=k->i∈nums->thn ws b i nums<=bst kind ws k b nums
 |0,_,nums,i,_,_,_,hk,hi=>absurd (List.length_pos_of_mem hi) (by omega)
 |
  k+1,b,nums,i,ok,hr,nd,hk,hi=>by
  by_cases h1:nums.length=1
  .obtain⟨x,rfl⟩:=List.length_eq_one_iff.mp h1;rw[OG] at hi;subst hi;have g:=ox hw hr;rw[P4] at g;have e:thn ws b i [i]=df b:=by
    have e1:wt ws [i]=cL ws i:=by unfold wt;rw[List.map_singleton,OJ,List.sum_nil];omega
    unfold thn;rw[e1] at g ⊢;have n0:(cL ws i:Rat)≠0:=by
     intro z;have:cL ws i=0:=by exact_mod_cast z
     omega
    rw[Pf,Qh _ n0,Rat.mul_one]
   rw[e];unfold bst;rw[if_pos h1];exact PJ
  .have:=List.length_pos_of_mem hi
   obtain⟨c,hc,e⟩:=wF (kind:=kind) (ws:=ws) (k:=k) (b:=b) (nums:=nums) (by omega);rw[e];have co:=fh nd hc;obtain⟨w1,w2,es,mem⟩:=Ae hw hr nd co;have pt:=zf (way:=c.1) ok w1 w2;have oks:=rR (way:=c.1) ok w1 w2;have step:∀(b':Bx) (l:List Int),b'.Ok->Lot nums l->1<=wt ws l->df b*((wt ws l:Rat)/((wt ws nums:Int):Rat))<=df b'->i∈l->thn ws b i nums<=bst kind ws k b' l:=λb' l ok' lo g le hi=>by
    have ll:=lo.lt;refine O3 ?_ (zj hw k ok' (λj hj=>hr j (lo.sub.subset hj)) (lo.sub.nodup nd) (by omega) hi);unfold thn;have n0:(wt ws l:Rat)≠0:=by
     intro z;have:wt ws l=0:=by exact_mod_cast z
     omega
    have ri:=hr i (lo.sub.subset hi);have wi:=hw _ (nN ri.1 ri.2);have f0:(0:Rat)<=(cL ws i:Rat)/(wt ws l:Rat):=OW (iq (by omega) (by omega))
    have:=O_ le f0
    have e:df b*((wt ws l:Rat)/((wt ws nums:Int):Rat))*((cL ws i:Rat)/(wt ws l:Rat))=df b*((cL ws i:Rat)/(wt ws nums:Rat)):=by rw[Pf,Pf,Pf];have n1:=Qh _ n0;grind
    rw[e] at this;exact this
   rw[<- es] at pt;unfold cX;rcases mem i hi with h |h
   .exact O3 (step _ _ oks.1 co.one w1 pt.1 h) (sW _ _).1
   .exact O3 (step _ _ oks.2 co.two w2 pt.2 h) (sW _ _).2
def JF{bd:Rat}(hw:∀w∈ws,1<=w){k:Nat}{b:Bx}{nums:List Int}{v:Val}{t:Bool}(h:Brs kind ws bd k b nums v t):b.Ok->Inr ws nums->nums.Nodup->nums≠[]->nums.length<=k->t=true->bd<=bst kind ws k b nums:=by
 induction h with
 |sh h1=>intro ok hr nd n0 hk ht;unfold bst;rw[if_pos h1];exact OT.mp (by simpa using ht)
 |@th k b nums i hi=>intro ok hr nd n0 hk ht;exact O3 (OT.mp (by simpa using ht)) (zj hw _ ok hr nd hk hi)
 |
  @cs k b nums g t h1 hg ih=>
  intro ok hr nd n0 hk ht
  have:=Ox.mpr n0
  obtain⟨c,hc,e⟩:=wF (kind:=kind) (ws:=ws) (k:=k) (b:=b) (nums:=nums) (by omega);rw[e];have co:=fh nd hc;obtain⟨w1,w2,es,mem⟩:=Ae hw hr nd co;have l1:=co.one.lt;have l2:=co.two.lt;have tc:=OA.mp ht c hc;have i:=ih c hc;unfold cX;have ok1:=(rR ok w1 w2 (way:=c.1));unfold fA dP at i;split at i
  .exact O3 (i ok1.2 (λj hj=>hr j (co.two.sub.subset hj)) (co.two.sub.nodup nd) co.two.ne (by omega) tc) (sW _ _).2
  .exact O3 (i ok1.1 (λj hj=>hr j (co.one.sub.subset hj)) (co.one.sub.nodup nd) co.one.ne (by omega) tc) (sW _ _).1
end
section
variable{kind:Str}{ws nums:List Int}{bd:Rat}{b:Bx}{k:Nat}
theorem wz{f g:α->Rat}:∀(l:List α) (o:Option Rat),(∀c∈l,f c=g c)->l.foldl (λo c=>cD o (f c)) o=l.foldl (λo c=>cD o (g c)) o
 | [],_,_=>rfl
 |
  c::l,o,h=>by
  rw[PX,PX,h c (C_ ..)];exact wz l _ λd hd=>h d (y_ _ hd)
theorem qS:∀(k:Nat) (b:Bx) (nums:List Int),nums.Nodup->nums≠[]->nums.length<=k->bst kind ws (k+1) b nums=bst kind ws k b nums
 |0,_,nums,_,h0,hk=>absurd (Ox.mpr h0) (by omega)
 |
  k+1,b,nums,nd,h0,hk=>by
  unfold bst;split
  .rfl
  .rw[wz];intro c hc;have co:=fh nd hc;have l1:=co.one.lt;have l2:=co.two.lt;unfold cX;rw[qS k _ _ (co.one.sub.nodup nd) co.one.ne (by omega),qS k _ _ (co.two.sub.nodup nd) co.two.ne (by omega)]
theorem tJ:∀(rest:List Int) (L:List (List Int)),L.Nodup->rest.Nodup->(∀l∈L,∀x∈rest,x∉l)->(fT L rest).Nodup
 | [],_,h,_,_=>h
 |
  x::rest,L,h,nr,hx=>by
  unfold fT;rw[OR] at nr;refine tJ rest _ ?_ nr.2 ?_
  .rw[P0];refine⟨h,?_,?_⟩
   .exact List.pairwise_map.mpr (h.imp λne e=>ne (List.append_cancel_right e))
   .intro a ha c hc e;obtain⟨d,_,rfl⟩:=OQ.mp hc;rw[e] at ha;exact hx _ ha x (C_ ..) (OK _ (OG.mpr rfl))
  .intro l hl y hy;rcases O4.mp hl with hl |hl
   .exact hx l hl y (y_ _ hy)
   .obtain⟨d,hd,rfl⟩:=OQ.mp hl;intro z;rcases O4.mp z with z |z
    .exact hx d hd y (y_ _ hy) z
    .rw[OG] at z;rw[z] at hy;exact nr.1 hy
def Eh(nd:nums.Nodup):(cK kind nums).Nodup:=by
 unfold cK;split
 .have key:∀(n s:Nat),s+n<=nums.length->((List.range' s n).map λi=>nums.take i).Nodup:=by
   intro n;induction n with
   |zero=>intro s _;exact QJ
   |
    succ n ih=>
    intro s hs;rw[List.range'_succ,B_,OR];refine⟨λz=>?_,ih (s+1) (by omega)⟩;obtain⟨j,hj,e⟩:=OQ.mp z;rw[List.mem_range'_1] at hj
    have:=OU List.length e
    rw[Pp,Pp] at this;omega
  cases hn:nums.length with
  |zero=>exact QJ
  |succ n=>exact key _ 1 (by omega)
 .split
  .exact QJ
  .rename_i x rest;rw[OR] at nd;refine (List.dropLast_sublist _).nodup (tJ rest _ (by simp) nd.2 ?_);intro l hl y hy z;rw[OG] at hl;rw[hl,OG] at z;rw[z] at hy;exact nd.1 hy
def wU(nd:nums.Nodup):(bI kind nums).Nodup:=by
 have key:∀L:List (List Int),L.Nodup->(L.flatMap (eL nums)).Nodup:=by
  intro L;induction L with
  |nil=>intro _;exact QJ
  |
   cons l L ih=>
   intro h;rw[OR] at h;rw[List.flatMap_cons,P0];refine⟨?_,ih h.2,?_⟩
   .unfold eL;rw[OR];refine⟨λz=>?_,by simp⟩;rw[OG] at z;exact absurd (OU Prod.fst z) (show ¬ ("across" : Str)="down" by decide)
   .intro c hc d hd e;obtain⟨m,hm,hd⟩:=List.mem_flatMap.mp hd;have e1:c.2.1=l:=by
     unfold eL at hc;rcases N_.mp hc with rfl |hc
     .rfl
     .rw[OG] at hc;rw[hc]
    have e2:d.2.1=m:=by
     unfold eL at hd;rcases N_.mp hd with rfl |hd
     .rfl
     .rw[OG] at hd;rw[hd]
    rw[e,e2] at e1;exact h.1 (e1 ▸ hm)
 exact key _ (Eh nd)
def wX(h:nums.length<=4):(bI kind nums).length<=14:=by
 have h1:(cK kind nums).length<=7:=by
  unfold cK;split
  .rw[v_,List.length_range'];omega
  .split
   .exact ON _
   .rename_i x rest;rw[L_] at h;rw[List.length_dropLast,mj];have:2^rest.length<=2^3:=OS (by decide) (by omega);simp;omega
 unfold bI;rw[List.length_flatMap];have:∀l:List (List Int),((l.map λa=>(eL nums a).length).sum)=2*l.length:=λl=>by
  induction l with
  |nil=>rfl
  |cons a l ih=>rw[B_,OJ,ih,L_];show 2+2*l.length=_;omega
 rw[this];omega
def BZ{bd':Rat}(le:bd'<=bd){v:Val}{t:Bool}(h:Brs kind ws bd k b nums v t):∃t',Brs kind ws bd' k b nums v t'/\(t=true->t'=true):=by
 have lt:∀{q:Rat},(!decide (q<bd))=true->(!decide (q<bd'))=true:=λ{q} hq=>by
  have:¬ q<bd:=by simpa using hq
  rw[F_ (OT.mpr (O3 le (OT.mp this)))];rfl
 induction h with
 |sh h1=>exact⟨_,.sh h1,lt⟩
 |th hi=>exact⟨_,.th hi,lt⟩
 |
  @cs k b nums g t h1 hg ih=>
  have:∀c,∃t',c∈bI kind nums->Brs kind ws bd' k (fA ws b c (g c).1) (dP c (g c).1) (g c).2 t'/\(t c=true->t'=true):=λc=>by
   by_cases hc:c∈bI kind nums
   .obtain⟨t',h1,h2⟩:=ih c hc;exact⟨t',λ_=>⟨h1,h2⟩⟩
   .exact⟨false,λz=>absurd z hc⟩
  refine⟨_,.cs g (λc=>(this c).choose) h1 λc hc=>((this c).choose_spec hc).1,λha=>?_⟩;rw[OA] at ha ⊢;exact λc hc=>((this c).choose_spec hc).2 (ha c hc)
end
end L3
namespace KK
open PySem PySem.Spec PyProof.Rows L2 L3
def top(i:Nat):Stmt:=PySem.Challenge.pw_weightrooms_k60_whole_a_paper_bars.main.body.getD i (.Pass ⟨0,0,0,0⟩)
noncomputable def fO:kU:=[((.b "NoneType"),(.b "bool"),false),((.b "bool"),(.b "bool"),true),((.b "int"),(.b "bool"),false),((.b "str"),(.b "bool"),false),((.b "tuple"),(.b "bool"),false),((.b "list"),(.b "bool"),false),((.b "dict"),(.b "bool"),false),((.b "NoneType"),(.b "int"),false),((.b "bool"),(.b "int"),true),((.b "int"),(.b "int"),true),((.b "str"),(.b "int"),false),((.b "tuple"),(.b "int"),false),((.b "list"),(.b "int"),false),((.b "dict"),(.b "int"),false),((.b "NoneType"),(.b "list"),false),((.b "bool"),(.b "list"),false),((.b "int"),(.b "list"),false),((.b "str"),(.b "list"),false),((.b "tuple"),(.b "list"),false),((.b "list"),(.b "list"),true),((.b "dict"),(.b "list"),false),((.b "NoneType"),(.b "str"),false),((.b "bool"),(.b "str"),false),((.b "int"),(.b "str"),false),((.b "str"),(.b "str"),true),((.b "tuple"),(.b "str"),false),((.b "list"),(.b "str"),false),((.b "dict"),(.b "str"),false),((.b "NoneType"),(.b "tuple"),false),((.b "bool"),(.b "tuple"),false),((.b "int"),(.b "tuple"),false),((.b "str"),(.b "tuple"),false),((.b "tuple"),(.b "tuple"),true),((.b "list"),(.b "tuple"),false),((.b "dict"),(.b "tuple"),false)]
def du:List (Str×Int):=[("order",6),("any",5)]
noncomputable def km:D:=(.int 40)
noncomputable def AU:D:=(.tup [(.str "across"),(.str "down")])
abbrev tb:Tb:=⟨["NoFraction", "NoBox", "NoWay", "NoWeights", "TooMany", "NoKind"],["NoFraction", "NoBox", "NoWay", "NoWeights", "TooMany", "NoKind"],[],fO,[("MOST_WEIGHTS",km),("WAYS",AU)]⟩
abbrev TT(w:World)(K:W.Frag)(mg:Ra):Prop:=TyD "MOST_THINGS" du w tb top [9,10,11,12,13,14,15,16,17,21,22,23,24,25,26,27,28,29,30,33,34,35,36,37,38,39,40,42,44,45,46,47,48,49,50,51,52,53,55,56,57,58,59,60,61,62,63,64,65,66,67,68,69,70,71] K mg
section
variable{P:Program}{w:World}{K:W.Frag}{mg:Ra}{base:Heap}
noncomputable def jC:PEx:=vv km (.int 40) (λ_ _=>.int _)
def ah(e:E3):jC.G e=.ok (.val (.int 40)) e:=rfl
noncomputable def pZ:PEx:=vv AU (.tup [(.str "across"),(.str "down")]) (λ_ _=>.tup (.cons (.str _) (.cons (.str _) .nil)))
def bu(e:E3):pZ.G e=.ok (.val (.tup [(.str "across"),(.str "down")])) e:=rfl
def dI(s:String):Lean.TSyntax `term:=⟨Lean.mkIdent (s.replace "%" "").toName⟩
def dA(f:String)(a:Lean.TSyntax `term):Lean.TSyntax `term:=Lean.Syntax.mkApp (dI f) #[a]
def dF:List (Lean.TSyntax `tactic)->Lean.MacroM (Lean.TSyntax `tactic)
 | []=>`(tactic|fail)
 |a::l=>do `(tactic|first | $a:tactic | $(<- dF l):tactic)
def dL(f:String->Lean.MacroM (Lean.TSyntax `tactic)):List String->Lean.MacroM (List (Lean.TSyntax `tactic))
 | []=>pure []
 |s::l=>do return (<- f s)::(<- dL f l)
set_option hygiene false in
def dQ(ap:String->Lean.TSyntax `term)(s:String):Lean.MacroM (Lean.TSyntax `tactic):=match (s.splitOn ";").map ap with
 | [d,c,a,b]=>`(tactic|((case d=>with_reducible exact $d);(case c=>exact $c);(case a=>exact $a);(case b=>exact $b)))
 |d::c::_=>`(tactic|((case d=>with_reducible exact $d);(case c=>exact $c)))
 |_=>`(tactic|fail)
set_option hygiene false in
def dR(ap:String->Lean.TSyntax `term)(g:String):Lean.MacroM (Lean.TSyntax `tactic):=match g.splitOn ":" with
 | [r]=>`(tactic|refine $(ap r))
 |r::l=>do `(tactic|(refine' $(ap r);$(<- dF (<- dL (dQ ap) l)):tactic))
 | []=>`(tactic|fail)
set_option hygiene false in
local macro_rules | `('d')=>do
 let h <- `(?_)
 let u <- `(_)
 let R:=dI "rfl"
 let qA <- `(?a)
 let qB <- `(?b)
 let qC <- `(?c)
 let qD <- `(?d)
 let qp <- `((λ_ _=>rfl))
 let ap:=λ(s:String)=>let w:=s.splitOn " ";Lean.Syntax.mkApp (dI (w.getD 0 "")) (((w.getD 1 "").toList.map λc=>([('8',dI "hr.u180"),('A',qA),('B',qB),('C',qC),('D',qD),('G',dI "T.kd"),('K',dI "T.k"),('_',u),('b',dA "%boT" R),('f',dA "%boF" R),('g',dA "T.g" R),('i',dI "ih"),('k',dA "T.n" R),('m',dA "T.m" R),('n',dI "nd"),('o',dI "%lW"),('p',qp),('r',R),('t',dI "T"),('u',dA "%MJ" (dI "hr")),('v',dA "%vn" u),('x',dA "T.x" R),('z',dI "%rz1")].lookup c).getD h).toArray)
 let rd:=λ(s:String)=>dL (dR ap) (s.splitOn "|")
 let e0 <- `(tactic|refine zcF (by $(<- dF (<- rd "%ih|tS t|ve t|vN t|sC t|vx t|vj t|va t|uh t|sy t|qQ t|vV t|sG t|vP t|kz t_|uG t|mf t|pv t|xM t|sF t|sA t|mZ t|qV t|ou t|vL t|tH t|uZ t|A9 t|Ac t|vK t|vT t|yb t|so t|zN t|zu t|xH t|xu t|sv t|um t|oo t|kB t_|pI t|x8 t|sX t|vO t|o9 ti|lR t_|uE t|qf t|md t_|jX t_|vA ti|mY ti|rT t_|yX t")):tactic) hr ?_)
 let e3 <- `(tactic|exact JA rfl (by first |exact T.e rfl |exact T.kd.ex))
 `(by repeat' $(<- dF ((<- rd "%vn _|pC|AY|cW ??|bG ??|eW ?|zsS _n?|mI ???|iO ?|Ad ?|vc ?|K9|Mn|Ei|vm ?")++[e0,e3]++(<- rd "%Of CD??:Oa;ixK r:Gf;FR rrrG|GV CD??:DY;Ee:Dv;Du:D1;DM:DZ;eqDK r8:J9;Kq r:Nh;G9:NS;neDK r8:FE;GI rrrG:IU;GK:D5;inK r:JR;Il|fR CDrkf?:GO;LU r:Hc;CY:j8;gE rr:Ek;Am r:Ib K;Md r|yV CD??:Ju;Ex:KQ;Co:uj;vb r:H9;K1:HW;Hl:Ii;Io:Kd;JV|rD CDrkb?:xk;AK r:BB;Fq r|Kn CD??:D1;DM:Dv;Du:DZ;eqDK r8:DY;Ee:D5;inK r|zE rABCDv?:rM;rL;PySem.F.slot_list_append;PySem.F.type_list_append|EV rABCDv:yL;yd;PySem.F.slot_list_reverse;PySem.F.type_list_reverse|Mh CD?:Ka;IT|Jo n?CD:Lg;Ja|Fj ?v?CD:AS;Bj u|ZG.weak ?|zt_w ?|HZ ??|FH u??p|Nl rg|LS ???|GS rrkrk?|HD|He ?|KA ?|tD r???|MD rkb|zgN _n|K7 rr?|IH rr?|CO ??|Er|Fz rrk?|zG rk?|zk rk?|IF r?|Jn rrk?|wI|xn ?|qW ??|vQ|wj ?|iJ or???|JK n?|Df rzrmx?|FK ?|GX ??|BP o??|vt ?|JZ ??|Fg ?|LD ??|Km ?"))):tactic)
def oX:PSt:=
 (bH (yJ ["cells", "at", "left"] (ai (pFn oC (ai (pSl (ax 0) oN (oS (bC 63))) bx)) (ai (bC 0) (ai (bC 0) bx)))))
def gY:PFn:=fnP [false] 1 oX
def aO:gY.ms=[false]:=rfl
def tS(T:TT w K mg):Callee P w K mg base "_law_feed" 1 ["_law_script"] (spD K mg 1 gY.F):=bU (T.d.get 55 rfl) (bJ (N:=["_law_script"]) (by decide)) (λ_ _ _ _ _ _=>ar1 λ_=>rfl) λnd _ _ _ _ _ _ _ hr=>(eW (iO (FF (nE (rD (AK (K:=K) rfl) xk rfl (T.n rfl) (by first |exact boF rfl |exact boT rfl) (cW (tD rfl (vn 0) wI (xn pC)) AY)) (nE pC (nE pC EC))))))
def pD:PSt:=
 (bE (xIf (qOf (pOp bGt (pOp iX (ax 0) (bZ "left")) (bC 0))) (bE (bO false 2 (pOp dY (pOp iX (ax 0) (bZ "left")) (ax 1)))
  (bE (uP 0 seD (bZ "left") (pOp jT (pOp iX (ax 0) (bZ "left")) (ax 1)))
  (bH (ax 2)))) xNx)
  (bE (bO false 3 (pOp iX (ax 0) (bZ "at")))
  (bE (uP 0 seD (bZ "at") (pOp cH (ax 3) (bC 1)))
  (bE (bO false 4 (ax 3))
  (bE (xIf (qOf (pOp bGt (pFn cn (ai (pOp iX (ax 0) (bZ "cells")) bx)) (bC 0))) (bO false 4 (pOp bIx (pOp iX (ax 0) (bZ "cells")) (pOp dY (ax 3) (pFn cn (ai (pOp iX (ax 0) (bZ "cells")) bx))))) xNx)
  (bE (xIf (qAn (qOf (pOp bGe (ax 4) (pOp p7 (bC 10) (bC 18)))) (qOf (pOp bLt (ax 3) (pFn cn (ai (pOp iX (ax 0) (bZ "cells")) bx))))) (bE (uP 0 seD (bZ "left") (pOp jT (ax 4) (ax 1)))
  (bH (pOp dY (ax 4) (ax 1)))) xNx)
  (bE (bO false 5 (pOp dY (pOp cq (pOp cH (pOp cH (pOp cH (pOp dY (ax 4) (bC 1000003)) (pOp cq (pOp cq (bC 61) (ax 3)) (ax 3))) (pOp cq (bC 7) (ax 3))) (bC 1)) (bC 48271)) (bC 999983)))
  (bH (pOp dY (pOp jT (pOp dY (pOp cq (pOp dY (pOp cH (pOp cq (ax 5) (bC 69623)) (pOp cq (bC 7919) (ax 3))) (bC 1999993)) (bC 16811)) (bC 524287)) (bC 5)) (ax 1))))))))))
def bN:PFn:=fnP [true,false] 6 pD
def aQ:bN.ms=[true,false]:=rfl
def ve(T:TT w K mg):Callee P w K mg base "_law_draw" 1 ["_law_feed_here", "_law_many"] (spD K mg 2 bN.F):=bU (T.d.get 56 rfl) (bJ (N:=["_law_feed_here", "_law_many", "_law_found", "_law_at", "_law_cell", "_law_number"]) (by decide)) (λ_ _ _ _ _ _=>ar2 λ_ _=>rfl) λnd _ _ _ _ _ _ _ hr=>'d'
def jb:PSt:=
 (jP 2 3 (ai (ax 3) (ai (pOp dY (ax 2) (ax 3)) bx)))
def rS:PSt:=
 (bE (jP 2 3 (ai (pFn oZ (ai (ax 0) bx)) (ai (ax 1) bx)))
  (bE (xWh (qOf (pOp bGt (ax 3) (bC 0))) (jb))
  (bH (cx (ai (pOp jT (ax 0) (ax 2)) (ai (pOp jT (ax 1) (ax 2)) bx))))))
def cV:PFn:=fnP [false,false] 4 rS
def aW:cV.ms=[false,false]:=rfl
def vN(T:TT w K mg):Callee P w K mg base "_law_low" 1 ["_law_top", "_law_bottom"] (spD K mg 2 cV.F):=bU (T.d.get 58 rfl) (bJ (N:=["_law_top", "_law_bottom", "_law_one", "_law_other"]) (by decide)) (λ_ _ _ _ _ _=>ar2 λ_ _=>rfl) λnd _ _ _ _ _ _ _ hr=>'d'
def l6:PSt:=
 (bO false 2 (pOp cH (pOp cq (ax 2) (bC 100000)) (bD bN (ai (ax 0) (ai (bC 100000) bx)))))
def m8:PSt:=
 (bE (bO false 2 (bC 0))
  (bE (eE (kL (ai (ax 1) bx)) (gtN 3) (l6))
  (bH (ax 2))))
def eO:PFn:=fnP [true,false] 4 m8
def aA:eO.ms=[true,false]:=rfl
def sC(T:TT w K mg):Callee P w K mg base "_law_great" 2 ["_law_feed_here", "_law_pieces"] (spD K mg 2 eO.F):=bU (T.d.get 57 rfl) (bJ (N:=["_law_feed_here", "_law_pieces", "_law_number", "_law_k"]) (by decide)) (λ_ _ _ _ _ _=>ar2 λ_ _=>rfl) λnd _ _ _ _ _ _ _ hr=>'d'
def oO:PSt:=
 (bE (bO false 2 (bD bN (ai (ax 0) (ai (bC 5) bx))))
  (bE (xIf (qOf (pOp bLt (ax 2) (bC 2))) (bH (cx (ai (pOp cH (bC 1) (bD bN (ai (ax 0) (ai (bC 12) bx)))) (ai (bC 1) bx)))) xNx)
  (bE (xIf (qOf (pOp bEq (ax 2) (bC 2))) (bH (cx (ai (bC 1) (ai (bC 1) bx)))) xNx)
  (bE (xIf (qOf (pOp bEq (ax 2) (bC 3))) (bH (bD cV (ai (pOp cH (bC 1) (bD bN (ai (ax 0) (ai (bC 60) bx)))) (ai (pOp cH (bC 1) (bD bN (ai (ax 0) (ai (bC 12) bx)))) bx)))) xNx)
  (bH (bD cV (ai (pOp cH (bC 1) (pOp dY (bD eO (ai (ax 0) (ai (bC 6) bx))) (ax 1))) (ai (pOp cH (bC 1) (pOp dY (bD eO (ai (ax 0) (ai (bC 6) bx))) (ax 1))) bx))))))))
def fW:PFn:=fnP [true,false] 3 oO
def aF:fW.ms=[true,false]:=rfl
def vx(T:TT w K mg):Callee P w K mg base "_law_side" 3 ["_law_feed_here", "_law_far"] (spD K mg 2 fW.F):=bU (T.d.get 63 rfl) (bJ (N:=["_law_feed_here", "_law_far", "_law_way"]) (by decide)) (λ_ _ _ _ _ _=>ar2 λ_ _=>rfl) λnd _ _ _ _ _ _ _ hr=>'d'
def cZ:PSt:=
 (dD (jU 10 eR (ai (pOp bIx (c7 (ai (ax 9) (ai (pOp cH (bC 1) (bD bN (ai (ax 0) (ai (bC 3) bx)))) (ai (pOp Cc (bC 1) (ax 11)) (ai (pOp cH (bC 1) (pOp dY (bD eO (ai (ax 0) (ai (bC 6) bx))) (ax 2))) bx))))) (ax 8)) bx)))
def i8:PSt:=
 (bE (jP 2 3 (ai (bC 60) (ai (pOp cH (bC 1) (bD bN (ai (ax 0) (ai (ax 1) bx)))) bx)))
  (bE (xIf (qOf (pOp bEq (bD bN (ai (ax 0) (ai (bC 5) bx))) (bC 0))) (jP 2 3 (ai (pOp pW (pOp p7 (bC 10) (bC 30)) (bC 1)) (ai (pOp cH (bC 1) (bD bN (ai (ax 0) (ai (bC 3) bx)))) bx))) xNx)
  (bE (jP 4 5 (ai (bD fW (ai (ax 0) (ai (ax 2) bx))) (ai (bD fW (ai (ax 0) (ai (ax 2) bx))) bx)))
  (bE (xIf (qOf (pOp bEq (bD bN (ai (ax 0) (ai (bC 5) bx))) (bC 0))) (bO false 5 (ax 4)) xNx)
  (bE (fS (pLC (kL (ai (bC 2) bx)) [none,some 0] (by decide) (gtN 0) qY (bD cV (ai (pOp pW (bD bN (ai (ax 1) (ai (bC 41) bx))) (bC 20)) (ai (pOp cH (bC 1) (bD bN (ai (ax 1) (ai (bC 9) bx)))) bx)))) (gtX (gtU 2 (bM (gtN 6) (bM (gtN 7) cU)))))
  (bE (bO false 8 (bD bN (ai (ax 0) (ai (bC 4) bx))))
  (bE (bO false 9 (pOp cH (bC 1) (bD bN (ai (ax 0) (ai (bC 60) bx)))))
  (bE (bO true 10 (c7 bx))
  (bE (eE (kL (ai (ax 3) bx)) (gtN 11) (cZ))
  (xZ (cx (ai (ax 6) (ai (ax 7) (ai (ax 4) (ai (ax 5) bx))))) 10))))))))))
def jd:PFn:=fnP [true,false] 12 i8
def aS:jd.ms=[true,false]:=rfl
def vj(T:TT w K mg):Callee P w K mg base "_law_case" 4 ["_law_feed_here", "_law_most"] (spD K mg 2 jd.F):=bU (T.d.get 64 rfl) (bJ (N:=["_law_feed_here", "_law_most", "_law_far", "_law_many", "_law_wide", "_law_high", "_law_left", "_law_top", "_law_way", "_law_same", "_law_weights", "_law_k"]) (by decide)) (λ_ _ _ _ _ _=>ar2 λ_ _=>rfl) λnd _ _ _ _ _ _ _ hr=>(bG 'd' (bG 'd' (bG 'd' (bG 'd' (bG (qW (gJ ["_law_feed_here", "_law_most", "_law_far", "_law_many", "_law_wide", "_law_high", "_law_left", "_law_top", "_law_way", "_law_same", "_law_weights", "_law_k"] (bF (top 64)).names ["_law_k", "_law_feed_here"] [none,some 0] 'd' (λnd _ _ _ _ _=>'d') (λnd _ _ _ _ _=>'d')) 'd') 'd')))))
def o8:PSt:=
 (bH (pOp bLt (pOp cq (pOp bIx (ax 0) (bC 0)) (pOp bIx (ax 1) (bC 1))) (pOp cq (pOp bIx (ax 1) (bC 0)) (pOp bIx (ax 0) (bC 1)))))
def cP:PFn:=fnP [false,false] 2 o8
def aN:cP.ms=[false,false]:=rfl
def va(T:TT w K mg):Callee P w K mg base "_law_less" 1 ["_law_one", "_law_other"] (spD K mg 2 cP.F):=bU (T.d.get 62 rfl) (bJ (N:=["_law_one", "_law_other"]) (by decide)) (λ_ _ _ _ _ _=>ar2 λ_ _=>rfl) λnd _ _ _ _ _ _ _ hr=>'d'
def oz:PSt:=
 (bH (bD cV (ai (pOp cq (pOp bIx (ax 0) (bC 0)) (pOp bIx (ax 1) (bC 1))) (ai (pOp cq (pOp bIx (ax 0) (bC 1)) (pOp bIx (ax 1) (bC 0))) bx))))
def fZ:PFn:=fnP [false,false] 2 oz
def aK:fZ.ms=[false,false]:=rfl
def uh(T:TT w K mg):Callee P w K mg base "_law_over" 2 ["_law_one", "_law_other"] (spD K mg 2 fZ.F):=bU (T.d.get 61 rfl) (bJ (N:=["_law_one", "_law_other"]) (by decide)) (λ_ _ _ _ _ _=>ar2 λ_ _=>rfl) λnd _ _ _ _ _ _ _ hr=>'d'
def nq:PSt:=
 (bE (xIf (qOf (bD cP (ai (pOp bIx (ax 0) (bC 2)) (ai (pOp bIx (ax 0) (bC 3)) bx)))) (bH (bD fZ (ai (pOp bIx (ax 0) (bC 3)) (ai (pOp bIx (ax 0) (bC 2)) bx)))) xNx)
  (bH (bD fZ (ai (pOp bIx (ax 0) (bC 2)) (ai (pOp bIx (ax 0) (bC 3)) bx)))))
def gm:PFn:=fnP [false] 1 nq
def aD:gm.ms=[false]:=rfl
def sy(T:TT w K mg):Callee P w K mg base "_law_shape" 3 ["_law_box"] (spD K mg 1 gm.F):=bU (T.d.get 66 rfl) (bJ (N:=["_law_box"]) (by decide)) (λ_ _ _ _ _ _=>ar1 λ_=>rfl) λnd _ _ _ _ _ _ _ hr=>'d'
def lJ:PSt:=
 (bO false 2 (pOp cH (ax 2) (pLC (cm (ax 2)) [none,some 3] (by decide) (gtN 0) qY (pOp cH (ax 0) (c7 (ai (ax 1) bx))))))
def jn:PSt:=
 (bE (xIf (qOf (pOp bEq (ax 1) (bZ "order"))) (bH (pLC (sO (ai (bC 1) (ai (pFn cn (ai (ax 0) bx)) bx))) [none,some 0] (by decide) (gtN 0) qY (pSl (ax 1) oN (oS (ax 0))))) xNx)
  (bE (bO false 2 (c7 (ai (c7 (ai (pOp bIx (ax 0) (bC 0)) bx)) bx)))
  (bE (eE (cm (pSl (ax 0) (oS (bC 1)) oN)) (gtN 3) (lJ))
  (bH (pSl (ax 2) oN (oS (pUn tW (bC 1))))))))
def dM:PFn:=fnP [false,false] 4 jn
def aw:dM.ms=[false,false]:=rfl
def qQ(T:TT w K mg):Callee P w K mg base "_law_firsts" 1 ["_law_numbers", "_law_kind"] (spD K mg 2 dM.F):=bU (T.d.get 67 rfl) (bJ (N:=["_law_numbers", "_law_kind", "_law_lots", "_law_number"]) (by decide)) (λ_ _ _ _ _ _=>ar2 λ_ _=>rfl) λnd _ _ _ _ _ _ _ hr=>(bG (mI 'd' (eW (iO (gJ ["_law_numbers", "_law_kind", "_law_lots", "_law_number"] (bF (top 67)).names ["_law_k", "_law_numbers"] [none,some 0] 'd' (λnd _ _ _ _ _=>'d') (λnd _ _ _ _ _=>'d')))) 'd') (bG 'd' (bG (iJ lW rfl 'd' 'd' (eW (zsS 2 nd (yV (vb (K:=K) rfl) uj 'd' (gJ ["_law_numbers", "_law_kind", "_law_lots", "_law_number"] (bF (top 67)).names ["_law_lot", "_law_number"] [none,some 3] 'd' (λnd _ _ _ _ _=>'d') (λnd _ _ _ _ _=>'d')))))) 'd')))
def se:PSt:=
 (bH (bD cV (ai (pOp cH (pOp cq (pOp bIx (ax 0) (bC 0)) (pOp bIx (ax 1) (bC 1))) (pOp cq (pOp bIx (ax 1) (bC 0)) (pOp bIx (ax 0) (bC 1)))) (ai (pOp cq (pOp bIx (ax 0) (bC 1)) (pOp bIx (ax 1) (bC 1))) bx))))
def fN:PFn:=fnP [false,false] 2 se
def aV:fN.ms=[false,false]:=rfl
def vV(T:TT w K mg):Callee P w K mg base "_law_add" 2 ["_law_one", "_law_other"] (spD K mg 2 fN.F):=bU (T.d.get 59 rfl) (bJ (N:=["_law_one", "_law_other"]) (by decide)) (λ_ _ _ _ _ _=>ar2 λ_ _=>rfl) λnd _ _ _ _ _ _ _ hr=>'d'
def m7:PSt:=
 (bH (bD cV (ai (pOp cq (pOp bIx (ax 0) (bC 0)) (pOp bIx (ax 1) (bC 0))) (ai (pOp cq (pOp bIx (ax 0) (bC 1)) (pOp bIx (ax 1) (bC 1))) bx))))
def d6:PFn:=fnP [false,false] 2 m7
def az:d6.ms=[false,false]:=rfl
def sG(T:TT w K mg):Callee P w K mg base "_law_times" 2 ["_law_one", "_law_other"] (spD K mg 2 d6.F):=bU (T.d.get 60 rfl) (bJ (N:=["_law_one", "_law_other"]) (by decide)) (λ_ _ _ _ _ _=>ar2 λ_ _=>rfl) λnd _ _ _ _ _ _ _ hr=>'d'
def fX:PSt:=
 (bE (jP 10 11 (ai (bD cV (ai (ax 8) (ai (pFn iG (ai (ax 2) bx)) bx))) (ai (bD cV (ai (ax 9) (ai (pFn iG (ai (ax 2) bx)) bx))) bx)))
  (bE (xIf (qOf (pOp bEq (ax 1) (bZ "across"))) (dD (jU 7 eR (ai (cx (ai (bD fN (ai (ax 3) (ai (bD d6 (ai (ax 5) (ai (ax 10) bx))) bx))) (ai (ax 4) (ai (bD d6 (ai (ax 5) (ai (ax 11) bx))) (ai (ax 6) bx))))) bx))) (dD (jU 7 eR (ai (cx (ai (ax 3) (ai (bD fN (ai (ax 4) (ai (bD d6 (ai (ax 6) (ai (ax 10) bx))) bx))) (ai (ax 5) (ai (bD d6 (ai (ax 6) (ai (ax 11) bx))) bx))))) bx))))
  (bO false 8 (pOp cH (ax 8) (ax 9)))))
def sd:PSt:=
 (bE (fS (ax 0) (gtX (gtT 4 (bM (gtN 3) (bM (gtN 4) (bM (gtN 5) (bM (gtN 6) cU)))))))
  (bE (bO true 7 (c7 bx))
  (bE (bO false 8 (bC 0))
  (bE (eE (cm (ax 2)) (gtN 9) (fX))
  (bH (ax 7))))))
def gG:PFn:=fnP [false,false,false] 12 sd
def aX:gG.ms=[false,false,false]:=rfl
def vP(T:TT w K mg):Callee P w K mg base "_law_cut" 3 ["_law_box", "_law_way", "_law_weights"] (spD K mg 3 gG.F):=bU (T.d.get 65 rfl) (bJ (N:=["_law_box", "_law_way", "_law_weights", "_law_left", "_law_top", "_law_wide", "_law_high", "_law_boxes", "_law_done", "_law_weight", "_law_far", "_law_part"]) (by decide)) (λ_ _ _ _ _ _=>ar3 λ_ _ _=>rfl) λnd _ _ _ _ _ _ _ hr=>'d'
def hX(s:PFx [false,false,false,false]):PSt:=
 (bE (fS (bD gG (ai (ax 0) (ai (ax 8) (ai (ax 7) bx)))) (gtX (gtU 2 (bM (gtN 9) (bM (gtN 10) cU)))))
  (bE (bO true 11 (c7 (ai (bD s.fn (ai (ax 9) (ai (ax 5) (ai (ax 2) (ai (ax 3) bx))))) (ai (bD s.fn (ai (ax 10) (ai (ax 6) (ai (ax 2) (ai (ax 3) bx))))) bx))))
  (bE (xIf (qOf (bD cP (ai (pOp bIx (ax 11) (bC 0)) (ai (pOp bIx (ax 11) (bC 1)) bx)))) (dD (xR 11 lV)) xNx)
  (xIf (qO (qOf (pOp bIs (ax 4) iY)) (qOf (bD cP (ai (pOp bIx (ax 11) (bC 0)) (ai (ax 4) bx))))) (bO false 4 (pOp bIx (ax 11) (bC 0))) xNx))))
def jl(s:PFx [false,false,false,false]):PSt:=
 (bE (bO false 6 (pLC (cm (ax 1)) [none,some 5] (by decide) (gtN 0) (qOf (pOp lj (ax 0) (ax 1))) (ax 0)))
  (bE (bO false 7 (c7 (ai (pFn iG (ai (pLC (cm (ax 5)) [none,some 2] (by decide) (gtN 0) qY (pOp bIx (ax 1) (ax 0))) bx)) (ai (pFn iG (ai (pLC (cm (ax 6)) [none,some 2] (by decide) (gtN 0) qY (pOp bIx (ax 1) (ax 0))) bx)) bx))))
  (eE (cm (c7 (ai (bZ "across") (ai (bZ "down") bx)))) (gtN 8) (hX s))))
def gj(s:PFx [false,false,false,false]):PSt:=
 (bE (xIf (qOf (pOp bEq (pFn cn (ai (ax 1) bx)) (bC 1))) (bH (bD gm (ai (ax 0) bx))) xNx)
  (bE (bO false 4 iY)
  (bE (eE (cm (bD dM (ai (ax 1) (ai (ax 3) bx)))) (gtN 5) (jl s))
  (bH (ax 4)))))
def cG:Nat->PFx [false,false,false,false]
 |0=>PFx.none [false,false,false,false]
 |n+1=>PFx.of [false,false,false,false] 12 (gj (cG n))
theorem kz(T:TT w K mg):∀n,Callee P w K mg base "_law_least" (5+n) ["_law_box", "_law_numbers", "_law_weights", "_law_kind"] (spD K mg 4 (cG n).F)
 |0=>ok0 (T.d.get 68 rfl) (bJ (N:=["_law_box", "_law_numbers", "_law_weights", "_law_kind", "_law_best", "_law_first", "_law_second", "_law_sums", "_law_way", "_law_one", "_law_other", "_law_shapes"]) (by decide)) (λ_ _ _ _ _ _=>ar4 λ_ _ _ _=>rfl)
 |
  n+1=>by
  have ih:=kz T n;show Callee _ _ _ _ _ _ _ _ (spD _ _ _ (PFx.of [false,false,false,false] 12 (gj (cG n))).F);exact qF (k:=5+n) (T.d.get 68 rfl) (bJ (N:=["_law_box", "_law_numbers", "_law_weights", "_law_kind", "_law_best", "_law_first", "_law_second", "_law_sums", "_law_way", "_law_one", "_law_other", "_law_shapes"]) (by decide)) (λ_ _ _ _ _ _=>ar4 λ_ _ _ _=>rfl) λnd _ _ _ _ _ _ _ hr=>(bG 'd' (bG 'd' (bG (iJ lW rfl 'd' 'd' (bG (Kc nd ["_law_box", "_law_numbers", "_law_weights", "_law_kind", "_law_best", "_law_first", "_law_second", "_law_sums", "_law_way", "_law_one", "_law_other", "_law_shapes"] (bF (top 68)).names ["_law_number", "_law_first"] [none,some 5] 'd' (λnd _ _ _ _ _=>'d') (λnd _ _ _ _ _=>'d') (λnd _ _ _ _ _=>'d')) (bG (zsS 7 nd (vm (cW (fR (gE (K:=K) rfl rfl) j8 rfl (T.n rfl) (by first |exact boF rfl |exact boT rfl) (cW (gJ ["_law_box", "_law_numbers", "_law_weights", "_law_kind", "_law_best", "_law_first", "_law_second", "_law_sums", "_law_way", "_law_one", "_law_other", "_law_shapes"] (bF (top 68)).names ["_law_k", "_law_weights"] [none,some 2] 'd' (λnd _ _ _ _ _=>'d') (λnd _ _ _ _ _=>'d')) 'd')) (cW (fR (gE (K:=K) rfl rfl) j8 rfl (T.n rfl) (by first |exact boF rfl |exact boT rfl) (cW (gJ ["_law_box", "_law_numbers", "_law_weights", "_law_kind", "_law_best", "_law_first", "_law_second", "_law_sums", "_law_way", "_law_one", "_law_other", "_law_shapes"] (bF (top 68)).names ["_law_k", "_law_weights"] [none,some 2] 'd' (λnd _ _ _ _ _=>'d') (λnd _ _ _ _ _=>'d')) 'd')) 'd')))) 'd'))) 'd')))
noncomputable def pA:PSt:=
 (bH (ip (pFn (eK fO) (ai (ax 0) (ai (pTy "int") bx))) (tZ (pFn (eK fO) (ai (ax 0) (ai (pTy "bool") bx))))))
noncomputable def dX:PFn:=fnP [false] 1 pA
def aM:dX.ms=[false]:=rfl
def uG(T:TT w K mg):Callee P w K mg base "is_whole" 1 ["thing"] (spD K mg 1 dX.F):=bU (T.d.get 9 rfl) (bJ (N:=["thing"]) (by decide)) (λ_ _ _ _ _ _=>ar1 λ_=>rfl) λnd _ _ _ _ _ _ _ hr=>'d'
def eU:PSt:=
 (jP 0 1 (ai (ax 1) (ai (pOp dY (ax 0) (ax 1)) bx)))
def jo:PSt:=
 (bE (jP 0 1 (ai (pFn oZ (ai (ax 0) bx)) (ai (pFn oZ (ai (ax 1) bx)) bx)))
  (bE (xWh (qOf (pOp bNe (ax 1) (bC 0))) (eU))
  (bH (ax 0))))
def dw:PFn:=fnP [false,false] 2 jo
def aa:dw.ms=[false,false]:=rfl
def mf(T:TT w K mg):Callee P w K mg base "common_divisor" 1 ["one", "other"] (spD K mg 2 dw.F):=bU (T.d.get 10 rfl) (bJ (N:=["one", "other"]) (by decide)) (λ_ _ _ _ _ _=>ar2 λ_ _=>rfl) λnd _ _ _ _ _ _ _ hr=>'d'
def lK:PSt:=
 (bE (xIf (qO (qNo (qOf (pFn (eK fO) (ai (ax 0) (ai (pTy "tuple") bx))))) (qOf (pOp bNe (pFn cn (ai (ax 0) bx)) (bC 2)))) (bH (pBl false)) xNx)
  (bE (fS (ax 0) (gtX (gtT 2 (bM (gtN 1) (bM (gtN 2) cU)))))
  (bE (xIf (qO (qNo (qOf (bD dX (ai (ax 1) bx)))) (qNo (qOf (bD dX (ai (ax 2) bx))))) (bH (pBl false)) xNx)
  (bH (ip (pOp bGe (ax 2) (bC 1)) (pOp bEq (bD dw (ai (ax 1) (ai (ax 2) bx))) (bC 1)))))))
def eG:PFn:=fnP [false] 3 lK
def ao:eG.ms=[false]:=rfl
def pv(T:TT w K mg):Callee P w K mg base "is_fraction" 2 ["thing"] (spD K mg 1 eG.F):=bU (T.d.get 11 rfl) (bJ (N:=["thing", "top", "bottom"]) (by decide)) (λ_ _ _ _ _ _=>ar1 λ_=>rfl) λnd _ _ _ _ _ _ _ hr=>'d'
def ua:PSt:=
 (bE (xIf (qO (qNo (qOf (pFn (eK fO) (ai (ax 0) (ai (pTy "tuple") bx))))) (qOf (pOp bNe (pFn cn (ai (ax 0) bx)) (bC 4)))) (bH (pBl false)) xNx)
  (bE (xIf (qNo (qOf (pFn sR (ai (pLC (cm (ax 0)) [none] (by decide) (gtN 0) qY (bD eG (ai (ax 0) bx))) bx)))) (bH (pBl false)) xNx)
  (bH (ip (pOp bGt (pOp bIx (pOp bIx (ax 0) (bC 2)) (bC 0)) (bC 0)) (pOp bGt (pOp bIx (pOp bIx (ax 0) (bC 3)) (bC 0)) (bC 0))))))
def jt:PFn:=fnP [false] 1 ua
def bg:jt.ms=[false]:=rfl
def xM(T:TT w K mg):Callee P w K mg base "is_box" 3 ["thing"] (spD K mg 1 jt.F):=bU (T.d.get 21 rfl) (bJ (N:=["thing"]) (by decide)) (λ_ _ _ _ _ _=>ar1 λ_=>rfl) λnd _ _ _ _ _ _ _ hr=>(bG 'd' (bG (mI (vt (vc (fR (allK (K:=K) rfl rfl) zM rfl (T.n rfl) (by first |exact boF rfl |exact boT rfl) (cW (gJ ["thing"] (bF (top 21)).names ["part"] [none] 'd' (λnd _ _ _ _ _=>'d') (λnd _ _ _ _ _=>'d')) 'd')))) 'd' 'd') 'd'))
def nu:PSt:=
 (xIf (qNo (qOf (bD jt (ai (ax 0) bx)))) (gh "NoBox" (ai (bZ "this is no box") bx)) xNx)
def dG:PFn:=fnP [false] 1 nu
def ay:dG.ms=[false]:=rfl
def sF(T:TT w K mg):Callee P w K mg base "check_box" 4 ["thing"] (spD K mg 1 dG.F):=bU (T.d.get 22 rfl) (bJ (N:=["thing"]) (by decide)) (λ_ _ _ _ _ _=>ar1 λ_=>rfl) λnd _ _ _ _ _ _ _ hr=>'d'
noncomputable def ny:PSt:=
 (bH (ip (bD dX (ai (ax 0) bx)) (pOp bGe (ax 0) (bC 1))))
noncomputable def fI:PFn:=fnP [false] 1 ny
def aE:fI.ms=[false]:=rfl
def sA(T:TT w K mg):Callee P w K mg base "is_weight" 2 ["thing"] (spD K mg 1 fI.F):=bU (T.d.get 25 rfl) (bJ (N:=["thing"]) (by decide)) (λ_ _ _ _ _ _=>ar1 λ_=>rfl) λnd _ _ _ _ _ _ _ hr=>'d'
def jB:PSt:=
 (bE (xIf (qO (qNo (qOf (pFn (eK fO) (ai (ax 0) (ai (pTy "list") bx))))) (qOf (pOp bEq (pFn cn (ai (ax 0) bx)) (bC 0)))) (gh "NoWeights" (ai (bZ "this is no list of weights") bx)) xNx)
  (bE (xIf (qNo (qOf (pFn sR (ai (pLC (cm (ax 0)) [none] (by decide) (gtN 0) qY (bD fI (ai (ax 0) bx))) bx)))) (gh "NoWeights" (ai (bZ "a weight is a whole number from 1 on") bx)) xNx)
  (xIf (qOf (pOp bGt (pFn cn (ai (ax 0) bx)) jC)) (gh "TooMany" (ai (bZ "these are more weights than forty") bx)) xNx)))
def c8:PFn:=fnP [false] 1 jB
def ag:c8.ms=[false]:=rfl
def mZ(T:TT w K mg):Callee P w K mg base "check_weights" 3 ["thing"] (spD K mg 1 c8.F):=bU (T.d.get 26 rfl) (bJ (N:=["thing"]) (by decide)) (λ_ _ _ _ _ _=>ar1 λ_=>rfl) λnd _ _ _ _ _ _ _ hr=>(bG 'd' (bG (mI (vt (vc (fR (allK (K:=K) rfl rfl) zM rfl (T.n rfl) (by first |exact boF rfl |exact boT rfl) (cW (gJ ["thing"] (bF (top 26)).names ["weight"] [none] 'd' (λnd _ _ _ _ _=>'d') (λnd _ _ _ _ _=>'d')) 'd')))) 'd' 'd') 'd'))
def lU:PSt:=
 (xIf (qO (qNo (qOf (pFn (eK fO) (ai (ax 0) (ai (pTy "str") bx))))) (qOf (pOp (yE "MOST_THINGS" du) (ax 0) (xY "MOST_THINGS")))) (gh "NoKind" (ai (bZ "this is no kind of trees") bx)) xNx)
noncomputable def eZ:PFn:=fnP [false] 1 lU
def au:eZ.ms=[false]:=rfl
def qV(T:TT w K mg):Callee P w K mg base "check_kind" 1 ["kind"] (spD K mg 1 eZ.F):=bU (T.d.get 33 rfl) (bJ (N:=["kind"]) (by decide)) (λ_ _ _ _ _ _=>ar1 λ_=>rfl) λnd _ _ _ _ _ _ _ hr=>'d'
def lH:PSt:=
 (bE (dD (bD dG (ai (ax 0) bx)))
  (bE (dD (bD c8 (ai (ax 1) bx)))
  (bE (dD (bD eZ (ai (ax 2) bx)))
  (xIf (qOf (pOp bGt (pFn cn (ai (ax 1) bx)) (pOp (sU "MOST_THINGS" du) (xY "MOST_THINGS") (ax 2)))) (gh "TooMany" (ai (bZ "these are more things than the kind is asked of") bx)) xNx))))
def eF:PFn:=fnP [false,false,false] 3 lH
def aj:eF.ms=[false,false,false]:=rfl
def ou(T:TT w K mg):Callee P w K mg base "check_asked" 5 ["room", "weights", "kind"] (spD K mg 3 eF.F):=bU (T.d.get 34 rfl) (bJ (N:=["room", "weights", "kind"]) (by decide)) (λ_ _ _ _ _ _=>ar3 λ_ _ _=>rfl) λnd _ _ _ _ _ _ _ hr=>'d'
def rl:PSt:=
 (bH (pOp bLt (pOp cq (pOp bIx (ax 0) (bC 0)) (pOp bIx (ax 1) (bC 1))) (pOp cq (pOp bIx (ax 1) (bC 0)) (pOp bIx (ax 0) (bC 1)))))
def d7:PFn:=fnP [false,false] 2 rl
def aY:d7.ms=[false,false]:=rfl
def vL(T:TT w K mg):Callee P w K mg base "is_less" 1 ["one", "other"] (spD K mg 2 d7.F):=bU (T.d.get 16 rfl) (bJ (N:=["one", "other"]) (by decide)) (λ_ _ _ _ _ _=>ar2 λ_ _=>rfl) λnd _ _ _ _ _ _ _ hr=>'d'
def pM:PSt:=
 (bE (dD (bD dG (ai (ax 0) bx)))
  (bE (xIf (qOf (bD d7 (ai (pOp bIx (ax 0) (bC 2)) (ai (pOp bIx (ax 0) (bC 3)) bx)))) (bH (bZ "down")) xNx)
  (bH (bZ "across"))))
def gW:PFn:=fnP [false] 1 pM
def aR:gW.ms=[false]:=rfl
def tH(T:TT w K mg):Callee P w K mg base "long_way" 5 ["box"] (spD K mg 1 gW.F):=bU (T.d.get 27 rfl) (bJ (N:=["box"]) (by decide)) (λ_ _ _ _ _ _=>ar1 λ_=>rfl) λnd _ _ _ _ _ _ _ hr=>'d'
def oB:PSt:=
 (bE (xIf (qOf (pOp bEq (ax 1) (bC 0))) (gh "NoFraction" (ai (bZ "a fraction has no bottom of 0") bx)) xNx)
  (bE (bO false 2 (bD dw (ai (ax 0) (ai (ax 1) bx))))
  (bE (xIf (qOf (pOp bLt (ax 1) (bC 0))) (bO false 2 (pUn tW (ax 2))) xNx)
  (bH (cx (ai (pOp jT (ax 0) (ax 2)) (ai (pOp jT (ax 1) (ax 2)) bx)))))))
def dC:PFn:=fnP [false,false] 3 oB
def aP:dC.ms=[false,false]:=rfl
def uZ(T:TT w K mg):Callee P w K mg base "fraction" 2 ["top", "bottom"] (spD K mg 2 dC.F):=bU (T.d.get 12 rfl) (bJ (N:=["top", "bottom", "divisor"]) (by decide)) (λ_ _ _ _ _ _=>ar2 λ_ _=>rfl) λnd _ _ _ _ _ _ _ hr=>'d'
def AA:PSt:=
 (bH (bD dC (ai (pOp cq (pOp bIx (ax 0) (bC 0)) (pOp bIx (ax 1) (bC 1))) (ai (pOp cq (pOp bIx (ax 0) (bC 1)) (pOp bIx (ax 1) (bC 0))) bx))))
def kA:PFn:=fnP [false,false] 2 AA
def bw:kA.ms=[false,false]:=rfl
def A9(T:TT w K mg):Callee P w K mg base "over" 3 ["one", "other"] (spD K mg 2 kA.F):=bU (T.d.get 15 rfl) (bJ (N:=["one", "other"]) (by decide)) (λ_ _ _ _ _ _=>ar2 λ_ _=>rfl) λnd _ _ _ _ _ _ _ hr=>'d'
def wo:PSt:=
 (bE (xIf (qOf (pOp bEq (bD gW (ai (ax 0) bx)) (bZ "across"))) (bH (bD kA (ai (pOp bIx (ax 0) (bC 2)) (ai (pOp bIx (ax 0) (bC 3)) bx)))) xNx)
  (bH (bD kA (ai (pOp bIx (ax 0) (bC 3)) (ai (pOp bIx (ax 0) (bC 2)) bx)))))
def ik:PFn:=fnP [false] 1 wo
def bt:ik.ms=[false]:=rfl
def Ac(T:TT w K mg):Callee P w K mg base "shape" 6 ["box"] (spD K mg 1 ik.F):=bU (T.d.get 28 rfl) (bJ (N:=["box"]) (by decide)) (λ_ _ _ _ _ _=>ar1 λ_=>rfl) λnd _ _ _ _ _ _ _ hr=>'d'
def oJ:PSt:=
 (bO false 2 (pOp cH (ax 2) (pLC (cm (ax 2)) [none,some 3] (by decide) (gtN 0) qY (pOp cH (ax 0) (c7 (ai (ax 1) bx))))))
def mm:PSt:=
 (bE (xIf (qOf (pOp bEq (ax 1) (bZ "order"))) (bH (pLC (sO (ai (bC 1) (ai (pFn cn (ai (ax 0) bx)) bx))) [none,some 0] (by decide) (gtN 0) qY (pSl (ax 1) oN (oS (ax 0))))) xNx)
  (bE (bO false 2 (c7 (ai (pSl (ax 0) oN (oS (bC 1))) bx)))
  (bE (eE (cm (pSl (ax 0) (oS (bC 1)) oN)) (gtN 3) (oJ))
  (bH (pSl (ax 2) oN (oS (pUn tW (bC 1))))))))
def fm:PFn:=fnP [false,false] 4 mm
def aZ:fm.ms=[false,false]:=rfl
def vK(T:TT w K mg):Callee P w K mg base "lots_of" 1 ["numbers", "kind"] (spD K mg 2 fm.F):=bU (T.d.get 37 rfl) (bJ (N:=["numbers", "kind", "lots", "number"]) (by decide)) (λ_ _ _ _ _ _=>ar2 λ_ _=>rfl) λnd _ _ _ _ _ _ _ hr=>(bG (mI 'd' (eW (iO (gJ ["numbers", "kind", "lots", "number"] (bF (top 37)).names ["many", "numbers"] [none,some 0] 'd' (λnd _ _ _ _ _=>'d') (λnd _ _ _ _ _=>'d')))) 'd') (bG 'd' (bG (iJ lW rfl 'd' 'd' (eW (zsS 2 nd (yV (vb (K:=K) rfl) uj 'd' (gJ ["numbers", "kind", "lots", "number"] (bF (top 37)).names ["lot", "number"] [none,some 3] 'd' (λnd _ _ _ _ _=>'d') (λnd _ _ _ _ _=>'d')))))) 'd')))
def lB:PSt:=
 (dD (jU 2 eR (ai (cx (ai (ax 4) (ai (pFn oC (ai (ax 3) bx)) (ai (pLC (cm (ax 0)) [none,some 3] (by decide) (gtN 0) (qOf (pOp lj (ax 0) (ax 1))) (ax 0)) bx)))) bx)))
def i9:PSt:=
 (eE (cm pZ) (gtN 4) (lB))
def rq:PSt:=
 (bE (bO true 2 (c7 bx))
  (bE (eE (cm (bD fm (ai (ax 0) (ai (ax 1) bx)))) (gtN 3) (i9))
  (bH (ax 2))))
def fk:PFn:=fnP [false,false] 5 rq
def aU:fk.ms=[false,false]:=rfl
def vT(T:TT w K mg):Callee P w K mg base "cuts_of" 2 ["numbers", "kind"] (spD K mg 2 fk.F):=bU (T.d.get 38 rfl) (bJ (N:=["numbers", "kind", "cuts", "lot", "way"]) (by decide)) (λ_ _ _ _ _ _=>ar2 λ_ _=>rfl) λnd _ _ _ _ _ _ _ hr=>(bG 'd' (bG (iJ lW rfl 'd' 'd' (eW (iJ lW rfl 'd' 'd' (eW (wj (zE rfl PySem.F.slot_list_append PySem.F.type_list_append rL rM 'd' (cW (Ad (cW 'd' (cW 'd' (cW (Kj ["numbers", "kind", "cuts", "lot", "way"] (bF (top 38)).names ["number", "lot"] [none,some 3] 'd' (λnd _ _ _ _ _=>'d') (λnd _ _ _ _ _=>'d') (λnd _ _ _ _ _=>'d')) 'd')))) 'd'))))))) 'd'))
noncomputable def tT:PSt:=
 (bH (ip (pFn (eK fO) (ai (ax 0) (ai (pTy "str") bx))) (pOp bIn (ax 0) pZ)))
noncomputable def jr:PFn:=fnP [false] 1 tT
def bc:jr.ms=[false]:=rfl
def yb(T:TT w K mg):Callee P w K mg base "is_way" 1 ["thing"] (spD K mg 1 jr.F):=bU (T.d.get 23 rfl) (bJ (N:=["thing"]) (by decide)) (λ_ _ _ _ _ _=>ar1 λ_=>rfl) λnd _ _ _ _ _ _ _ hr=>'d'
noncomputable def ng:PSt:=
 (xIf (qNo (qOf (bD jr (ai (ax 0) bx)))) (gh "NoWay" (ai (bZ "this is no way") bx)) xNx)
noncomputable def gk:PFn:=fnP [false] 1 ng
def aC:gk.ms=[false]:=rfl
def so(T:TT w K mg):Callee P w K mg base "check_way" 2 ["way"] (spD K mg 1 gk.F):=bU (T.d.get 24 rfl) (bJ (N:=["way"]) (by decide)) (λ_ _ _ _ _ _=>ar1 λ_=>rfl) λnd _ _ _ _ _ _ _ hr=>'d'
def wL:PSt:=
 (bH (bD dC (ai (pOp cH (pOp cq (pOp bIx (ax 0) (bC 0)) (pOp bIx (ax 1) (bC 1))) (pOp cq (pOp bIx (ax 1) (bC 0)) (pOp bIx (ax 0) (bC 1)))) (ai (pOp cq (pOp bIx (ax 0) (bC 1)) (pOp bIx (ax 1) (bC 1))) bx))))
def kD:PFn:=fnP [false,false] 2 wL
def bo:kD.ms=[false,false]:=rfl
def zN(T:TT w K mg):Callee P w K mg base "added" 3 ["one", "other"] (spD K mg 2 kD.F):=bU (T.d.get 13 rfl) (bJ (N:=["one", "other"]) (by decide)) (λ_ _ _ _ _ _=>ar2 λ_ _=>rfl) λnd _ _ _ _ _ _ _ hr=>'d'
def wb:PSt:=
 (bH (bD dC (ai (pOp cq (pOp bIx (ax 0) (bC 0)) (pOp bIx (ax 1) (bC 0))) (ai (pOp cq (pOp bIx (ax 0) (bC 1)) (pOp bIx (ax 1) (bC 1))) bx))))
def ir:PFn:=fnP [false,false] 2 wb
def bq:ir.ms=[false,false]:=rfl
def zu(T:TT w K mg):Callee P w K mg base "times" 3 ["one", "other"] (spD K mg 2 ir.F):=bU (T.d.get 14 rfl) (bJ (N:=["one", "other"]) (by decide)) (λ_ _ _ _ _ _=>ar2 λ_ _=>rfl) λnd _ _ _ _ _ _ _ hr=>'d'
def jD:PSt:=
 (bE (bO false 7 (bD kD (ai (ax 0) (ai (bD ir (ai (ax 1) (ai (bD dC (ai (ax 4) (ai (ax 3) bx))) bx))) bx))))
  (bE (dD (jU 5 eR (ai (cx (ai (ax 7) (ai (bD ir (ai (ax 1) (ai (bD dC (ai (ax 6) (ai (ax 3) bx))) bx))) bx))) bx)))
  (CI 4 Cm (ax 6))))
def vk:PSt:=
 (bE (bO false 3 (pFn iG (ai (ax 2) bx)))
  (bE (bO false 4 (bC 0))
  (bE (bO true 5 (c7 bx))
  (bE (eE (cm (ax 2)) (gtN 6) (jD))
  (bH (ax 5))))))
def ie:PFn:=fnP [false,false,false] 8 vk
def bf:ie.ms=[false,false,false]:=rfl
def xH(T:TT w K mg):Callee P w K mg base "shares" 4 ["start", "length", "weights"] (spD K mg 3 ie.F):=bU (T.d.get 29 rfl) (bJ (N:=["start", "length", "weights", "whole", "ahead", "found", "weight", "begin"]) (by decide)) (λ_ _ _ _ _ _=>ar3 λ_ _ _=>rfl) λnd _ _ _ _ _ _ _ hr=>'d'
def ui:PSt:=
 (bE (dD (bD dG (ai (ax 0) bx)))
  (bE (dD (bD gk (ai (ax 1) bx)))
  (bE (dD (bD c8 (ai (ax 2) bx)))
  (bE (fS (ax 0) (gtX (gtT 4 (bM (gtN 3) (bM (gtN 4) (bM (gtN 5) (bM (gtN 6) cU)))))))
  (bE (xIf (qOf (pOp bEq (ax 1) (bZ "across"))) (bH (pLC (cm (bD ie (ai (ax 3) (ai (ax 5) (ai (ax 2) bx))))) [none,none,some 4,some 6] (by decide) (gtT 2 (bM (gtN 0) (bM (gtN 1) cU))) qY (cx (ai (ax 0) (ai (ax 2) (ai (ax 1) (ai (ax 3) bx))))))) xNx)
  (bH (pLC (cm (bD ie (ai (ax 4) (ai (ax 6) (ai (ax 2) bx))))) [none,none,some 3,some 5] (by decide) (gtT 2 (bM (gtN 0) (bM (gtN 1) cU))) qY (cx (ai (ax 2) (ai (ax 0) (ai (ax 3) (ai (ax 1) bx))))))))))))
def hZ:PFn:=fnP [false,false,false] 7 ui
def bj:hZ.ms=[false,false,false]:=rfl
def xu(T:TT w K mg):Callee P w K mg base "parted" 5 ["box", "way", "weights"] (spD K mg 3 hZ.F):=bU (T.d.get 30 rfl) (bJ (N:=["box", "way", "weights", "left", "top", "wide", "high"]) (by decide)) (λ_ _ _ _ _ _=>ar3 λ_ _ _=>rfl) λnd _ _ _ _ _ _ _ hr=>(bG 'd' (bG 'd' (bG 'd' (bG 'd' (bG (mI 'd' (eW (iO (gJ ["box", "way", "weights", "left", "top", "wide", "high"] (bF (top 30)).names ["begin", "length", "top", "high"] [none,none,some 4,some 6] 'd' (λnd _ _ _ _ _=>'d') (λnd _ _ _ _ _=>'d')))) 'd') (eW (iO (gJ ["box", "way", "weights", "left", "top", "wide", "high"] (bF (top 30)).names ["begin", "length", "left", "wide"] [none,none,some 3,some 5] 'd' (λnd _ _ _ _ _=>'d') (λnd _ _ _ _ _=>'d')))))))))
def nj:PSt:=
 (bH (pFn iG (ai (pLC (cm (ax 0)) [none,some 1] (by decide) (gtN 0) qY (pOp bIx (ax 1) (ax 0))) bx)))
def d8:PFn:=fnP [false,false] 2 nj
def aB:d8.ms=[false,false]:=rfl
def sv(T:TT w K mg):Callee P w K mg base "weight_of" 1 ["numbers", "weights"] (spD K mg 2 d8.F):=bU (T.d.get 40 rfl) (bJ (N:=["numbers", "weights"]) (by decide)) (λ_ _ _ _ _ _=>ar2 λ_ _=>rfl) λnd _ _ _ _ _ _ _ hr=>(eW (iO (fR (gE (K:=K) rfl rfl) j8 rfl (T.n rfl) (by first |exact boF rfl |exact boT rfl) (cW (gJ ["numbers", "weights"] (bF (top 40)).names ["number", "weights"] [none,some 1] 'd' (λnd _ _ _ _ _=>'d') (λnd _ _ _ _ _=>'d')) 'd'))))
def pq:PSt:=
 (bE (fS (ax 0) (gtX (gtT 3 (bM (gtN 3) (bM (gtN 4) (bM (gtN 5) cU))))))
  (bH (bD hZ (ai (ax 1) (ai (ax 3) (ai (c7 (ai (bD d8 (ai (ax 4) (ai (ax 2) bx))) (ai (bD d8 (ai (ax 5) (ai (ax 2) bx))) bx))) bx))))))
def eJ:PFn:=fnP [false,false,false] 6 pq
def aG:eJ.ms=[false,false,false]:=rfl
def um(T:TT w K mg):Callee P w K mg base "parts_by" 6 ["cut", "room", "weights"] (spD K mg 3 eJ.F):=bU (T.d.get 39 rfl) (bJ (N:=["cut", "room", "weights", "way", "first", "second"]) (by decide)) (λ_ _ _ _ _ _=>ar3 λ_ _ _=>rfl) λnd _ _ _ _ _ _ _ hr=>'d'
def jY:PSt:=
 (xIf (qOf (bD d7 (ai (ax 1) (ai (ax 2) bx)))) (bO false 1 (ax 2)) xNx)
def lL:PSt:=
 (bE (bO false 1 (pOp bIx (ax 0) (bC 0)))
  (bE (eE (cm (ax 0)) (gtN 2) (jY))
  (bH (ax 1))))
def fF:PFn:=fnP [false] 3 lL
def ak:fF.ms=[false]:=rfl
def oo(T:TT w K mg):Callee P w K mg base "greatest_of" 2 ["fractions"] (spD K mg 1 fF.F):=bU (T.d.get 17 rfl) (bJ (N:=["fractions", "found", "one"]) (by decide)) (λ_ _ _ _ _ _=>ar1 λ_=>rfl) λnd _ _ _ _ _ _ _ hr=>'d'
def eX(s:PFx [false,false,false,false]):PSt:=
 (bE (fS (bD eJ (ai (ax 5) (ai (ax 0) (ai (ax 1) bx)))) (gtX (gtU 2 (bM (gtN 6) (bM (gtN 7) cU)))))
  (bE (bO false 8 (bD s.fn (ai (ax 6) (ai (ax 1) (ai (ax 2) (ai (pOp bIx (ax 5) (bC 1)) bx))))))
  (bE (xIf (qAn (qOf (pOp yu (ax 4) iY)) (qNo (qOf (bD d7 (ai (pOp bIx (ax 8) (bC 0)) (ai (pOp bIx (ax 4) (bC 0)) bx)))))) xCt xNx)
  (bE (bO false 9 (bD s.fn (ai (ax 7) (ai (ax 1) (ai (ax 2) (ai (pOp bIx (ax 5) (bC 2)) bx))))))
  (bE (bO false 10 (bD fF (ai (c7 (ai (pOp bIx (ax 8) (bC 0)) (ai (pOp bIx (ax 9) (bC 0)) bx))) bx)))
  (xIf (qO (qOf (pOp bIs (ax 4) iY)) (qOf (bD d7 (ai (ax 10) (ai (pOp bIx (ax 4) (bC 0)) bx))))) (bO false 4 (cx (ai (ax 10) (ai (cx (ai (pOp bIx (ax 5) (bC 0)) (ai (cx (ai (pOp bIx (ax 8) (bC 1)) (ai (pOp bIx (ax 9) (bC 1)) bx))) bx))) bx)))) xNx))))))
def gn(s:PFx [false,false,false,false]):PSt:=
 (bE (xIf (qOf (pOp bEq (pFn cn (ai (ax 3) bx)) (bC 1))) (bH (cx (ai (bD ik (ai (ax 0) bx)) (ai (pOp bIx (ax 3) (bC 0)) bx)))) xNx)
  (bE (bO false 4 iY)
  (bE (eE (cm (bD fk (ai (ax 3) (ai (ax 2) bx)))) (gtN 5) (eX s))
  (bH (ax 4)))))
def eP:Nat->PFx [false,false,false,false]
 |0=>PFx.none [false,false,false,false]
 |n+1=>PFx.of [false,false,false,false] 11 (gn (eP n))
theorem kB(T:TT w K mg):∀n,Callee P w K mg base "best_tree" (8+n) ["room", "weights", "kind", "numbers"] (spD K mg 4 (eP n).F)
 |0=>ok0 (T.d.get 36 rfl) (bJ (N:=["room", "weights", "kind", "numbers", "best", "cut", "first", "second", "one", "other", "greatest"]) (by decide)) (λ_ _ _ _ _ _=>ar4 λ_ _ _ _=>rfl)
 |
  n+1=>by
  have ih:=kB T n;show Callee _ _ _ _ _ _ _ _ (spD _ _ _ (PFx.of [false,false,false,false] 11 (gn (eP n))).F);exact qF (k:=8+n) (T.d.get 36 rfl) (bJ (N:=["room", "weights", "kind", "numbers", "best", "cut", "first", "second", "one", "other", "greatest"]) (by decide)) (λ_ _ _ _ _ _=>ar4 λ_ _ _ _=>rfl) λnd _ _ _ _ _ _ _ hr=>'d'
def lI:PSt:=
 (bE (dD (bD eF (ai (ax 0) (ai (ax 1) (ai (ax 2) bx)))))
  (bH (bD (eP 7).fn (ai (ax 0) (ai (ax 1) (ai (ax 2) (ai (pFn iH (ai (pFn cn (ai (ax 1) bx)) bx)) bx)))))))
def dS:PFn:=fnP [false,false,false] 3 lI
def aq:dS.ms=[false,false,false]:=rfl
def pI(T:TT w K mg):Callee P w K mg base "least_worst" 16 ["room", "weights", "kind"] (spD K mg 3 dS.F):=bU (T.d.get 35 rfl) (bJ (N:=["room", "weights", "kind"]) (by decide)) (λ_ _ _ _ _ _=>ar3 λ_ _ _=>rfl) λnd _ _ _ _ _ _ _ hr=>'d'
def uV:PSt:=
 (bH (tZ (bD d7 (ai (bD ik (ai (ax 0) bx)) (ai (pOp bIx (ax 1) (bC 2)) bx)))))
def iB:PFn:=fnP [false,false] 2 uV
def bh:iB.ms=[false,false]:=rfl
def x8(T:TT w K mg):Callee P w K mg base "is_far" 7 ["room", "asked"] (spD K mg 2 iB.F):=bU (T.d.get 48 rfl) (bJ (N:=["room", "asked"]) (by decide)) (λ_ _ _ _ _ _=>ar2 λ_ _=>rfl) λnd _ _ _ _ _ _ _ hr=>'d'
def oq:PSt:=
 (bH (bD ir (ai (bD ik (ai (ax 0) bx)) (ai (bD dC (ai (ax 1) (ai (ax 2) bx))) bx))))
def gR:PFn:=fnP [false,false,false] 3 oq
def aT:gR.ms=[false,false,false]:=rfl
def sX(T:TT w K mg):Callee P w K mg base "thinness" 7 ["room", "weight", "whole"] (spD K mg 3 gR.F):=bU (T.d.get 42 rfl) (bJ (N:=["room", "weight", "whole"]) (by decide)) (λ_ _ _ _ _ _=>ar3 λ_ _ _=>rfl) λnd _ _ _ _ _ _ _ hr=>'d'
def sg:PSt:=
 (bE (fS (ax 3) (gtX (gtT 3 (bM (gtN 4) (bM (gtN 5) (bM (gtN 6) cU))))))
  (bH (tZ (bD d7 (ai (bD gR (ai (ax 1) (ai (pOp bIx (ax 4) (ax 0)) (ai (bD d8 (ai (ax 2) (ai (ax 4) bx))) bx)))) (ai (ax 6) bx))))))
def gC:PFn:=fnP [false,false,false,false] 7 sg
def a8:gC.ms=[false,false,false,false]:=rfl
def vO(T:TT w K mg):Callee P w K mg base "is_thin" 8 ["number", "room", "numbers", "asked"] (spD K mg 4 gC.F):=bU (T.d.get 47 rfl) (bJ (N:=["number", "room", "numbers", "asked", "weights", "kind", "bound"]) (by decide)) (λ_ _ _ _ _ _=>ar4 λ_ _ _ _=>rfl) λnd _ _ _ _ _ _ _ hr=>'d'
def jV(s:PFx [false,false,false]):PSt:=
 (bE (bO false 5 (bD s.fn (ai (ax 4) (ai (pOp bIx (ax 0) (pOp cH (ax 3) (bC 1))) (ai (ax 2) bx)))))
  (xIf (qOf (pOp yu (ax 5) iY)) (bH (cx (ai (ax 3) (ai (ax 5) bx)))) xNx))
def lN(s:PFx [false,false,false]):PSt:=
 (bE (eE (yR (ai (bD eJ (ai (ax 0) (ai (ax 1) (ai (pOp bIx (ax 2) (bC 0)) bx)))) bx)) (gtX (gtT 2 (bM (gtN 3) (bM (gtN 4) cU)))) (jV s))
  (bH iY))
def cS(s:PFx [false,false,false]):PFn:=fnP [false,false,false] 6 (lN s)
def ar(s:PFx [false,false,false]):(cS s).ms=[false,false,false]:=rfl
def o9(T:TT w K mg){s:PFx [false,false,false]}{k:Nat}(ih:Callee P w K mg base "barring" k ["room", "numbers", "asked"] (spD K mg 3 s.F))(hk:10<=k:=by omega):Callee P w K mg base "barring_row" (k+1) ["cut", "room", "asked"] (spD K mg 3 (cS s).F):=bU (T.d.get 50 rfl) (bJ (N:=["cut", "room", "asked", "at", "part", "paper"]) (by decide)) (λ_ _ _ _ _ _=>ar3 λ_ _ _=>rfl) λnd _ _ _ _ _ _ _ hr=>'d'
def gP(s:PFx [false,false,false]):PSt:=
 (xIf (qOf (bD gC (ai (ax 3) (ai (ax 0) (ai (ax 1) (ai (ax 2) bx)))))) (bH (cx (ai (bZ "thin") (ai (ax 3) bx)))) xNx)
def fD(s:PFx [false,false,false]):PSt:=
 (bE (bO false 6 (bD (cS s) (ai (ax 5) (ai (ax 0) (ai (ax 2) bx)))))
  (bE (xIf (qOf (pOp bIs (ax 6) iY)) (bH iY) xNx)
  (dD (jU 4 eR (ai (ax 6) bx)))))
def jH(s:PFx [false,false,false]):PSt:=
 (bE (xIf (qOf (pOp bEq (pFn cn (ai (ax 1) bx)) (bC 1))) (bH (pIf (qOf (bD iB (ai (ax 0) (ai (ax 2) bx)))) (cx (ai (bZ "shape") bx)) iY)) xNx)
  (bE (eE (cm (ax 1)) (gtN 3) (gP s))
  (bE (bO true 4 (c7 bx))
  (bE (eE (cm (bD fk (ai (ax 1) (ai (pOp bIx (ax 2) (bC 1)) bx)))) (gtN 5) (fD s))
  (bH (cx (ai (bZ "cases") (ai (pFn kf (ai (ax 4) bx)) bx))))))))
def fi:Nat->PFx [false,false,false]
 |0=>PFx.none [false,false,false]
 |n+1=>PFx.of [false,false,false] 7 (jH (fi n))
theorem lR(T:TT w K mg):∀n,Callee P w K mg base "barring" (10+2*n) ["room", "numbers", "asked"] (spD K mg 3 (fi n).F)
 |0=>ok0 (T.d.get 49 rfl) (bJ (N:=["room", "numbers", "asked", "number", "rows", "cut", "row"]) (by decide)) (λ_ _ _ _ _ _=>ar3 λ_ _ _=>rfl)
 |
  n+1=>by
  have ih:=lR T n;show Callee _ _ _ _ _ _ (10+2*n+1+1) _ (spD _ _ _ (PFx.of [false,false,false] 7 (jH (fi n))).F);exact qF (k:=10+2*n+1) (T.d.get 49 rfl) (bJ (N:=["room", "numbers", "asked", "number", "rows", "cut", "row"]) (by decide)) (λ_ _ _ _ _ _=>ar3 λ_ _ _=>rfl) λnd _ _ _ _ _ _ _ hr=>'d'
def pL:PSt:=
 (bE (bO false 3 (pOp bIx (bD dS (ai (ax 0) (ai (ax 1) (ai (ax 2) bx)))) (bC 0)))
  (bH (bD (fi 7).fn (ai (ax 0) (ai (pFn iH (ai (pFn cn (ai (ax 1) bx)) bx)) (ai (cx (ai (ax 1) (ai (ax 2) (ai (ax 3) bx)))) bx))))))
def fU:PFn:=fnP [false,false,false] 4 pL
def aH:fU.ms=[false,false,false]:=rfl
def uE(T:TT w K mg):Callee P w K mg base "paper_of" 25 ["room", "weights", "kind"] (spD K mg 3 fU.F):=bU (T.d.get 45 rfl) (bJ (N:=["room", "weights", "kind", "bound"]) (by decide)) (λ_ _ _ _ _ _=>ar3 λ_ _ _=>rfl) λnd _ _ _ _ _ _ _ hr=>'d'
def l8:PSt:=
 (bE (dD (bD eZ (ai (ax 1) bx)))
  (bH (bD fk (ai (ax 0) (ai (ax 1) bx)))))
def fb:PFn:=fnP [false,false] 2 l8
def av:fb.ms=[false,false]:=rfl
def qf(T:TT w K mg):Callee P w K mg base "first_cuts" 3 ["numbers", "kind"] (spD K mg 2 fb.F):=bU (T.d.get 44 rfl) (bJ (N:=["numbers", "kind"]) (by decide)) (λ_ _ _ _ _ _=>ar2 λ_ _=>rfl) λnd _ _ _ _ _ _ _ hr=>'d'
def jc(s:PFx [false,false,true,false]):PSt:=
 (bE (bO false 8 (bD bN (ai (ax 2) (ai (bC 2) bx))))
  (dD (jU 4 eR (ai (cx (ai (ax 8) (ai (bD s.fn (ai (pOp bIx (c7 (ai (ax 6) (ai (ax 7) bx))) (ax 8)) (ai (ax 1) (ai (ax 2) (ai (pOp pW (ax 3) (bC 1)) bx))))) bx))) bx))))
def fj(s:PFx [false,false,true,false]):PSt:=
 (bE (xIf (qAn (qOf (pOp bEq (pFn cn (ai (ax 0) bx)) (bC 1))) (qOf (pOp bGt (bD bN (ai (ax 2) (ai (bC 6) bx))) (bC 0)))) (bH (cx (ai (bZ "shape") bx))) xNx)
  (bE (xIf (qO (qOf (pOp bEq (pFn cn (ai (ax 0) bx)) (bC 1))) (qO (qOf (pOp bEq (ax 3) (bC 0))) (qOf (pOp bEq (bD bN (ai (ax 2) (ai (bC 3) bx))) (bC 0))))) (bH (cx (ai (bZ "thin") (ai (pOp bIx (ax 0) (bD bN (ai (ax 2) (ai (pFn cn (ai (ax 0) bx)) bx)))) bx)))) xNx)
  (bE (bO true 4 (c7 bx))
  (bE (eE (cm (bD fb (ai (ax 0) (ai (ax 1) bx)))) (gtX (gtT 3 (bM (gtN 5) (bM (gtN 6) (bM (gtN 7) cU))))) (jc s))
  (bH (cx (ai (bZ "cases") (ai (pFn kf (ai (ax 4) bx)) bx))))))))
def fo:Nat->PFx [false,false,true,false]
 |0=>PFx.none [false,false,true,false]
 |n+1=>PFx.of [false,false,true,false] 9 (fj (fo n))
theorem md(T:TT w K mg):∀n,Callee P w K mg base "_law_any" (5+n) ["_law_numbers", "_law_kind", "_law_feed_here", "_law_deep"] (spD K mg 4 (fo n).F)
 |0=>ok0 (T.d.get 69 rfl) (bJ (N:=["_law_numbers", "_law_kind", "_law_feed_here", "_law_deep", "_law_rows", "_law_way", "_law_first", "_law_second", "_law_part"]) (by decide)) (λ_ _ _ _ _ _=>ar4 λ_ _ _ _=>rfl)
 |
  n+1=>by
  have ih:=md T n;show Callee _ _ _ _ _ _ _ _ (spD _ _ _ (PFx.of [false,false,true,false] 9 (fj (fo n))).F);exact qF (k:=5+n) (T.d.get 69 rfl) (bJ (N:=["_law_numbers", "_law_kind", "_law_feed_here", "_law_deep", "_law_rows", "_law_way", "_law_first", "_law_second", "_law_part"]) (by decide)) (λ_ _ _ _ _ _=>ar4 λ_ _ _ _=>rfl) λnd _ _ _ _ _ _ _ hr=>'d'
def eu(s:PFx [false,false,false,false,false,true]):PSt:=
 (xIf (qNo (qOf (bD cP (ai (bD (cG 7).fn (ai (pOp bIx (ax 11) (ax 13)) (ai (pOp bIx (c7 (ai (ax 8) (ai (ax 9) bx))) (ax 13)) (ai (ax 2) (ai (ax 3) bx))))) (ai (ax 4) bx))))) (bO false 12 (ax 13)) xNx)
def gO(s:PFx [false,false,false,false,false,true]):PSt:=
 (bE (bO false 10 (c7 (ai (pFn iG (ai (pLC (cm (ax 8)) [none,some 2] (by decide) (gtN 0) qY (pOp bIx (ax 1) (ax 0))) bx)) (ai (pFn iG (ai (pLC (cm (ax 9)) [none,some 2] (by decide) (gtN 0) qY (pOp bIx (ax 1) (ax 0))) bx)) bx))))
  (bE (bO false 11 (bD gG (ai (ax 0) (ai (ax 7) (ai (ax 10) bx)))))
  (bE (bO false 12 (bD bN (ai (ax 5) (ai (bC 2) bx))))
  (bE (eE (kL (ai (bC 2) bx)) (gtN 13) (eu s))
  (dD (jU 6 eR (ai (cx (ai (ax 12) (ai (bD s.fn (ai (pOp bIx (ax 11) (ax 12)) (ai (pOp bIx (c7 (ai (ax 8) (ai (ax 9) bx))) (ax 12)) (ai (ax 2) (ai (ax 3) (ai (ax 4) (ai (ax 5) bx))))))) bx))) bx)))))))
def gq(s:PFx [false,false,false,false,false,true]):PSt:=
 (bE (xIf (qOf (pOp bEq (pFn cn (ai (ax 1) bx)) (bC 1))) (bH (cx (ai (bZ "shape") bx))) xNx)
  (bE (bO true 6 (c7 bx))
  (bE (eE (cm (bD fb (ai (ax 1) (ai (ax 3) bx)))) (gtX (gtT 3 (bM (gtN 7) (bM (gtN 8) (bM (gtN 9) cU))))) (gO s))
  (bH (cx (ai (bZ "cases") (ai (pFn kf (ai (ax 6) bx)) bx)))))))
def dZ:Nat->PFx [false,false,false,false,false,true]
 |0=>PFx.none [false,false,false,false,false,true]
 |n+1=>PFx.of [false,false,false,false,false,true] 14 (gq (dZ n))
theorem jX(T:TT w K mg):∀n,Callee P w K mg base "_law_aimed" (14+n) ["_law_box", "_law_numbers", "_law_weights", "_law_kind", "_law_bound", "_law_feed_here"] (spD K mg 6 (dZ n).F)
 |0=>ok0 (T.d.get 70 rfl) (bJ (N:=["_law_box", "_law_numbers", "_law_weights", "_law_kind", "_law_bound", "_law_feed_here", "_law_rows", "_law_way", "_law_first", "_law_second", "_law_sums", "_law_parts", "_law_part", "_law_k"]) (by decide)) (λ_ _ _ _ _ _=>ar6 λ_ _ _ _ _ _=>rfl)
 |
  n+1=>by
  have ih:=jX T n;show Callee _ _ _ _ _ _ _ _ (spD _ _ _ (PFx.of [false,false,false,false,false,true] 14 (gq (dZ n))).F);exact qF (k:=14+n) (T.d.get 70 rfl) (bJ (N:=["_law_box", "_law_numbers", "_law_weights", "_law_kind", "_law_bound", "_law_feed_here", "_law_rows", "_law_way", "_law_first", "_law_second", "_law_sums", "_law_parts", "_law_part", "_law_k"]) (by decide)) (λ_ _ _ _ _ _=>ar6 λ_ _ _ _ _ _=>rfl) λnd _ _ _ _ _ _ _ hr=>(bG 'd' (bG 'd' (bG (iJ lW rfl 'd' 'd' (bG (zsS 10 nd (vm (cW (fR (gE (K:=K) rfl rfl) j8 rfl (T.n rfl) (by first |exact boF rfl |exact boT rfl) (cW (gJ ["_law_box", "_law_numbers", "_law_weights", "_law_kind", "_law_bound", "_law_feed_here", "_law_rows", "_law_way", "_law_first", "_law_second", "_law_sums", "_law_parts", "_law_part", "_law_k"] (bF (top 70)).names ["_law_k", "_law_weights"] [none,some 2] 'd' (λnd _ _ _ _ _=>'d') (λnd _ _ _ _ _=>'d')) 'd')) (cW (fR (gE (K:=K) rfl rfl) j8 rfl (T.n rfl) (by first |exact boF rfl |exact boT rfl) (cW (gJ ["_law_box", "_law_numbers", "_law_weights", "_law_kind", "_law_bound", "_law_feed_here", "_law_rows", "_law_way", "_law_first", "_law_second", "_law_sums", "_law_parts", "_law_part", "_law_k"] (bF (top 70)).names ["_law_k", "_law_weights"] [none,some 2] 'd' (λnd _ _ _ _ _=>'d') (λnd _ _ _ _ _=>'d')) 'd')) 'd')))) 'd')) 'd')))
def oi(s:PFx [false,false,false,false]):PSt:=
 (bE (xIf (qO (qNo (qOf (pFn (eK fO) (ai (ax 0) (ai (pTy "tuple") bx))))) (qOf (pOp bNe (pFn cn (ai (ax 0) bx)) (bC 2)))) (bH (pBl false)) xNx)
  (bE (fS (ax 0) (gtX (gtT 2 (bM (gtN 4) (bM (gtN 5) cU)))))
  (bE (xIf (qO (qNo (qOf (bD dX (ai (ax 4) bx)))) (qOf (pOp lj (ax 4) (cx (ai (bC 0) (ai (bC 1) bx)))))) (bH (pBl false)) xNx)
  (bH (bD s.fn (ai (ax 5) (ai (pOp bIx (bD eJ (ai (ax 1) (ai (ax 2) (ai (pOp bIx (ax 3) (bC 0)) bx)))) (ax 4)) (ai (pOp bIx (ax 1) (pOp cH (ax 4) (bC 1))) (ai (ax 3) bx)))))))))
def fE(s:PFx [false,false,false,false]):PFn:=fnP [false,false,false,false] 6 (oi s)
def aJ(s:PFx [false,false,false,false]):(fE s).ms=[false,false,false,false]:=rfl
def vA(T:TT w K mg){s:PFx [false,false,false,false]}{k:Nat}(ih:Callee P w K mg base "bars" k ["paper", "room", "numbers", "asked"] (spD K mg 4 s.F))(hk:10<=k:=by omega):Callee P w K mg base "row_bars" (k+1) ["row", "cut", "room", "asked"] (spD K mg 4 (fE s).F):=bU (T.d.get 53 rfl) (bJ (N:=["row", "cut", "room", "asked", "at", "paper"]) (by decide)) (λ_ _ _ _ _ _=>ar4 λ_ _ _ _=>rfl) λnd _ _ _ _ _ _ _ hr=>'d'
def ek(s:PFx [false,false,false,false]):PSt:=
 (xIf (qNo (qOf (bD (fE s) (ai (ax 5) (ai (ax 6) (ai (ax 1) (ai (ax 3) bx))))))) (bH (pBl false)) xNx)
def jK(s:PFx [false,false,false,false]):PSt:=
 (bE (bO false 4 (bD fk (ai (ax 2) (ai (pOp bIx (ax 3) (bC 1)) bx))))
  (bE (xIf (qOf (pOp bNe (pFn cn (ai (ax 0) bx)) (pFn cn (ai (ax 4) bx)))) (bH (pBl false)) xNx)
  (bE (eE (yD (ai (ax 0) (ai (ax 4) bx))) (gtX (gtT 2 (bM (gtN 5) (bM (gtN 6) cU)))) (ek s))
  (bH (pBl true)))))
def eN(s:PFx [false,false,false,false]):PFn:=fnP [false,false,false,false] 7 (jK s)
def af(s:PFx [false,false,false,false]):(eN s).ms=[false,false,false,false]:=rfl
def mY(T:TT w K mg){s:PFx [false,false,false,false]}{k:Nat}(ih:Callee P w K mg base "bars" k ["paper", "room", "numbers", "asked"] (spD K mg 4 s.F))(hk:10<=k:=by omega):Callee P w K mg base "all_cases_bar" (k+2) ["rows", "room", "numbers", "asked"] (spD K mg 4 (eN s).F):=bU (T.d.get 52 rfl) (bJ (N:=["rows", "room", "numbers", "asked", "cuts", "row", "cut"]) (by decide)) (λ_ _ _ _ _ _=>ar4 λ_ _ _ _=>rfl) λnd _ _ _ _ _ _ _ hr=>'d'
def iP(s:PFx [false,false,false,false]):PSt:=
 (bE (xIf (qNo (qOf (pFn (eK fO) (ai (ax 0) (ai (pTy "tuple") bx))))) (bH (pBl false)) xNx)
  (bE (xIf (qOf (pOp bEq (pFn cn (ai (ax 0) bx)) (bC 1))) (bH (ip (pOp bEq (pOp bIx (ax 0) (bC 0)) (bZ "shape")) (ip (pOp bEq (pFn cn (ai (ax 2) bx)) (bC 1)) (bD iB (ai (ax 1) (ai (ax 3) bx)))))) xNx)
  (bE (xIf (qOf (pOp bNe (pFn cn (ai (ax 0) bx)) (bC 2))) (bH (pBl false)) xNx)
  (bE (fS (ax 0) (gtX (gtT 2 (bM (gtN 4) (bM (gtN 5) cU)))))
  (bE (xIf (qOf (pOp bEq (ax 4) (bZ "thin"))) (bH (ip (bD dX (ai (ax 5) bx)) (ip (pOp bIn (ax 5) (ax 2)) (bD gC (ai (ax 5) (ai (ax 1) (ai (ax 2) (ai (ax 3) bx)))))))) xNx)
  (bE (xIf (qOf (pOp bEq (ax 4) (bZ "cases"))) (bH (ip (pOp bGt (pFn cn (ai (ax 2) bx)) (bC 1)) (ip (pFn (eK fO) (ai (ax 5) (ai (pTy "tuple") bx))) (bD (eN s) (ai (ax 5) (ai (ax 1) (ai (ax 2) (ai (ax 3) bx)))))))) xNx)
  (bH (pBl false))))))))
def gK:Nat->PFx [false,false,false,false]
 |0=>PFx.none [false,false,false,false]
 |n+1=>PFx.of [false,false,false,false] 6 (iP (gK n))
theorem rT(T:TT w K mg):∀n,Callee P w K mg base "bars" (10+3*n) ["paper", "room", "numbers", "asked"] (spD K mg 4 (gK n).F)
 |0=>ok0 (T.d.get 51 rfl) (bJ (N:=["paper", "room", "numbers", "asked", "word", "held"]) (by decide)) (λ_ _ _ _ _ _=>ar4 λ_ _ _ _=>rfl)
 |
  n+1=>by
  have ih:=rT T n;show Callee _ _ _ _ _ _ (10+3*n+2+1) _ (spD _ _ _ (PFx.of [false,false,false,false] 6 (iP (gK n))).F);exact qF (k:=10+3*n+2) (T.d.get 51 rfl) (bJ (N:=["paper", "room", "numbers", "asked", "word", "held"]) (by decide)) (λ_ _ _ _ _ _=>ar4 λ_ _ _ _=>rfl) λnd _ _ _ _ _ _ _ hr=>'d'
def ue:PSt:=
 (bE (dD (bD eF (ai (ax 0) (ai (ax 1) (ai (ax 2) bx)))))
  (bH (bD (gK 7).fn (ai (ax 4) (ai (ax 0) (ai (pFn iH (ai (pFn cn (ai (ax 1) bx)) bx)) (ai (cx (ai (ax 1) (ai (ax 2) (ai (ax 3) bx)))) bx)))))))
def fQ:PFn:=fnP [false,false,false,false,false] 5 ue
def ba:fQ.ms=[false,false,false,false,false]:=rfl
def yX(T:TT w K mg):Callee P w K mg base "stands" 32 ["room", "weights", "kind", "bound", "paper"] (spD K mg 5 fQ.F):=bU (T.d.get 46 rfl) (bJ (N:=["room", "weights", "kind", "bound", "paper"]) (by decide)) (λ_ _ _ _ _ _=>ar5 λ_ _ _ _ _=>rfl) λnd _ _ _ _ _ _ _ hr=>'d'
def lT:PSt:=
 (bE (bO false 9 (bD cV (ai (pOp pW (bD bN (ai (ax 1) (ai (bC 20) bx))) (bC 9)) (ai (pOp cH (bC 1) (bD bN (ai (ax 1) (ai (bC 300) bx)))) bx))))
  (bE (bO false 10 (bD fN (ai (ax 6) (ai (pOp bIx (c7 (ai (cx (ai (bC 0) (ai (bC 1) bx))) (ai (ax 9) (ai (ax 9) bx)))) (bD bN (ai (ax 1) (ai (bC 3) bx)))) bx))))
  (bE (bO false 11 (c7 (ai (ax 7) (ai (bD (fo 7).fn (ai (ax 5) (ai (ax 2) (ai (ax 1) (ai (bC 3) bx))))) (ai (bD (dZ 7).fn (ai (ax 3) (ai (ax 5) (ai (ax 4) (ai (ax 2) (ai (ax 10) (ai (ax 1) bx))))))) bx)))))
  (bE (bO false 12 (pLC (cm (ax 11)) [none,some 3,some 4,some 2,some 10] (by decide) (gtN 0) qY (bD fQ (ai (ax 1) (ai (ax 2) (ai (ax 3) (ai (ax 4) (ai (ax 0) bx))))))))
  (bE (xIf (qAn (qOf (pOp bIn (pBl true) (ax 12))) (qOf (bD cP (ai (ax 6) (ai (ax 10) bx))))) (bH (pBl false)) xNx)
  (xIf (qAn (qNo (qOf (bD cP (ai (ax 6) (ai (ax 10) bx))))) (qO (qOf (pOp xO (pOp bIx (ax 12) (bC 0)) (pBl true))) (qOf (pOp xO (pOp bIx (ax 12) (bC 2)) (pBl true))))) (bH (pBl false)) xNx))))))
def DH:PSt:=
 (bE (bO true 1 (bD gY (ai (ax 0) bx)))
  (bE (bO false 2 (pOp bIx (c7 (ai (bZ "order") (ai (bZ "any") bx))) (bD bN (ai (ax 1) (ai (bC 2) bx)))))
  (bE (CS 3 4 (by decide) jd (ai (ax 1) (ai (bC 4) bx)))
  (bE (bO false 5 (pFn iH (ai (pFn cn (ai (ax 4) bx)) bx)))
  (bE (bO false 6 (bD (cG 7).fn (ai (ax 3) (ai (ax 5) (ai (ax 4) (ai (ax 2) bx))))))
  (bE (bO false 7 (bD fU (ai (ax 3) (ai (ax 4) (ai (ax 2) bx)))))
  (bE (eE (kL (ai (pOp cH (bC 2) (pFn tM (ai (bC 2) (ai (pFn cn (ai (ax 0) bx)) bx)))) bx)) (gtN 8) (lT))
  (bH (pOp bEq (pOp bIx (bD dS (ai (ax 3) (ai (ax 4) (ai (ax 2) bx)))) (bC 0)) (ax 6))))))))))
def sQ:PFn:=fnP [false] 13 DH
def Gm(T:TT w K mg):Callee P w K mg base "law" 33 ["_law_script"] (spD K mg 1 sQ.F):=bU (T.d.get 71 rfl) (bJ (N:=["_law_script", "_law_feed_here", "_law_kind", "_law_room", "_law_weights", "_law_numbers", "_law_least_here", "_law_told", "_law_bout", "_law_more", "_law_bound", "_law_papers", "_law_found"]) (by decide)) (λ_ _ _ _ _ _=>ar1 λ_=>rfl) λnd _ _ _ _ _ _ _ hr=>(bG 'd' (bG 'd' (bG 'd' (bG 'd' (bG 'd' (bG 'd' (bG (iJ lW rfl 'd' 'd' (bG 'd' (bG 'd' (bG 'd' (bG (zSlc nd ["_law_script", "_law_feed_here", "_law_kind", "_law_room", "_law_weights", "_law_numbers", "_law_least_here", "_law_told", "_law_bout", "_law_more", "_law_bound", "_law_papers", "_law_found"] (bF (top 71)).names ["_law_paper", "_law_room", "_law_weights", "_law_kind", "_law_bound"] [none,some 3,some 4,some 2,some 10] 'd' (λnd _ _ _ _ _=>'d') (λnd _ _ _ _ _=>'d')) 'd'))))) 'd')))))))
end
def fdD(cs:List Int)(a l:Int):Val:=.dct [(.inr "cells",.lst (cs.map .int)),(.inr "at",.int a),(.inr "left",.int l)]
def Fd(n:Nat)(v:Val):Prop:=∃cs a l,v=fdD cs a l/\0<=a/\a<=n
def Fd.mono{n m:Nat}{v:Val}(h:Fd n v)(q:n<=m):Fd m v:=by obtain⟨cs,a,l,e,h0,h1⟩:=h;exact⟨cs,a,l,e,h0,by omega⟩
def jq(cs:List Int)(a l:Int):iX.G (fdD cs a l) (.str "cells")=.val (.lst (cs.map .int)):=rfl
def oE(cs:List Int)(a l:Int):iX.G (fdD cs a l) (.str "at")=.val (.int a):=rfl
def j7(cs:List Int)(a l:Int):iX.G (fdD cs a l) (.str "left")=.val (.int l):=rfl
def kx(cs:List Int)(a l x:Int):seD.G (fdD cs a l) (.str "at") (.int x)=some (fdD cs x l):=rfl
def jv(cs:List Int)(a l x:Int):seD.G (fdD cs a l) (.str "left") (.int x)=some (fdD cs a x):=rfl
def sS:p7.G (.int 10) (.int 18)=.val (.int (10^18)):=D6 ⟨by decide,by decide,by decide⟩
def gv{a m:Int}(h:0<m):0<=a.fmod m/\a.fmod m<m:=⟨Int.fmod_nonneg_of_pos a h,Int.fmod_lt_of_pos a h⟩
set_option hygiene false in
local macro_rules | `(tactic|simp![$args,*])=>do
 let l <- ("% mM Mz L9 Lu Oq JM i5 NW LH CP ye Hr HE HL J2 Hm KN GU Iu EU CN GY Kr zR EX Kf Na M9 v_bl LQ N8 v_ty LK v_un v_op N4 Jg v_fn Mc Lw MW Nk v_if c_of c_an c_o c_no c_y x_nx x_ct ML EA GA Gg J6 DN x_if M1 Mv LY Gu Cu Bl g_n g_sn g_sc g_t g_x Iz NQ NC Mj F7 Np Og Nr Ny N1 Hv KU M5 Ik Dk ND MB L4 Hb HS J5 HM NI Mr Nj j6 v_lc Ic JE JH o_n o_s v_sl Mo fx_G Nd NP k_lt k_gt k_ge Mf Oe k_ix K6 AW LC k_eq k_ne Mw k_is LP M4 LJ N7 Lz NJ HY F1 B7 rQ List.getElem?_cons_zero List.getElem?_cons_succ List.set_cons_zero List.set_cons_succ List.length_cons List.length_nil Option.bind_some Option.map_some Option.isSome_some if_true if_false Bool.not_true Bool.not_false Bool.and_true Bool.true_and Bool.and_false Bool.false_and Bool.or_true Bool.true_or Bool.or_false Nat.reduceLeDiff Nat.reduceLT Nat.reduceAdd Nat.reduceSub Nat.zero_add Nat.add_zero Nat.sub_self List.cons_append List.nil_append List.append_nil List.replicate reduceCtorEq decide_false Bool.false_eq_true List.all_cons List.all_nil List.isEmpty_nil List.isEmpty_cons List.map_cons List.map_nil Int.reduceBEq Int.reduceLT Int.reduceAdd Int.reduceSub Int.reduceMul Int.cast_ofNat_Int KW EO Ig K5 KS Ft Cv IA B6 Gq G1 zS ER FP Ku GJ z9 EH JN Cj JP E7 Jp CC Hk JW Ge MC Ni MZ NV zg Aw zI dE cN iQ Cp iN zx fq ati0 ati1 ati2 ati3 dm IS HK Int.reduceNeg Ej Hd g_uL zt".splitOn " ").tail.mapM λs=>`(Lean.Parser.Tactic.simpLemma| $(Lean.mkIdent s.toName):term)
 `(tactic|simp only[$(l.toArray),*,$args,*])
def FJ{ns:List Int}(hl:ns.length<=63):∃v,gY.G [.kl (ns.map .int)]=.ok (.new v) []/\Fd 0 v:=by
 refine⟨fdD ns 0 0,?_,ns,0,0,rfl,by omega,by omega⟩;unfold gY;rw[bT];unfold oX;have e:aSl (.kl (ns.map Val.int)) none (some 63)=.new (.lst (ns.map Val.int)):=by
  have:=NG (ns.map Val.int) none (some ((63:Nat):Int))
  rw[vo,Pt (by rw[v_];exact hl)] at this;exact this
 have c:Val.items (.lst (ns.map Val.int))=some (ns.map Val.int):=rfl;simp![bz,bB,bA,bp,aO,aQ,aW,aA,aF,aS,aN,aK,aD,aw,aV,az,aX,aM,aa,ao,bg,ay,aE,ag,au,aj,aY,aR,aP,bw,bt,aZ,aU,bc,aC,bo,bq,bf,bj,aB,aG,ak,aq,bh,aT,a8,ar,aH,av,aJ,af,ba,ah,bu,zt,e,c];rfl
def bS{n:Nat}{v:Val}{m:Int}(f:Fd n v)(hn:n<=1000000000)(h0:0<m)(hm:Sm 8000 m):∃r v',bN.G [v,.int m]=.ok (.val (.int r)) [v']/\Fd (n+1) v'/\0<=r/\r<m:=by
 obtain⟨cs,a,l,rfl,a0,a1⟩:=f;have m0:m≠0:=by omega
 have d1:=λi=>iI (i:=i) m0;have d2:=λi=>mP (i:=i) (CDivB.of m0 hm);unfold bN;rw[bT];unfold pD;have x1:cq.G (.int 61) (.int a)=.val (.int (61*a)):=cJ (CMulA.left (by decide) (by decide));have x2:cq.G (.int (61*a)) (.int a)=.val (.int (61*a*a)):=cJ (CMulA.right (by omega) (by omega));have x3:cq.G (.int 7) (.int a)=.val (.int (7*a)):=cJ (CMulA.left (by decide) (by decide));have x4:∀x:Int,cq.G (.int x) (.int 48271)=.val (.int (x*48271)):=λx=>cJ (CMulA.right (by decide) (by decide));have x5:∀x:Int,cq.G (.int x) (.int 69623)=.val (.int (x*69623)):=λx=>cJ (CMulA.right (by decide) (by decide));have x6:cq.G (.int 7919) (.int a)=.val (.int (7919*a)):=cJ (CMulA.left (by decide) (by decide));have x7:∀x:Int,cq.G (.int x) (.int 16811)=.val (.int (x*16811)):=λx=>cJ (CMulA.right (by decide) (by decide));have y1:∀x:Int,dY.G (.int x) (.int 1000003)=.val (.int (x.fmod 1000003)):=λx=>iI (by decide);have y2:∀x:Int,dY.G (.int x) (.int 999983)=.val (.int (x.fmod 999983)):=λx=>iI (by decide);have y3:∀x:Int,dY.G (.int x) (.int 1999993)=.val (.int (x.fmod 1999993)):=λx=>iI (by decide);have y4:∀x:Int,dY.G (.int x) (.int 524287)=.val (.int (x.fmod 524287)):=λx=>iI (by decide);have y5:∀x:Int,jT.G (.int x) (.int 5)=.val (.int (x.fdiv 5)):=λx=>mP (CDivB.of (by decide) (sm8 (by decide)));by_cases hc:0<l
 .have hc':decide (0<l)=true:=J_ hc;refine⟨l.fmod m,fdD cs a (l.fdiv m),?_,⟨cs,a,_,rfl,a0,by omega⟩,gv h0⟩;simp![bz,bB,bA,bp,aO,aQ,aW,aA,aF,aS,aN,aK,aD,aw,aV,az,aX,aM,aa,ao,bg,ay,aE,ag,au,aj,aY,aR,aP,bw,bt,aZ,aU,bc,aC,bo,bq,bf,bj,aB,aG,ak,aq,bh,aT,a8,ar,aH,av,aJ,af,ba,ah,bu,hc',d1,d2,jq,oE,j7,kx,jv]
 .have hc':decide (0<l)=false:=F_ hc;have i_:∀x:Int,∃r v',(R3F.ok (Rt.val (.int (x.fmod m))) [fdD cs (a+1) l]:R3F)=.ok (.val (.int r)) [v']/\Fd (n+1) v'/\0<=r/\r<m:=λx=>⟨_,_,rfl,⟨cs,_,_,rfl,by omega,by omega⟩,gv h0⟩;have z18:((10:Int)^18)=1000000000000000000:=by decide
  by_cases hl:0<cs.length
  .have r:=gv (a:=a) (m:=(cs.length:Nat)) (by omega);have hi:(a.fmod (cs.length:Nat)).toNat<cs.length:=by omega
   have at1:atI (cs.map Val.int) (a.fmod (cs.length:Nat))=some (.int cs[(a.fmod (cs.length:Nat)).toNat]):=kS r.1 (by rw[OI,OC hi];rfl);have l1:decide ((0:Int)<((cs.length:Nat):Int))=true:=J_ (by omega);have e1:dY.G (.int a) (.int (cs.length:Nat))=.val (.int (a.fmod (cs.length:Nat))):=iI (by omega);by_cases hb:(10^18:Int)<=cs[(a.fmod (cs.length:Nat)).toNat]
   .have hb':=J_ hb;by_cases ha:a<(cs.length:Nat)
    .have ha':=J_ ha;refine⟨(cs[(a.fmod (cs.length:Nat)).toNat]).fmod m,fdD cs (a+1) ((cs[(a.fmod (cs.length:Nat)).toNat]).fdiv m),?_,⟨cs,_,_,rfl,by omega,by omega⟩,gv h0⟩;simp![bz,bB,bA,bp,aO,aQ,aW,aA,aF,aS,aN,aK,aD,aw,aV,az,aX,aM,aa,ao,bg,ay,aE,ag,au,aj,aY,aR,aP,bw,bt,aZ,aU,bc,aC,bo,bq,bf,bj,aB,aG,ak,aq,bh,aT,a8,ar,aH,av,aJ,af,ba,ah,bu,hc',d1,d2,jq,oE,j7,kx,jv,v_,l1,e1,at1,sS,hb',ha']
    .have ha':=F_ ha;simp![bz,bB,bA,bp,aO,aQ,aW,aA,aF,aS,aN,aK,aD,aw,aV,az,aX,aM,aa,ao,bg,ay,aE,ag,au,aj,aY,aR,aP,bw,bt,aZ,aU,bc,aC,bo,bq,bf,bj,aB,aG,ak,aq,bh,aT,a8,ar,aH,av,aJ,af,ba,ah,bu,hc',d1,d2,jq,oE,j7,kx,jv,v_,l1,e1,at1,sS,hb',ha',x1,x2,x3,x4,x5,x6,x7,y1,y2,y3,y4,y5];exact i_ _
   .have hb':=F_ hb;simp![bz,bB,bA,bp,aO,aQ,aW,aA,aF,aS,aN,aK,aD,aw,aV,az,aX,aM,aa,ao,bg,ay,aE,ag,au,aj,aY,aR,aP,bw,bt,aZ,aU,bc,aC,bo,bq,bf,bj,aB,aG,ak,aq,bh,aT,a8,ar,aH,av,aJ,af,ba,ah,bu,hc',d1,d2,jq,oE,j7,kx,jv,v_,l1,e1,at1,sS,hb',x1,x2,x3,x4,x5,x6,x7,y1,y2,y3,y4,y5];exact i_ _
  .have l1:decide ((0:Int)<((cs.length:Nat):Int))=false:=F_ (by omega);have hb':decide ((10^18:Int)<=a)=false:=F_ (by rw[z18];omega);simp![bz,bB,bA,bp,aO,aQ,aW,aA,aF,aS,aN,aK,aD,aw,aV,az,aX,aM,aa,ao,bg,ay,aE,ag,au,aj,aY,aR,aP,bw,bt,aZ,aU,bc,aC,bo,bq,bf,bj,aB,aG,ak,aq,bh,aT,a8,ar,aH,av,aJ,af,ba,ah,bu,hc',d1,d2,jq,oE,j7,kx,jv,v_,l1,sS,hb',x1,x2,x3,x4,x5,x6,x7,y1,y2,y3,y4,y5];exact i_ _
def NN:iV [.int 6]=some [.int 0,.int 1,.int 2,.int 3,.int 4,.int 5]:=kr (i:=6) (by decide) (by decide)
def u6{n:Nat}{v:Val}(f:Fd n v)(hn:n<=900000000):∃r v',eO.G [v,.int 6]=.ok (.val (.int r)) [v']/\Fd (n+6) v'/\0<=r:=by have s:Sm 8000 100000:=sm8 (by decide);obtain⟨r1,v1,e1,f1,a1,_⟩:=bS (m:=100000) f (by omega) (by decide) s;obtain⟨r2,v2,e2,f2,a2,_⟩:=bS (m:=100000) f1 (by omega) (by decide) s;obtain⟨r3,v3,e3,f3,a3,_⟩:=bS (m:=100000) f2 (by omega) (by decide) s;obtain⟨r4,v4,e4,f4,a4,_⟩:=bS (m:=100000) f3 (by omega) (by decide) s;obtain⟨r5,v5,e5,f5,a5,_⟩:=bS (m:=100000) f4 (by omega) (by decide) s;obtain⟨r6,v6,e6,f6,a6,_⟩:=bS (m:=100000) f5 (by omega) (by decide) s;have c6:∀x:Int,cq.G (.int x) (.int 100000)=.val (.int (x*100000)):=λx=>cJ (CMulA.right (by decide) (by decide));refine⟨((((((0*100000+r1)*100000+r2)*100000+r3)*100000+r4)*100000+r5)*100000+r6),v6,?_,f6.mono (by omega),by omega⟩;unfold eO;rw[bT];unfold m8 l6;simp![bz,bB,bA,bp,aO,aQ,aW,aA,aF,aS,aN,aK,aD,aw,aV,az,aX,aM,aa,ao,bg,ay,aE,ag,au,aj,aY,aR,aP,bw,bt,aZ,aU,bc,aC,bo,bq,bf,bj,aB,aG,ak,aq,bh,aT,a8,ar,aH,av,aJ,af,ba,ah,bu,NN,bY,c6,e1,e2,e3,e4,e5,e6]
def xq(a:Int):(if a<0 then -a else a)=((a.natAbs:Nat):Int):=by split <;> omega
theorem tR:∀(n one e_:Nat),e_<=n->(xWh (qOf (pOp bNe (ax 1) (bC 0))) eU).G [.sh (.int (one:Nat)),.sh (.int (e_:Nat))]=.nx [.sh (.int (Nat.gcd one e_:Nat)),.sh (.int 0)]
 |
  n,one,0,_=>by
  rw[xD];simp![bz,bB,bA,bp,aO,aQ,aW,aA,aF,aS,aN,aK,aD,aw,aV,az,aX,aM,aa,ao,bg,ay,aE,ag,au,aj,aY,aR,aP,bw,bt,aZ,aU,bc,aC,bo,bq,bf,bj,aB,aG,ak,aq,bh,aT,a8,ar,aH,av,aJ,af,ba,ah,bu];rw[Nat.gcd_zero_right];try rfl
 |0,one,e_+1,hl=>absurd hl (by omega)
 |
  n+1,one,e_+1,hl=>by
  rw[xD];have e:((((e_+1:Nat):Int)==0))=false:=by rw[Oy];omega
  have e1:dY.G (.int (one:Nat)) (.int ((e_+1:Nat):Int))=.val (.int (((one:Nat):Int).fmod ((e_+1:Nat):Int))):=iI (by omega);have e2:((one:Nat):Int).fmod ((e_+1:Nat):Int)=((one % (e_+1):Nat):Int):=by rw[Int.fmod_eq_emod_of_nonneg _ (by omega)];rfl
  have ih:=tR n (e_+1) (one % (e_+1)) (by have:=Nat.mod_lt one (show e_+1>0 by omega);omega);rw[Fr.euc] at ih;rw[e2] at e1;have bb:eU.G [.sh (.int (one:Nat)),.sh (.int ((e_+1:Nat):Int))]=.nx [.sh (.int ((e_+1:Nat):Int)),.sh (.int ((one % (e_+1):Nat):Int))]:=by unfold eU;simp![bz,bB,bA,bp,aO,aQ,aW,aA,aF,aS,aN,aK,aD,aw,aV,az,aX,aM,aa,ao,bg,ay,aE,ag,au,aj,aY,aR,aP,bw,bt,aZ,aU,bc,aC,bo,bq,bf,bj,aB,aG,ak,aq,bh,aT,a8,ar,aH,av,aJ,af,ba,ah,bu,e1]
  simp![bz,bB,bA,bp,aO,aQ,aW,aA,aF,aS,aN,aK,aD,aw,aV,az,aX,aM,aa,ao,bg,ay,aE,ag,au,aj,aY,aR,aP,bw,bt,aZ,aU,bc,aC,bo,bq,bf,bj,aB,aG,ak,aq,bh,aT,a8,ar,aH,av,aJ,af,ba,ah,bu,e,bb,ih]
def eT(a b:Int):dw.G [.int a,.int b]=.ok (.val (.int (Int.gcd a b:Nat))) []:=by
 unfold dw;rw[bT];unfold jo
 have:=tR b.natAbs a.natAbs b.natAbs (z_ _)
 simp![bz,bB,bA,bp,aO,aQ,aW,aA,aF,aS,aN,aK,aD,aw,aV,az,aX,aM,aa,ao,bg,ay,aE,ag,au,aj,aY,aR,aP,bw,bt,aZ,aU,bc,aC,bo,bq,bf,bj,aB,aG,ak,aq,bh,aT,a8,ar,aH,av,aJ,af,ba,ah,bu,xq,this];rfl
def fH{a b:Int}(hb:b≠0)(hs:Sm 8000 b):dC.G [.int a,.int b]=.ok (.val (fV ((a:Rat)/(b:Rat)))) []:=by
 unfold dC;rw[bT];unfold oB;have e:(b==0)=false:=by rw[Oy];exact hb
 have c:∀x,CDivB x (Fr.dv a b):=λx=>CDivB.of (Fr.dv_ne hb) (hs.of_le (by rw[Fr.dv_abs];exact Nat.le_of_dvd (by omega) (Nat.gcd_dvd_right a.natAbs b.natAbs)));have k1:=mP (c a);have k2:=mP (c b);have hh:=o3 (a:=a) hb;have i_:Val.tup [.int (a.fdiv (Fr.dv a b)),.int (b.fdiv (Fr.dv a b))]=fV ((a:Rat)/(b:Rat)):=by unfold fV;rw[<- hh.1,<- hh.2];rfl
 by_cases hn:b<0
 .have hd:Fr.dv a b=-((Int.gcd a b:Nat):Int):=by unfold Fr.dv;rw[if_pos hn]
  rw[hd] at k1 k2 i_;simp![bz,bB,bA,bp,aO,aQ,aW,aA,aF,aS,aN,aK,aD,aw,aV,az,aX,aM,aa,ao,bg,ay,aE,ag,au,aj,aY,aR,aP,bw,bt,aZ,aU,bc,aC,bo,bq,bf,bj,aB,aG,ak,aq,bh,aT,a8,ar,aH,av,aJ,af,ba,ah,bu,e,eT,J_ hn,k1,k2,i_]
 .have hd:Fr.dv a b=((Int.gcd a b:Nat):Int):=by unfold Fr.dv;rw[if_neg hn]
  rw[hd] at k1 k2 i_;simp![bz,bB,bA,bp,aO,aQ,aW,aA,aF,aS,aN,aK,aD,aw,aV,az,aX,aM,aa,ao,bg,ay,aE,ag,au,aj,aY,aR,aP,bw,bt,aZ,aU,bc,aC,bo,bq,bf,bj,aB,aG,ak,aq,bh,aT,a8,ar,aH,av,aJ,af,ba,ah,bu,e,eT,F_ hn,k1,k2,i_]
def Cr{p q:Rat}{n m:Nat}(hp:Sz n p)(hq:Sz m q)(h:n+m<=8000):kD.G [fV p,fV q]=.ok (.val (fV (p+q))) []:=by have c1:=cJ (CMulA.of hp.top hq.bot (by omega) (by omega));have c2:=cJ (CMulA.of hq.top hp.bot (by omega) (by omega));have c3:=cJ (CMulA.of hp.bot hq.bot (by omega) (by omega));have fe:=fH (a:=p.num*q.den+q.num*p.den) (b:=p.den*q.den) (Pw (dW p) (dW q)) ((hp.bot.mul hq.bot).mono h);rw[<- qr] at fe;unfold kD;rw[bT];unfold wL;rw[show fV p=.tup [.int p.num,.int p.den] from rfl,show fV q=.tup [.int q.num,.int q.den] from rfl];simp![bz,bB,bA,bp,aO,aQ,aW,aA,aF,aS,aN,aK,aD,aw,aV,az,aX,aM,aa,ao,bg,ay,aE,ag,au,aj,aY,aR,aP,bw,bt,aZ,aU,bc,aC,bo,bq,bf,bj,aB,aG,ak,aq,bh,aT,a8,ar,aH,av,aJ,af,ba,ah,bu,c1,c2,c3,fe]
def nL{p q:Rat}{n m:Nat}(hp:Sz n p)(hq:Sz m q)(h:n+m<=8000):ir.G [fV p,fV q]=.ok (.val (fV (p*q))) []:=by have c1:=cJ (CMulA.of hp.top hq.top (by omega) (by omega));have c2:=cJ (CMulA.of hp.bot hq.bot (by omega) (by omega));have fe:=fH (a:=p.num*q.num) (b:=p.den*q.den) (Pw (dW p) (dW q)) ((hp.bot.mul hq.bot).mono h);rw[<- qH] at fe;unfold ir;rw[bT];unfold wb;rw[show fV p=.tup [.int p.num,.int p.den] from rfl,show fV q=.tup [.int q.num,.int q.den] from rfl];simp![bz,bB,bA,bp,aO,aQ,aW,aA,aF,aS,aN,aK,aD,aw,aV,az,aX,aM,aa,ao,bg,ay,aE,ag,au,aj,aY,aR,aP,bw,bt,aZ,aU,bc,aC,bo,bq,bf,bj,aB,aG,ak,aq,bh,aT,a8,ar,aH,av,aJ,af,ba,ah,bu,c1,c2,fe]
def fB{p q:Rat}{n m:Nat}(hp:Sz n p)(hq:Sz m q)(h1:n<=100000)(h2:m<=100000):d7.G [fV p,fV q]=.ok (.val (.bl (decide (p<q)))) []:=by have c1:=cJ (CMulA.of hp.top hq.bot h1 h2);have c2:=cJ (CMulA.of hq.top hp.bot h2 h1);unfold d7;rw[bT];unfold rl;rw[show fV p=.tup [.int p.num,.int p.den] from rfl,show fV q=.tup [.int q.num,.int q.den] from rfl];simp![bz,bB,bA,bp,aO,aQ,aW,aA,aF,aS,aN,aK,aD,aw,aV,az,aX,aM,aa,ao,bg,ay,aE,ag,au,aj,aY,aR,aP,bw,bt,aZ,aU,bc,aC,bo,bq,bf,bj,aB,aG,ak,aq,bh,aT,a8,ar,aH,av,aJ,af,ba,ah,bu,c1,c2];rw[show decide (p.num*(q.den:Int)<q.num*(p.den:Int))=decide (p<q) from decide_eq_decide.mpr (AZ p q).symm]
def mK{v:Val}(hk:knV v=true):(eK fO).G [v,.ty "tuple"]=.val (.bl (gZ v)):=by cases v <;> first |rfl |cases hk
def gu{v:Val}(hk:knV v=true):dX.G [v]=.ok (.val (.bl (jm v))) []:=by unfold dX;rw[bT];unfold pA;cases v <;> first |rfl |cases hk
def tq(v:Val):gZ v=false\/∃xs,v=.tup xs:=by cases v <;> first |exact .inr ⟨_,rfl⟩ |exact .inl rfl
def n5(v:Val):jm v=false\/∃i,v=.int i:=by cases v <;> first |exact .inr ⟨_,rfl⟩ |exact .inl rfl
def NK{v:Val}(h:gZ v=false):ck v=false:=by cases v <;> first |rfl |cases h
def LV{v:Val}(h:gZ v=false):iC v=false:=by cases v <;> first |rfl |cases h
def JL{a b:Val}(h:jm a=false):ck (.tup [a,b])=false:=by cases a <;> first |rfl |cases h
def Hx{i:Int}{b:Val}(h:jm b=false):ck (.tup [.int i,b])=false:=by cases b <;> first |rfl |cases h
def LB{xs:List Val}(hl:xs.length≠2):ck (.tup xs)=false:=by
 unfold ck;split
 .rename_i e;injection e with e;subst e;exact absurd rfl hl
 .rfl
def LZ{xs:List Val}(hl:xs.length≠4):iC (.tup xs)=false:=by
 unfold iC;split
 .rename_i e;injection e with e;subst e;exact absurd rfl hl
 .rfl
def Dz{k:Nat}{v:Val}(ha:jR k v=true)(h:gZ v=false):knV v=true:=by
 cases v with
 |tup xs=>cases h
 |_=>cases k <;> exact ha
def qL{v:Val}(ha:jR 1 v=true):eG.G [v]=.ok (.val (.bl (ck v))) []:=by
 unfold eG;rw[bT];unfold lK;rcases tq v with ht |⟨xs,rfl⟩
 .have it:=mK (Dz ha ht);rw[ht] at it;simp![bz,bB,bA,bp,aO,aQ,aW,aA,aF,aS,aN,aK,aD,aw,aV,az,aX,aM,aa,ao,bg,ay,aE,ag,au,aj,aY,aR,aP,bw,bt,aZ,aU,bc,aC,bo,bq,bf,bj,aB,aG,ak,aq,bh,aT,a8,ar,aH,av,aJ,af,ba,ah,bu,it,NK ht]
 have it:=mK (v:=.tup xs) rfl;by_cases hl:xs.length=2
 .match xs,hl,ha with
  |
   [a,b],_,ha=>
   have ha':(knV a&&(knV b&&true))=true:=by simpa [jR] using ha
   simp only[D_] at ha';have w1:=gu ha'.1;have w2:=gu ha'.2.1;rcases n5 a with h1 |⟨i,rfl⟩
   .rw[h1] at w1;simp![bz,bB,bA,bp,aO,aQ,aW,aA,aF,aS,aN,aK,aD,aw,aV,az,aX,aM,aa,ao,bg,ay,aE,ag,au,aj,aY,aR,aP,bw,bt,aZ,aU,bc,aC,bo,bq,bf,bj,aB,aG,ak,aq,bh,aT,a8,ar,aH,av,aJ,af,ba,ah,bu,it,gZ,w1,JL h1]
   rcases n5 b with h2 |⟨j,rfl⟩
   .rw[h2] at w2;simp![bz,bB,bA,bp,aO,aQ,aW,aA,aF,aS,aN,aK,aD,aw,aV,az,aX,aM,aa,ao,bg,ay,aE,ag,au,aj,aY,aR,aP,bw,bt,aZ,aU,bc,aC,bo,bq,bf,bj,aB,aG,ak,aq,bh,aT,a8,ar,aH,av,aJ,af,ba,ah,bu,it,gZ,w1,jm,w2,Hx h2]
   have f:ck (.tup [.int i,.int j])=(decide (1<=j)&&decide (Int.gcd i j=1)):=rfl;have g:((((Int.gcd i j:Nat):Int)==1):Bool)=decide (Int.gcd i j=1):=by rw[Bool.eq_iff_iff,OX,P1];omega
   by_cases hj:1<=j
   .simp![bz,bB,bA,bp,aO,aQ,aW,aA,aF,aS,aN,aK,aD,aw,aV,az,aX,aM,aa,ao,bg,ay,aE,ag,au,aj,aY,aR,aP,bw,bt,aZ,aU,bc,aC,bo,bq,bf,bj,aB,aG,ak,aq,bh,aT,a8,ar,aH,av,aJ,af,ba,ah,bu,it,gZ,w1,w2,jm,eT,J_ hj,f,g]
   .simp![bz,bB,bA,bp,aO,aQ,aW,aA,aF,aS,aN,aK,aD,aw,aV,az,aX,aM,aa,ao,bg,ay,aE,ag,au,aj,aY,aR,aP,bw,bt,aZ,aU,bc,aC,bo,bq,bf,bj,aB,aG,ak,aq,bh,aT,a8,ar,aH,av,aJ,af,ba,ah,bu,it,gZ,w1,w2,jm,eT,F_ hj,f,g]
 .have e:(((xs.length:Nat):Int)==2)=false:=by rw[Oy];omega
  simp![bz,bB,bA,bp,aO,aQ,aW,aA,aF,aS,aN,aK,aD,aw,aV,az,aX,aM,aa,ao,bg,ay,aE,ag,au,aj,aY,aR,aP,bw,bt,aZ,aU,bc,aC,bo,bq,bf,bj,aB,aG,ak,aq,bh,aT,a8,ar,aH,av,aJ,af,ba,ah,bu,it,gZ,e,LB hl]
def rG{v:Val}(ha:jR 2 v=true):jt.G [v]=.ok (.val (.bl (iC v))) []:=by
 unfold jt;rw[bT];unfold ua;rcases tq v with ht |⟨xs,rfl⟩
 .have it:=mK (Dz ha ht);rw[ht] at it;simp![bz,bB,bA,bp,aO,aQ,aW,aA,aF,aS,aN,aK,aD,aw,aV,az,aX,aM,aa,ao,bg,ay,aE,ag,au,aj,aY,aR,aP,bw,bt,aZ,aU,bc,aC,bo,bq,bf,bj,aB,aG,ak,aq,bh,aT,a8,ar,aH,av,aJ,af,ba,ah,bu,it,LV ht]
 have it:=mK (v:=.tup xs) rfl;by_cases hl:xs.length=4
 .match
   xs,hl,ha with
  |
   [a,b,c,d],_,ha=>
   have e1:iC (.tup [a,b,c,d])=(ck a&&(ck b&&(ck c&&(ck d&&(kH c&&kH d))))):=rfl;have bl4:∀x y z w:Bool,mh [.bl x,.bl y,.bl z,.bl w]=some [x,y,z,w]:=λ_ _ _ _=>rfl;obtain⟨e',⟨s',rfl,_⟩,lc⟩:=qI (g:=(gtN 0).G) (F:=(bD eG (ai (ax 0) bx)).G) (f:=λv=>.bl (ck v)) (λe=>∃s,e=[s]/\s.pl=true) [a,b,c,d] [] [.no] ⟨.no,rfl,rfl⟩ (by
    rintro v hv e ⟨s,rfl,hs⟩;have hv':jR 1 v=true:=OA.mp (by simpa [jR] using ha) v hv;refine⟨[.sh v],.val (.bl (ck v)),[.sh v],?_,?_,rfl,⟨_,rfl,rfl⟩⟩
    .simp![bz,bB,bA,bp,aO,aQ,aW,aA,aF,aS,aN,aK,aD,aw,aV,az,aX,aM,aa,ao,bg,ay,aE,ag,au,aj,aY,aR,aP,bw,bt,aZ,aU,bc,aC,bo,bq,bf,bj,aB,aG,ak,aq,bh,aT,a8,ar,aH,av,aJ,af,ba,ah,bu,hs]
    .simp![bz,bB,bA,bp,aO,aQ,aW,aA,aF,aS,aN,aK,aD,aw,aV,az,aX,aM,aa,ao,bg,ay,aE,ag,au,aj,aY,aR,aP,bw,bt,aZ,aU,bc,aC,bo,bq,bf,bj,aB,aG,ak,aq,bh,aT,a8,ar,aH,av,aJ,af,ba,ah,bu,qL hv']) (by simp)
   have cy:cY=qY.G:=rfl;rw[cy,OL] at lc;simp only[B_,OP] at lc;cases hA:(ck a&&(ck b&&(ck c&&ck d))) with
   |
    true=>
    simp only[D_] at hA;obtain⟨p,rfl⟩:=zD hA.2.2.1;obtain⟨q,rfl⟩:=zD hA.2.2.2;rw[hA.1,hA.2.1,hA.2.2.1,hA.2.2.2] at e1 lc;have e2:iC (.tup [a,b,fV p,fV q])=(decide (0<p.num)&&decide (0<q.num)):=by rw[e1];rfl
    rw[e2];have i1:(fV p).items=some [.int p.num,.int p.den]:=rfl;have i2:(fV q).items=some [.int q.num,.int q.den]:=rfl;by_cases hp:0<p.num
    .simp![bz,bB,bA,bp,aO,aQ,aW,aA,aF,aS,aN,aK,aD,aw,aV,az,aX,aM,aa,ao,bg,ay,aE,ag,au,aj,aY,aR,aP,bw,bt,aZ,aU,bc,aC,bo,bq,bf,bj,aB,aG,ak,aq,bh,aT,a8,ar,aH,av,aJ,af,ba,ah,bu,it,gZ,lc,dm,bl4,id,i1,i2,J_ hp]
    .simp![bz,bB,bA,bp,aO,aQ,aW,aA,aF,aS,aN,aK,aD,aw,aV,az,aX,aM,aa,ao,bg,ay,aE,ag,au,aj,aY,aR,aP,bw,bt,aZ,aU,bc,aC,bo,bq,bf,bj,aB,aG,ak,aq,bh,aT,a8,ar,aH,av,aJ,af,ba,ah,bu,it,gZ,lc,dm,bl4,id,i1,F_ hp]
   |
    false=>
    have e2:iC (.tup [a,b,c,d])=false:=by rw[e1];revert hA;generalize ck a=a',ck b=b',ck c=c',ck d=d',(kH c&&kH d)=z;revert a' b' c' d' z;decide
    rw[e2];simp![bz,bB,bA,bp,aO,aQ,aW,aA,aF,aS,aN,aK,aD,aw,aV,az,aX,aM,aa,ao,bg,ay,aE,ag,au,aj,aY,aR,aP,bw,bt,aZ,aU,bc,aC,bo,bq,bf,bj,aB,aG,ak,aq,bh,aT,a8,ar,aH,av,aJ,af,ba,ah,bu,it,gZ,lc,dm,bl4,id,hA]
 .have e:(((xs.length:Nat):Int)==4)=false:=by rw[Oy];omega
  simp![bz,bB,bA,bp,aO,aQ,aW,aA,aF,aS,aN,aK,aD,aw,aV,az,aX,aM,aa,ao,bg,ay,aE,ag,au,aj,aY,aR,aP,bw,bt,aZ,aU,bc,aC,bo,bq,bf,bj,aB,aG,ak,aq,bh,aT,a8,ar,aH,av,aJ,af,ba,ah,bu,it,gZ,e,LZ hl]
def uw{v:Val}(ha:jR 2 v=true):dG.G [v]=if iC v=true then .ok (.val .non) [] else .exc "NoBox" []:=by
 unfold dG;rw[bT];unfold nu;cases h:iC v with
 |true=>simp![bz,bB,bA,bp,aO,aQ,aW,aA,aF,aS,aN,aK,aD,aw,aV,az,aX,aM,aa,ao,bg,ay,aE,ag,au,aj,aY,aR,aP,bw,bt,aZ,aU,bc,aC,bo,bq,bf,bj,aB,aG,ak,aq,bh,aT,a8,ar,aH,av,aJ,af,ba,ah,bu,rG ha,h]
 |false=>simp![bz,bB,bA,bp,aO,aQ,aW,aA,aF,aS,aN,aK,aD,aw,aV,az,aX,aM,aa,ao,bg,ay,aE,ag,au,aj,aY,aR,aP,bw,bt,aZ,aU,bc,aC,bo,bq,bf,bj,aB,aG,ak,aq,bh,aT,a8,ar,aH,av,aJ,af,ba,ah,bu,rG ha,h]
def jk{b:Bx}(hb:b.Ok):dG.G [bV b]=.ok (.val .non) []:=by rw[uw (IC b),Bn hb];rfl
def Nn{v:Val}(h:jm v=false):jG v=false:=by cases v <;> first |rfl |cases h
def B9(v:Val):mq v=false\/∃xs,v=.lst xs:=by cases v <;> first |exact .inr ⟨_,rfl⟩ |exact .inl rfl
def uW{v:Val}(hk:knV v=true):fI.G [v]=.ok (.val (.bl (jG v))) []:=by
 have w:=gu hk;unfold fI;rw[bT];unfold ny;rcases n5 v with h |⟨i,rfl⟩
 .rw[h] at w;simp![bz,bB,bA,bp,aO,aQ,aW,aA,aF,aS,aN,aK,aD,aw,aV,az,aX,aM,aa,ao,bg,ay,aE,ag,au,aj,aY,aR,aP,bw,bt,aZ,aU,bc,aC,bo,bq,bf,bj,aB,aG,ak,aq,bh,aT,a8,ar,aH,av,aJ,af,ba,ah,bu,w,Nn h]
 .simp![bz,bB,bA,bp,aO,aQ,aW,aA,aF,aS,aN,aK,aD,aw,aV,az,aX,aM,aa,ao,bg,ay,aE,ag,au,aj,aY,aR,aP,bw,bt,aZ,aU,bc,aC,bo,bq,bf,bj,aB,aG,ak,aq,bh,aT,a8,ar,aH,av,aJ,af,ba,ah,bu,w,jm];rfl
def wO{v:Val}(hk:knV v=true):(eK fO).G [v,.ty "list"]=.val (.bl (mq v)):=by cases v <;> first |rfl |cases hk
noncomputable def yz(v:Val):R3F:=match v with
 |.lst xs=>if xs=[] then .exc "NoWeights" [] else if xs.all jG=true then (if xs.length<=40 then .ok (.val .non) [] else .exc "TooMany" []) else .exc "NoWeights" []
 |_=>.exc "NoWeights" []
def Lb{v:Val}(h:mq v=false):yz v=.exc "NoWeights" []:=by cases v <;> first |rfl |cases h
noncomputable def vy:Val->Bool
 |.lst xs=>decide (xs.length<=1000)&&xs.all knV
 |v=>knV v
def Gy{v:Val}(h:vy v=true)(hl:mq v=false):knV v=true:=by cases v <;> first |(cases hl;done) |exact h
theorem lG(f:Val->Bool):∀xs:List Val,mh (xs.map λv=>.bl (f v))=some (xs.map f)
 | []=>rfl
 |x::xs=>by show (mh (xs.map λv=>.bl (f v))).map (f x :: ·)=_;rw[lG f xs];rfl
def kN(f:Val->Bool)(xs:List Val):(xs.map f).all id=xs.all f:=by rw[List.all_map];rfl
def nC{v:Val}(ha:vy v=true):c8.G [v]=yz v:=by
 unfold c8;rw[bT];unfold jB;rcases B9 v with hv |⟨xs,rfl⟩
 .have il:=wO (Gy ha hv);rw[hv] at il;rw[Lb hv];simp![bz,bB,bA,bp,aO,aQ,aW,aA,aF,aS,aN,aK,aD,aw,aV,az,aX,aM,aa,ao,bg,ay,aE,ag,au,aj,aY,aR,aP,bw,bt,aZ,aU,bc,aC,bo,bq,bf,bj,aB,aG,ak,aq,bh,aT,a8,ar,aH,av,aJ,af,ba,ah,bu,il]
 .have ha':xs.length<=1000/\xs.all knV=true:=by simpa [vy] using ha
  have il:=wO (v:=.lst xs) rfl;unfold yz;dsimp only;by_cases h0:xs=[]
  .subst h0;simp![bz,bB,bA,bp,aO,aQ,aW,aA,aF,aS,aN,aK,aD,aw,aV,az,aX,aM,aa,ao,bg,ay,aE,ag,au,aj,aY,aR,aP,bw,bt,aZ,aU,bc,aC,bo,bq,bf,bj,aB,aG,ak,aq,bh,aT,a8,ar,aH,av,aJ,af,ba,ah,bu,il]
  .have e0:(((xs.length:Nat):Int)==0)=false:=by rw[Oy];intro z;exact h0 (List.length_eq_zero_iff.mp (by omega))
   rw[if_neg h0];obtain⟨e',p',lc⟩:=qI (g:=(gtN 0).G) (F:=(bD fI (ai (ax 0) bx)).G) (f:=λv=>.bl (jG v)) (λe=>∃s,e=[s]/\s.pl=true) xs [] [.no] ⟨.no,rfl,rfl⟩ (by
    rintro v hv e ⟨s,rfl,hs⟩;refine⟨[.sh v],.val (.bl (jG v)),[.sh v],?_,?_,rfl,⟨_,rfl,rfl⟩⟩
    .simp![bz,bB,bA,bp,aO,aQ,aW,aA,aF,aS,aN,aK,aD,aw,aV,az,aX,aM,aa,ao,bg,ay,aE,ag,au,aj,aY,aR,aP,bw,bt,aZ,aU,bc,aC,bo,bq,bf,bj,aB,aG,ak,aq,bh,aT,a8,ar,aH,av,aJ,af,ba,ah,bu,hs]
    .simp![bz,bB,bA,bp,aO,aQ,aW,aA,aF,aS,aN,aK,aD,aw,aV,az,aX,aM,aa,ao,bg,ay,aE,ag,au,aj,aY,aR,aP,bw,bt,aZ,aU,bc,aC,bo,bq,bf,bj,aB,aG,ak,aq,bh,aT,a8,ar,aH,av,aJ,af,ba,ah,bu,uW (OA.mp ha'.2 v hv)]) (by simp;omega)
   obtain⟨s',rfl,_⟩:=p';have cy:cY=qY.G:=rfl;rw[cy,OL] at lc;have c_:(xs.map λv=>Val.bl (jG v)).length<=16777216:=by rw[v_];omega
   by_cases hw:xs.all jG=true
   .rw[if_pos hw];by_cases h40:xs.length<=40
    .have hd:decide ((40:Int)<((xs.length:Nat):Int))=false:=F_ (by omega);rw[if_pos h40];simp![bz,bB,bA,bp,aO,aQ,aW,aA,aF,aS,aN,aK,aD,aw,aV,az,aX,aM,aa,ao,bg,ay,aE,ag,au,aj,aY,aR,aP,bw,bt,aZ,aU,bc,aC,bo,bq,bf,bj,aB,aG,ak,aq,bh,aT,a8,ar,aH,av,aJ,af,ba,ah,bu,il,e0,dm,lc,c_,lG,kN,hw,hd]
    .have hd:decide ((40:Int)<((xs.length:Nat):Int))=true:=J_ (by omega);rw[if_neg h40];simp![bz,bB,bA,bp,aO,aQ,aW,aA,aF,aS,aN,aK,aD,aw,aV,az,aX,aM,aa,ao,bg,ay,aE,ag,au,aj,aY,aR,aP,bw,bt,aZ,aU,bc,aC,bo,bq,bf,bj,aB,aG,ak,aq,bh,aT,a8,ar,aH,av,aJ,af,ba,ah,bu,il,e0,dm,lc,c_,lG,kN,hw,hd]
   .have hw':xs.all jG=false:=Bool.eq_false_iff.mpr hw;rw[if_neg hw];simp![bz,bB,bA,bp,aO,aQ,aW,aA,aF,aS,aN,aK,aD,aw,aV,az,aX,aM,aa,ao,bg,ay,aE,ag,au,aj,aY,aR,aP,bw,bt,aZ,aU,bc,aC,bo,bq,bf,bj,aB,aG,ak,aq,bh,aT,a8,ar,aH,av,aJ,af,ba,ah,bu,il,e0,dm,lc,c_,lG,kN,hw']
def zo{ws:List Int}(h0:ws≠[])(h1:∀w∈ws,1<=w)(h2:ws.length<=40):c8.G [.lst (ws.map .int)]=.ok (.val .non) []:=by
 have ha:vy (.lst (ws.map .int))=true:=by simp only[vy,D_,P1,v_];exact⟨by omega,by rw[OA];intro v hv;obtain⟨w,_,rfl⟩:=OQ.mp hv;rfl⟩
 rw[nC ha];unfold yz;dsimp only;rw[if_neg (by intro z;exact h0 (List.map_eq_nil_iff.mp z)),if_pos (by rw[OA];intro v hv;obtain⟨w,hw,rfl⟩:=OQ.mp hv;exact J_ (h1 w hw)),if_pos (by rw[v_];exact h2)]
def nW{p q:Rat}(hq:q≠0):p/q=((p.num*q.den:Int):Rat)/((p.den*q.num:Int):Rat):=by
 have h1:=jy (dW p);have h2:=jy (dW q);have h3:q.num≠0:=λz=>hq (QC.mp z);have h4:=jy h3
 conv=>lhs;rw[jf p,jf q]
 rw[QB,QB];simp only[Pf,Rat.inv_mul_rev,Rat.inv_inv];rw[QL,QL,Rat.mul_comm (((p.den:Int):Rat))⁻¹,QL]
def xf{p q:Rat}{n m:Nat}(hp:Sz n p)(hq:Sz m q)(h0:0<q)(h:n+m<=8000):kA.G [fV p,fV q]=.ok (.val (fV (p/q))) []:=by
 have c1:=cJ (CMulA.of hp.top hq.bot (by omega) (by omega));have c2:=cJ (CMulA.of hp.bot hq.top (by omega) (by omega));have hq0:q≠0:=λz=>by rw[z] at h0;exact absurd h0 (by decide)
 have hn:q.num≠0:=λz=>hq0 (QC.mp z);have fe:=fH (a:=p.num*q.den) (b:=p.den*q.num) (Pw (dW p) hn) ((hp.bot.mul hq.top).mono h);rw[<- nW hq0] at fe;unfold kA;rw[bT];unfold AA;rw[show fV p=.tup [.int p.num,.int p.den] from rfl,show fV q=.tup [.int q.num,.int q.den] from rfl];simp![bz,bB,bA,bp,aO,aQ,aW,aA,aF,aS,aN,aK,aD,aw,aV,az,aX,aM,aa,ao,bg,ay,aE,ag,au,aj,aY,aR,aP,bw,bt,aZ,aU,bc,aC,bo,bq,bf,bj,aB,aG,ak,aq,bh,aT,a8,ar,aH,av,aJ,af,ba,ah,bu,c1,c2,fe]
def CB(b:Bx):Str:=if b.w<b.h then "down" else "across"
def vM{b:Bx}{n:Nat}(hb:b.Ok)(hs:b.Sz n)(h:n<=8000):gW.G [bV b]=.ok (.val (.str (CB b))) []:=by
 have cb:=jk hb;have il:=fB hs.w hs.h (by omega) (by omega);have ib:(bV b).items=some [fV b.l,fV b.t,fV b.w,fV b.h]:=rfl;unfold gW CB;rw[bT];unfold pM;by_cases hl:b.w<b.h
 .rw[if_pos hl];rw[J_ hl] at il;simp![bz,bB,bA,bp,aO,aQ,aW,aA,aF,aS,aN,aK,aD,aw,aV,az,aX,aM,aa,ao,bg,ay,aE,ag,au,aj,aY,aR,aP,bw,bt,aZ,aU,bc,aC,bo,bq,bf,bj,aB,aG,ak,aq,bh,aT,a8,ar,aH,av,aJ,af,ba,ah,bu,cb,ib,il]
 .rw[if_neg hl];rw[F_ hl] at il;simp![bz,bB,bA,bp,aO,aQ,aW,aA,aF,aS,aN,aK,aD,aw,aV,az,aX,aM,aa,ao,bg,ay,aE,ag,au,aj,aY,aR,aP,bw,bt,aZ,aU,bc,aC,bo,bq,bf,bj,aB,aG,ak,aq,bh,aT,a8,ar,aH,av,aJ,af,ba,ah,bu,cb,ib,il]
def uB:eh (.str "down") (.str "across")=some false:=by rw[L3.eq_str (by decide) (by decide)];exact OU some (by decide)
def tE:eh (.str "across") (.str "across")=some true:=by rw[L3.eq_str (by decide) (by decide)];exact OU some (by decide)
def oh{b:Bx}{n:Nat}(hb:b.Ok)(hs:b.Sz n)(h:n+n<=8000):ik.G [bV b]=.ok (.val (fV (df b))) []:=by
 have lw:=vM hb hs (by omega);have ib:(bV b).items=some [fV b.l,fV b.t,fV b.w,fV b.h]:=rfl;have o1:=xf hs.w hs.h hb.2 h;have o2:=xf hs.h hs.w hb.1 h;unfold ik df;rw[bT];unfold wo;unfold CB at lw;by_cases hl:b.w<b.h
 .rw[if_pos hl] at lw ⊢;simp![bz,bB,bA,bp,aO,aQ,aW,aA,aF,aS,aN,aK,aD,aw,aV,az,aX,aM,aa,ao,bg,ay,aE,ag,au,aj,aY,aR,aP,bw,bt,aZ,aU,bc,aC,bo,bq,bf,bj,aB,aG,ak,aq,bh,aT,a8,ar,aH,av,aJ,af,ba,ah,bu,lw,ib,o1,o2,uB]
 .rw[if_neg hl] at lw ⊢;simp![bz,bB,bA,bp,aO,aQ,aW,aA,aF,aS,aN,aK,aD,aw,aV,az,aX,aM,aa,ao,bg,ay,aE,ag,au,aj,aY,aR,aP,bw,bt,aZ,aU,bc,aC,bo,bq,bf,bj,aB,aG,ak,aq,bh,aT,a8,ar,aH,av,aJ,af,ba,ah,bu,lw,ib,o1,o2,tE]
def Sz.over{p q:Rat}{n m:Nat}(hp:Sz n p)(hq:Sz m q)(h0:0<q):Sz (n+m) (p/q):=by
 have hq0:q≠0:=λz=>by rw[z] at h0;exact absurd h0 (by decide)
 have hn:q.num≠0:=λz=>hq0 (QC.mp z);rw[nW hq0];exact Sz.div (Pw (dW p) hn) (hp.top.mul hq.bot) (hp.bot.mul hq.top) (n+m) (z_ _) (z_ _)
def l7{b:Bx}{n:Nat}(hb:b.Ok)(hs:b.Sz n):Sz (n+n) (df b):=by
 unfold df;split
 .exact Sz.over hs.h hs.w hb.1
 .exact Sz.over hs.w hs.h hb.2
def uJ{p q:Rat}{n m:Nat}(hp:Sz n p)(hq:Sz m q)(h1:n<=100000)(h2:m<=100000):fF.G [.lst [fV p,fV q]]=.ok (.val (fV (if p<q then q else p))) []:=by
 have l1:=fB hp hp h1 h1;have l2:=fB hp hq h1 h2;rw[F_ (Rat.lt_irrefl:¬ p<p)] at l1;unfold fF;rw[bT];unfold lL jY;by_cases hl:p<q
 .rw[J_ hl] at l2;rw[if_pos hl];simp![bz,bB,bA,bp,aO,aQ,aW,aA,aF,aS,aN,aK,aD,aw,aV,az,aX,aM,aa,ao,bg,ay,aE,ag,au,aj,aY,aR,aP,bw,bt,aZ,aU,bc,aC,bo,bq,bf,bj,aB,aG,ak,aq,bh,aT,a8,ar,aH,av,aJ,af,ba,ah,bu,bY,l1,l2]
 .rw[F_ hl] at l2;rw[if_neg hl];simp![bz,bB,bA,bp,aO,aQ,aW,aA,aF,aS,aN,aK,aD,aw,aV,az,aX,aM,aa,ao,bg,ay,aE,ag,au,aj,aY,aR,aP,bw,bt,aZ,aU,bc,aC,bo,bq,bf,bj,aB,aG,ak,aq,bh,aT,a8,ar,aH,av,aJ,af,ba,ah,bu,bY,l1,l2]
noncomputable def prV(p:Rat×Rat):Val:=.tup [fV p.1,fV p.2]
theorem xp{s l:Rat}{n m:Nat}{W:Int}{wv:Val}(hs:Sz n s)(hl:Sz n l)(hW:0<W)(mW:Sm m W)(h:n+n+m<=8000):∀(ws:List Int) (a:Int) (acc:List (Rat×Rat)) (s6 s7:Sl),s6.pl=true->s7.pl=true->0<=a->(∀w∈ws,0<=w)->a+ws.sum<=W->acc.length+ws.length<=16777216->∃s6' s7',dJ (gtN 6).G jD.G (ws.map .int) [.sh (fV s),.sh (fV l),.sh wv,.sh (.int W),.sh (.int a),.ow (.lst (acc.map prV)),s6,s7]=.nx [.sh (fV s),.sh (fV l),.sh wv,.sh (.int W),.sh (.int (a+ws.sum)),.ow (.lst ((acc++shL s l W a ws).map prV)),s6',s7']
 | [],a,acc,s6,s7,h6,h7,ha,hw,hsum,c_=>⟨s6,s7,by rw[OP,j6,List.sum_nil,Int.add_zero];unfold shL;rw[O9]⟩
 |
  w::ws,a,acc,s6,s7,h6,h7,ha,hw,hsum,c_=>by
  have hw0:=hw w (C_ ..);have hws:0<=ws.sum:=by
   have:∀l:List Int,(∀w∈l,0<=w)->0<=l.sum:=by
    intro l;induction l with
    |nil=>intro _;simp
    |cons x l ih=>intro hx;rw[OJ];have:=hx x (C_ ..);have:=ih λw hw=>hx w (y_ _ hw);omega
   exact this ws λx hx=>hw x (y_ _ hx)
  rw[OJ] at hsum;rw[L_] at c_;have sa:Sm m a:=mW.of_le (by omega);have sw:Sm m w:=mW.of_le (by omega);have f1:=fH (a:=a) (b:=W) (by omega) (mW.mono (by omega));have f2:=fH (a:=w) (b:=W) (by omega) (mW.mono (by omega));have z1:Sz m ((a:Rat)/(W:Rat)):=Sz.div (by omega) sa mW m (z_ _) (z_ _);have z2:Sz m ((w:Rat)/(W:Rat)):=Sz.div (by omega) sw mW m (z_ _) (z_ _);have t1:=nL hl z1 (by omega);have t2:=nL hl z2 (by omega);have ad:=Cr hs (hl.mul z1) (by omega);have ll:(acc.map prV).length<16777216:=by rw[v_];omega
  obtain⟨t6,t7,ih⟩:=xp (wv:=wv) hs hl hW mW h ws (a+w) (acc++[(s+l*((a:Rat)/(W:Rat)),l*((w:Rat)/(W:Rat)))]) (.sh (.int w)) (.sh (fV (s+l*((a:Rat)/(W:Rat))))) rfl rfl (by omega) (λx hx=>hw x (y_ _ hx)) (by omega) (by simp;omega);refine⟨t6,t7,?_⟩;have g1:(gtN 6).G (.int w) [.sh (fV s),.sh (fV l),.sh wv,.sh (.int W),.sh (.int a),.ow (.lst (acc.map prV)),s6,s7]=some [.sh (fV s),.sh (fV l),.sh wv,.sh (.int W),.sh (.int a),.ow (.lst (acc.map prV)),.sh (.int w),s7]:=by simp![bz,bB,bA,bp,aO,aQ,aW,aA,aF,aS,aN,aK,aD,aw,aV,az,aX,aM,aa,ao,bg,ay,aE,ag,au,aj,aY,aR,aP,bw,bt,aZ,aU,bc,aC,bo,bq,bf,bj,aB,aG,ak,aq,bh,aT,a8,ar,aH,av,aJ,af,ba,ah,bu,h6]
  have b1:jD.G [.sh (fV s),.sh (fV l),.sh wv,.sh (.int W),.sh (.int a),.ow (.lst (acc.map prV)),.sh (.int w),s7]=.nx [.sh (fV s),.sh (fV l),.sh wv,.sh (.int W),.sh (.int (a+w)),.ow (.lst ((acc++[(s+l*((a:Rat)/(W:Rat)),l*((w:Rat)/(W:Rat)))]).map prV)),.sh (.int w),.sh (fV (s+l*((a:Rat)/(W:Rat))))]:=by unfold jD;rw[O0];simp![bz,bB,bA,bp,aO,aQ,aW,aA,aF,aS,aN,aK,aD,aw,aV,az,aX,aM,aa,ao,bg,ay,aE,ag,au,aj,aY,aR,aP,bw,bt,aZ,aU,bc,aC,bo,bq,bf,bj,aB,aG,ak,aq,bh,aT,a8,ar,aH,av,aJ,af,ba,ah,bu,h7,f1,f2,t1,t2,ad,ll,prV]
  rw[B_,bY,g1];simp only[b1,i5];rw[ih,OJ];rw[show shL s l W a (w::ws)=(s+l*((a:Rat)/(W:Rat)),l*((w:Rat)/(W:Rat)))::shL s l W (a+w) ws from rfl,O1,show a+w+ws.sum=a+(w+ws.sum) by omega];rfl
def rH{s l:Rat}{n m:Nat}{ws:List Int}(hs:Sz n s)(hl:Sz n l)(hw:∀w∈ws,0<=w)(h0:0<ws.sum)(mW:Sm m ws.sum)(h:n+n+m<=8000)(c_:ws.length<=1000):ie.G [fV s,fV l,.lst (ws.map .int)]=.ok (.new (.lst ((shL s l ws.sum 0 ws).map prV))) []:=by obtain⟨s6,s7,lo⟩:=xp (wv:=.lst (ws.map .int)) hs hl h0 mW h ws 0 [] .no .no rfl rfl (by omega) hw (by omega) (by simp;omega);rw[OL,OP] at lo;unfold ie;rw[bT];unfold vk;simp![bz,bB,bA,bp,aO,aQ,aW,aA,aF,aS,aN,aK,aD,aw,aV,az,aX,aM,aa,ao,bg,ay,aE,ag,au,aj,aY,aR,aP,bw,bt,aZ,aU,bc,aC,bo,bq,bf,bj,aB,aG,ak,aq,bh,aT,a8,ar,aH,av,aJ,af,ba,ah,bu,lo]
def Ij{way:Str}(hw:way="across" \/ way="down"):gk.G [.str way]=.ok (.val .non) []:=by
 have i1:∀x:Str,(eK fO).G [.str x,.ty "str"]=.val (.bl true):=λ_=>rfl;have i2:bIn.G (.str way) (.tup [.str "across",.str "down"])=.val (.bl true):=by rcases hw with rfl |rfl <;> rfl
 have e1:jr.G [.str way]=.ok (.val (.bl true)) []:=by unfold jr;rw[bT];unfold tT;simp![bz,bB,bA,bp,aO,aQ,aW,aA,aF,aS,aN,aK,aD,aw,aV,az,aX,aM,aa,ao,bg,ay,aE,ag,au,aj,aY,aR,aP,bw,bt,aZ,aU,bc,aC,bo,bq,bf,bj,aB,aG,ak,aq,bh,aT,a8,ar,aH,av,aJ,af,ba,ah,bu,i1,i2]
 unfold gk;rw[bT];unfold ng;simp![bz,bB,bA,bp,aO,aQ,aW,aA,aF,aS,aN,aK,aD,aw,aV,az,aX,aM,aa,ao,bg,ay,aE,ag,au,aj,aY,aR,aP,bw,bt,aZ,aU,bc,aC,bo,bq,bf,bj,aB,aG,ak,aq,bh,aT,a8,ar,aH,av,aJ,af,ba,ah,bu,e1]
def zw{b:Bx}{n m:Nat}{way:Str}{ws:List Int}(hb:b.Ok)(hs:b.Sz n)(hway:way="across" \/ way="down")(h0:ws≠[])(hw:∀w∈ws,1<=w)(mW:Sm m ws.sum)(h:n+n+m<=8000)(c_:ws.length<=40):hZ.G [bV b,.str way,.lst (ws.map .int)]=.ok (.new (.lst ((eA b way ws).map bV))) []:=by
 have cw:=zo h0 hw c_;have cy:=Ij hway;have sp:0<ws.sum:=by
  cases ws with
  |nil=>exact absurd rfl h0
  |
   cons x l=>
   rw[OJ]
   have:=hw x (C_ ..)
   have:∀l:List Int,(∀w∈l,1<=w)->0<=l.sum:=by
    intro l;induction l with
    |nil=>intro _;simp
    |cons x l ih=>intro hx;rw[OJ];have:=hx x (C_ ..);have:=ih λw hw=>hx w (y_ _ hw);omega
   have:=this l λx hx=>hw x (y_ _ hx)
   omega
 have cb:dG.G [.tup [fV b.l,fV b.t,fV b.w,fV b.h]]=.ok (.val .non) []:=jk hb;have sh1:=rH hs.l hs.w (λw z=>by have:=hw w z;omega) sp mW h (by omega);have sh2:=rH hs.t hs.h (λw z=>by have:=hw w z;omega) sp mW h (by omega);show hZ.G [.tup [fV b.l,fV b.t,fV b.w,fV b.h],.str way,.lst (ws.map .int)]=_;unfold hZ eA;rw[bT];unfold ui;rcases hway with rfl |rfl
 .rw[if_pos (rfl:("across" : Str)="across")];have ln:=qM b.l b.w ws.sum ws 0;obtain⟨e',⟨s,t,rfl,_,_⟩,lc⟩:=gA (g:=(gtT 2 (bM (gtN 0) (bM (gtN 1) cU))).G) (F:=(cx (ai (ax 0) (ai (ax 2) (ai (ax 1) (ai (ax 3) bx))))).G) prV (λp=>bV ⟨p.1,b.t,p.2,b.h⟩) (λe=>∃s t,e=[s,t,.sh (fV b.t),.sh (fV b.h)]/\s.pl=true/\t.pl=true) (shL b.l b.w ws.sum 0 ws) [] [.no,.no,.sh (fV b.t),.sh (fV b.h)] ⟨.no,.no,rfl,rfl,rfl⟩ (by
   rintro p hp e ⟨s,t,rfl,hs,ht⟩;refine⟨[.sh (fV p.1),.sh (fV p.2),.sh (fV b.t),.sh (fV b.h)],.val (bV ⟨p.1,b.t,p.2,b.h⟩),[.sh (fV p.1),.sh (fV p.2),.sh (fV b.t),.sh (fV b.h)],?_,?_,rfl,⟨_,_,rfl,rfl,rfl⟩⟩
   .simp![bz,bB,bA,bp,aO,aQ,aW,aA,aF,aS,aN,aK,aD,aw,aV,az,aX,aM,aa,ao,bg,ay,aE,ag,au,aj,aY,aR,aP,bw,bt,aZ,aU,bc,aC,bo,bq,bf,bj,aB,aG,ak,aq,bh,aT,a8,ar,aH,av,aJ,af,ba,ah,bu,prV,hs,ht]
   .simp![bz,bB,bA,bp,aO,aQ,aW,aA,aF,aS,aN,aK,aD,aw,aV,az,aX,aM,aa,ao,bg,ay,aE,ag,au,aj,aY,aR,aP,bw,bt,aZ,aU,bc,aC,bo,bq,bf,bj,aB,aG,ak,aq,bh,aT,a8,ar,aH,av,aJ,af,ba,ah,bu,bV]) (by rw[ln,OM];omega)
  rw[OL] at lc;have ll:((shL b.l b.w ws.sum 0 ws).map λp=>bV ⟨p.1,b.t,p.2,b.h⟩).length<=16777216:=by rw[v_,ln];omega
  rw[PN,show (bV ∘ λp:Rat×Rat=>(⟨p.1,b.t,p.2,b.h⟩:Bx))=λp=>bV ⟨p.1,b.t,p.2,b.h⟩ from rfl];simp![bz,bB,bA,bp,aO,aQ,aW,aA,aF,aS,aN,aK,aD,aw,aV,az,aX,aM,aa,ao,bg,ay,aE,ag,au,aj,aY,aR,aP,bw,bt,aZ,aU,bc,aC,bo,bq,bf,bj,aB,aG,ak,aq,bh,aT,a8,ar,aH,av,aJ,af,ba,ah,bu,cb,cy,cw,tE,sh1,lc,ll]
 .have hne:¬ (("down" : Str)="across"):=by decide
  rw[if_neg hne];have ln:=qM b.t b.h ws.sum ws 0;obtain⟨e',⟨s,t,rfl,_,_⟩,lc⟩:=gA (g:=(gtT 2 (bM (gtN 0) (bM (gtN 1) cU))).G) (F:=(cx (ai (ax 2) (ai (ax 0) (ai (ax 3) (ai (ax 1) bx))))).G) prV (λp=>bV ⟨b.l,p.1,b.w,p.2⟩) (λe=>∃s t,e=[s,t,.sh (fV b.l),.sh (fV b.w)]/\s.pl=true/\t.pl=true) (shL b.t b.h ws.sum 0 ws) [] [.no,.no,.sh (fV b.l),.sh (fV b.w)] ⟨.no,.no,rfl,rfl,rfl⟩ (by
   rintro p hp e ⟨s,t,rfl,hs,ht⟩;refine⟨[.sh (fV p.1),.sh (fV p.2),.sh (fV b.l),.sh (fV b.w)],.val (bV ⟨b.l,p.1,b.w,p.2⟩),[.sh (fV p.1),.sh (fV p.2),.sh (fV b.l),.sh (fV b.w)],?_,?_,rfl,⟨_,_,rfl,rfl,rfl⟩⟩
   .simp![bz,bB,bA,bp,aO,aQ,aW,aA,aF,aS,aN,aK,aD,aw,aV,az,aX,aM,aa,ao,bg,ay,aE,ag,au,aj,aY,aR,aP,bw,bt,aZ,aU,bc,aC,bo,bq,bf,bj,aB,aG,ak,aq,bh,aT,a8,ar,aH,av,aJ,af,ba,ah,bu,prV,hs,ht]
   .simp![bz,bB,bA,bp,aO,aQ,aW,aA,aF,aS,aN,aK,aD,aw,aV,az,aX,aM,aa,ao,bg,ay,aE,ag,au,aj,aY,aR,aP,bw,bt,aZ,aU,bc,aC,bo,bq,bf,bj,aB,aG,ak,aq,bh,aT,a8,ar,aH,av,aJ,af,ba,ah,bu,bV]) (by rw[ln,OM];omega)
  rw[OL] at lc;have ll:((shL b.t b.h ws.sum 0 ws).map λp=>bV ⟨b.l,p.1,b.w,p.2⟩).length<=16777216:=by rw[v_,ln];omega
  rw[PN,show (bV ∘ λp:Rat×Rat=>(⟨b.l,p.1,b.w,p.2⟩:Bx))=λp=>bV ⟨b.l,p.1,b.w,p.2⟩ from rfl];simp![bz,bB,bA,bp,aO,aQ,aW,aA,aF,aS,aN,aK,aD,aw,aV,az,aX,aM,aa,ao,bg,ay,aE,ag,au,aj,aY,aR,aP,bw,bt,aZ,aU,bc,aC,bo,bq,bf,bj,aB,aG,ak,aq,bh,aT,a8,ar,aH,av,aJ,af,ba,ah,bu,cb,cy,cw,uB,sh2,lc,ll]
def oK{ws nums:List Int}(hr:Inr ws nums)(hl:nums.length<=1000):∃s,lcV (gtN 0).G qY.G (pOp bIx (ax 1) (ax 0)).G (nums.map .int) [] [.no,.sh (.lst (ws.map .int))]=.ok ((nums.map (cL ws)).map Val.int) [s,.sh (.lst (ws.map .int))]:=by
 obtain⟨e',⟨s,rfl,_⟩,lc⟩:=gA (g:=(gtN 0).G) (F:=(pOp bIx (ax 1) (ax 0)).G) Val.int (λi=>.int (cL ws i)) (λe=>∃s,e=[s,.sh (.lst (ws.map .int))]/\s.pl=true) nums [] [.no,.sh (.lst (ws.map .int))] ⟨.no,rfl,rfl⟩ (by
  rintro i hi e ⟨s,rfl,hs⟩;have a1:=DQ (hr i hi).1 (hr i hi).2;refine⟨[.sh (.int i),.sh (.lst (ws.map .int))],.val (.int (cL ws i)),[.sh (.int i),.sh (.lst (ws.map .int))],?_,?_,rfl,⟨_,rfl,rfl⟩⟩
  .simp![bz,bB,bA,bp,aO,aQ,aW,aA,aF,aS,aN,aK,aD,aw,aV,az,aX,aM,aa,ao,bg,ay,aE,ag,au,aj,aY,aR,aP,bw,bt,aZ,aU,bc,aC,bo,bq,bf,bj,aB,aG,ak,aq,bh,aT,a8,ar,aH,av,aJ,af,ba,ah,bu,hs]
  .simp![bz,bB,bA,bp,aO,aQ,aW,aA,aF,aS,aN,aK,aD,aw,aV,az,aX,aM,aa,ao,bg,ay,aE,ag,au,aj,aY,aR,aP,bw,bt,aZ,aU,bc,aC,bo,bq,bf,bj,aB,aG,ak,aq,bh,aT,a8,ar,aH,av,aJ,af,ba,ah,bu,a1]) (by simp;omega)
 rw[OL,show nums.map (λi=>Val.int (cL ws i))=(nums.map (cL ws)).map Val.int by rw[PN];rfl] at lc;exact⟨s,lc⟩
def jz{ws nums:List Int}(hr:Inr ws nums)(hl:nums.length<=1000):d8.G [liV nums,liV ws]=.ok (.val (.int (wt ws nums))) []:=by
 obtain⟨s,lc⟩:=oK hr hl;have ll:((nums.map (cL ws)).map Val.int).length<=16777216:=by rw[v_,v_];omega
 show d8.G [.lst (nums.map .int),.lst (ws.map .int)]=_;unfold d8 wt;rw[bT];unfold nj;simp![bz,bB,bA,bp,aO,aQ,aW,aA,aF,aS,aN,aK,aD,aw,aV,az,aX,aM,aa,ao,bg,ay,aE,ag,au,aj,aY,aR,aP,bw,bt,aZ,aU,bc,aC,bo,bq,bf,bj,aB,aG,ak,aq,bh,aT,a8,ar,aH,av,aJ,af,ba,ah,bu,dm,lc,ll]
theorem my{B:PSt}(hB:B=(bO false 2 (pOp cH (ax 2) (pLC (cm (ax 2)) [none,some 3] (by decide) (gtN 0) qY (pOp cH (ax 0) (c7 (ai (ax 1) bx))))))){nv kv:Val}:∀(rest:List Int) (L:List (List Int)) (s3:Sl),s3.pl=true->L.length*2^rest.length<=1000000->(∀l∈L,l.length+rest.length<=1000)->∃s3',dJ (gtN 3).G B.G (rest.map .int) [.sh nv,.sh kv,.sh (.lst (L.map liV)),s3]=.nx [.sh nv,.sh kv,.sh (.lst ((fT L rest).map liV)),s3']
 | [],L,s3,h3,hb,hl=>⟨s3,by rw[OP,j6];rfl⟩
 |
  x::rest,L,s3,h3,hb,hl=>by
  rw[L_,Nat.pow_succ] at hb;have hpow:1<=2^rest.length:=Nat.one_le_two_pow;have hb1:L.length<=1000000:=I_ (Nat.le_mul_of_pos_right _ (Nat.mul_pos hpow (by decide))) hb;have hll:(L++L.map λl=>l++[x]).length=L.length+L.length:=by rw[H_,v_]
  obtain⟨s',ih⟩:=my hB (nv:=nv) (kv:=kv) rest (L++L.map λl=>l++[x]) (.sh (.int x)) rfl (by
   rw[hll,<- Nat.two_mul,Qz 2,Nat.mul_assoc,Qz 2];exact hb) (λl h=>by
   rcases O4.mp h with h |h
   .have:=hl l h
    rw[L_] at this;omega
   .obtain⟨l',h',rfl⟩:=OQ.mp h
    have:=hl l' h'
    rw[L_] at this;rw[H_];show l'.length+1+_<=_;omega)
  refine⟨s',?_⟩;have g1:(gtN 3).G (.int x) [.sh nv,.sh kv,.sh (.lst (L.map liV)),s3]=some [.sh nv,.sh kv,.sh (.lst (L.map liV)),.sh (.int x)]:=by simp![bz,bB,bA,bp,aO,aQ,aW,aA,aF,aS,aN,aK,aD,aw,aV,az,aX,aM,aa,ao,bg,ay,aE,ag,au,aj,aY,aR,aP,bw,bt,aZ,aU,bc,aC,bo,bq,bf,bj,aB,aG,ak,aq,bh,aT,a8,ar,aH,av,aJ,af,ba,ah,bu,h3]
  obtain⟨e',⟨s,rfl,_⟩,lc⟩:=gA (g:=(gtN 0).G) (F:=(pOp cH (ax 0) (c7 (ai (ax 1) bx))).G) liV (λl=>liV (l++[x])) (λe=>∃s,e=[s,.sh (.int x)]/\s.pl=true) L [] [.no,.sh (.int x)] ⟨.no,rfl,rfl⟩ (by
   rintro l h e ⟨s,rfl,hs⟩;have ll:=hl l h;have cl:(l.map Val.int).length+1<=16777216:=by rw[v_];omega
   have e2:liV (l++[x])=.lst (l.map .int++[.int x]):=by unfold liV;rw[O0];rfl
   refine⟨[.sh (liV l),.sh (.int x)],.new (liV (l++[x])),[.sh (liV l),.sh (.int x)],?_,?_,rfl,⟨_,rfl,rfl⟩⟩
   .simp![bz,bB,bA,bp,aO,aQ,aW,aA,aF,aS,aN,aK,aD,aw,aV,az,aX,aM,aa,ao,bg,ay,aE,ag,au,aj,aY,aR,aP,bw,bt,aZ,aU,bc,aC,bo,bq,bf,bj,aB,aG,ak,aq,bh,aT,a8,ar,aH,av,aJ,af,ba,ah,bu,hs]
   .rw[e2];simp![bz,bB,bA,bp,aO,aQ,aW,aA,aF,aS,aN,aK,aD,aw,aV,az,aX,aM,aa,ao,bg,ay,aE,ag,au,aj,aY,aR,aP,bw,bt,aZ,aU,bc,aC,bo,bq,bf,bj,aB,aG,ak,aq,bh,aT,a8,ar,aH,av,aJ,af,ba,ah,bu,liV,cl]) (by rw[OM];omega)
  rw[OL] at lc;have c1:(L.map λl=>liV (l++[x])).length<=16777216:=by rw[v_];omega
  have c2:(L.map liV).length+(L.map λl=>liV (l++[x])).length<=16777216:=by rw[v_,v_];omega
  have hcat:L.map liV++(L.map λl=>liV (l++[x]))=(L++L.map λl=>l++[x]).map liV:=by simp
  have b1:B.G [.sh nv,.sh kv,.sh (.lst (L.map liV)),.sh (.int x)]=.nx [.sh nv,.sh kv,.sh (.lst (L.map liV++(L.map λl=>liV (l++[x])))),.sh (.int x)]:=by rw[hB];simp![bz,bB,bA,bp,aO,aQ,aW,aA,aF,aS,aN,aK,aD,aw,aV,az,aX,aM,aa,ao,bg,ay,aE,ag,au,aj,aY,aR,aP,bw,bt,aZ,aU,bc,aC,bo,bq,bf,bj,aB,aG,ak,aq,bh,aT,a8,ar,aH,av,aJ,af,ba,ah,bu,dm,lc,c1,c2]
  rw[hcat] at b1;rw[B_,bY,g1];simp only[b1,i5];exact ih
def zW:eh (.str "order") (.str "order")=some true:=by rw[L3.eq_str (by decide) (by decide)];exact OU some (by decide)
def zA:eh (.str "any") (.str "order")=some false:=by rw[L3.eq_str (by decide) (by decide)];exact OU some (by decide)
def wW{n:Nat}(h:n<=1000):qT [.int 1,.int (n:Nat)]=some ((List.range' 1 (n-1)).map λi=>Val.int (i:Nat)):=by unfold qT;dsimp only;rw[if_pos ⟨⟨by decide,by decide⟩,⟨by omega,by omega⟩⟩];unfold rf;rw[List.range'_eq_map_range,PN,show (((n:Nat):Int)-1).toNat=n-1 by omega];congr 1
def wG{nums:List Int}(hl:nums.length<=1000):∃s,lcV (gtN 0).G qY.G (pSl (ax 1) oN (oS (ax 0))).G ((List.range' 1 (nums.length-1)).map λi=>Val.int (i:Nat)) [] [.no,.sh (.lst (nums.map .int))]=.ok ((cK "order" nums).map liV) [s,.sh (.lst (nums.map .int))]:=by
 obtain⟨e',⟨s,rfl,_⟩,lc⟩:=gA (g:=(gtN 0).G) (F:=(pSl (ax 1) oN (oS (ax 0))).G) (λi:Nat=>Val.int (i:Nat)) (λi=>liV (nums.take i)) (λe=>∃s,e=[s,.sh (.lst (nums.map .int))]/\s.pl=true) (List.range' 1 (nums.length-1)) [] [.no,.sh (.lst (nums.map .int))] ⟨.no,rfl,rfl⟩ (by
  rintro i hi e ⟨s,rfl,hs⟩;have sl:aSl (.lst (nums.map Val.int)) none (some ((i:Nat):Int))=.new (.lst ((nums.take i).map .int)):=by rw[ka,vo,List.map_take]
  refine⟨[.sh (.int (i:Nat)),.sh (.lst (nums.map .int))],.new (liV (nums.take i)),[.sh (.int (i:Nat)),.sh (.lst (nums.map .int))],?_,?_,rfl,⟨_,rfl,rfl⟩⟩
  .simp![bz,bB,bA,bp,aO,aQ,aW,aA,aF,aS,aN,aK,aD,aw,aV,az,aX,aM,aa,ao,bg,ay,aE,ag,au,aj,aY,aR,aP,bw,bt,aZ,aU,bc,aC,bo,bq,bf,bj,aB,aG,ak,aq,bh,aT,a8,ar,aH,av,aJ,af,ba,ah,bu,hs]
  .simp![bz,bB,bA,bp,aO,aQ,aW,aA,aF,aS,aN,aK,aD,aw,aV,az,aX,aM,aa,ao,bg,ay,aE,ag,au,aj,aY,aR,aP,bw,bt,aZ,aU,bc,aC,bo,bq,bf,bj,aB,aG,ak,aq,bh,aT,a8,ar,aH,av,aJ,af,ba,ah,bu,liV,sl]) (by simp;omega)
 rw[OL] at lc;refine⟨s,?_⟩;rw[lc];unfold cK;rw[if_pos rfl,PN];rfl
def yN{nums:List Int}{kind:Str}(hk:kind="order" \/ kind="any")(h2:nums≠[])(hl:nums.length<=10):fm.G [liV nums,.str kind]=.ok (.new (.lst ((cK kind nums).map liV))) []:=by
 have c_:=lE (kind:=kind) hl;rcases hk with rfl |rfl
 .obtain⟨s,lc⟩:=wG (nums:=nums) (by omega);have rg:=wW (n:=nums.length) (by omega);have ll:((cK "order" nums).map liV).length<=16777216:=by rw[v_];omega
  have lm:((nums.map Val.int).length:Nat)=nums.length:=v_ ..;show fm.G [.lst (nums.map .int),.str "order"]=_;unfold fm;rw[bT];unfold mm;simp![bz,bB,bA,bp,aO,aQ,aW,aA,aF,aS,aN,aK,aD,aw,aV,az,aX,aM,aa,ao,bg,ay,aE,ag,au,aj,aY,aR,aP,bw,bt,aZ,aU,bc,aC,bo,bq,bf,bj,aB,aG,ak,aq,bh,aT,a8,ar,aH,av,aJ,af,ba,ah,bu,zW,lm,rg,dm,lc,ll]
 .match nums,h2 with
  |
   x::rest,h2=>
   rw[L_] at hl;obtain⟨s',q4⟩:=my (B:=oJ) rfl (nv:=.lst ((x::rest).map .int)) (kv:=.str "any") rest [[x]] .no rfl (by have:2^rest.length<=2^9:=OS (by decide) (by omega);simp;omega) (by intro l hl';rw[OG] at hl';subst hl';simp;omega);have s1:aSl (.lst (Val.int x::rest.map .int)) none (some 1)=.new (liV [x]):=by rw[ka,show (some 1:Option Int)=some ((1:Nat):Int) from rfl,vo];rfl
   have s2:aSl (.lst (Val.int x::rest.map .int)) (some 1) none=.new (.lst (rest.map .int)):=by rw[ka,show (some 1:Option Int)=some ((1:Nat):Int) from rfl,tf];rfl
   have s3:aSl (.lst ((fT [[x]] rest).map liV)) none (some (-1))=.new (.lst ((cK "any" (x::rest)).map liV)):=by rw[ka,wC];unfold cK;rw[if_neg (by decide),List.map_dropLast]
   show fm.G [.lst ((x::rest).map .int),.str "any"]=_;unfold fm;rw[bT];unfold mm;rw[show [[x]].map liV=[liV [x]] from rfl,show (x::rest).map Val.int=Val.int x::rest.map Val.int from rfl] at q4;simp![bz,bB,bA,bp,aO,aQ,aW,aA,aF,aS,aN,aK,aD,aw,aV,az,aX,aM,aa,ao,bg,ay,aE,ag,au,aj,aY,aR,aP,bw,bt,aZ,aU,bc,aC,bo,bq,bf,bj,aB,aG,ak,aq,bh,aT,a8,ar,aH,av,aJ,af,ba,ah,bu,zA,s1,s2,q4,s3]
def zi(nums l:List Int)(hl:nums.length<=1000):∃s,lcV (gtN 0).G (qOf (pOp lj (ax 0) (ax 1))).G (ax 0).G (nums.map .int) [] [.no,.sh (liV l)]=.ok ((rst nums l).map .int) [s,.sh (liV l)]:=by
 obtain⟨e',⟨s,rfl,_⟩,lc⟩:=qE (g:=(gtN 0).G) (c:=(qOf (pOp lj (ax 0) (ax 1))).G) (F:=(ax 0).G) (λx=>!l.contains x) Val.int Val.int (λe=>∃s,e=[s,.sh (liV l)]/\s.pl=true) nums [] [.no,.sh (liV l)] ⟨.no,rfl,rfl⟩ (by
  rintro x hx e ⟨s,rfl,hs⟩;have k1:lj.G (.int x) (liV l)=.val (.bl (!l.contains x)):=zr l x;refine⟨[.sh (.int x),.sh (liV l)],[.sh (.int x),.sh (liV l)],?_,?_,⟨_,rfl,rfl⟩,λ_=>⟨.val (.int x),[.sh (.int x),.sh (liV l)],?_,rfl,⟨_,rfl,rfl⟩⟩⟩
  .simp![bz,bB,bA,bp,aO,aQ,aW,aA,aF,aS,aN,aK,aD,aw,aV,az,aX,aM,aa,ao,bg,ay,aE,ag,au,aj,aY,aR,aP,bw,bt,aZ,aU,bc,aC,bo,bq,bf,bj,aB,aG,ak,aq,bh,aT,a8,ar,aH,av,aJ,af,ba,ah,bu,hs]
  .simp![bz,bB,bA,bp,aO,aQ,aW,aA,aF,aS,aN,aK,aD,aw,aV,az,aX,aM,aa,ao,bg,ay,aE,ag,au,aj,aY,aR,aP,bw,bt,aZ,aU,bc,aC,bo,bq,bf,bj,aB,aG,ak,aq,bh,aT,a8,ar,aH,av,aJ,af,ba,ah,bu,k1]
  .simp![bz,bB,bA,bp,aO,aQ,aW,aA,aF,aS,aN,aK,aD,aw,aV,az,aX,aM,aa,ao,bg,ay,aE,ag,au,aj,aY,aR,aP,bw,bt,aZ,aU,bc,aC,bo,bq,bf,bj,aB,aG,ak,aq,bh,aT,a8,ar,aH,av,aJ,af,ba,ah,bu]) (by rw[OM];omega)
 rw[OL] at lc;exact⟨s,lc⟩
def Kv{nums l:List Int}{kv:Val}{acc:List (Str×List Int×List Int)}{s4:Sl}(h4:s4.pl=true)(hl:nums.length<=1000)(ha:acc.length<=1000000):i9.G [.sh (liV nums),.sh kv,.ow (.lst (acc.map cuV)),.sh (liV l),s4]=.nx [.sh (liV nums),.sh kv,.ow (.lst ((acc++eL nums l).map cuV)),.sh (liV l),.sh (.str "down")]:=by
 obtain⟨s,lc⟩:=zi nums l hl;have lr:((rst nums l).map Val.int).length<=16777216:=by
  rw[v_]
  have:=List.length_filter_le (λx=>!l.contains x) nums
  show (nums.filter _).length<=_;omega
 have it:(liV l).items=some (l.map .int):=rfl;have sq:fK (.val (.lst (nums.map .int)))=fK (.val (liV nums)):=rfl;have b1:∀(acc:List (Str×List Int×List Int)) (way:Str),acc.length<=1000001->lB.G [.sh (liV nums),.sh kv,.ow (.lst (acc.map cuV)),.sh (liV l),.sh (.str way)]=.nx [.sh (liV nums),.sh kv,.ow (.lst ((acc++[(way,l,rst nums l)]).map cuV)),.sh (liV l),.sh (.str way)]:=by
  intro acc way ha;have la:(acc.map cuV).length<16777216:=by rw[v_];omega
  have e2:(acc++[(way,l,rst nums l)]).map cuV=acc.map cuV++[.tup [.str way,.lst (l.map .int),.lst ((rst nums l).map .int)]]:=by rw[O0];rfl
  rw[e2];unfold lB;unfold liV at lc ⊢;simp![bz,bB,bA,bp,aO,aQ,aW,aA,aF,aS,aN,aK,aD,aw,aV,az,aX,aM,aa,ao,bg,ay,aE,ag,au,aj,aY,aR,aP,bw,bt,aZ,aU,bc,aC,bo,bq,bf,bj,aB,aG,ak,aq,bh,aT,a8,ar,aH,av,aJ,af,ba,ah,bu,AW,dm,lc,lr,la]
 unfold i9;have e3:acc++eL nums l=(acc++[(("across" : Str),l,rst nums l)])++[(("down" : Str),l,rst nums l)]:=by unfold eL;simp
 rw[e3];have c1:=b1 acc "across" (by omega);have c2:=b1 (acc++[(("across" : Str),l,rst nums l)]) "down" (by rw[H_];show acc.length+1<=_;omega);simp![bz,bB,bA,bp,aO,aQ,aW,aA,aF,aS,aN,aK,aD,aw,aV,az,aX,aM,aa,ao,bg,ay,aE,ag,au,aj,aY,aR,aP,bw,bt,aZ,aU,bc,aC,bo,bq,bf,bj,aB,aG,ak,aq,bh,aT,a8,ar,aH,av,aJ,af,ba,ah,bu,bY,h4,c1,c2]
def i7{nums:List Int}{kind:Str}(hk:kind="order" \/ kind="any")(h2:nums≠[])(hl:nums.length<=10):fk.G [liV nums,.str kind]=.ok (.new (.lst ((bI kind nums).map cuV))) []:=by
 have lo:=yN hk h2 hl;have ln:=lE (kind:=kind) hl;have fold:∀(ls:List (List Int)) (acc:List (Str×List Int×List Int)) (s3 s4:Sl),s3.pl=true->s4.pl=true->acc.length+2*ls.length<=1000000->∃s3' s4',dJ (gtN 3).G i9.G (ls.map liV) [.sh (liV nums),.sh (.str kind),.ow (.lst (acc.map cuV)),s3,s4]=.nx [.sh (liV nums),.sh (.str kind),.ow (.lst ((acc++ls.flatMap (eL nums)).map cuV)),s3',s4']:=by
  intro ls;induction ls with
  |nil=>intro acc s3 s4 _ _ _;exact⟨s3,s4,by rw[OP,j6,List.flatMap_nil,O9]⟩
  |
   cons l ls ih=>
   intro acc s3 s4 h3 h4 hb;rw[L_] at hb;have g1:(gtN 3).G (liV l) [.sh (liV nums),.sh (.str kind),.ow (.lst (acc.map cuV)),s3,s4]=some [.sh (liV nums),.sh (.str kind),.ow (.lst (acc.map cuV)),.sh (liV l),s4]:=by simp![bz,bB,bA,bp,aO,aQ,aW,aA,aF,aS,aN,aK,aD,aw,aV,az,aX,aM,aa,ao,bg,ay,aE,ag,au,aj,aY,aR,aP,bw,bt,aZ,aU,bc,aC,bo,bq,bf,bj,aB,aG,ak,aq,bh,aT,a8,ar,aH,av,aJ,af,ba,ah,bu,h3]
   have b2:=Kv (kv:=.str kind) (nums:=nums) (l:=l) (acc:=acc) h4 (by omega) (by omega);obtain⟨t3,t4,q⟩:=ih (acc++eL nums l) (.sh (liV l)) (.sh (.str "down")) rfl rfl (by rw[H_];show acc.length+2+_<=_;omega);refine⟨t3,t4,?_⟩;rw[B_,bY,g1];simp only[b2,i5];rw[q,List.flatMap_cons,O1]
 obtain⟨s3,s4,fr⟩:=fold (cK kind nums) [] .no .no rfl rfl (by rw[OM];omega);rw[OL,OP] at fr;unfold fk bI;rw[bT];unfold rq;simp![bz,bB,bA,bp,aO,aQ,aW,aA,aF,aS,aN,aK,aD,aw,aV,az,aX,aM,aa,ao,bg,ay,aE,ag,au,aj,aY,aR,aP,bw,bt,aZ,aU,bc,aC,bo,bq,bf,bj,aB,aG,ak,aq,bh,aT,a8,ar,aH,av,aJ,af,ba,ah,bu,lo,fr]
def jN{c:Str×List Int×List Int}{b:Bx}{ws:List Int}{n m:Nat}(hb:b.Ok)(hs:b.Sz n)(hway:c.1="across" \/ c.1="down")(r1:Inr ws c.2.1)(r2:Inr ws c.2.2)(l1:c.2.1.length<=1000)(l2:c.2.2.length<=1000)(h1:1<=wt ws c.2.1)(h2:1<=wt ws c.2.2)(mW:Sm m (wt ws c.2.1+wt ws c.2.2))(h:n+n+m<=8000):eJ.G [cuV c,bV b,liV ws]=.ok (.new (.lst [bV (cF b c.1 (wt ws c.2.1) (wt ws c.2.2)),bV (cI b c.1 (wt ws c.2.1) (wt ws c.2.2))])) []:=by have w1:=jz r1 l1;have w2:=jz r2 l2;have pe:=zw (ws:=[wt ws c.2.1,wt ws c.2.2]) hb hs hway (by simp) (by intro w hw;simp at hw;omega) (m:=m) (by simpa using mW) h (by simp);rw[lX,B_,B_,OP,B_,B_,OP] at pe;show eJ.G [.tup [.str c.1,liV c.2.1,liV c.2.2],bV b,liV ws]=_;unfold eJ;rw[bT];unfold pq;simp![bz,bB,bA,bp,aO,aQ,aW,aA,aF,aS,aN,aK,aD,aw,aV,az,aX,aM,aa,ao,bg,ay,aE,ag,au,aj,aY,aR,aP,bw,bt,aZ,aU,bc,aC,bo,bq,bf,bj,aB,aG,ak,aq,bh,aT,a8,ar,aH,av,aJ,af,ba,ah,bu,w1,w2,pe]
theorem uq(x y:Val):∀(n one e_:Nat),e_<=n->(xWh (qOf (pOp bGt (ax 3) (bC 0))) jb).G [.sh x,.sh y,.sh (.int (one:Nat)),.sh (.int (e_:Nat))]=.nx [.sh x,.sh y,.sh (.int (Nat.gcd one e_:Nat)),.sh (.int 0)]
 |
  n,one,0,_=>by
  rw[xD];simp![bz,bB,bA,bp,aO,aQ,aW,aA,aF,aS,aN,aK,aD,aw,aV,az,aX,aM,aa,ao,bg,ay,aE,ag,au,aj,aY,aR,aP,bw,bt,aZ,aU,bc,aC,bo,bq,bf,bj,aB,aG,ak,aq,bh,aT,a8,ar,aH,av,aJ,af,ba,ah,bu,Nat.gcd_zero_right,Int.natCast_zero,Int.lt_irrefl]
 |0,one,e_+1,hl=>absurd hl (by omega)
 |
  n+1,one,e_+1,hl=>by
  rw[xD];have e:decide ((0:Int)<((e_+1:Nat):Int))=true:=J_ (by omega);have e1:dY.G (.int (one:Nat)) (.int ((e_+1:Nat):Int))=.val (.int (((one:Nat):Int).fmod ((e_+1:Nat):Int))):=iI (by omega);have e2:((one:Nat):Int).fmod ((e_+1:Nat):Int)=((one % (e_+1):Nat):Int):=by rw[Int.fmod_eq_emod_of_nonneg _ (by omega)];rfl
  have ih:=uq x y n (e_+1) (one % (e_+1)) (by have:=Nat.mod_lt one (show e_+1>0 by omega);omega);rw[Fr.euc] at ih;rw[e2] at e1;have bb:jb.G [.sh x,.sh y,.sh (.int (one:Nat)),.sh (.int ((e_+1:Nat):Int))]=.nx [.sh x,.sh y,.sh (.int ((e_+1:Nat):Int)),.sh (.int ((one % (e_+1):Nat):Int))]:=by unfold jb;simp![bz,bB,bA,bp,aO,aQ,aW,aA,aF,aS,aN,aK,aD,aw,aV,az,aX,aM,aa,ao,bg,ay,aE,ag,au,aj,aY,aR,aP,bw,bt,aZ,aU,bc,aC,bo,bq,bf,bj,aB,aG,ak,aq,bh,aT,a8,ar,aH,av,aJ,af,ba,ah,bu,e1]
  simp![bz,bB,bA,bp,aO,aQ,aW,aA,aF,aS,aN,aK,aD,aw,aV,az,aX,aM,aa,ao,bg,ay,aE,ag,au,aj,aY,aR,aP,bw,bt,aZ,aU,bc,aC,bo,bq,bf,bj,aB,aG,ak,aq,bh,aT,a8,ar,aH,av,aJ,af,ba,ah,bu,e,bb,ih]
def gi{a b:Int}(hb:0<b)(hs:Sm 8000 b):cV.G [.int a,.int b]=.ok (.val (fV ((a:Rat)/(b:Rat)))) []:=by
 unfold cV;rw[bT];unfold rS;have hb0:b≠0:=by omega
 have lo:=uq (.int a) (.int b) b.natAbs a.natAbs b.natAbs (z_ _);rw[show Nat.gcd a.natAbs b.natAbs=Int.gcd a b from rfl,show ((b.natAbs:Nat):Int)=b by omega] at lo;have c:∀x,CDivB x (Fr.dv a b):=λx=>CDivB.of (Fr.dv_ne hb0) (hs.of_le (by rw[Fr.dv_abs];exact Nat.le_of_dvd (by omega) (Nat.gcd_dvd_right a.natAbs b.natAbs)));have k1:=mP (c a);have k2:=mP (c b);have hh:=o3 (a:=a) hb0;have i_:Val.tup [.int (a.fdiv (Fr.dv a b)),.int (b.fdiv (Fr.dv a b))]=fV ((a:Rat)/(b:Rat)):=by unfold fV;rw[<- hh.1,<- hh.2];rfl
 have hd:Fr.dv a b=((Int.gcd a b:Nat):Int):=by unfold Fr.dv;rw[if_neg (by omega)]
 rw[hd] at k1 k2 i_;simp![bz,bB,bA,bp,aO,aQ,aW,aA,aF,aS,aN,aK,aD,aw,aV,az,aX,aM,aa,ao,bg,ay,aE,ag,au,aj,aY,aR,aP,bw,bt,aZ,aU,bc,aC,bo,bq,bf,bj,aB,aG,ak,aq,bh,aT,a8,ar,aH,av,aJ,af,ba,ah,bu,xq,lo,k1,k2,i_]
def gM{p q:Rat}{n m:Nat}(hp:Sz n p)(hq:Sz m q)(h:n+m<=8000):d6.G [fV p,fV q]=.ok (.val (fV (p*q))) []:=by have c1:=cJ (CMulA.of hp.top hq.top (by omega) (by omega));have c2:=cJ (CMulA.of hp.bot hq.bot (by omega) (by omega));have dp:=p.den_pos;have dq:=q.den_pos;have lo:=gi (a:=p.num*q.num) (b:=p.den*q.den) (Int.mul_pos (by omega) (by omega)) ((hp.bot.mul hq.bot).mono h);rw[<- qH] at lo;unfold d6;rw[bT];unfold m7;rw[show fV p=.tup [.int p.num,.int p.den] from rfl,show fV q=.tup [.int q.num,.int q.den] from rfl];simp![bz,bB,bA,bp,aO,aQ,aW,aA,aF,aS,aN,aK,aD,aw,aV,az,aX,aM,aa,ao,bg,ay,aE,ag,au,aj,aY,aR,aP,bw,bt,aZ,aU,bc,aC,bo,bq,bf,bj,aB,aG,ak,aq,bh,aT,a8,ar,aH,av,aJ,af,ba,ah,bu,c1,c2,lo]
def ja{p q:Rat}{n m:Nat}(hp:Sz n p)(hq:Sz m q)(h:n+m<=8000):fN.G [fV p,fV q]=.ok (.val (fV (p+q))) []:=by have c1:=cJ (CMulA.of hp.top hq.bot (by omega) (by omega));have c2:=cJ (CMulA.of hq.top hp.bot (by omega) (by omega));have c3:=cJ (CMulA.of hp.bot hq.bot (by omega) (by omega));have dp:=p.den_pos;have dq:=q.den_pos;have lo:=gi (a:=p.num*q.den+q.num*p.den) (b:=p.den*q.den) (Int.mul_pos (by omega) (by omega)) ((hp.bot.mul hq.bot).mono h);rw[<- qr] at lo;unfold fN;rw[bT];unfold se;rw[show fV p=.tup [.int p.num,.int p.den] from rfl,show fV q=.tup [.int q.num,.int q.den] from rfl];simp![bz,bB,bA,bp,aO,aQ,aW,aA,aF,aS,aN,aK,aD,aw,aV,az,aX,aM,aa,ao,bg,ay,aE,ag,au,aj,aY,aR,aP,bw,bt,aZ,aU,bc,aC,bo,bq,bf,bj,aB,aG,ak,aq,bh,aT,a8,ar,aH,av,aJ,af,ba,ah,bu,c1,c2,c3,lo]
def nt{p q:Rat}{n m:Nat}(hp:Sz n p)(hq:Sz m q)(h0:0<q)(h:n+m<=8000):fZ.G [fV p,fV q]=.ok (.val (fV (p/q))) []:=by
 have c1:=cJ (CMulA.of hp.top hq.bot (by omega) (by omega));have c2:=cJ (CMulA.of hp.bot hq.top (by omega) (by omega));have hq0:q≠0:=λz=>by rw[z] at h0;exact absurd h0 (by decide)
 have hn:0<q.num:=wN.mpr h0;have dp:=p.den_pos;have lo:=gi (a:=p.num*q.den) (b:=p.den*q.num) (Int.mul_pos (by omega) hn) ((hp.bot.mul hq.top).mono h);rw[<- nW hq0] at lo;unfold fZ;rw[bT];unfold oz;rw[show fV p=.tup [.int p.num,.int p.den] from rfl,show fV q=.tup [.int q.num,.int q.den] from rfl];simp![bz,bB,bA,bp,aO,aQ,aW,aA,aF,aS,aN,aK,aD,aw,aV,az,aX,aM,aa,ao,bg,ay,aE,ag,au,aj,aY,aR,aP,bw,bt,aZ,aU,bc,aC,bo,bq,bf,bj,aB,aG,ak,aq,bh,aT,a8,ar,aH,av,aJ,af,ba,ah,bu,c1,c2,lo]
def eQ{p q:Rat}{n m:Nat}(hp:Sz n p)(hq:Sz m q)(h1:n<=100000)(h2:m<=100000):cP.G [fV p,fV q]=.ok (.val (.bl (decide (p<q)))) []:=by have c1:=cJ (CMulA.of hp.top hq.bot h1 h2);have c2:=cJ (CMulA.of hq.top hp.bot h2 h1);unfold cP;rw[bT];unfold o8;rw[show fV p=.tup [.int p.num,.int p.den] from rfl,show fV q=.tup [.int q.num,.int q.den] from rfl];simp![bz,bB,bA,bp,aO,aQ,aW,aA,aF,aS,aN,aK,aD,aw,aV,az,aX,aM,aa,ao,bg,ay,aE,ag,au,aj,aY,aR,aP,bw,bt,aZ,aU,bc,aC,bo,bq,bf,bj,aB,aG,ak,aq,bh,aT,a8,ar,aH,av,aJ,af,ba,ah,bu,c1,c2];rw[show decide (p.num*(q.den:Int)<q.num*(p.den:Int))=decide (p<q) from decide_eq_decide.mpr (AZ p q).symm]
def uI{b:Bx}{n:Nat}(hb:b.Ok)(hs:b.Sz n)(h:n+n<=8000):gm.G [bV b]=.ok (.val (fV (df b))) []:=by
 have il:=eQ hs.w hs.h (by omega) (by omega);have ib:(bV b).items=some [fV b.l,fV b.t,fV b.w,fV b.h]:=rfl;have o1:=nt hs.w hs.h hb.2 h;have o2:=nt hs.h hs.w hb.1 h;unfold gm df;rw[bT];unfold nq;by_cases hl:b.w<b.h
 .rw[if_pos hl];rw[J_ hl] at il;simp![bz,bB,bA,bp,aO,aQ,aW,aA,aF,aS,aN,aK,aD,aw,aV,az,aX,aM,aa,ao,bg,ay,aE,ag,au,aj,aY,aR,aP,bw,bt,aZ,aU,bc,aC,bo,bq,bf,bj,aB,aG,ak,aq,bh,aT,a8,ar,aH,av,aJ,af,ba,ah,bu,il,ib,o1,o2]
 .rw[if_neg hl];rw[F_ hl] at il;simp![bz,bB,bA,bp,aO,aQ,aW,aA,aF,aS,aN,aK,aD,aw,aV,az,aX,aM,aa,ao,bg,ay,aE,ag,au,aj,aY,aR,aP,bw,bt,aZ,aU,bc,aC,bo,bq,bf,bj,aB,aG,ak,aq,bh,aT,a8,ar,aH,av,aJ,af,ba,ah,bu,il,ib,o1,o2]
def sH{nums:List Int}{kind:Str}(hk:kind="order" \/ kind="any")(h2:nums≠[])(hl:nums.length<=10):dM.G [liV nums,.str kind]=.ok (.new (.lst ((cK kind nums).map liV))) []:=by
 have c_:=lE (kind:=kind) hl;rcases hk with rfl |rfl
 .obtain⟨s,lc⟩:=wG (nums:=nums) (by omega);have rg:=wW (n:=nums.length) (by omega);have ll:((cK "order" nums).map liV).length<=16777216:=by rw[v_];omega
  have lm:((nums.map Val.int).length:Nat)=nums.length:=v_ ..;show dM.G [.lst (nums.map .int),.str "order"]=_;unfold dM;rw[bT];unfold jn;simp![bz,bB,bA,bp,aO,aQ,aW,aA,aF,aS,aN,aK,aD,aw,aV,az,aX,aM,aa,ao,bg,ay,aE,ag,au,aj,aY,aR,aP,bw,bt,aZ,aU,bc,aC,bo,bq,bf,bj,aB,aG,ak,aq,bh,aT,a8,ar,aH,av,aJ,af,ba,ah,bu,zW,lm,rg,dm,lc,ll]
 .match nums,h2 with
  |
   x::rest,h2=>
   rw[L_] at hl;obtain⟨s',q4⟩:=my (B:=lJ) rfl (nv:=.lst ((x::rest).map .int)) (kv:=.str "any") rest [[x]] .no rfl (by have:2^rest.length<=2^9:=OS (by decide) (by omega);simp;omega) (by intro l hl';rw[OG] at hl';subst hl';simp;omega);have s2:aSl (.lst (Val.int x::rest.map .int)) (some 1) none=.new (.lst (rest.map .int)):=by rw[ka,show (some 1:Option Int)=some ((1:Nat):Int) from rfl,tf];rfl
   have s3:aSl (.lst ((fT [[x]] rest).map liV)) none (some (-1))=.new (.lst ((cK "any" (x::rest)).map liV)):=by rw[ka,wC];unfold cK;rw[if_neg (by decide),List.map_dropLast]
   show dM.G [.lst ((x::rest).map .int),.str "any"]=_;unfold dM;rw[bT];unfold jn;rw[show [[x]].map liV=[.lst [.int x]] from rfl,show (x::rest).map Val.int=Val.int x::rest.map Val.int from rfl] at q4;simp![bz,bB,bA,bp,aO,aQ,aW,aA,aF,aS,aN,aK,aD,aw,aV,az,aX,aM,aa,ao,bg,ay,aE,ag,au,aj,aY,aR,aP,bw,bt,aZ,aU,bc,aC,bo,bq,bf,bj,aB,aG,ak,aq,bh,aT,a8,ar,aH,av,aJ,af,ba,ah,bu,zA,s2,q4,s3]
noncomputable def prt(b:Bx)(way:Str)(W a:Int)(ws:List Int):List Bx:=if way="across" then (shL b.l b.w W a ws).map λp=>⟨p.1,b.t,p.2,b.h⟩ else (shL b.t b.h W a ws).map λp=>⟨b.l,p.1,b.w,p.2⟩
def NT(b:Bx)(W a w:Int)(ws:List Int):prt b "across" W a (w::ws)=(⟨b.l+b.w*((a:Rat)/(W:Rat)),b.t,b.w*((w:Rat)/(W:Rat)),b.h⟩:Bx)::prt b "across" W (a+w) ws:=by unfold prt;rw[if_pos rfl,if_pos rfl];rfl
def LX(b:Bx)(W a w:Int)(ws:List Int):prt b "down" W a (w::ws)=(⟨b.l,b.t+b.h*((a:Rat)/(W:Rat)),b.w,b.h*((w:Rat)/(W:Rat))⟩:Bx)::prt b "down" W (a+w) ws:=by
 have hne:¬ (("down" : Str)="across"):=by decide
 unfold prt;rw[if_neg hne,if_neg hne];rfl
def E5(b:Bx)(way:Str)(W a:Int):prt b way W a []=[]:=by unfold prt;split <;> rfl
theorem nZ{b:Bx}{n m:Nat}{W:Int}{wl:List Int}(hb:b.Ok)(hs:b.Sz n)(hW:0<W)(mW:Sm m W)(h:n+n+m<=8000)(hsum:wl.sum=W){way:Str}(hway:way="across" \/ way="down"):∀(ws:List Int) (a:Int) (acc:List Bx) (s9 s10 s11:Sl),s9.pl=true->s10.pl=true->s11.pl=true->0<=a->(∀w∈ws,1<=w)->a+ws.sum<=W->acc.length+ws.length<=1000->∃s8' s9' s10' s11',dJ (gtN 9).G fX.G (ws.map .int) [.sh (bV b),.sh (.str way),.sh (.lst (wl.map .int)),.sh (fV b.l),.sh (fV b.t),.sh (fV b.w),.sh (fV b.h),.ow (.lst (acc.map bV)),.sh (.int a),s9,s10,s11]=.nx [.sh (bV b),.sh (.str way),.sh (.lst (wl.map .int)),.sh (fV b.l),.sh (fV b.t),.sh (fV b.w),.sh (fV b.h),.ow (.lst ((acc++prt b way W a ws).map bV)),s8',s9',s10',s11']
 | [],a,acc,s9,s10,s11,h9,h10,h11,ha,hw,hs',c_=>⟨.sh (.int a),s9,s10,s11,by rw[OP,j6,E5,O9]⟩
 |
  w::ws,a,acc,s9,s10,s11,h9,h10,h11,ha,hw,hs',c_=>by
  have hw0:=hw w (C_ ..);have hws:=iL (l:=ws) λx hx=>hw x (y_ _ hx);rw[OJ] at hs';rw[L_] at c_;have sa:Sm m a:=mW.of_le (by omega);have sw:Sm m w:=mW.of_le (by omega);have f1:=gi (a:=a) (b:=W) hW (mW.mono (by omega));have f2:=gi (a:=w) (b:=W) hW (mW.mono (by omega));have z1:Sz m ((a:Rat)/(W:Rat)):=Sz.div (by omega) sa mW m (z_ _) (z_ _);have z2:Sz m ((w:Rat)/(W:Rat)):=Sz.div (by omega) sw mW m (z_ _) (z_ _);have ll:(acc.map bV).length<16777216:=by rw[v_];omega
  have g1:(gtN 9).G (.int w) [.sh (bV b),.sh (.str way),.sh (.lst (wl.map .int)),.sh (fV b.l),.sh (fV b.t),.sh (fV b.w),.sh (fV b.h),.ow (.lst (acc.map bV)),.sh (.int a),s9,s10,s11]=some [.sh (bV b),.sh (.str way),.sh (.lst (wl.map .int)),.sh (fV b.l),.sh (fV b.t),.sh (fV b.w),.sh (fV b.h),.ow (.lst (acc.map bV)),.sh (.int a),.sh (.int w),s10,s11]:=by simp![bz,bB,bA,bp,aO,aQ,aW,aA,aF,aS,aN,aK,aD,aw,aV,az,aX,aM,aa,ao,bg,ay,aE,ag,au,aj,aY,aR,aP,bw,bt,aZ,aU,bc,aC,bo,bq,bf,bj,aB,aG,ak,aq,bh,aT,a8,ar,aH,av,aJ,af,ba,ah,bu,h9]
  rcases hway with rfl |rfl
  .have t1:=gM hs.w z1 (by omega);have t2:=gM hs.w z2 (by omega);have ad:=ja hs.l (hs.w.mul z1) (by omega);obtain⟨t8,t9,t10,t11,ih⟩:=nZ hb hs hW mW h hsum (.inl rfl) ws (a+w) (acc++[(⟨b.l+b.w*((a:Rat)/(W:Rat)),b.t,b.w*((w:Rat)/(W:Rat)),b.h⟩:Bx)]) (.sh (.int w)) (.sh (fV ((a:Rat)/(W:Rat)))) (.sh (fV ((w:Rat)/(W:Rat)))) rfl rfl rfl (by omega) (λx hx=>hw x (y_ _ hx)) (by omega) (by rw[H_];show acc.length+1+_<=_;omega);refine⟨t8,t9,t10,t11,?_⟩;have b1:fX.G [.sh (bV b),.sh (.str "across"),.sh (.lst (wl.map .int)),.sh (fV b.l),.sh (fV b.t),.sh (fV b.w),.sh (fV b.h),.ow (.lst (acc.map bV)),.sh (.int a),.sh (.int w),s10,s11]=.nx [.sh (bV b),.sh (.str "across"),.sh (.lst (wl.map .int)),.sh (fV b.l),.sh (fV b.t),.sh (fV b.w),.sh (fV b.h),.ow (.lst ((acc++[(⟨b.l+b.w*((a:Rat)/(W:Rat)),b.t,b.w*((w:Rat)/(W:Rat)),b.h⟩:Bx)]).map bV)),.sh (.int (a+w)),.sh (.int w),.sh (fV ((a:Rat)/(W:Rat))),.sh (fV ((w:Rat)/(W:Rat)))]:=by unfold fX;rw[O0,show [(⟨b.l+b.w*((a:Rat)/(W:Rat)),b.t,b.w*((w:Rat)/(W:Rat)),b.h⟩:Bx)].map bV=[.tup [fV (b.l+b.w*((a:Rat)/(W:Rat))),fV b.t,fV (b.w*((w:Rat)/(W:Rat))),fV b.h]] from rfl];simp![bz,bB,bA,bp,aO,aQ,aW,aA,aF,aS,aN,aK,aD,aw,aV,az,aX,aM,aa,ao,bg,ay,aE,ag,au,aj,aY,aR,aP,bw,bt,aZ,aU,bc,aC,bo,bq,bf,bj,aB,aG,ak,aq,bh,aT,a8,ar,aH,av,aJ,af,ba,ah,bu,h10,h11,hsum,f1,f2,t1,t2,ad,ll,tE]
   rw[B_,bY,g1];simp only[b1,i5];rw[ih,NT,O1];rfl
  .have t1:=gM hs.h z1 (by omega);have t2:=gM hs.h z2 (by omega);have ad:=ja hs.t (hs.h.mul z1) (by omega);obtain⟨t8,t9,t10,t11,ih⟩:=nZ hb hs hW mW h hsum (.inr rfl) ws (a+w) (acc++[(⟨b.l,b.t+b.h*((a:Rat)/(W:Rat)),b.w,b.h*((w:Rat)/(W:Rat))⟩:Bx)]) (.sh (.int w)) (.sh (fV ((a:Rat)/(W:Rat)))) (.sh (fV ((w:Rat)/(W:Rat)))) rfl rfl rfl (by omega) (λx hx=>hw x (y_ _ hx)) (by omega) (by rw[H_];show acc.length+1+_<=_;omega);refine⟨t8,t9,t10,t11,?_⟩;have b1:fX.G [.sh (bV b),.sh (.str "down"),.sh (.lst (wl.map .int)),.sh (fV b.l),.sh (fV b.t),.sh (fV b.w),.sh (fV b.h),.ow (.lst (acc.map bV)),.sh (.int a),.sh (.int w),s10,s11]=.nx [.sh (bV b),.sh (.str "down"),.sh (.lst (wl.map .int)),.sh (fV b.l),.sh (fV b.t),.sh (fV b.w),.sh (fV b.h),.ow (.lst ((acc++[(⟨b.l,b.t+b.h*((a:Rat)/(W:Rat)),b.w,b.h*((w:Rat)/(W:Rat))⟩:Bx)]).map bV)),.sh (.int (a+w)),.sh (.int w),.sh (fV ((a:Rat)/(W:Rat))),.sh (fV ((w:Rat)/(W:Rat)))]:=by unfold fX;rw[O0,show [(⟨b.l,b.t+b.h*((a:Rat)/(W:Rat)),b.w,b.h*((w:Rat)/(W:Rat))⟩:Bx)].map bV=[.tup [fV b.l,fV (b.t+b.h*((a:Rat)/(W:Rat))),fV b.w,fV (b.h*((w:Rat)/(W:Rat)))]] from rfl];simp![bz,bB,bA,bp,aO,aQ,aW,aA,aF,aS,aN,aK,aD,aw,aV,az,aX,aM,aa,ao,bg,ay,aE,ag,au,aj,aY,aR,aP,bw,bt,aZ,aU,bc,aC,bo,bq,bf,bj,aB,aG,ak,aq,bh,aT,a8,ar,aH,av,aJ,af,ba,ah,bu,h10,h11,hsum,f1,f2,t1,t2,ad,ll,uB]
   rw[B_,bY,g1];simp only[b1,i5];rw[ih,LX,O1];rfl
def ph{b:Bx}{n m:Nat}{way:Str}{u v:Int}(hb:b.Ok)(hs:b.Sz n)(hway:way="across" \/ way="down")(hu:1<=u)(hv:1<=v)(mW:Sm m (u+v))(h:n+n+m<=8000):gG.G [bV b,.str way,.lst [.int u,.int v]]=.ok (.new (.lst [bV (cF b way u v),bV (cI b way u v)])) []:=by
 have es:[u,v].sum=u+v:=by simp
 obtain⟨s8,s9,s10,s11,lo⟩:=nZ (wl:=[u,v]) hb hs (by omega:0<u+v) mW h es hway [u,v] 0 [] .no .no .no rfl rfl rfl (by omega) (by intro w hw;simp at hw;omega) (by rw[es];omega) (by simp);have pe:prt b way (u+v) 0 [u,v]=[cF b way u v,cI b way u v]:=by rw[<- lX];unfold eA prt;rw[es]
 rw[OL,pe,OP,B_,B_,OP,B_,B_,OP] at lo;have e0:bV b=.tup [fV b.l,fV b.t,fV b.w,fV b.h]:=rfl;rw[e0] at lo ⊢;unfold gG;rw[bT];unfold sd;simp![bz,bB,bA,bp,aO,aQ,aW,aA,aF,aS,aN,aK,aD,aw,aV,az,aX,aM,aa,ao,bg,ay,aE,ag,au,aj,aY,aR,aP,bw,bt,aZ,aU,bc,aC,bo,bq,bf,bj,aB,aG,ak,aq,bh,aT,a8,ar,aH,av,aJ,af,ba,ah,bu,lo]
structure Ok51(ws nums:List Int)(b:Bx)(n m:Nat):Prop where
 ne:nums≠[]
 nd:nums.Nodup
 inr:Inr ws nums
 len:nums.length<=10
 mw:Sm m (wt ws nums)
 ok:b.Ok
 sz:b.Sz n
 bd:(n+m+1)*2^nums.length<=4000
def Ok51.nm{ws nums:List Int}{b:Bx}{n m:Nat}(h:Ok51 ws nums b n m):n+m+1<=2000:=by have h1:=Ox.mpr h.ne;have h2:2^1<=2^nums.length:=OS (by decide) h1;have h3:=h.bd;have:(n+m+1)*2^1<=4000:=I_ (P_ _ h2) h3;omega
structure Sub51(ws nums:List Int)(b:Bx)(n m:Nat)(c:Str×List Int×List Int):Prop where
 w1:1<=wt ws c.2.1
 w2:1<=wt ws c.2.2
 sm:Sm m (wt ws c.2.1+wt ws c.2.2)
 o1:Ok51 ws c.2.1 (cF b c.1 (wt ws c.2.1) (wt ws c.2.2)) (n+(n+m)+1) m
 o2:Ok51 ws c.2.2 (cI b c.1 (wt ws c.2.1) (wt ws c.2.2)) (n+(n+m)+1) m
def Ok51.cut{ws nums:List Int}{b:Bx}{n m:Nat}(h:Ok51 ws nums b n m)(hw:∀w∈ws,1<=w){c:Str×List Int×List Int}(hc:CutOk nums c):Sub51 ws nums b n m c:=by
 have r1:Inr ws c.2.1:=λi hi=>h.inr i (hc.one.sub.subset hi);have r2:Inr ws c.2.2:=λi hi=>h.inr i (hc.two.sub.subset hi);have l1:=Ox.mpr hc.one.ne;have l2:=Ox.mpr hc.two.ne;have g1:=ox hw r1;have g2:=ox hw r2;have es:wt ws c.2.1+wt ws c.2.2=wt ws nums:=by rw[<- A0];have p:=kG hc.one.sub h.nd;rw[<- hc.rest] at p;exact jg p
 have sm:Sm m (wt ws c.2.1+wt ws c.2.2):=by rw[es];exact h.mw
 have k1:=FU (way:=c.1) h.ok h.sz (by omega:1<=wt ws c.2.1) (by omega:1<=wt ws c.2.2) sm;have k2:=Ga (way:=c.1) h.ok h.sz (by omega:1<=wt ws c.2.1) (by omega:1<=wt ws c.2.2) sm;have bd:∀l:List Int,Lot nums l->(n+(n+m)+1+m+1)*2^l.length<=4000:=by intro l hl;have h1:=hl.lt;have h2:2^(l.length+1)<=2^nums.length:=OS (by decide) h1;have h3:=h.bd;have h4:(n+m+1)*2^(l.length+1)<=4000:=I_ (P_ _ h2) h3;rw[Nat.pow_succ,Qz (2^l.length),<- Nat.mul_assoc] at h4;rw[show n+(n+m)+1+m+1=(n+m+1)*2 by omega];exact h4
 have hl:=h.len;have q1:=hc.one.lt;have q2:=hc.two.lt;exact⟨by omega,by omega,sm,⟨hc.one.ne,h.nd.sublist hc.one.sub,r1,by omega,sm.of_le (by omega),k1.1,k1.2,bd _ hc.one⟩,⟨hc.two.ne,h.nd.sublist hc.two.sub,r2,by omega,sm.of_le (by omega),k2.1,k2.2,bd _ hc.two⟩⟩
def AR{nums:List Int}(nd:nums.Nodup){c:Str×List Int×List Int}(h:c∈bI "order" nums):c.2.1++c.2.2=nums:=by
 have hc:=fh nd h;obtain⟨l,hl,hc'⟩:=List.mem_flatMap.mp h;unfold cK at hl;rw[if_pos rfl] at hl;obtain⟨i,_,rfl⟩:=OQ.mp hl;have e:c.2.1=nums.take i:=by
  unfold eL at hc';rcases N_.mp hc' with rfl |hc'
  .rfl
  .rw[OG] at hc';subst hc';rfl
 rw[hc.rest,e,Cq nd,Qt]
def IK(kind:Str)(ws nums:List Int)(b:Bx)(o:Option Rat)(bv:Val):Prop:=match o with
 |none=>bv=.non
 |some q=>∃t ls,bv=.tup [fV q,t]/\Sz 4000 q/\ls.Perm nums/\(kind="order"->ls=nums)/\Tr ws b ls t q
def xE(q:Rat):L3.flatV (fV q)=true:=by unfold fV;simp [fq,cN,dE,iQ]
def Dx{x y:Rat}{n:Nat}(hx:Sz n x)(hy:Sz n y):Sz n (mx x y):=by
 unfold mx;split
 .exact hy
 .exact hx
def MX{x y:Rat}:¬ mx x y<x:=by
 unfold mx;split
 .rename_i h;exact OT.mpr (OW h)
 .exact Rat.lt_irrefl
theorem mC{kind:Str}{ws:List Int}{m:Nat}(hk:kind="order" \/ kind="any")(hw:∀w∈ws,1<=w):∀(k:Nat) (nums:List Int) (b:Bx) (n:Nat),Ok51 ws nums b n m->nums.length<=k->∃t ls,(eP k).G [bV b,liV ws,.str kind,liV nums]=.ok (.val (.tup [fV (bst kind ws k b nums),t])) []/\Sz 4000 (bst kind ws k b nums)/\ls.Perm nums/\(kind="order"->ls=nums)/\Tr ws b ls t (bst kind ws k b nums)
 |0,nums,b,n,H,hl=>absurd (Ox.mpr H.ne) (by omega)
 |
  k+1,nums,b,n,H,hl=>by
  have nm:=H.nm;show ∃t ls,(PFx.of [false,false,false,false] 11 (gn (eP k))).G [bV b,liV ws,.str kind,liV nums]=_/\_;by_cases h1:nums.length=1
  .have eb:bst kind ws (k+1) b nums=df b:=by unfold bst;rw[if_pos h1]
   rw[eb]
   match nums,h1 with
   |[i],_=>have sh:=oh H.ok H.sz (by omega);refine⟨.int i,[i],?_,(l7 H.ok H.sz).mono (by omega),List.Perm.refl _,λ_=>rfl,.leaf b i⟩;rw[fC];unfold gn;show (if _ then _ else _)=_;have it:(liV [i])=.lst [.int i]:=rfl;rw[it];simp![bz,bB,bA,bp,aO,aQ,aW,aA,aF,aS,aN,aK,aD,aw,aV,az,aX,aM,aa,ao,bg,ay,aE,ag,au,aj,aY,aR,aP,bw,bt,aZ,aU,bc,aC,bo,bq,bf,bj,aB,aG,ak,aq,bh,aT,a8,ar,aH,av,aJ,af,ba,ah,bu,sh]
  .have hl2:2<=nums.length:=by have:=Ox.mpr H.ne;omega
   have hne:((((nums.map Val.int).length:Nat):Int)==1)=false:=by rw[Oy,v_];omega
   have ce:=i7 hk H.ne H.len;obtain⟨q,eq⟩:=j9 (λc=>cX (bst kind ws k) ws b c) (j5 (kind:=kind) hl2);have eb:bst kind ws (k+1) b nums=q:=by unfold bst;rw[if_neg h1,eq];rfl
   obtain⟨e',⟨bv,s5,s6,s7,s8,s9,s10,rfl,_,hbv⟩,fr⟩:=me (g:=(gtN 5).G) (B:=(eX (eP k)).G) cuV (λo c=>cD o (cX (bst kind ws k) ws b c)) (λo e=>∃bv s5 s6 s7 s8 s9 s10,e=[.sh (bV b),.sh (liV ws),.sh (.str kind),.sh (liV nums),.sh bv,s5,s6,s7,s8,s9,s10]/\(s5.pl=true/\s6.pl=true/\s7.pl=true/\s8.pl=true/\s9.pl=true/\s10.pl=true)/\IK kind ws nums b o bv) (bI kind nums) none [.sh (bV b),.sh (liV ws),.sh (.str kind),.sh (liV nums),.sh .non,.no,.no,.no,.no,.no,.no] ⟨_,_,_,_,_,_,_,rfl,⟨rfl,rfl,rfl,rfl,rfl,rfl⟩,rfl⟩ (by
    rintro c hc o e ⟨bv,s5,s6,s7,s8,s9,s10,rfl,⟨g5,g6,g7,g8,g9,g10⟩,hbv⟩;have co:=fh H.nd hc;have su:=H.cut hw co;have c_:=H.len;have q1:=co.one.lt;have q2:=co.two.lt;have pb:=jN (c:=c) H.ok H.sz co.way su.o1.inr su.o2.inr (by omega) (by omega) su.w1 su.w2 su.sm (by omega);obtain⟨t1,l1,e1,z1,p1,c1,r1⟩:=mC hk hw k c.2.1 _ _ su.o1 (by omega);obtain⟨t2,l2,e2,z2,p2,c2,r2⟩:=mC hk hw k c.2.2 _ _ su.o2 (by omega);have ic:(cuV c).items=some [.str c.1,liV c.2.1,liV c.2.2]:=rfl;have fl1:L3.flatVs [fV (bst kind ws k (cF b c.1 (wt ws c.2.1) (wt ws c.2.2)) c.2.1),t1]=true:=by simp [cN,dE,xE,r1.flat]
    have fl2:L3.flatVs [fV (bst kind ws k (cI b c.1 (wt ws c.2.1) (wt ws c.2.2)) c.2.2),t2]=true:=by simp [cN,dE,xE,r2.flat]
    have tr:Tr ws b (l1++l2) (.tup [.str c.1,.tup [t1,t2]]) (cX (bst kind ws k) ws b c):=by
     refine Tr.node co.way ?_ ?_
     .rw[jg p1,jg p2];exact r1
     .rw[jg p1,jg p2];exact r2
    have pm:(l1++l2).Perm nums:=by have p:=kG co.one.sub H.nd;rw[<- co.rest] at p;exact (p1.append p2).trans p
    have oc:kind="order"->l1++l2=nums:=λz=>by rw[c1 z,c2 z];subst z;exact AR H.nd hc
    have zz:Sz 4000 (cX (bst kind ws k) ws b c):=Dx z1 z2;have gr:=uJ z1 z2 (by omega) (by omega);rw[show (if bst kind ws k (cF b c.1 (wt ws c.2.1) (wt ws c.2.2)) c.2.1<bst kind ws k (cI b c.1 (wt ws c.2.1) (wt ws c.2.2)) c.2.2 then bst kind ws k (cI b c.1 (wt ws c.2.1) (wt ws c.2.2)) c.2.2 else bst kind ws k (cF b c.1 (wt ws c.2.1) (wt ws c.2.2)) c.2.1)=cX (bst kind ws k) ws b c from rfl] at gr;have hge:¬ cX (bst kind ws k) ws b c<bst kind ws k (cF b c.1 (wt ws c.2.1) (wt ws c.2.2)) c.2.1:=MX;generalize hb1:cF b c.1 (wt ws c.2.1) (wt ws c.2.2)=b1 at *;generalize hb2:cI b c.1 (wt ws c.2.1) (wt ws c.2.2)=b2 at *;generalize hx1:bst kind ws k b1 c.2.1=x1 at *;generalize hx2:bst kind ws k b2 c.2.2=x2 at *;generalize hcd:cX (bst kind ws k) ws b c=cd at *;refine⟨[.sh (bV b),.sh (liV ws),.sh (.str kind),.sh (liV nums),.sh bv,.sh (cuV c),s6,s7,s8,s9,s10],?_⟩;have gg:(gtN 5).G (cuV c) [.sh (bV b),.sh (liV ws),.sh (.str kind),.sh (liV nums),.sh bv,s5,s6,s7,s8,s9,s10]=some [.sh (bV b),.sh (liV ws),.sh (.str kind),.sh (liV nums),.sh bv,.sh (cuV c),s6,s7,s8,s9,s10]:=by simp![bz,bB,bA,bp,aO,aQ,aW,aA,aF,aS,aN,aK,aD,aw,aV,az,aX,aM,aa,ao,bg,ay,aE,ag,au,aj,aY,aR,aP,bw,bt,aZ,aU,bc,aC,bo,bq,bf,bj,aB,aG,ak,aq,bh,aT,a8,ar,aH,av,aJ,af,ba,ah,bu,g5]
    cases o with
    |none=>have hbv':bv=.non:=hbv;subst hbv';refine⟨[.sh (bV b),.sh (liV ws),.sh (.str kind),.sh (liV nums),.sh (.tup [fV cd,.tup [.str c.1,.tup [t1,t2]]]),.sh (cuV c),.sh (bV b1),.sh (bV b2),.sh (.tup [fV x1,t1]),.sh (.tup [fV x2,t2]),.sh (fV cd)],gg,.inl ?_,_,_,_,_,_,_,_,rfl,⟨rfl,rfl,rfl,rfl,rfl,rfl⟩,_,_,rfl,zz,pm,oc,tr⟩;unfold eX;simp![bz,bB,bA,bp,aO,aQ,aW,aA,aF,aS,aN,aK,aD,aw,aV,az,aX,aM,aa,ao,bg,ay,aE,ag,au,aj,aY,aR,aP,bw,bt,aZ,aU,bc,aC,bo,bq,bf,bj,aB,aG,ak,aq,bh,aT,a8,ar,aH,av,aJ,af,ba,ah,bu,pb,e1,e2,gr,ic,fl1,fl2,g6,g7,g8,g9,g10]
    |
     some p=>
     obtain⟨t0,l0,rfl,z0,p0,c0,r0⟩:=hbv;have il:=fB z1 z0 (by omega) (by omega);by_cases hx:x1<p
     .rw[J_ hx] at il;have ig:=fB zz z0 (by omega) (by omega);by_cases hy:cd<p
      .rw[J_ hy] at ig;have ms:cD (some p) cd=some cd:=if_pos hy;rw[ms];refine⟨[.sh (bV b),.sh (liV ws),.sh (.str kind),.sh (liV nums),.sh (.tup [fV cd,.tup [.str c.1,.tup [t1,t2]]]),.sh (cuV c),.sh (bV b1),.sh (bV b2),.sh (.tup [fV x1,t1]),.sh (.tup [fV x2,t2]),.sh (fV cd)],gg,.inl ?_,_,_,_,_,_,_,_,rfl,⟨rfl,rfl,rfl,rfl,rfl,rfl⟩,_,_,rfl,zz,pm,oc,tr⟩;unfold eX;simp![bz,bB,bA,bp,aO,aQ,aW,aA,aF,aS,aN,aK,aD,aw,aV,az,aX,aM,aa,ao,bg,ay,aE,ag,au,aj,aY,aR,aP,bw,bt,aZ,aU,bc,aC,bo,bq,bf,bj,aB,aG,ak,aq,bh,aT,a8,ar,aH,av,aJ,af,ba,ah,bu,pb,e1,e2,gr,ic,fl1,fl2,il,ig,g6,g7,g8,g9,g10]
      .rw[F_ hy] at ig;have ms:cD (some p) cd=some p:=if_neg hy;rw[ms];refine⟨[.sh (bV b),.sh (liV ws),.sh (.str kind),.sh (liV nums),.sh (.tup [fV p,t0]),.sh (cuV c),.sh (bV b1),.sh (bV b2),.sh (.tup [fV x1,t1]),.sh (.tup [fV x2,t2]),.sh (fV cd)],gg,.inl ?_,_,_,_,_,_,_,_,rfl,⟨rfl,rfl,rfl,rfl,rfl,rfl⟩,_,_,rfl,z0,p0,c0,r0⟩;unfold eX;simp![bz,bB,bA,bp,aO,aQ,aW,aA,aF,aS,aN,aK,aD,aw,aV,az,aX,aM,aa,ao,bg,ay,aE,ag,au,aj,aY,aR,aP,bw,bt,aZ,aU,bc,aC,bo,bq,bf,bj,aB,aG,ak,aq,bh,aT,a8,ar,aH,av,aJ,af,ba,ah,bu,pb,e1,e2,gr,ic,fl1,fl2,il,ig,g6,g7,g8,g9,g10]
     .rw[F_ hx] at il;have hy:¬ cd<p:=OT.mpr (O3 (OT.mp hx) (OT.mp hge));have ms:cD (some p) cd=some p:=if_neg hy;rw[ms];refine⟨[.sh (bV b),.sh (liV ws),.sh (.str kind),.sh (liV nums),.sh (.tup [fV p,t0]),.sh (cuV c),.sh (bV b1),.sh (bV b2),.sh (.tup [fV x1,t1]),s9,s10],gg,.inr ?_,_,_,_,_,_,_,_,rfl,⟨rfl,rfl,rfl,rfl,g9,g10⟩,_,_,rfl,z0,p0,c0,r0⟩;unfold eX;simp![bz,bB,bA,bp,aO,aQ,aW,aA,aF,aS,aN,aK,aD,aw,aV,az,aX,aM,aa,ao,bg,ay,aE,ag,au,aj,aY,aR,aP,bw,bt,aZ,aU,bc,aC,bo,bq,bf,bj,aB,aG,ak,aq,bh,aT,a8,ar,aH,av,aJ,af,ba,ah,bu,pb,e1,ic,fl1,il,g6,g7,g8])
   rw[eq] at hbv;obtain⟨t,ls,rfl,z,pm,oc,tr⟩:=hbv;rw[eb];refine⟨t,ls,?_,z,pm,oc,tr⟩;rw[fC];unfold gn;have it:(liV nums)=.lst (nums.map .int):=rfl;rw[it] at fr ce ⊢;simp![bz,bB,bA,bp,aO,aQ,aW,aA,aF,aS,aN,aK,aD,aw,aV,az,aX,aM,aa,ao,bg,ay,aE,ag,au,aj,aY,aR,aP,bw,bt,aZ,aU,bc,aC,bo,bq,bf,bj,aB,aG,ak,aq,bh,aT,a8,ar,aH,av,aJ,af,ba,ah,bu,hne,ce,fr]
def E1{l:List Int}(h:∀x∈l,1<=x){y:Int}(hy:y∈l):y<=l.sum:=by
 induction l with
 |nil=>cases hy
 |
  cons a l ih=>
  have hn:=iL (l:=l) λx hx=>h x (y_ _ hx);rw[OJ];rcases N_.mp hy with rfl |hy
  .omega
  .have:=ih (λx hx=>h x (y_ _ hx)) hy
   have:=h a (C_ ..)
   omega
def rj{b:Bx}{bd:Rat}{n β:Nat}{x y:Val}(hb:b.Ok)(hs:b.Sz n)(h:n+n<=8000)(zb:Sz β bd)(hβ:β<=8000):iB.G [bV b,.tup [x,y,fV bd]]=.ok (.val (.bl (!decide (df b<bd)))) []:=by have e1:=oh hb hs h;have e2:=fB (l7 hb hs) zb (by omega) (by omega);unfold iB;rw[bT];unfold uV;simp![bz,bB,bA,bp,aO,aQ,aW,aA,aF,aS,aN,aK,aD,aw,aV,az,aX,aM,aa,ao,bg,ay,aE,ag,au,aj,aY,aR,aP,bw,bt,aZ,aU,bc,aC,bo,bq,bf,bj,aB,aG,ak,aq,bh,aT,a8,ar,aH,av,aJ,af,ba,ah,bu,e1,e2]
def yZ{ws nums:List Int}{i:Int}(hw:∀w∈ws,1<=w)(hr:Inr ws nums)(hi:i∈nums):1<=cL ws i/\cL ws i<=wt ws nums:=by
 have h1:∀x∈nums.map (cL ws),1<=x:=λx hx=>by obtain⟨j,hj,rfl⟩:=OQ.mp hx;exact hw _ (nN (hr j hj).1 (hr j hj).2)
 exact⟨h1 _ (QG hi),E1 h1 (QG hi)⟩
def Li{ws nums:List Int}{b:Bx}{n m:Nat}{i:Int}(H:Ok51 ws nums b n m)(hw:∀w∈ws,1<=w)(hi:i∈nums):Sz m ((cL ws i:Rat)/(wt ws nums:Rat))/\Sz (n+n+m) (thn ws b i nums):=by
 have hq:=yZ hw H.inr hi;have mw:(wt ws nums).natAbs<2^m:=H.mw;have sm1:Sm m (cL ws i):=by show (cL ws i).natAbs<2^m;omega
 have z1:=Sz.div (by omega) sm1 H.mw m (z_ _) (z_ _);exact⟨z1,(l7 H.ok H.sz).mul z1⟩
def pJ{ws nums:List Int}{b:Bx}{n m β:Nat}{bd:Rat}{y:Val}{i:Int}(H:Ok51 ws nums b n m)(hw:∀w∈ws,1<=w)(hi:i∈nums)(zb:Sz β bd)(hβ:β<=8000):gC.G [.int i,bV b,liV nums,.tup [liV ws,y,fV bd]]=.ok (.val (.bl (!decide (thn ws b i nums<bd)))) []:=by
 have nm:=H.nm;have ln:=H.len;have hq:=yZ hw H.inr hi;obtain⟨z1,z2⟩:=Li H hw hi;have e1:=oh H.ok H.sz (by omega);have e2:=fH (a:=cL ws i) (b:=wt ws nums) (by omega) (H.mw.mono (by omega));have e3:=nL (l7 H.ok H.sz) z1 (by omega);have e4:=fB z2 zb (by omega) (by omega);have e5:=jz H.inr (by omega:nums.length<=1000);have e6:=DQ (H.inr i hi).1 (H.inr i hi).2;have e7:gR.G [bV b,.int (cL ws i),.int (wt ws nums)]=.ok (.val (fV (thn ws b i nums))) []:=by unfold gR;rw[bT];unfold oq;simp![bz,bB,bA,bp,aO,aQ,aW,aA,aF,aS,aN,aK,aD,aw,aV,az,aX,aM,aa,ao,bg,ay,aE,ag,au,aj,aY,aR,aP,bw,bt,aZ,aU,bc,aC,bo,bq,bf,bj,aB,aG,ak,aq,bh,aT,a8,ar,aH,av,aJ,af,ba,ah,bu,e1,e2,e3];rfl
 unfold gC;rw[bT];unfold sg;unfold liV at e5 ⊢;simp![bz,bB,bA,bp,aO,aQ,aW,aA,aF,aS,aN,aK,aD,aw,aV,az,aX,aM,aa,ao,bg,ay,aE,ag,au,aj,aY,aR,aP,bw,bt,aZ,aU,bc,aC,bo,bq,bf,bj,aB,aG,ak,aq,bh,aT,a8,ar,aH,av,aJ,af,ba,ah,bu,e5,e6,e7,e4]
def oP(o:Option Val):Val:=o.getD .non
def GB{kind:Str}{ws:List Int}{bd:Rat}{k:Nat}{b:Bx}{nums:List Int}{v:Val}(h:brg kind ws bd k b nums=some v):∃l,v=.tup l:=by
 have:=(pk h).1
 cases k with
 |zero=>exact this.elim
 |succ k=>rcases this with ⟨_,rfl⟩ |⟨_,_,_,rfl⟩ |⟨_,_,rfl,_⟩ <;> exact⟨_,rfl⟩
def oR(o:Option (Bool×Val)):Val:=match o with
 |some r=>rwV r
 |none=>.non
def Hq{s:PFx [false,false,false]}{c:Str×List Int×List Int}{ws:List Int}{b:Bx}{n m:Nat}{bd:Rat}{kv:Val}{nums:List Int}{f:Bx->List Int->Option Val}(H:Ok51 ws nums b n m)(hw:∀w∈ws,1<=w)(hc:CutOk nums c)(hf:∀x l v,f x l=some v->∃l,v=.tup l)
 (e1:s.G [bV (cF b c.1 (wt ws c.2.1) (wt ws c.2.2)),liV c.2.1,.tup [liV ws,kv,fV bd]]=.ok (.val (oP (f (cF b c.1 (wt ws c.2.1) (wt ws c.2.2)) c.2.1))) [])
 (e2:s.G [bV (cI b c.1 (wt ws c.2.1) (wt ws c.2.2)),liV c.2.2,.tup [liV ws,kv,fV bd]]=.ok (.val (oP (f (cI b c.1 (wt ws c.2.1) (wt ws c.2.2)) c.2.2))) []):
 (cS s).G [cuV c,bV b,.tup [liV ws,kv,fV bd]]=.ok (.val (oR (brw f ws b c))) []:=by
 have S:=H.cut hw hc;have nm:=H.nm;have ln:=H.len;have l1:=hc.one.lt;have l2:=hc.two.lt;have pb:=jN H.ok H.sz hc.way S.o1.inr S.o2.inr (by omega) (by omega) S.w1 S.w2 S.sm (by omega);have ff:=hf (cF b c.1 (wt ws c.2.1) (wt ws c.2.2)) c.2.1;have fg:=hf (cI b c.1 (wt ws c.2.1) (wt ws c.2.2)) c.2.2;unfold brw;generalize cF b c.1 (wt ws c.2.1) (wt ws c.2.2)=b1 at *;generalize cI b c.1 (wt ws c.2.1) (wt ws c.2.2)=b2 at *;generalize f b1 c.2.1=o1 at *;generalize f b2 c.2.2=o2 at *;have ec:cuV c=.tup [.str c.1,liV c.2.1,liV c.2.2]:=rfl;rw[ec] at pb ⊢;generalize liV c.2.1=x1 at *;generalize liV c.2.2=x2 at *;generalize liV ws=xw at *;generalize bV b1=y1 at *;generalize bV b2=y2 at *;generalize fV bd=z at *;have en:qU 0 [y1,y2]=[.tup [.int 0,y1],.tup [.int 1,y2]]:=rfl;unfold cS;rw[bT];unfold lN jV;cases o1 with
 |some v=>obtain⟨l,rfl⟩:=ff v rfl;unfold oP at e1;simp![bz,bB,bA,bp,aO,aQ,aW,aA,aF,aS,aN,aK,aD,aw,aV,az,aX,aM,aa,ao,bg,ay,aE,ag,au,aj,aY,aR,aP,bw,bt,aZ,aU,bc,aC,bo,bq,bf,bj,aB,aG,ak,aq,bh,aT,a8,ar,aH,av,aJ,af,ba,ah,bu,pb,en,bY,e1,Option.getD_some];rfl
 |
  none=>
  unfold oP at e1;cases o2 with
  |some v=>obtain⟨l,rfl⟩:=fg v rfl;unfold oP at e2;simp![bz,bB,bA,bp,aO,aQ,aW,aA,aF,aS,aN,aK,aD,aw,aV,az,aX,aM,aa,ao,bg,ay,aE,ag,au,aj,aY,aR,aP,bw,bt,aZ,aU,bc,aC,bo,bq,bf,bj,aB,aG,ak,aq,bh,aT,a8,ar,aH,av,aJ,af,ba,ah,bu,pb,en,bY,e1,e2,Option.getD_some,Qr];rfl
  |none=>unfold oP at e2;simp![bz,bB,bA,bp,aO,aQ,aW,aA,aF,aS,aN,aK,aD,aw,aV,az,aX,aM,aa,ao,bg,ay,aE,ag,au,aj,aY,aR,aP,bw,bt,aZ,aU,bc,aC,bo,bq,bf,bj,aB,aG,ak,aq,bh,aT,a8,ar,aH,av,aJ,af,ba,ah,bu,pb,en,bY,e1,e2,Qr];rfl
theorem rJ{s:PFx [false,false,false]}{ws nums:List Int}{b:Bx}{n m β:Nat}{bd:Rat}{y:Val}(H:Ok51 ws nums b n m)(hw:∀w∈ws,1<=w)(zb:Sz β bd)(hβ:β<=8000):∀(l:List Int),(∀i∈l,i∈nums)->∀s3:Sl,s3.pl=true->(∃s3':Sl,s3'.pl=true/\(l.find? λi=>!decide (thn ws b i nums<bd))=none/\dJ (gtN 3).G (gP s).G (l.map .int) [.sh (bV b),.sh (liV nums),.sh (.tup [liV ws,y,fV bd]),s3,.no,.no,.no]=.nx [.sh (bV b),.sh (liV nums),.sh (.tup [liV ws,y,fV bd]),s3',.no,.no,.no])\/(∃i,(l.find? λi=>!decide (thn ws b i nums<bd))=some i/\dJ (gtN 3).G (gP s).G (l.map .int) [.sh (bV b),.sh (liV nums),.sh (.tup [liV ws,y,fV bd]),s3,.no,.no,.no]=.rt (.val (.tup [.str "thin",.int i])) [.sh (bV b),.sh (liV nums),.sh (.tup [liV ws,y,fV bd]),.sh (.int i),.no,.no,.no])
 | [],_,s3,h3=>.inl ⟨s3,h3,rfl,rfl⟩
 |
  i::l,hl,s3,h3=>by
  have e:=pJ (y:=y) H hw (hl i (C_ ..)) zb hβ;have ih:=rJ H hw zb hβ l (λj hj=>hl j (y_ _ hj)) (s:=s) (y:=y) (.sh (.int i)) rfl;rw[B_,Pd];generalize hd:(!decide (thn ws b i nums<bd))=d at *;have eb:(gP s).G [.sh (bV b),.sh (liV nums),.sh (.tup [liV ws,y,fV bd]),.sh (.int i),.no,.no,.no]=if d=true then .rt (.val (.tup [.str "thin",.int i])) [.sh (bV b),.sh (liV nums),.sh (.tup [liV ws,y,fV bd]),.sh (.int i),.no,.no,.no] else .nx [.sh (bV b),.sh (liV nums),.sh (.tup [liV ws,y,fV bd]),.sh (.int i),.no,.no,.no]:=by unfold gP;cases d <;> simp![bz,bB,bA,bp,aO,aQ,aW,aA,aF,aS,aN,aK,aD,aw,aV,az,aX,aM,aa,ao,bg,ay,aE,ag,au,aj,aY,aR,aP,bw,bt,aZ,aU,bc,aC,bo,bq,bf,bj,aB,aG,ak,aq,bh,aT,a8,ar,aH,av,aJ,af,ba,ah,bu,e]
  have eg:(gtN 3).G (.int i) [.sh (bV b),.sh (liV nums),.sh (.tup [liV ws,y,fV bd]),s3,.no,.no,.no]=some [.sh (bV b),.sh (liV nums),.sh (.tup [liV ws,y,fV bd]),.sh (.int i),.no,.no,.no]:=by simp![bz,bB,bA,bp,aO,aQ,aW,aA,aF,aS,aN,aK,aD,aw,aV,az,aX,aM,aa,ao,bg,ay,aE,ag,au,aj,aY,aR,aP,bw,bt,aZ,aU,bc,aC,bo,bq,bf,bj,aB,aG,ak,aq,bh,aT,a8,ar,aH,av,aJ,af,ba,ah,bu,h3]
  cases d with
  |true=>refine .inr ⟨i,rfl,?_⟩;rw[bY,eg];dsimp only;rw[eb,if_pos rfl];rfl
  |false=>rw[bY,eg];dsimp only;rw[eb,if_neg A_];exact ih
theorem rp{s:PFx [false,false,false]}{v0 v1 v2:Val}{s3:Sl}{g:Str×List Int×List Int->Option (Bool×Val)}:∀(l:List (Str×List Int×List Int)),(∀c∈l,(cS s).G [cuV c,v0,v2]=.ok (.val (oR (g c))) [])->∀(acc:List Val) (s5 s6:Sl),s5.pl=true->s6.pl=true->acc.length+l.length<=100000->((l.all λc=>(g c).isSome)=true/\∃s5' s6',dJ (gtN 5).G (fD s).G (l.map cuV) [.sh v0,.sh v1,.sh v2,s3,.ow (.lst acc),s5,s6]=.nx [.sh v0,.sh v1,.sh v2,s3,.ow (.lst (acc++l.map λc=>rwV ((g c).getD (false,.non)))),s5',s6'])\/((l.all λc=>(g c).isSome)=false/\∃s4 s5' s6',dJ (gtN 5).G (fD s).G (l.map cuV) [.sh v0,.sh v1,.sh v2,s3,.ow (.lst acc),s5,s6]=.rt (.val .non) [.sh v0,.sh v1,.sh v2,s3,s4,s5',s6'])
 | [],_,acc,s5,s6,_,_,_=>.inl ⟨rfl,s5,s6,by rw[OP,OP,O9];rfl⟩
 |
  c::l,hr,acc,s5,s6,h5,h6,hl=>by
  rw[L_] at hl;have e:=hr c (C_ ..);have ll:acc.length<16777216:=by omega
  have eg:(gtN 5).G (cuV c) [.sh v0,.sh v1,.sh v2,s3,.ow (.lst acc),s5,s6]=some [.sh v0,.sh v1,.sh v2,s3,.ow (.lst acc),.sh (cuV c),s6]:=by simp![bz,bB,bA,bp,aO,aQ,aW,aA,aF,aS,aN,aK,aD,aw,aV,az,aX,aM,aa,ao,bg,ay,aE,ag,au,aj,aY,aR,aP,bw,bt,aZ,aU,bc,aC,bo,bq,bf,bj,aB,aG,ak,aq,bh,aT,a8,ar,aH,av,aJ,af,ba,ah,bu,h5]
  rw[B_,PC,B_,bY,eg];dsimp only;cases hg:g c with
  |
   none=>
   rw[hg] at e;have e':(cS s).G [cuV c,v0,v2]=.ok (.val .non) []:=e;have eb:(fD s).G [.sh v0,.sh v1,.sh v2,s3,.ow (.lst acc),.sh (cuV c),s6]=.rt (.val .non) [.sh v0,.sh v1,.sh v2,s3,.ow (.lst acc),.sh (cuV c),.sh .non]:=by unfold fD;generalize cuV c=cv at *;simp![bz,bB,bA,bp,aO,aQ,aW,aA,aF,aS,aN,aK,aD,aw,aV,az,aX,aM,aa,ao,bg,ay,aE,ag,au,aj,aY,aR,aP,bw,bt,aZ,aU,bc,aC,bo,bq,bf,bj,aB,aG,ak,aq,bh,aT,a8,ar,aH,av,aJ,af,ba,ah,bu,e',h6]
   refine .inr ⟨rfl,.ow (.lst acc),.sh (cuV c),.sh .non,?_⟩;rw[eb];rfl
  |
   some r=>
   rw[hg] at e;have e':(cS s).G [cuV c,v0,v2]=.ok (.val (.tup [.int (if r.1 then 1 else 0),r.2])) []:=e;have eb:(fD s).G [.sh v0,.sh v1,.sh v2,s3,.ow (.lst acc),.sh (cuV c),s6]=.nx [.sh v0,.sh v1,.sh v2,s3,.ow (.lst (acc++[rwV r])),.sh (cuV c),.sh (rwV r)]:=by unfold fD rwV;generalize cuV c=cv at *;generalize (if r.1 then (1:Int) else 0)=z at *;simp![bz,bB,bA,bp,aO,aQ,aW,aA,aF,aS,aN,aK,aD,aw,aV,az,aX,aM,aa,ao,bg,ay,aE,ag,au,aj,aY,aR,aP,bw,bt,aZ,aU,bc,aC,bo,bq,bf,bj,aB,aG,ak,aq,bh,aT,a8,ar,aH,av,aJ,af,ba,ah,bu,e',h6,ll]
   rw[eb];have ih:=rp (s:=s) (v1:=v1) (s3:=s3) l (λd hd=>hr d (y_ _ hd)) (acc++[rwV r]) (.sh (cuV c)) (.sh (rwV r)) rfl rfl (by rw[H_,P4];omega);rw[O1] at ih;exact ih
def Ci{kind:Str}{nums:List Int}(h:nums.length<=10):(bI kind nums).length<=2000:=by
 have h1:=lE (kind:=kind) h;unfold bI;rw[List.length_flatMap];have:∀l:List (List Int),((l.map λa=>(eL nums a).length).sum)=2*l.length:=λl=>by
  induction l with
  |nil=>rfl
  |cons a l ih=>rw[B_,OJ,ih,L_];show 2+2*l.length=_;omega
 rw[this];omega
theorem kI{kind:Str}{ws:List Int}{m β:Nat}{bd:Rat}(hk:kind="order" \/ kind="any")(hw:∀w∈ws,1<=w)(zb:Sz β bd)(hβ:β<=8000):∀(k:Nat) (nums:List Int) (b:Bx) (n:Nat),Ok51 ws nums b n m->nums.length<=k->(fi k).G [bV b,liV nums,.tup [liV ws,.str kind,fV bd]]=.ok (.val (oP (brg kind ws bd k b nums))) []
 |0,nums,b,n,H,hl=>absurd (Ox.mpr H.ne) (by omega)
 |
  k+1,nums,b,n,H,hl=>by
  have nm:=H.nm;have ln:=H.len;have hp:=Ox.mpr H.ne;have fa:=rj (x:=liV ws) (y:=.str kind) H.ok H.sz (by omega) zb hβ;have lq:((nums.map Val.int).length:Nat)=nums.length:=v_ ..;have itl:∀xs:List Val,(Val.lst xs).items=some xs:=λ_=>rfl;show (PFx.of [false,false,false] 7 (jH (fi k))).G [bV b,liV nums,.tup [liV ws,.str kind,fV bd]]=_;rw[fC];unfold jH brg;by_cases h1:nums.length=1
  .have hd:(((nums.length:Nat):Int)==1)=true:=by rw[h1];rfl
   rw[if_pos h1];generalize df b=q at *;by_cases hq:q<bd
   .rw[if_pos hq];rw[J_ hq] at fa;unfold liV at *;simp![bz,bB,bA,bp,aO,aQ,aW,aA,aF,aS,aN,aK,aD,aw,aV,az,aX,aM,aa,ao,bg,ay,aE,ag,au,aj,aY,aR,aP,bw,bt,aZ,aU,bc,aC,bo,bq,bf,bj,aB,aG,ak,aq,bh,aT,a8,ar,aH,av,aJ,af,ba,ah,bu,lq,hd,fa];rfl
   .rw[if_neg hq];rw[F_ hq] at fa;unfold liV at *;simp![bz,bB,bA,bp,aO,aQ,aW,aA,aF,aS,aN,aK,aD,aw,aV,az,aX,aM,aa,ao,bg,ay,aE,ag,au,aj,aY,aR,aP,bw,bt,aZ,aU,bc,aC,bo,bq,bf,bj,aB,aG,ak,aq,bh,aT,a8,ar,aH,av,aJ,af,ba,ah,bu,lq,hd,fa];rfl
  .have hd:(((nums.length:Nat):Int)==1)=false:=by rw[Oy];omega
   rw[if_neg h1];rcases rJ (s:=fi k) (y:=.str kind) H hw zb hβ nums (λ_ h=>h) .no rfl with ⟨s3,h3,e,fr⟩ |⟨i,e,fr⟩
   .rw[e];dsimp only;have co:=i7 hk H.ne ln;have cl:=Ci (kind:=kind) ln;have row:∀c∈bI kind nums,(cS (fi k)).G [cuV c,bV b,.tup [liV ws,.str kind,fV bd]]=.ok (.val (oR (brw (brg kind ws bd k) ws b c))) []:=λc hc=>by have cc:=fh H.nd hc;have l1:=cc.one.lt;have l2:=cc.two.lt;have S:=H.cut hw cc;exact Hq H hw cc (λ_ _ _ h=>GB h) (kI hk hw zb hβ k _ _ _ S.o1 (by omega)) (kI hk hw zb hβ k _ _ _ S.o2 (by omega))
    rcases rp (v1:=liV nums) (s3:=s3) (bI kind nums) row [] .no .no rfl rfl (by rw[OM];omega) with ⟨ha,s5,s6,fr2⟩ |⟨ha,s4,s5,s6,fr2⟩
    .rw[if_pos ha];rw[OL] at fr2;generalize (bI kind nums).map cuV=cv at *;generalize hR:((bI kind nums).map λc=>rwV ((brw (brg kind ws bd k) ws b c).getD (false,.non)))=rv at *;have lr:rv.length<=16777216:=by rw[<- hR,v_];omega
     generalize fV bd=z at *;unfold liV at *;simp![bz,bB,bA,bp,aO,aQ,aW,aA,aF,aS,aN,aK,aD,aw,aV,az,aX,aM,aa,ao,bg,ay,aE,ag,au,aj,aY,aR,aP,bw,bt,aZ,aU,bc,aC,bo,bq,bf,bj,aB,aG,ak,aq,bh,aT,a8,ar,aH,av,aJ,af,ba,ah,bu,lq,hd,itl,fr,co,fr2,lr];rfl
    .have hz:¬ (((bI kind nums).all λc=>(brw (brg kind ws bd k) ws b c).isSome)=true):=by rw[ha];exact A_
     rw[if_neg hz];generalize (bI kind nums).map cuV=cv at *;generalize fV bd=z at *;unfold liV at *;simp![bz,bB,bA,bp,aO,aQ,aW,aA,aF,aS,aN,aK,aD,aw,aV,az,aX,aM,aa,ao,bg,ay,aE,ag,au,aj,aY,aR,aP,bw,bt,aZ,aU,bc,aC,bo,bq,bf,bj,aB,aG,ak,aq,bh,aT,a8,ar,aH,av,aJ,af,ba,ah,bu,lq,hd,itl,fr,co,fr2];rfl
   .rw[e];dsimp only;generalize fV bd=z at *;unfold liV at *;simp![bz,bB,bA,bp,aO,aQ,aW,aA,aF,aS,aN,aK,aD,aw,aV,az,aX,aM,aa,ao,bg,ay,aE,ag,au,aj,aY,aR,aP,bw,bt,aZ,aU,bc,aC,bo,bq,bf,bj,aB,aG,ak,aq,bh,aT,a8,ar,aH,av,aJ,af,ba,ah,bu,lq,hd,itl,fr];rfl
def ku(xs:List Val):(eK fO).G [.tup xs,.ty "tuple"]=.val (.bl true):=rfl
def MQ(r:Bool):lj.G (.int (if r then 1 else 0)) (.tup [.int 0,.int 1])=.val (.bl false):=by show aIn true (.int (if r then 1 else 0)) (.tup [.int 0,.int 1])=_;unfold aIn;dsimp only [Val.items];rw[if_pos ⟨rfl,rfl⟩];cases r <;> rfl
def vU{s:PFx [false,false,false,false]}{c:Str×List Int×List Int}{ws nums:List Int}{b:Bx}{n m:Nat}{r t:Bool}{p kv z:Val}(H:Ok51 ws nums b n m)(hw:∀w∈ws,1<=w)(hc:CutOk nums c)(e:s.G [p,bV (fA ws b c r),liV (dP c r),.tup [liV ws,kv,z]]=.ok (.val (.bl t)) []):(fE s).G [rwV (r,p),cuV c,bV b,.tup [liV ws,kv,z]]=.ok (.val (.bl t)) []:=by
 have S:=H.cut hw hc;have nm:=H.nm;have ln:=H.len;have l1:=hc.one.lt;have l2:=hc.two.lt;have pb:=jN H.ok H.sz hc.way S.o1.inr S.o2.inr (by omega) (by omega) S.w1 S.w2 S.sm (by omega);have ni:=MQ r;have iw:=gu (v:=.int (if r then 1 else 0)) rfl;rw[show jm (.int (if r then 1 else 0))=true from rfl] at iw;have ec:cuV c=.tup [.str c.1,liV c.2.1,liV c.2.2]:=rfl;have er:rwV (r,p)=.tup [.int (if r then 1 else 0),p]:=rfl;rw[ec] at pb ⊢;rw[er];unfold fA dP at e;generalize cF b c.1 (wt ws c.2.1) (wt ws c.2.2)=b1 at *;generalize cI b c.1 (wt ws c.2.1) (wt ws c.2.2)=b2 at *;unfold fE;rw[bT];unfold oi;cases r with
 |false=>rw[if_neg A_,if_neg A_] at e;rw[if_neg A_] at ni iw ⊢;generalize liV c.2.1=x1 at *;generalize liV c.2.2=x2 at *;generalize liV ws=xw at *;generalize bV b1=y1 at *;generalize bV b2=y2 at *;simp![bz,bB,bA,bp,aO,aQ,aW,aA,aF,aS,aN,aK,aD,aw,aV,az,aX,aM,aa,ao,bg,ay,aE,ag,au,aj,aY,aR,aP,bw,bt,aZ,aU,bc,aC,bo,bq,bf,bj,aB,aG,ak,aq,bh,aT,a8,ar,aH,av,aJ,af,ba,ah,bu,ku,iw,ni,pb,e]
 |true=>rw[if_pos rfl,if_pos rfl] at e;rw[if_pos rfl] at ni iw ⊢;generalize liV c.2.1=x1 at *;generalize liV c.2.2=x2 at *;generalize liV ws=xw at *;generalize bV b1=y1 at *;generalize bV b2=y2 at *;simp![bz,bB,bA,bp,aO,aQ,aW,aA,aF,aS,aN,aK,aD,aw,aV,az,aX,aM,aa,ao,bg,ay,aE,ag,au,aj,aY,aR,aP,bw,bt,aZ,aU,bc,aC,bo,bq,bf,bj,aB,aG,ak,aq,bh,aT,a8,ar,aH,av,aJ,af,ba,ah,bu,ku,iw,ni,pb,e]
theorem sY{s:PFx [false,false,false,false]}{v1 v3:Val}{s0 s2 s4:Sl}(g:Str×List Int×List Int->Bool×Val)(t:Str×List Int×List Int->Bool):∀(l:List (Str×List Int×List Int)),(∀c∈l,(fE s).G [rwV (g c),cuV c,v1,v3]=.ok (.val (.bl (t c))) [])->∀(s5 s6:Sl),s5.pl=true->s6.pl=true->(l.all t=true/\∃s5' s6',dJ (gtX (gtT 2 (bM (gtN 5) (bM (gtN 6) cU)))).G (ek s).G (l.map λc=>.tup [rwV (g c),cuV c]) [s0,.sh v1,s2,.sh v3,s4,s5,s6]=.nx [s0,.sh v1,s2,.sh v3,s4,s5',s6'])\/(l.all t=false/\∃s5' s6',dJ (gtX (gtT 2 (bM (gtN 5) (bM (gtN 6) cU)))).G (ek s).G (l.map λc=>.tup [rwV (g c),cuV c]) [s0,.sh v1,s2,.sh v3,s4,s5,s6]=.rt (.val (.bl false)) [s0,.sh v1,s2,.sh v3,s4,s5',s6'])
 | [],_,s5,s6,_,_=>.inl ⟨rfl,s5,s6,rfl⟩
 |
  c::l,hr,s5,s6,h5,h6=>by
  have e:=hr c (C_ ..);have ih:=sY (s:=s) (s0:=s0) (s2:=s2) (s4:=s4) g t l (λd hd=>hr d (y_ _ hd)) (.sh (rwV (g c))) (.sh (cuV c)) rfl rfl;rw[B_,PC];generalize rwV (g c)=rv at *;generalize cuV c=cv at *;have eg:(gtX (gtT 2 (bM (gtN 5) (bM (gtN 6) cU)))).G (.tup [rv,cv]) [s0,.sh v1,s2,.sh v3,s4,s5,s6]=some [s0,.sh v1,s2,.sh v3,s4,.sh rv,.sh cv]:=by simp![bz,bB,bA,bp,aO,aQ,aW,aA,aF,aS,aN,aK,aD,aw,aV,az,aX,aM,aa,ao,bg,ay,aE,ag,au,aj,aY,aR,aP,bw,bt,aZ,aU,bc,aC,bo,bq,bf,bj,aB,aG,ak,aq,bh,aT,a8,ar,aH,av,aJ,af,ba,ah,bu,h5,h6]
  rw[bY,eg];dsimp only;generalize t c=tc at *;have eb:(ek s).G [s0,.sh v1,s2,.sh v3,s4,.sh rv,.sh cv]=if tc=true then .nx [s0,.sh v1,s2,.sh v3,s4,.sh rv,.sh cv] else .rt (.val (.bl false)) [s0,.sh v1,s2,.sh v3,s4,.sh rv,.sh cv]:=by unfold ek;cases tc <;> simp![bz,bB,bA,bp,aO,aQ,aW,aA,aF,aS,aN,aK,aD,aw,aV,az,aX,aM,aa,ao,bg,ay,aE,ag,au,aj,aY,aR,aP,bw,bt,aZ,aU,bc,aC,bo,bq,bf,bj,aB,aG,ak,aq,bh,aT,a8,ar,aH,av,aJ,af,ba,ah,bu,e]
  rw[eb];cases tc with
  |true=>rw[if_pos rfl];exact ih
  |false=>rw[if_neg A_];exact .inr ⟨rfl,_,_,rfl⟩
theorem ur(f h:α->Val):∀l:List α,List.zipWith (λx y=>Val.tup [x,y]) (l.map f) (l.map h)=l.map λc=>.tup [f c,h c]
 | []=>rfl
 |c::l=>by rw[B_,B_,B_,List.zipWith_cons_cons,ur f h l]
def uY{s:PFx [false,false,false,false]}{kind:Str}{ws nums:List Int}{b:Bx}{n m:Nat}{z:Val}{g:Str×List Int×List Int->Bool×Val}{t:Str×List Int×List Int->Bool}(hk:kind="order" \/ kind="any")(H:Ok51 ws nums b n m)(row:∀c∈bI kind nums,(fE s).G [rwV (g c),cuV c,bV b,.tup [liV ws,.str kind,z]]=.ok (.val (.bl (t c))) []):(eN s).G [.tup ((bI kind nums).map λc=>rwV (g c)),bV b,liV nums,.tup [liV ws,.str kind,z]]=.ok (.val (.bl ((bI kind nums).all t))) []:=by
 have co:=i7 hk H.ne H.len;have zp:=ur (λc=>rwV (g c)) cuV (bI kind nums);have lo:∀xs:List Val,iD (.lst xs)=some xs:=λ_=>rfl;have lt:∀xs:List Val,iD (.tup xs)=some xs:=λ_=>rfl;have l1:((bI kind nums).map λc=>rwV (g c)).length=(bI kind nums).length:=v_ ..;have l2:((bI kind nums).map cuV).length=(bI kind nums).length:=v_ ..;have zl:=sY (s:=s) (v1:=bV b) (v3:=.tup [liV ws,.str kind,z]) (s0:=.sh (.tup ((bI kind nums).map λc=>rwV (g c)))) (s2:=.sh (liV nums)) (s4:=.sh (.lst ((bI kind nums).map cuV))) g t (bI kind nums) row .no .no rfl rfl;rw[<- zp] at zl;generalize ((bI kind nums).map λc=>rwV (g c))=rv at *;generalize (bI kind nums).map cuV=cv at *;generalize (bI kind nums).length=k at *;have hd:((k:Int)==(k:Int))=true:=by rw[beq_self_eq_true]
 unfold eN;rw[bT];unfold jK;generalize liV nums=x2 at *;generalize liV ws=xw at *;rcases zl with ⟨ha,s5,s6,fr⟩ |⟨ha,s5,s6,fr⟩
 .rw[ha];simp![bz,bB,bA,bp,aO,aQ,aW,aA,aF,aS,aN,aK,aD,aw,aV,az,aX,aM,aa,ao,bg,ay,aE,ag,au,aj,aY,aR,aP,bw,bt,aZ,aU,bc,aC,bo,bq,bf,bj,aB,aG,ak,aq,bh,aT,a8,ar,aH,av,aJ,af,ba,ah,bu,co,l1,l2,hd,lo,lt,fr]
 .rw[ha];simp![bz,bB,bA,bp,aO,aQ,aW,aA,aF,aS,aN,aK,aD,aw,aV,az,aX,aM,aa,ao,bg,ay,aE,ag,au,aj,aY,aR,aP,bw,bt,aZ,aU,bc,aC,bo,bq,bf,bj,aB,aG,ak,aq,bh,aT,a8,ar,aH,av,aJ,af,ba,ah,bu,co,l1,l2,hd,lo,lt,fr]
def NO:eh (.str "shape") (.str "shape")=some true:=by rw[L3.eq_str (by decide) (by decide)];exact OU some (by decide)
def MN:eh (.str "thin") (.str "thin")=some true:=by rw[L3.eq_str (by decide) (by decide)];exact OU some (by decide)
def Lx:eh (.str "cases") (.str "thin")=some false:=by rw[L3.eq_str (by decide) (by decide)];exact OU some (by decide)
def N9:eh (.str "cases") (.str "cases")=some true:=by rw[L3.eq_str (by decide) (by decide)];exact OU some (by decide)
def FY{kind:Str}{ws:List Int}{m β:Nat}{bd:Rat}(hk:kind="order" \/ kind="any")(hw:∀w∈ws,1<=w)(zb:Sz β bd)(hβ:β<=8000){k:Nat}{b:Bx}{nums:List Int}{v:Val}{t:Bool}(h:Brs kind ws bd k b nums v t):∀n,Ok51 ws nums b n m->(gK k).G [v,bV b,liV nums,.tup [liV ws,.str kind,fV bd]]=.ok (.val (.bl t)) []:=by
 induction h with
 |
  @sh k b nums h1=>
  intro n H;have nm:=H.nm;have fa:=rj (x:=liV ws) (y:=.str kind) H.ok H.sz (by omega) zb hβ;have lq:((nums.map Val.int).length:Nat)=nums.length:=v_ ..;have hd:(((nums.length:Nat):Int)==1)=true:=by rw[h1];rfl
  show (PFx.of [false,false,false,false] 6 (iP (gK k))).G _=_;rw[fC];unfold iP;unfold liV at *;generalize (!decide (df b<bd))=d at *;simp![bz,bB,bA,bp,aO,aQ,aW,aA,aF,aS,aN,aK,aD,aw,aV,az,aX,aM,aa,ao,bg,ay,aE,ag,au,aj,aY,aR,aP,bw,bt,aZ,aU,bc,aC,bo,bq,bf,bj,aB,aG,ak,aq,bh,aT,a8,ar,aH,av,aJ,af,ba,ah,bu,ku,NO,lq,hd,fa]
 |@th k b nums i hi=>intro n H;have ft:=pJ (y:=.str kind) H hw hi zb hβ;have iw:=gu (v:=.int i) rfl;rw[show jm (.int i)=true from rfl] at iw;have ki:=B8 nums i;rw[O2.mpr hi] at ki;show (PFx.of [false,false,false,false] 6 (iP (gK k))).G _=_;rw[fC];unfold iP;unfold liV at *;generalize (!decide (thn ws b i nums<bd))=d at *;simp![bz,bB,bA,bp,aO,aQ,aW,aA,aF,aS,aN,aK,aD,aw,aV,az,aX,aM,aa,ao,bg,ay,aE,ag,au,aj,aY,aR,aP,bw,bt,aZ,aU,bc,aC,bo,bq,bf,bj,aB,aG,ak,aq,bh,aT,a8,ar,aH,av,aJ,af,ba,ah,bu,ku,MN,iw,ki,ft]
 |
  @cs k b nums g t h1 hg ih=>
  intro n H;have hp:=Ox.mpr H.ne;have lq:((nums.map Val.int).length:Nat)=nums.length:=v_ ..;have hd:decide ((1:Int)<((nums.length:Nat):Int))=true:=J_ (by omega);have ac:=uY (s:=gK k) (z:=fV bd) (g:=g) (t:=t) hk H λc hc=>by
   have cc:=fh H.nd hc;have S:=H.cut hw cc;refine vU (r:=(g c).1) (p:=(g c).2) H hw cc (ih c hc (n+(n+m)+1) ?_);unfold fA dP;split
   .exact S.o2
   .exact S.o1
  show (PFx.of [false,false,false,false] 6 (iP (gK k))).G _=_;rw[fC];unfold iP;unfold liV at *;generalize ((bI kind nums).map λc=>rwV (g c))=rv at *;generalize (bI kind nums).all t=d at *;simp![bz,bB,bA,bp,aO,aQ,aW,aA,aF,aS,aN,aK,aD,aw,aV,az,aX,aM,aa,ao,bg,ay,aE,ag,au,aj,aY,aR,aP,bw,bt,aZ,aU,bc,aC,bo,bq,bf,bj,aB,aG,ak,aq,bh,aT,a8,ar,aH,av,aJ,af,ba,ah,bu,ku,Lx,N9,lq,hd,ac]
theorem pE(f:α->Val):∀l:List α,(∀a∈l,L3.flatV (f a)=true)->flatVs (l.map f)=true
 | [],_=>dE
 |a::l,h=>by rw[B_,cN,h a (C_ ..),pE f l λx hx=>h x (y_ _ hx)];rfl
theorem oQ{kind:Str}:∀{k:Nat}{nums:List Int}{v:Val},Pap kind k nums v->L3.flatV v=true
 |0,_,_,h=>h.elim
 |
  k+1,nums,v,h=>by
  rcases h with ⟨_,rfl⟩ |⟨i,_,rfl⟩ |⟨_,g,rfl,hg⟩
  .simp only[fq,cN,dE,iN,QK]
  .simp only[fq,cN,dE,iN,iQ,QK]
  .rw[fq,cN,cN,fq,pE _ _ λc hc=>by show L3.flatV (.tup [.int (if (g c).1 then 1 else 0),(g c).2])=true;simp only[fq,cN,dE,iQ,oQ (hg c hc),QK]];simp only[iN,dE,QK]
def oV(o:Option Rat):Val:=match o with
 |none=>.non
 |some q=>fV q
def tP(x y:Val):lV.G (.lst [x,y]) []=some (.lst [y,x],.non):=rfl
theorem ia{kind:Str}{ws:List Int}{m:Nat}(hk:kind="order" \/ kind="any")(hw:∀w∈ws,1<=w):∀(k:Nat) (nums:List Int) (b:Bx) (n:Nat),Ok51 ws nums b n m->nums.length<=k->(cG k).G [bV b,liV nums,liV ws,.str kind]=.ok (.val (fV (bst kind ws k b nums))) []/\Sz 4000 (bst kind ws k b nums)
 |0,nums,b,n,H,hl=>absurd (Ox.mpr H.ne) (by omega)
 |
  k+1,nums,b,n,H,hl=>by
  have nm:=H.nm;show (PFx.of [false,false,false,false] 12 (gj (cG k))).G [bV b,liV nums,liV ws,.str kind]=_/\_;by_cases h1:nums.length=1
  .have eb:bst kind ws (k+1) b nums=df b:=by unfold bst;rw[if_pos h1]
   rw[eb]
   match nums,h1 with
   |[i],_=>have sh:=uI H.ok H.sz (by omega);refine⟨?_,(l7 H.ok H.sz).mono (by omega)⟩;rw[fC];unfold gj;have it:(liV [i])=.lst [.int i]:=rfl;rw[it];simp![bz,bB,bA,bp,aO,aQ,aW,aA,aF,aS,aN,aK,aD,aw,aV,az,aX,aM,aa,ao,bg,ay,aE,ag,au,aj,aY,aR,aP,bw,bt,aZ,aU,bc,aC,bo,bq,bf,bj,aB,aG,ak,aq,bh,aT,a8,ar,aH,av,aJ,af,ba,ah,bu,sh]
  .have hl2:2<=nums.length:=by have:=Ox.mpr H.ne;omega
   have hne:((((nums.map Val.int).length:Nat):Int)==1)=false:=by rw[Oy,v_];omega
   have fe:=sH hk H.ne H.len;obtain⟨q,eq⟩:=j9 (λc=>cX (bst kind ws k) ws b c) (j5 (kind:=kind) hl2);have eb:bst kind ws (k+1) b nums=q:=by unfold bst;rw[if_neg h1,eq];rfl
   have c_:=H.len;have turn:∀(way:Str) (l:List Int) (o:Option Rat) (s9 s10 s11:Sl),(way="across" \/ way="down")->Lot nums l->(∀q,o=some q->Sz 4000 q)->s9.pl=true->s10.pl=true->s11.pl=true->∃t9 t10 t11,t9.pl=true/\t10.pl=true/\t11.pl=true/\(∀q,cD o (cX (bst kind ws k) ws b (way,l,rst nums l))=some q->Sz 4000 q)/\(hX (cG k)).G [.sh (bV b),.sh (liV nums),.sh (liV ws),.sh (.str kind),.sh (oV o),.sh (liV l),.sh (liV (rst nums l)),.sh (.lst [.int (wt ws l),.int (wt ws (rst nums l))]),.sh (.str way),s9,s10,s11]=.nx [.sh (bV b),.sh (liV nums),.sh (liV ws),.sh (.str kind),.sh (oV (cD o (cX (bst kind ws k) ws b (way,l,rst nums l)))),.sh (liV l),.sh (liV (rst nums l)),.sh (.lst [.int (wt ws l),.int (wt ws (rst nums l))]),.sh (.str way),t9,t10,t11]:=by
    intro way l o s9 s10 s11 hway hlot ho g9 g10 g11;have co:CutOk nums (way,l,rst nums l):=⟨hway,hlot,mQ hlot H.nd,rfl⟩;have su:=H.cut hw co;have q1:=co.one.lt;have q2:=co.two.lt;have cu:=ph H.ok H.sz hway su.w1 su.w2 su.sm (by omega);obtain⟨e1,z1⟩:=ia hk hw k l _ _ su.o1 (by have:l.length<nums.length:=q1;omega);obtain⟨e2,z2⟩:=ia hk hw k (rst nums l) _ _ su.o2 (by have:(rst nums l).length<nums.length:=q2;omega);have zz:Sz 4000 (cX (bst kind ws k) ws b (way,l,rst nums l)):=Dx z1 z2;have l1:=eQ z1 z2 (by omega) (by omega);dsimp only at cu e1 e2 z1 z2 l1;have hcd:cX (bst kind ws k) ws b (way,l,rst nums l)=mx (bst kind ws k (cF b way (wt ws l) (wt ws (rst nums l))) l) (bst kind ws k (cI b way (wt ws l) (wt ws (rst nums l))) (rst nums l)):=rfl;rw[hcd] at zz ⊢;generalize cF b way (wt ws l) (wt ws (rst nums l))=b1 at *;generalize cI b way (wt ws l) (wt ws (rst nums l))=b2 at *;generalize bst kind ws k b1 l=x1 at *;generalize bst kind ws k b2 (rst nums l)=x2 at *;have hms:∀q,cD o (mx x1 x2)=some q->Sz 4000 q:=by
     intro q e;cases o with
     |none=>cases e;exact zz
     |
      some p=>
      have e':(if mx x1 x2<p then some (mx x1 x2) else some p)=some q:=e;split at e'
      .cases e';exact zz
      .cases e';exact ho _ rfl
    by_cases hx:x1<x2
    .have em:mx x1 x2=x2:=if_pos hx;rw[em] at zz hms ⊢;rw[J_ hx] at l1;refine⟨.sh (bV b1),.sh (bV b2),.ow (.lst [fV x2,fV x1]),rfl,rfl,rfl,hms,?_⟩;unfold hX;cases o with
     |none=>simp![bz,bB,bA,bp,aO,aQ,aW,aA,aF,aS,aN,aK,aD,aw,aV,az,aX,aM,aa,ao,bg,ay,aE,ag,au,aj,aY,aR,aP,bw,bt,aZ,aU,bc,aC,bo,bq,bf,bj,aB,aG,ak,aq,bh,aT,a8,ar,aH,av,aJ,af,ba,ah,bu,cu,e1,e2,l1,tP,oV,cD,g9,g10,g11]
     |
      some p=>
      have l2:=eQ z2 (ho p rfl) (by omega) (by omega);have ep:fV p=.tup [.int p.num,.int (p.den:Nat)]:=rfl;rw[ep] at l2;by_cases hy:x2<p
      .have ms:cD (some p) x2=some x2:=if_pos hy;rw[J_ hy] at l2;rw[ms];simp![bz,bB,bA,bp,aO,aQ,aW,aA,aF,aS,aN,aK,aD,aw,aV,az,aX,aM,aa,ao,bg,ay,aE,ag,au,aj,aY,aR,aP,bw,bt,aZ,aU,bc,aC,bo,bq,bf,bj,aB,aG,ak,aq,bh,aT,a8,ar,aH,av,aJ,af,ba,ah,bu,cu,e1,e2,l1,l2,tP,oV,ep,g9,g10,g11]
      .have ms:cD (some p) x2=some p:=if_neg hy;rw[F_ hy] at l2;rw[ms];simp![bz,bB,bA,bp,aO,aQ,aW,aA,aF,aS,aN,aK,aD,aw,aV,az,aX,aM,aa,ao,bg,ay,aE,ag,au,aj,aY,aR,aP,bw,bt,aZ,aU,bc,aC,bo,bq,bf,bj,aB,aG,ak,aq,bh,aT,a8,ar,aH,av,aJ,af,ba,ah,bu,cu,e1,e2,l1,l2,tP,oV,ep,g9,g10,g11]
    .have em:mx x1 x2=x1:=if_neg hx;rw[em] at zz hms ⊢;rw[F_ hx] at l1;refine⟨.sh (bV b1),.sh (bV b2),.ow (.lst [fV x1,fV x2]),rfl,rfl,rfl,hms,?_⟩;unfold hX;cases o with
     |none=>simp![bz,bB,bA,bp,aO,aQ,aW,aA,aF,aS,aN,aK,aD,aw,aV,az,aX,aM,aa,ao,bg,ay,aE,ag,au,aj,aY,aR,aP,bw,bt,aZ,aU,bc,aC,bo,bq,bf,bj,aB,aG,ak,aq,bh,aT,a8,ar,aH,av,aJ,af,ba,ah,bu,cu,e1,e2,l1,oV,cD,g9,g10,g11]
     |
      some p=>
      have l2:=eQ z1 (ho p rfl) (by omega) (by omega);have ep:fV p=.tup [.int p.num,.int (p.den:Nat)]:=rfl;rw[ep] at l2;by_cases hy:x1<p
      .have ms:cD (some p) x1=some x1:=if_pos hy;rw[J_ hy] at l2;rw[ms];simp![bz,bB,bA,bp,aO,aQ,aW,aA,aF,aS,aN,aK,aD,aw,aV,az,aX,aM,aa,ao,bg,ay,aE,ag,au,aj,aY,aR,aP,bw,bt,aZ,aU,bc,aC,bo,bq,bf,bj,aB,aG,ak,aq,bh,aT,a8,ar,aH,av,aJ,af,ba,ah,bu,cu,e1,e2,l1,l2,oV,ep,g9,g10,g11]
      .have ms:cD (some p) x1=some p:=if_neg hy;rw[F_ hy] at l2;rw[ms];simp![bz,bB,bA,bp,aO,aQ,aW,aA,aF,aS,aN,aK,aD,aw,aV,az,aX,aM,aa,ao,bg,ay,aE,ag,au,aj,aY,aR,aP,bw,bt,aZ,aU,bc,aC,bo,bq,bf,bj,aB,aG,ak,aq,bh,aT,a8,ar,aH,av,aJ,af,ba,ah,bu,cu,e1,e2,l1,l2,oV,ep,g9,g10,g11]
   obtain⟨e',⟨s5,s6,s7,s8,s9,s10,s11,rfl,_,hso⟩,fr⟩:=me (g:=(gtN 5).G) (B:=(jl (cG k)).G) liV (λo l=>(eL nums l).foldl (λo c=>cD o (cX (bst kind ws k) ws b c)) o) (λo e=>∃s5 s6 s7 s8 s9 s10 s11,e=[.sh (bV b),.sh (liV nums),.sh (liV ws),.sh (.str kind),.sh (oV o),s5,s6,s7,s8,s9,s10,s11]/\(s5.pl=true/\s6.pl=true/\s7.pl=true/\s8.pl=true/\s9.pl=true/\s10.pl=true/\s11.pl=true)/\∀q,o=some q->Sz 4000 q) (cK kind nums) none [.sh (bV b),.sh (liV nums),.sh (liV ws),.sh (.str kind),.sh .non,.no,.no,.no,.no,.no,.no,.no] ⟨_,_,_,_,_,_,_,rfl,⟨rfl,rfl,rfl,rfl,rfl,rfl,rfl⟩,λq z=>nomatch z⟩ (by
    rintro l hl' o e ⟨s5,s6,s7,s8,s9,s10,s11,rfl,⟨g5,g6,g7,g8,g9,g10,g11⟩,hso⟩;have lo:=uz hl';have r2:=mQ lo H.nd;have r1':Inr ws l:=λi hi=>H.inr i (lo.sub.subset hi);have r2':Inr ws (rst nums l):=λi hi=>H.inr i (r2.sub.subset hi);have q1:=lo.lt;have q2:=r2.lt;obtain⟨sa,la⟩:=zi nums l (by omega);obtain⟨sb,lb⟩:=oK r1' (by omega);obtain⟨sc,lc⟩:=oK r2' (by omega);obtain⟨t9,t10,t11,k9,k10,k11,hs1,b1⟩:=turn "across" l o s9 s10 s11 (.inl rfl) lo hso g9 g10 g11;obtain⟨u9,u10,u11,m9,m10,m11,hs2,b2⟩:=turn "down" l _ t9 t10 t11 (.inr rfl) lo hs1 k9 k10 k11;have c0:((rst nums l).map Val.int).length<=16777216:=by rw[v_];omega
    have c1:((l.map (cL ws)).map Val.int).length<=16777216:=by rw[v_,v_];omega
    have c2:(((rst nums l).map (cL ws)).map Val.int).length<=16777216:=by rw[v_,v_];omega
    refine⟨[.sh (bV b),.sh (liV nums),.sh (liV ws),.sh (.str kind),.sh (oV o),.sh (liV l),s6,s7,s8,s9,s10,s11],[.sh (bV b),.sh (liV nums),.sh (liV ws),.sh (.str kind),.sh (oV (cD (cD o (cX (bst kind ws k) ws b ("across",l,rst nums l))) (cX (bst kind ws k) ws b ("down",l,rst nums l)))),.sh (liV l),.sh (liV (rst nums l)),.sh (.lst [.int (wt ws l),.int (wt ws (rst nums l))]),.sh (.str "down"),u9,u10,u11],?_,.inl ?_,_,_,_,_,_,_,_,rfl,⟨rfl,rfl,rfl,rfl,m9,m10,m11⟩,hs2⟩
    .simp![bz,bB,bA,bp,aO,aQ,aW,aA,aF,aS,aN,aK,aD,aw,aV,az,aX,aM,aa,ao,bg,ay,aE,ag,au,aj,aY,aR,aP,bw,bt,aZ,aU,bc,aC,bo,bq,bf,bj,aB,aG,ak,aq,bh,aT,a8,ar,aH,av,aJ,af,ba,ah,bu,g5]
    .unfold jl;generalize hnv:oV o=ov at *;generalize hmv:oV (cD o (cX (bst kind ws k) ws b ("across",l,rst nums l)))=mv at *;unfold wt at b1 b2 ⊢;unfold liV at la b1 b2 ⊢;simp![bz,bB,bA,bp,aO,aQ,aW,aA,aF,aS,aN,aK,aD,aw,aV,az,aX,aM,aa,ao,bg,ay,aE,ag,au,aj,aY,aR,aP,bw,bt,aZ,aU,bc,aC,bo,bq,bf,bj,aB,aG,ak,aq,bh,aT,a8,ar,aH,av,aJ,af,ba,ah,bu,bY,g6,g7,g8,dm,la,lb,lc,c0,c1,c2,b1,b2])
   rw[<- List.foldl_flatMap,show (cK kind nums).flatMap (eL nums)=bI kind nums from rfl,eq] at hso fr;rw[eb];refine⟨?_,hso q rfl⟩;rw[fC];unfold gj;have it:(liV nums)=.lst (nums.map .int):=rfl;rw[it] at fr fe ⊢;simp![bz,bB,bA,bp,aO,aQ,aW,aA,aF,aS,aN,aK,aD,aw,aV,az,aX,aM,aa,ao,bg,ay,aE,ag,au,aj,aY,aR,aP,bw,bt,aZ,aU,bc,aC,bo,bq,bf,bj,aB,aG,ak,aq,bh,aT,a8,ar,aH,av,aJ,af,ba,ah,bu,hne,fe,fr,oV]
def vY{kind:Str}{ws:List Int}{bd:Rat}{k:Nat}{b:Bx}{nums:List Int}{v:Val}{t:Bool}(h:Brs kind ws bd k b nums v t):Pap kind k nums v:=by
 induction h with
 |sh h1=>exact .inl ⟨h1,rfl⟩
 |th hi=>exact .inr (.inl ⟨_,hi,rfl⟩)
 |cs g t h1 hg ih=>exact .inr (.inr ⟨h1,g,rfl,ih⟩)
def bK(n:Nat):List Int:=(List.range n).map λi=>((i:Nat):Int)
def mL(n:Nat):rgV n=(bK n).map Val.int:=by unfold bK rgV;rw[PN];rfl
def wV{kind:Str}{mo:Int}(hk:kind="order" /\ mo=6\/kind="any" /\ mo=5):eZ.G [.str kind]=.ok (.val .non) []:=by
 have i1:(eK fO).G [.str kind,.ty "str"]=.val (.bl true):=rfl;have i2:lkS du kind=some mo:=by rcases hk with ⟨rfl,rfl⟩ |⟨rfl,rfl⟩ <;> decide +kernel
 unfold eZ;rw[bT];unfold lU;simp![bz,bB,bA,bp,aO,aQ,aW,aA,aF,aS,aN,aK,aD,aw,aV,az,aX,aM,aa,ao,bg,ay,aE,ag,au,aj,aY,aR,aP,bw,bt,aZ,aU,bc,aC,bo,bq,bf,bj,aB,aG,ak,aq,bh,aT,a8,ar,aH,av,aJ,af,ba,ah,bu,i1,Hn,i2]
def vz{kind:Str}{mo:Int}{ws:List Int}{b:Bx}(hk:kind="order" /\ mo=6\/kind="any" /\ mo=5)(hw:∀w∈ws,1<=w)(h0:ws≠[])(hl:(ws.length:Int)<=mo)(ok:b.Ok):eF.G [bV b,.lst (ws.map .int),.str kind]=.ok (.val .non) []:=by
 have m6:mo<=6:=by rcases hk with ⟨_,rfl⟩ |⟨_,rfl⟩ <;> decide
 have cb:=jk ok;have cw:=zo h0 hw (by omega);have i1:(eK fO).G [.str kind,.ty "str"]=.val (.bl true):=rfl;have i2:lkS du kind=some mo:=by rcases hk with ⟨rfl,rfl⟩ |⟨rfl,rfl⟩ <;> decide +kernel
 have kg:(sU "MOST_THINGS" du).G (.glb "MOST_THINGS") (.str kind)=.val (.int mo):=Iy i2;have lw:((ws.map Val.int).length:Nat)=ws.length:=v_ ..;have hd:decide (mo<((ws.length:Nat):Int))=false:=F_ (by omega);have ko:=wV hk;unfold eF;rw[bT];unfold lH;simp![bz,bB,bA,bp,aO,aQ,aW,aA,aF,aS,aN,aK,aD,aw,aV,az,aX,aM,aa,ao,bg,ay,aE,ag,au,aj,aY,aR,aP,bw,bt,aZ,aU,bc,aC,bo,bq,bf,bj,aB,aG,ak,aq,bh,aT,a8,ar,aH,av,aJ,af,ba,ah,bu,cb,cw,ko,kg,lw,hd]
def ke{kind:Str}{mo:Int}{ws:List Int}{b:Bx}{n m:Nat}(hk:kind="order" /\ mo=6\/kind="any" /\ mo=5)(hw:∀w∈ws,1<=w)(h0:ws≠[])(hl:(ws.length:Int)<=mo)(H:Ok51 ws (bK ws.length) b n m):∃t,dS.G [bV b,.lst (ws.map .int),.str kind]=.ok (.val (.tup [fV (bst kind ws 7 b (bK ws.length)),t])) []/\L3.flatV t=true:=by
 have m6:mo<=6:=by rcases hk with ⟨_,rfl⟩ |⟨_,rfl⟩ <;> decide
 have nl:(bK ws.length).length=ws.length:=by unfold bK;rw[v_,PD]
 obtain⟨t,ls,e,z,_,_,tr⟩:=mC (hk.imp Pn Pn) hw 7 (bK ws.length) b n H (by omega);refine⟨t,?_,tr.flat⟩;have ca:=vz hk hw h0 hl H.ok;have lw:((ws.map Val.int).length:Nat)=ws.length:=v_ ..;have lr:iH.G [.int (ws.length:Nat)]=.new (.lst ((bK ws.length).map Val.int)):=by rw[sJ ⟨by omega,by omega⟩,<- mL];rfl
 generalize bst kind ws 7 b (bK ws.length)=q at *;unfold liV at e;unfold dS;rw[bT];unfold lI;simp![bz,bB,bA,bp,aO,aQ,aW,aA,aF,aS,aN,aK,aD,aw,aV,az,aX,aM,aa,ao,bg,ay,aE,ag,au,aj,aY,aR,aP,bw,bt,aZ,aU,bc,aC,bo,bq,bf,bj,aB,aG,ak,aq,bh,aT,a8,ar,aH,av,aJ,af,ba,ah,bu,ca,lw,lr,e]
def BV{kind:Str}{mo:Int}{ws:List Int}{b:Bx}{n m:Nat}(hk:kind="order" /\ mo=6\/kind="any" /\ mo=5)(hw:∀w∈ws,1<=w)(h0:ws≠[])(hl:(ws.length:Int)<=mo)(H:Ok51 ws (bK ws.length) b n m):∃p,fU.G [bV b,.lst (ws.map .int),.str kind]=.ok (.val p) []/\Brs kind ws (bst kind ws 7 b (bK ws.length)) 7 b (bK ws.length) p true:=by
 have m6:mo<=6:=by rcases hk with ⟨_,rfl⟩ |⟨_,rfl⟩ <;> decide
 have hk':kind="order" \/ kind="any":=hk.imp Pn Pn;have nl:(bK ws.length).length=ws.length:=by unfold bK;rw[v_,PD]
 obtain⟨t,le,_⟩:=ke hk hw h0 hl H;obtain⟨_,_,_,z,_,_,_⟩:=mC hk' hw 7 (bK ws.length) b n H (by omega);obtain⟨p,hp⟩:=nY (kind:=kind) (ws:=ws) (bd:=bst kind ws 7 b (bK ws.length)) (k:=7) (b:=b) H.nd H.ne (by omega) PJ;have br:=kI hk' hw z (by omega) 7 (bK ws.length) b n H (by omega);rw[hp] at br;refine⟨p,?_,(pk hp).2⟩;have lw:((ws.map Val.int).length:Nat)=ws.length:=v_ ..;have lr:iH.G [.int (ws.length:Nat)]=.new (.lst ((bK ws.length).map Val.int)):=by rw[sJ ⟨by omega,by omega⟩,<- mL];rfl
 clear hp;generalize bst kind ws 7 b (bK ws.length)=q at *;unfold liV oP at *;unfold fU;rw[bT];unfold pL;simp![bz,bB,bA,bp,aO,aQ,aW,aA,aF,aS,aN,aK,aD,aw,aV,az,aX,aM,aa,ao,bg,ay,aE,ag,au,aj,aY,aR,aP,bw,bt,aZ,aU,bc,aC,bo,bq,bf,bj,aB,aG,ak,aq,bh,aT,a8,ar,aH,av,aJ,af,ba,ah,bu,le,lw,lr,br,Option.getD_some]
def AV{kind:Str}{mo:Int}{ws:List Int}{b:Bx}{n m β:Nat}{bd:Rat}{p:Val}{t:Bool}(hk:kind="order" /\ mo=6\/kind="any" /\ mo=5)(hw:∀w∈ws,1<=w)(h0:ws≠[])(hl:(ws.length:Int)<=mo)(H:Ok51 ws (bK ws.length) b n m)(zb:Sz β bd)(hβ:β<=8000)(h:Brs kind ws bd 7 b (bK ws.length) p t):fQ.G [bV b,.lst (ws.map .int),.str kind,fV bd,p]=.ok (.val (.bl t)) []:=by
 have m6:mo<=6:=by rcases hk with ⟨_,rfl⟩ |⟨_,rfl⟩ <;> decide
 have ca:=vz hk hw h0 hl H.ok;have lw:((ws.map Val.int).length:Nat)=ws.length:=v_ ..;have lr:iH.G [.int (ws.length:Nat)]=.new (.lst ((bK ws.length).map Val.int)):=by rw[sJ ⟨by omega,by omega⟩,<- mL];rfl
 have br:=FY (hk.imp Pn Pn) hw zb hβ h n H;unfold liV at br;unfold fQ;rw[bT];unfold ue;simp![bz,bB,bA,bp,aO,aQ,aW,aA,aF,aS,aN,aK,aD,aw,aV,az,aX,aM,aa,ao,bg,ay,aE,ag,au,aj,aY,aR,aP,bw,bt,aZ,aU,bc,aC,bo,bq,bf,bj,aB,aG,ak,aq,bh,aT,a8,ar,aH,av,aJ,af,ba,ah,bu,ca,lw,lr,br]
def p30:p7.G (.int 10) (.int 30)=.val (.int 1000000000000000000000000000000):=D6 ⟨by decide,by decide,by decide⟩
def jL{β:Nat}{a b:Int}(h0:0<=a)(h:a<=b)(hb:Sm β b):Sm β a:=hb.of_le (by omega)
def wq{n β:Nat}{v:Val}{far:Int}(f:Fd n v)(hn:n<=800000000)(h1:1<=far)(hf:Sm β far)(h60:Sm β 60)(hβ:β<=8000):∃q v',fW.G [v,.int far]=.ok (.val (fV q)) [v']/\Fd (n+13) v'/\0<q/\Sz β q:=by
 obtain⟨w,v1,e1,f1,w0,w5⟩:=bS (m:=5) f (by omega) (by decide) (sm8 (by decide));unfold fW;rw[bT];unfold oO;by_cases h2:w<2
 .obtain⟨a,v2,e2,f2,a0,a1⟩:=bS (m:=12) f1 (by omega) (by decide) (sm8 (by decide));refine⟨((1+a:Int):Rat),v2,?_,f2.mono (by omega),rb (by omega),jL (by show (0:Int)<=1+a;omega) (by show 1+a<=60;omega) h60,jL (a:=1) (by decide) (by decide) h60⟩;have i1:fV ((1+a:Int):Rat)=.tup [.int (1+a),.int 1]:=rfl;rw[i1];simp![bz,bB,bA,bp,aO,aQ,aW,aA,aF,aS,aN,aK,aD,aw,aV,az,aX,aM,aa,ao,bg,ay,aE,ag,au,aj,aY,aR,aP,bw,bt,aZ,aU,bc,aC,bo,bq,bf,bj,aB,aG,ak,aq,bh,aT,a8,ar,aH,av,aJ,af,ba,ah,bu,e1,e2,J_ h2]
 .have d2:=F_ h2;by_cases h3:w=2
  .subst h3;refine⟨1,v1,?_,f1.mono (by omega),by decide,jL (a:=1) (by decide) (by decide) h60,jL (a:=1) (by decide) (by decide) h60⟩;have i1:fV 1=.tup [.int 1,.int 1]:=rfl;rw[i1];simp![bz,bB,bA,bp,aO,aQ,aW,aA,aF,aS,aN,aK,aD,aw,aV,az,aX,aM,aa,ao,bg,ay,aE,ag,au,aj,aY,aR,aP,bw,bt,aZ,aU,bc,aC,bo,bq,bf,bj,aB,aG,ak,aq,bh,aT,a8,ar,aH,av,aJ,af,ba,ah,bu,e1,d2]
  .have d3:(w==2)=false:=by rw[Oy];exact h3
   by_cases h4:w=3
   .subst h4;obtain⟨a,v2,e2,f2,a0,a1⟩:=bS (m:=60) f1 (by omega) (by decide) (sm8 (by decide));obtain⟨b,v3,e3,f3,b0,b1⟩:=bS (m:=12) f2 (by omega) (by decide) (sm8 (by decide));have sb:Sm β (1+b):=jL (by omega) (by omega) h60;have lo:=gi (a:=1+a) (b:=1+b) (by omega) (sb.mono hβ);refine⟨((1+a:Int):Rat)/((1+b:Int):Rat),v3,?_,f3.mono (by omega),iq (by omega) (by omega),Sz.div (by omega) (jL (by omega) (by omega) h60) sb β (z_ _) (z_ _)⟩;simp![bz,bB,bA,bp,aO,aQ,aW,aA,aF,aS,aN,aK,aD,aw,aV,az,aX,aM,aa,ao,bg,ay,aE,ag,au,aj,aY,aR,aP,bw,bt,aZ,aU,bc,aC,bo,bq,bf,bj,aB,aG,ak,aq,bh,aT,a8,ar,aH,av,aJ,af,ba,ah,bu,e1,e2,e3,d2,lo]
   .have d4:(w==3)=false:=by rw[Oy];exact h4
    obtain⟨a,v2,e2,f2,a0⟩:=u6 f1 (by omega);obtain⟨b,v3,e3,f3,b0⟩:=u6 f2 (by omega);have m1:∀x:Int,dY.G (.int x) (.int far)=.val (.int (x.fmod far)):=λx=>iI (by omega);have r1:=gv (a:=a) (m:=far) (by omega);have r2:=gv (a:=b) (m:=far) (by omega);have sb:Sm β (1+b.fmod far):=jL (by omega) (by omega) hf;have lo:=gi (a:=1+a.fmod far) (b:=1+b.fmod far) (by omega) (sb.mono hβ);refine⟨((1+a.fmod far:Int):Rat)/((1+b.fmod far:Int):Rat),v3,?_,f3.mono (by omega),iq (by omega) (by omega),Sz.div (by omega) (jL (by omega) (by omega) hf) sb β (z_ _) (z_ _)⟩;simp![bz,bB,bA,bp,aO,aQ,aW,aA,aF,aS,aN,aK,aD,aw,aV,az,aX,aM,aa,ao,bg,ay,aE,ag,au,aj,aY,aR,aP,bw,bt,aZ,aU,bc,aC,bo,bq,bf,bj,aB,aG,ak,aq,bh,aT,a8,ar,aH,av,aJ,af,ba,ah,bu,e1,e2,e3,d2,d3,d4,m1,lo]
def MM:iV [.int 2]=some [.int 0,.int 1]:=kr (i:=2) (by decide) (by decide)
structure Ca(mo:Int)(b:Bx)(ws:List Int)(far:Int)(β μ mn:Nat):Prop where
 len:ws.length=mn
 m1:1<=mn
 m5:(mn:Int)<=mo
 m6:mn<=6
 le:∀w∈ws,1<=w/\w<=far
 h60:60<=far
 ok:b.Ok
 sz:b.Sz β
 mu:((mn:Int)*far).natAbs<2^μ
 bd:(β+μ+1)*2^mn<=4000
def caQ(mo:Int)(n:Nat)(r:SR3):Prop:=∃b ws far β μ mn v',Ca mo b ws far β μ mn/\Fd (n+200) v'/\BO [true,false] r=.ok (.pr (bV b) (liV ws)) [v']
theorem AD{far:Int}:∀{ws:List Int},(∀w∈ws,1<=w/\w<=far)->ws.sum<=(ws.length:Int)*far
 | [],_=>by simp
 |
  x::l,h=>by
  rw[OJ,L_];have h1:=h x (C_ ..);have h2:=AD (ws:=l) λw hw=>h w (y_ _ hw);rw[Int.natCast_add,Int.add_mul];show x+l.sum<=(l.length:Int)*far+1*far;omega
def pw5{i:Nat}(h:i<6):1<=(1:Int)*2^i/\(1:Int)*2^i<=32:=by
 match i,h with
 |0,_=>decide
 |1,_=>decide
 |2,_=>decide
 |3,_=>decide
 |4,_=>decide
 |5,_=>decide
def Dg{N mn:Nat}{mo far way same:Int}{sl st sp sq:Sl}(hN:N<=100000)(hmn:mn<=6)(h60:60<=far)(w0:0<=way)(w4:way<4)(s1:1<=same)(s2:same<=60){v:Val}(f:Fd N v):∃e',(∃(v:Val) (ws:List Int) (s11:Sl),Fd (N+8*mn) v/\ws.length=mn/\(∀w∈ws,1<=w/\w<=far)/\s11.pl=true/\e'=[.mu v,.sh (.int mo),.sh (.int far),.sh (.int (mn:Nat)),sp,sq,sl,st,.sh (.int way),.sh (.int same),.ow (.lst (ws.map .int)),s11])/\dJ (gtN 11).G cZ.G (rgV mn) [.mu v,.sh (.int mo),.sh (.int far),.sh (.int (mn:Nat)),sp,sq,sl,st,.sh (.int way),.sh (.int same),.ow (.lst []),.no]=.nx e':=by
 refine tV (g:=(gtN 11).G) (B:=cZ.G) (λi e=>∃(v:Val) (ws:List Int) (s11:Sl),Fd (N+8*i) v/\ws.length=i/\(∀w∈ws,1<=w/\w<=far)/\s11.pl=true/\e=[.mu v,.sh (.int mo),.sh (.int far),.sh (.int (mn:Nat)),sp,sq,sl,st,.sh (.int way),.sh (.int same),.ow (.lst (ws.map .int)),s11]) mn ⟨v,[],.no,f,rfl,(λ_ h=>nomatch h),rfl,rfl⟩ ?_;rintro i hi e ⟨v,ws,s11,f,hl,hw,h11,rfl⟩;obtain⟨a,v1,e1,f1,a0,a1⟩:=bS (m:=3) f (by omega) (by decide) (sm8 (by decide));obtain⟨g,v2,e2,f2,g0⟩:=u6 f1 (by omega);have sh:=M8 (i:=1) (j:=(i:Nat)) ⟨by omega,by omega,by decide⟩;rw[show ((i:Nat):Int).toNat=i from rfl] at sh;have m1:dY.G (.int g) (.int far)=.val (.int (g.fmod far)):=iI (by omega);have r1:=gv (a:=g) (m:=far) (by omega);have p5:=pw5 (i:=i) (by omega);have ll:(ws.map Val.int).length<16777216:=by rw[v_];omega
 have key:∀w:Int,(1<=w/\w<=far)->cZ.G [.mu v,.sh (.int mo),.sh (.int far),.sh (.int (mn:Nat)),sp,sq,sl,st,.sh (.int way),.sh (.int same),.ow (.lst (ws.map .int)),.sh (.int (i:Nat))]=.nx [.mu v2,.sh (.int mo),.sh (.int far),.sh (.int (mn:Nat)),sp,sq,sl,st,.sh (.int way),.sh (.int same),.ow (.lst (ws.map .int++[.int w])),.sh (.int (i:Nat))]->∃e1 e2,(gtN 11).G (.int (i:Nat)) [.mu v,.sh (.int mo),.sh (.int far),.sh (.int (mn:Nat)),sp,sq,sl,st,.sh (.int way),.sh (.int same),.ow (.lst (ws.map .int)),s11]=some e1/\(cZ.G e1=.nx e2\/cZ.G e1=.ct e2)/\∃(v:Val) (ws:List Int) (s11:Sl),Fd (N+8*(i+1)) v/\ws.length=i+1/\(∀w∈ws,1<=w/\w<=far)/\s11.pl=true/\e2=[.mu v,.sh (.int mo),.sh (.int far),.sh (.int (mn:Nat)),sp,sq,sl,st,.sh (.int way),.sh (.int same),.ow (.lst (ws.map .int)),s11]:=by
  intro w hw1 hB;refine⟨_,_,?_,.inl hB,v2,ws++[w],.sh (.int (i:Nat)),f2.mono (by omega),by rw[H_,hl];rfl,?_,rfl,by rw[O0];rfl⟩
  .simp![bz,bB,bA,bp,aO,aQ,aW,aA,aF,aS,aN,aK,aD,aw,aV,az,aX,aM,aa,ao,bg,ay,aE,ag,au,aj,aY,aR,aP,bw,bt,aZ,aU,bc,aC,bo,bq,bf,bj,aB,aG,ak,aq,bh,aT,a8,ar,aH,av,aJ,af,ba,ah,bu,h11]
  .intro x hx;rcases O4.mp hx with hx |hx
   .exact hw x hx
   .rw[OG] at hx;subst hx;exact hw1
 obtain rfl |rfl |rfl |rfl:way=0\/way=1\/way=2\/way=3:=by omega
 .refine key same (by omega) ?_;unfold cZ;simp![bz,bB,bA,bp,aO,aQ,aW,aA,aF,aS,aN,aK,aD,aw,aV,az,aX,aM,aa,ao,bg,ay,aE,ag,au,aj,aY,aR,aP,bw,bt,aZ,aU,bc,aC,bo,bq,bf,bj,aB,aG,ak,aq,bh,aT,a8,ar,aH,av,aJ,af,ba,ah,bu,e1,e2,sh,m1,ll]
 .refine key (1+a) (by omega) ?_;unfold cZ;simp![bz,bB,bA,bp,aO,aQ,aW,aA,aF,aS,aN,aK,aD,aw,aV,az,aX,aM,aa,ao,bg,ay,aE,ag,au,aj,aY,aR,aP,bw,bt,aZ,aU,bc,aC,bo,bq,bf,bj,aB,aG,ak,aq,bh,aT,a8,ar,aH,av,aJ,af,ba,ah,bu,e1,e2,sh,m1,ll]
 .refine key (1*2^i) (by omega) ?_;unfold cZ;simp![bz,bB,bA,bp,aO,aQ,aW,aA,aF,aS,aN,aK,aD,aw,aV,az,aX,aM,aa,ao,bg,ay,aE,ag,au,aj,aY,aR,aP,bw,bt,aZ,aU,bc,aC,bo,bq,bf,bj,aB,aG,ak,aq,bh,aT,a8,ar,aH,av,aJ,af,ba,ah,bu,e1,e2,sh,m1,ll]
 .refine key (1+g.fmod far) (by omega) ?_;unfold cZ;simp![bz,bB,bA,bp,aO,aQ,aW,aA,aF,aS,aN,aK,aD,aw,aV,az,aX,aM,aa,ao,bg,ay,aE,ag,au,aj,aY,aR,aP,bw,bt,aZ,aU,bc,aC,bo,bq,bf,bj,aB,aG,ak,aq,bh,aT,a8,ar,aH,av,aJ,af,ba,ah,bu,e1,e2,sh,m1,ll]
def Fx{mo:Int}(ho:3<=mo)(ho6:mo<=6){n:Nat}{v:Val}(f:Fd n v)(hn:n<=1000):∃b ws far β μ mn v',Ca mo b ws far β μ mn/\Fd (n+200) v'/\jd.G [v,.int mo]=.ok (.pr (bV b) (liV ws)) [v']:=by
 show ∃b ws far β μ mn v',Ca mo b ws far β μ mn/\Fd (n+200) v'/\(fnP [true,false] 12 i8).G [v,.int mo]=_;rw[MH rfl];show caQ mo n (i8.G _);unfold i8;rw[show sls [true,false] [v,.int mo]++List.replicate (12-[v,.int mo].length) .no=[.mu v,.sh (.int mo),.no,.no,.no,.no,.no,.no,.no,.no,.no,.no] from rfl];obtain⟨a,v1,e1,f1,a0,a1⟩:=bS (m:=mo) f (by omega) (by omega) (sm8 (by omega));refine eV (λe=>e=[.mu v1,.sh (.int mo),.sh (.int 60),.sh (.int (1+a)),.no,.no,.no,.no,.no,.no,.no,.no]) ⟨_,by simp![bz,bB,bA,bp,aO,aQ,aW,aA,aF,aS,aN,aK,aD,aw,aV,az,aX,aM,aa,ao,bg,ay,aE,ag,au,aj,aY,aR,aP,bw,bt,aZ,aU,bc,aC,bo,bq,bf,bj,aB,aG,ak,aq,bh,aT,a8,ar,aH,av,aJ,af,ba,ah,bu,e1],rfl⟩ ?_;rintro _ rfl;obtain⟨d,v2,e2,f2,d0,d1⟩:=bS (m:=5) f1 (by omega) (by decide) (sm8 (by decide));refine eV (λe=>∃(v:Val) (far:Int) (mn β μ:Nat),Fd (n+3) v/\60<=far/\Sm β far/\Sm β 60/\β<=100/\1<=mn/\(mn:Int)<=mo/\((mn:Int)*far).natAbs<2^μ/\(β+μ+1)*2^mn<=4000/\e=[.mu v,.sh (.int mo),.sh (.int far),.sh (.int (mn:Nat)),.no,.no,.no,.no,.no,.no,.no,.no]) ?_ ?_
 .by_cases hd:d=0
  .subst hd;obtain⟨k,v3,e3,f3,k0,k1⟩:=bS (m:=3) f2 (by omega) (by decide) (sm8 (by decide));obtain⟨k',rfl⟩:=Int.eq_ofNat_of_zero_le k0;refine⟨_,by simp![bz,bB,bA,bp,aO,aQ,aW,aA,aF,aS,aN,aK,aD,aw,aV,az,aX,aM,aa,ao,bg,ay,aE,ag,au,aj,aY,aR,aP,bw,bt,aZ,aU,bc,aC,bo,bq,bf,bj,aB,aG,ak,aq,bh,aT,a8,ar,aH,av,aJ,af,ba,ah,bu,e2,e3,p30];rfl,v3,999999999999999999999999999999,1+k',100,102,f3,by decide,by unfold Sm;decide,by unfold Sm;decide,by omega,by omega,by omega,?_,?_,by rw[Int.natCast_add];rfl⟩
   .have:((1+k':Nat):Int)<=3:=by omega
    have h2:((1+k':Nat):Int)*999999999999999999999999999999<=3*999999999999999999999999999999:=Int.mul_le_mul_of_nonneg_right this (by decide);have h3:(2:Nat)^102=5070602400912917605986812821504:=by decide
    rw[h3];omega
   .have:2^(1+k')<=2^3:=OS (by decide) (by omega);omega
  .have hd':(d==0)=false:=by rw[Oy];exact hd
   obtain⟨k',rfl⟩:=Int.eq_ofNat_of_zero_le a0;refine⟨[.mu v2,.sh (.int mo),.sh (.int 60),.sh (.int (1+(k':Nat))),.no,.no,.no,.no,.no,.no,.no,.no],by simp![bz,bB,bA,bp,aO,aQ,aW,aA,aF,aS,aN,aK,aD,aw,aV,az,aX,aM,aa,ao,bg,ay,aE,ag,au,aj,aY,aR,aP,bw,bt,aZ,aU,bc,aC,bo,bq,bf,bj,aB,aG,ak,aq,bh,aT,a8,ar,aH,av,aJ,af,ba,ah,bu,e2,hd'],v2,60,1+k',6,9,f2.mono (by omega),by decide,by unfold Sm;decide,by unfold Sm;decide,by omega,by omega,by omega,?_,?_,by rw[Int.natCast_add];rfl⟩
   .have h3:(2:Nat)^9=512:=by decide
    rw[h3];omega
   .have:2^(1+k')<=2^6:=OS (by decide) (by omega);omega
 rintro _ ⟨v,far,mn,β,μ,f,h60,hf,hs60,hβ,m1,m6,hμ,hbd,rfl⟩;obtain⟨p,v3,e3,f3,p0,ps⟩:=wq f (by omega) (by omega) hf hs60 (by omega);obtain⟨q,v4,e4,f4,q0,qs⟩:=wq f3 (by omega) (by omega) hf hs60 (by omega);refine eV (λe=>e=[.mu v4,.sh (.int mo),.sh (.int far),.sh (.int (mn:Nat)),.sh (fV p),.sh (fV q),.no,.no,.no,.no,.no,.no]) ⟨_,by simp![bz,bB,bA,bp,aO,aQ,aW,aA,aF,aS,aN,aK,aD,aw,aV,az,aX,aM,aa,ao,bg,ay,aE,ag,au,aj,aY,aR,aP,bw,bt,aZ,aU,bc,aC,bo,bq,bf,bj,aB,aG,ak,aq,bh,aT,a8,ar,aH,av,aJ,af,ba,ah,bu,e3,e4],rfl⟩ ?_;rintro _ rfl;obtain⟨d2,v5,e5,f5,d20,d21⟩:=bS (m:=5) f4 (by omega) (by decide) (sm8 (by decide));refine eV (λe=>∃q:Rat,0<q/\Sz β q/\e=[.mu v5,.sh (.int mo),.sh (.int far),.sh (.int (mn:Nat)),.sh (fV p),.sh (fV q),.no,.no,.no,.no,.no,.no]) ?_ ?_
 .by_cases hd:d2=0
  .subst hd;exact⟨_,by simp![bz,bB,bA,bp,aO,aQ,aW,aA,aF,aS,aN,aK,aD,aw,aV,az,aX,aM,aa,ao,bg,ay,aE,ag,au,aj,aY,aR,aP,bw,bt,aZ,aU,bc,aC,bo,bq,bf,bj,aB,aG,ak,aq,bh,aT,a8,ar,aH,av,aJ,af,ba,ah,bu,e5],p,p0,ps,rfl⟩
  .have hd':(d2==0)=false:=by rw[Oy];exact hd
   exact⟨_,by simp![bz,bB,bA,bp,aO,aQ,aW,aA,aF,aS,aN,aK,aD,aw,aV,az,aX,aM,aa,ao,bg,ay,aE,ag,au,aj,aY,aR,aP,bw,bt,aZ,aU,bc,aC,bo,bq,bf,bj,aB,aG,ak,aq,bh,aT,a8,ar,aH,av,aJ,af,ba,ah,bu,e5,hd'],q,q0,qs,rfl⟩
 rintro _ ⟨q,q0,qs,rfl⟩;obtain⟨b1,u1,g1,j1,b10,b11⟩:=bS (m:=41) f5 (by omega) (by decide) (sm8 (by decide));obtain⟨b2,u2,g2,j2,b20,b21⟩:=bS (m:=9) j1 (by omega) (by decide) (sm8 (by decide));obtain⟨b3,u3,g3,j3,b30,b31⟩:=bS (m:=41) j2 (by omega) (by decide) (sm8 (by decide));obtain⟨b4,u4,g4,j4,b40,b41⟩:=bS (m:=9) j3 (by omega) (by decide) (sm8 (by decide));have l1:=gi (a:=b1-20) (b:=1+b2) (by omega) (sm8 (by omega));have l2:=gi (a:=b3-20) (b:=1+b4) (by omega) (sm8 (by omega));have sl:∀a b:Int,0<=a->a<41->0<=b->b<9->Sz β (((a-20:Int):Rat)/((1+b:Int):Rat)):=λa b u1 u2 u3 u4=>Sz.div (by omega) (hs60.of_le (by omega)) (hs60.of_le (by omega)) β (z_ _) (z_ _);have sl1:=sl b1 b2 b10 b11 b20 b21;have sl2:=sl b3 b4 b30 b31 b40 b41;generalize ((b1-20:Int):Rat)/((1+b2:Int):Rat)=lf at *;generalize ((b3-20:Int):Rat)/((1+b4:Int):Rat)=tp at *;refine eV (λe=>e=[.mu u4,.sh (.int mo),.sh (.int far),.sh (.int (mn:Nat)),.sh (fV p),.sh (fV q),.sh (fV lf),.sh (fV tp),.no,.no,.no,.no]) ⟨_,by simp![bz,bB,bA,bp,aO,aQ,aW,aA,aF,aS,aN,aK,aD,aw,aV,az,aX,aM,aa,ao,bg,ay,aE,ag,au,aj,aY,aR,aP,bw,bt,aZ,aU,bc,aC,bo,bq,bf,bj,aB,aG,ak,aq,bh,aT,a8,ar,aH,av,aJ,af,ba,ah,bu,MM,dm,lcV,g1,g2,g3,g4,l1,l2],rfl⟩ ?_;rintro _ rfl;obtain⟨w,v6,e6,f6,w0,w1⟩:=bS (m:=4) j4 (by omega) (by decide) (sm8 (by decide));refine eV (λe=>e=[.mu v6,.sh (.int mo),.sh (.int far),.sh (.int (mn:Nat)),.sh (fV p),.sh (fV q),.sh (fV lf),.sh (fV tp),.sh (.int w),.no,.no,.no]) ⟨_,by simp![bz,bB,bA,bp,aO,aQ,aW,aA,aF,aS,aN,aK,aD,aw,aV,az,aX,aM,aa,ao,bg,ay,aE,ag,au,aj,aY,aR,aP,bw,bt,aZ,aU,bc,aC,bo,bq,bf,bj,aB,aG,ak,aq,bh,aT,a8,ar,aH,av,aJ,af,ba,ah,bu,e6],rfl⟩ ?_;rintro _ rfl;obtain⟨sm,v7,e7,f7,sm0,sm1⟩:=bS (m:=60) f6 (by omega) (by decide) (sm8 (by decide));refine eV (λe=>e=[.mu v7,.sh (.int mo),.sh (.int far),.sh (.int (mn:Nat)),.sh (fV p),.sh (fV q),.sh (fV lf),.sh (fV tp),.sh (.int w),.sh (.int (1+sm)),.no,.no]) ⟨_,by simp![bz,bB,bA,bp,aO,aQ,aW,aA,aF,aS,aN,aK,aD,aw,aV,az,aX,aM,aa,ao,bg,ay,aE,ag,au,aj,aY,aR,aP,bw,bt,aZ,aU,bc,aC,bo,bq,bf,bj,aB,aG,ak,aq,bh,aT,a8,ar,aH,av,aJ,af,ba,ah,bu,e7],rfl⟩ ?_;rintro _ rfl;refine eV (λe=>e=[.mu v7,.sh (.int mo),.sh (.int far),.sh (.int (mn:Nat)),.sh (fV p),.sh (fV q),.sh (fV lf),.sh (fV tp),.sh (.int w),.sh (.int (1+sm)),.ow (.lst []),.no]) ⟨_,by simp![bz,bB,bA,bp,aO,aQ,aW,aA,aF,aS,aN,aK,aD,aw,aV,az,aX,aM,aa,ao,bg,ay,aE,ag,au,aj,aY,aR,aP,bw,bt,aZ,aU,bc,aC,bo,bq,bf,bj,aB,aG,ak,aq,bh,aT,a8,ar,aH,av,aJ,af,ba,ah,bu],rfl⟩ ?_;rintro _ rfl;obtain⟨e',he',fr⟩:=Dg (mo:=mo) (mn:=mn) (sp:=.sh (fV p)) (sq:=.sh (fV q)) (sl:=.sh (fV lf)) (st:=.sh (fV tp)) (far:=far) (way:=w) (same:=1+sm) (by omega) (by omega) h60 w0 w1 (by omega) (by omega) f7;have rg:iV [.int (mn:Nat)]=some (rgV mn):=kr (i:=(mn:Nat)) (by omega) (by omega);refine eV (λe=>∃(v:Val) (ws:List Int) (s11:Sl),(Fd (n+200) v/\ws.length=mn/\∀w∈ws,1<=w/\w<=far)/\e=[.mu v,.sh (.int mo),.sh (.int far),.sh (.int (mn:Nat)),.sh (fV p),.sh (fV q),.sh (fV lf),.sh (fV tp),.sh (.int w),.sh (.int (1+sm)),.ow (.lst (ws.map .int)),s11]) ?_ ?_
 .obtain⟨v,ws,s11,fv,hl,hw,_,rfl⟩:=he';exact⟨_,by simp![bz,bB,bA,bp,aO,aQ,aW,aA,aF,aS,aN,aK,aD,aw,aV,az,aX,aM,aa,ao,bg,ay,aE,ag,au,aj,aY,aR,aP,bw,bt,aZ,aU,bc,aC,bo,bq,bf,bj,aB,aG,ak,aq,bh,aT,a8,ar,aH,av,aJ,af,ba,ah,bu,rg,fr],v,ws,s11,⟨fv.mono (by omega),hl,hw⟩,rfl⟩
 rintro _ ⟨v,ws,s11,⟨fv,hl,hw⟩,rfl⟩;refine⟨⟨lf,tp,p,q⟩,ws,far,β,μ,mn,v,⟨hl,m1,m6,by omega,hw,h60,⟨p0,q0⟩,⟨sl1,sl2,ps,qs⟩,hμ,hbd⟩,fv,?_⟩;have eb:bV (⟨lf,tp,p,q⟩:Bx)=.tup [fV lf,fV tp,fV p,fV q]:=rfl;rw[eb];unfold liV;simp![bz,bB,bA,bp,aO,aQ,aW,aA,aF,aS,aN,aK,aD,aw,aV,az,aX,aM,aa,ao,bg,ay,aE,ag,au,aj,aY,aR,aP,bw,bt,aZ,aU,bc,aC,bo,bq,bf,bj,aB,aG,ak,aq,bh,aT,a8,ar,aH,av,aJ,af,ba,ah,bu,Ml]
def Ln(ws:List Int):wt ws (bK ws.length)=ws.sum:=by unfold wt;congr 1;refine List.ext_getElem (by simp [bK]) λi h1 h2=>?_;simp [bK,cL,O7,h2]
def Gp(n:Nat):(bK n).Nodup:=by unfold bK;rw[List.nodup_iff_pairwise_ne,List.pairwise_map];exact List.nodup_range.imp λh z=>h (Int.ofNat.inj z)
def Ca.h51{mo:Int}{b:Bx}{ws:List Int}{far:Int}{β μ mn:Nat}(C:Ca mo b ws far β μ mn):Ok51 ws (bK ws.length) b β μ:=by
 have nl:(bK ws.length).length=ws.length:=by unfold bK;rw[v_,PD]
 have h1:=C.len;have h2:=C.m1;have h3:=C.m6;have hsum:=AD C.le;have hnn:=iL (l:=ws) λw h=>(C.le w h).1;have hm:=C.mu;rw[h1] at hsum;refine⟨λz=>?_,Gp _,λi hi=>?_,by omega,?_,C.ok,C.sz,by rw[nl,h1];exact C.bd⟩
 .rw[z,OM] at nl;omega
 .obtain⟨j,hj,rfl⟩:=OQ.mp hi;rw[QI] at hj;omega
 .rw[Ln];show ws.sum.natAbs<2^μ;omega
def lO{nums:List Int}{kind:Str}{mo:Int}(hk:kind="order" /\ mo=6\/kind="any" /\ mo=5)(h2:nums≠[])(hl:nums.length<=10):fb.G [liV nums,.str kind]=.ok (.new (.lst ((bI kind nums).map cuV))) []:=by have co:=i7 (hk.imp Pn Pn) h2 hl;have ko:=wV hk;generalize (bI kind nums).map cuV=cv at *;generalize liV nums=nv at *;unfold fb;rw[bT];unfold l8;simp![bz,bB,bA,bp,aO,aQ,aW,aA,aF,aS,aN,aK,aD,aw,aV,az,aX,aM,aa,ao,bg,ay,aE,ag,au,aj,aY,aR,aP,bw,bt,aZ,aU,bc,aC,bo,bq,bf,bj,aB,aG,ak,aq,bh,aT,a8,ar,aH,av,aJ,af,ba,ah,bu,co,ko]
def cA:Nat->Nat
 |0=>3
 |d+1=>3+14*(1+cA d)
def CD{s:PFx [false,false,true,false]}{c:Str×List Int×List Int}{v0 kv v v' p:Val}{r:Bool}{d:Int}{vd:Val}{acc:List Val}{s5 s6 s7 s8:Sl}(h5:s5.pl=true)(h6:s6.pl=true)(h7:s7.pl=true)(h8:s8.pl=true)(ll:acc.length<16777216)(ed:bN.G [v,.int 2]=.ok (.val (.int (if r then 1 else 0))) [vd])(e:s.G [liV (dP c r),kv,vd,.int (d-1)]=.ok (.val p) [v'])(fp:L3.flatV p=true):
 ∃e1,(gtX (gtT 3 (bM (gtN 5) (bM (gtN 6) (bM (gtN 7) cU))))).G (cuV c) [.sh v0,.sh kv,.mu v,.sh (.int d),.ow (.lst acc),s5,s6,s7,s8]=some e1/\(jc s).G e1=.nx [.sh v0,.sh kv,.mu v',.sh (.int d),.ow (.lst (acc++[rwV (r,p)])),.sh (.str c.1),.sh (liV c.2.1),.sh (liV c.2.2),.sh (.int (if r then 1 else 0))]:=by
 obtain⟨way,l1,l2⟩:=c;refine⟨[.sh v0,.sh kv,.mu v,.sh (.int d),.ow (.lst acc),.sh (.str way),.sh (liV l1),.sh (liV l2),s8],?_,?_⟩
 .unfold cuV;dsimp only;generalize liV l1=x1 at *;generalize liV l2=x2 at *;simp![bz,bB,bA,bp,aO,aQ,aW,aA,aF,aS,aN,aK,aD,aw,aV,az,aX,aM,aa,ao,bg,ay,aE,ag,au,aj,aY,aR,aP,bw,bt,aZ,aU,bc,aC,bo,bq,bf,bj,aB,aG,ak,aq,bh,aT,a8,ar,aH,av,aJ,af,ba,ah,bu,h5,h6,h7]
 .unfold dP at e;dsimp only at e ⊢;unfold jc rwV;dsimp only;cases r with
  |false=>rw[if_neg A_] at e ed ⊢;generalize liV l1=x1 at *;generalize liV l2=x2 at *;simp![bz,bB,bA,bp,aO,aQ,aW,aA,aF,aS,aN,aK,aD,aw,aV,az,aX,aM,aa,ao,bg,ay,aE,ag,au,aj,aY,aR,aP,bw,bt,aZ,aU,bc,aC,bo,bq,bf,bj,aB,aG,ak,aq,bh,aT,a8,ar,aH,av,aJ,af,ba,ah,bu,h8,ed,e,fp,ll]
  |true=>rw[if_pos rfl] at e ed ⊢;generalize liV l1=x1 at *;generalize liV l2=x2 at *;simp![bz,bB,bA,bp,aO,aQ,aW,aA,aF,aS,aN,aK,aD,aw,aV,az,aX,aM,aa,ao,bg,ay,aE,ag,au,aj,aY,aR,aP,bw,bt,aZ,aU,bc,aC,bo,bq,bf,bj,aB,aG,ak,aq,bh,aT,a8,ar,aH,av,aJ,af,ba,ah,bu,h8,ed,e,fp,ll]
theorem kJ{G:MG3}{B:MS3}{P:Str×List Int×List Int->Bool->Val->Prop}{I:Nat->List Val->E3->Prop}{q:Nat}:∀(l:List (Str×List Int×List Int)),l.Nodup->(∀c∈l,∀(N:Nat) (acc:List Val) (e:E3),I N acc e->N+q<=1000000->acc.length<100000->∃e1 e2 r p,G (cuV c) e=some e1/\B e1=.nx e2/\I (N+q) (acc++[rwV (r,p)]) e2/\P c r p)->∀(N:Nat) (acc:List Val) (e:E3),I N acc e->N+l.length*q<=1000000->acc.length+l.length<=100000->
 ∃(g:Str×List Int×List Int->Bool×Val) (e':E3),I (N+l.length*q) (acc++l.map λc=>rwV (g c)) e'/\(∀c∈l,P c (g c).1 (g c).2)/\dJ G B (l.map cuV) e=.nx e'
 | [],_,_,N,acc,e,h,_,_=>⟨λ_=>(false,.non),e,by rw[OM,Nat.zero_mul,OP,O9];exact h,(λ_ z=>nomatch z),rfl⟩
 |
  c::l,nd,hs,N,acc,e,h,hN,hl=>by
  rw[OR] at nd;rw[L_] at hl hN;rw[Nat.add_mul,Nat.one_mul] at hN;obtain⟨e1,e2,r,p,eg,eb,h2,hp⟩:=hs c (C_ ..) N acc e h (by omega) (by omega);obtain⟨g,e',h3,hg,fr⟩:=kJ l nd.2 (λc hc=>hs c (y_ _ hc)) _ _ e2 h2 (by omega) (by rw[H_,P4];omega);have ne:∀y∈l,y≠c:=λy hy z=>nd.1 (z ▸ hy);obtain⟨g',gc,gy⟩:∃g':Str×List Int×List Int->Bool×Val,g' c=(r,p)/\∀y∈l,g' y=g y:=⟨λy=>open Classical in if y=c then (r,p) else g y,if_pos rfl,λy hy=>if_neg (ne y hy)⟩;have em:(l.map λy=>rwV (g' y))=l.map λy=>rwV (g y):=List.map_congr_left λy hy=>by rw[gy y hy]
  refine⟨g',e',?_,?_,?_⟩
  .rw[L_,Nat.add_mul,Nat.one_mul,Nat.add_comm (l.length*q),<- Nat.add_assoc,B_,em,gc];rw[O1] at h3;exact h3
  .intro y hy;rcases N_.mp hy with rfl |hy
   .rw[gc];exact hp
   .rw[gy y hy];exact hg y hy
  .rw[B_,bY,eg];dsimp only;rw[eb];exact fr
def qz{nums:List Int}{j:Int}(h0:0<=j)(h1:j<(nums.length:Nat)):∃i∈nums,atI (nums.map Val.int) j=some (.int i):=by
 have hi:j.toNat<nums.length:=by omega
 refine⟨nums[j.toNat],List.getElem_mem hi,kS h0 ?_⟩;rw[OI,OC hi];rfl
theorem vB{kind:Str}{mo:Int}(hk:kind="order" /\ mo=6\/kind="any" /\ mo=5):∀(k d:Nat) (nums:List Int) (N:Nat) (v:Val),Fd N v->nums.Nodup->nums≠[]->nums.length<=4->nums.length<=k->N+cA d<=1000000->∃p v',(fo k).G [liV nums,.str kind,v,.int (d:Nat)]=.ok (.val p) [v']/\Fd (N+cA d) v'/\Pap kind k nums p
 |0,_,nums,_,_,_,_,h0,_,hl,_=>absurd (Ox.mpr h0) (by omega)
 |
  k+1,d,nums,N,v,f,nd,h0,h4,hl,hN=>by
  have hp:=Ox.mpr h0;have c3:3<=cA d:=by cases d <;> (unfold cA;omega)
  have lq:((nums.map Val.int).length:Nat)=nums.length:=v_ ..;show ∃p v',(PFx.of [false,false,true,false] 9 (fj (fo k))).G [liV nums,.str kind,v,.int (d:Nat)]=_/\_;by_cases h1:nums.length=1
  .have hd:(((nums.length:Nat):Int)==1)=true:=by rw[h1];rfl
   obtain⟨x,v1,e1,f1,x0,x1⟩:=bS (m:=6) f (by omega) (by decide) (sm8 (by decide));by_cases hx:0<x
   .refine⟨.tup [.str "shape"],v1,?_,f1.mono (by omega),.inl ⟨h1,rfl⟩⟩;have hx':decide (0<x)=true:=J_ hx;rw[fC];unfold fj liV;simp![bz,bB,bA,bp,aO,aQ,aW,aA,aF,aS,aN,aK,aD,aw,aV,az,aX,aM,aa,ao,bg,ay,aE,ag,au,aj,aY,aR,aP,bw,bt,aZ,aU,bc,aC,bo,bq,bf,bj,aB,aG,ak,aq,bh,aT,a8,ar,aH,av,aJ,af,ba,ah,bu,lq,hd,e1,hx']
   .obtain⟨j,v2,e2,f2,j0,j1⟩:=bS (m:=(nums.length:Nat)) f1 (by omega) (by omega) (sm8 (by omega));obtain⟨i,hi,ea⟩:=qz j0 j1;refine⟨.tup [.str "thin",.int i],v2,?_,f2.mono (by omega),.inr (.inl ⟨i,hi,rfl⟩)⟩;have hx':decide (0<x)=false:=F_ hx;rw[fC];unfold fj liV;simp![bz,bB,bA,bp,aO,aQ,aW,aA,aF,aS,aN,aK,aD,aw,aV,az,aX,aM,aa,ao,bg,ay,aE,ag,au,aj,aY,aR,aP,bw,bt,aZ,aU,bc,aC,bo,bq,bf,bj,aB,aG,ak,aq,bh,aT,a8,ar,aH,av,aJ,af,ba,ah,bu,lq,hd,e1,hx',e2,ea]
  .have hd
    : (((nums.length:Nat):Int)==1)=false:=by rw[Oy];omega
   cases d with
   |zero=>obtain⟨j,v2,e2,f2,j0,j1⟩:=bS (m:=(nums.length:Nat)) f (by omega) (by omega) (sm8 (by omega));obtain⟨i,hi,ea⟩:=qz j0 j1;refine⟨.tup [.str "thin",.int i],v2,?_,f2.mono (by omega),.inr (.inl ⟨i,hi,rfl⟩)⟩;have h00:(((0:Nat):Int)==0)=true:=rfl;rw[fC];unfold fj liV;simp![bz,bB,bA,bp,aO,aQ,aW,aA,aF,aS,aN,aK,aD,aw,aV,az,aX,aM,aa,ao,bg,ay,aE,ag,au,aj,aY,aR,aP,bw,bt,aZ,aU,bc,aC,bo,bq,bf,bj,aB,aG,ak,aq,bh,aT,a8,ar,aH,av,aJ,af,ba,ah,bu,lq,hd,h00,e2,ea]
   |
    succ d=>
    have hdd:(((d+1:Nat):Int)==0)=false:=by rw[Oy];omega
    obtain⟨x,v1,e1,f1,x0,x1⟩:=bS (m:=3) f (by omega) (by decide) (sm8 (by decide));by_cases hx:x=0
    .obtain⟨j,v2,e2,f2,j0,j1⟩:=bS (m:=(nums.length:Nat)) f1 (by omega) (by omega) (sm8 (by omega));obtain⟨i,hi,ea⟩:=qz j0 j1;refine⟨.tup [.str "thin",.int i],v2,?_,f2.mono (by omega),.inr (.inl ⟨i,hi,rfl⟩)⟩;have hx':(x==0)=true:=by rw[hx];rfl
     rw[fC];unfold fj liV;simp![bz,bB,bA,bp,aO,aQ,aW,aA,aF,aS,aN,aK,aD,aw,aV,az,aX,aM,aa,ao,bg,ay,aE,ag,au,aj,aY,aR,aP,bw,bt,aZ,aU,bc,aC,bo,bq,bf,bj,aB,aG,ak,aq,bh,aT,a8,ar,aH,av,aJ,af,ba,ah,bu,lq,hd,hdd,e1,hx',e2,ea]
    .have hx':(x==0)=false:=by rw[Oy];exact hx
     have cl:=wX (kind:=kind) h4;have hc:cA (d+1)=3+14*(1+cA d):=rfl;have hm:(bI kind nums).length*(1+cA d)<=14*(1+cA d):=Nat.mul_le_mul_right _ cl;have fc:=lO hk h0 (by omega);obtain⟨g,e',⟨v',t5,t6,t7,t8,f',_,_,_,_,rfl⟩,hg,fr⟩:=kJ (G:=(gtX (gtT 3 (bM (gtN 5) (bM (gtN 6) (bM (gtN 7) cU))))).G) (B:=(jc (fo k)).G) (P:=λc r p=>Pap kind k (dP c r) p) (q:=1+cA d) (I:=λN acc e=>∃(v:Val) (s5 s6 s7 s8:Sl),Fd N v/\s5.pl=true/\s6.pl=true/\s7.pl=true/\s8.pl=true/\e=[.sh (liV nums),.sh (.str kind),.mu v,.sh (.int ((d+1:Nat):Int)),.ow (.lst acc),s5,s6,s7,s8]) (bI kind nums) (wU nd) (by
      rintro c hc' M acc e ⟨u,s5,s6,s7,s8,fu,h5,h6,h7,h8,rfl⟩ hM ha;have co:=fh nd hc';have l1:=co.one.lt;have l2:=co.two.lt;obtain⟨x,vd,ed,fd,x0,x1⟩:=bS (m:=2) fu (by omega) (by decide) (sm8 (by decide));obtain⟨r,rfl⟩:∃r:Bool,x=if r then 1 else 0:=by
       by_cases h:x=0
       .exact⟨false,by rw[h];rfl⟩
       .exact⟨true,by rw[if_pos rfl];omega⟩
      have ih:∃p v',(fo k).G [liV (dP c r),.str kind,vd,.int (((d+1:Nat):Int)-1)]=.ok (.val p) [v']/\Fd (M+1+cA d) v'/\Pap kind k (dP c r) p:=by
       rw[show ((d+1:Nat):Int)-1=(d:Nat) by omega];unfold dP;split
       .exact vB hk k d _ _ vd fd (co.two.sub.nodup nd) co.two.ne (by omega) (by omega) (by omega)
       .exact vB hk k d _ _ vd fd (co.one.sub.nodup nd) co.one.ne (by omega) (by omega) (by omega)
      obtain⟨p,v',ep,fp,pa⟩:=ih;obtain⟨e1,eg,eb⟩:=CD (v0:=liV nums) (acc:=acc) h5 h6 h7 h8 (by omega) ed ep (oQ pa);exact⟨e1,_,r,p,eg,eb,⟨v',_,_,_,_,fp.mono (by omega),rfl,rfl,rfl,rfl,rfl⟩,pa⟩) _ [] _ ⟨v1,.no,.no,.no,.no,f1,rfl,rfl,rfl,rfl,rfl⟩ (by omega) (by rw[OM];omega)
     refine⟨.tup [.str "cases",.tup ((bI kind nums).map λc=>rwV (g c))],v',?_,f'.mono (by omega),.inr (.inr ⟨h1,g,rfl,hg⟩)⟩;rw[OL] at fr;have lr:((bI kind nums).map λc=>rwV (g c)).length<=16777216:=by rw[v_];omega
     clear hg;rw[fC];unfold fj;generalize ((bI kind nums).map λc=>rwV (g c))=rv at *;generalize (bI kind nums).map cuV=cv at *;generalize ((d+1:Nat):Int)=dd at *;unfold liV at *;simp![bz,bB,bA,bp,aO,aQ,aW,aA,aF,aS,aN,aK,aD,aw,aV,az,aX,aM,aa,ao,bg,ay,aE,ag,au,aj,aY,aR,aP,bw,bt,aZ,aU,bc,aC,bo,bq,bf,bj,aB,aG,ak,aq,bh,aT,a8,ar,aH,av,aJ,af,ba,ah,bu,lq,hd,hdd,e1,hx',fc,fr,lr]
def cB:Nat->Nat
 |0=>0
 |d+1=>14*(1+cB d)
def CV{s:PFx [false,false,false,false,false,true]}{bd q1 q2:Rat}{v0 v1 vw kv v v7 x1 x2 v10 y1 y2:Val}{rows:List Val}{x:Int}{s13:Sl}(h13:s13.pl=true)(e1:(cG 7).G [y1,x1,vw,kv]=.ok (.val (fV q1)) [])(e2:(cG 7).G [y2,x2,vw,kv]=.ok (.val (fV q2)) [])(l1:cP.G [fV q1,fV bd]=.ok (.val (.bl (decide (q1<bd)))) [])(l2:cP.G [fV q2,fV bd]=.ok (.val (.bl (decide (q2<bd)))) []):
 dJ (gtN 13).G (eu s).G (rgV 2) [.sh v0,.sh v1,.sh vw,.sh kv,.sh (fV bd),.mu v,.ow (.lst rows),.sh v7,.sh x1,.sh x2,.sh v10,.sh (.lst [y1,y2]),.sh (.int x),s13]=.nx [.sh v0,.sh v1,.sh vw,.sh kv,.sh (fV bd),.mu v,.ow (.lst rows),.sh v7,.sh x1,.sh x2,.sh v10,.sh (.lst [y1,y2]),.sh (.int (if q2<bd then (if q1<bd then x else 0) else 1)),.sh (.int 1)]:=by
 have eb1:∀z:Int,(eu s).G [.sh v0,.sh v1,.sh vw,.sh kv,.sh (fV bd),.mu v,.ow (.lst rows),.sh v7,.sh x1,.sh x2,.sh v10,.sh (.lst [y1,y2]),.sh (.int z),.sh (.int 0)]=.nx [.sh v0,.sh v1,.sh vw,.sh kv,.sh (fV bd),.mu v,.ow (.lst rows),.sh v7,.sh x1,.sh x2,.sh v10,.sh (.lst [y1,y2]),.sh (.int (if q1<bd then z else 0)),.sh (.int 0)]:=λz=>by
  unfold eu;by_cases h:q1<bd
  .rw[J_ h] at l1;rw[if_pos h];simp![bz,bB,bA,bp,aO,aQ,aW,aA,aF,aS,aN,aK,aD,aw,aV,az,aX,aM,aa,ao,bg,ay,aE,ag,au,aj,aY,aR,aP,bw,bt,aZ,aU,bc,aC,bo,bq,bf,bj,aB,aG,ak,aq,bh,aT,a8,ar,aH,av,aJ,af,ba,ah,bu,e1,l1]
  .rw[F_ h] at l1;rw[if_neg h];simp![bz,bB,bA,bp,aO,aQ,aW,aA,aF,aS,aN,aK,aD,aw,aV,az,aX,aM,aa,ao,bg,ay,aE,ag,au,aj,aY,aR,aP,bw,bt,aZ,aU,bc,aC,bo,bq,bf,bj,aB,aG,ak,aq,bh,aT,a8,ar,aH,av,aJ,af,ba,ah,bu,e1,l1]
 have eb2:∀z:Int,(eu s).G [.sh v0,.sh v1,.sh vw,.sh kv,.sh (fV bd),.mu v,.ow (.lst rows),.sh v7,.sh x1,.sh x2,.sh v10,.sh (.lst [y1,y2]),.sh (.int z),.sh (.int 1)]=.nx [.sh v0,.sh v1,.sh vw,.sh kv,.sh (fV bd),.mu v,.ow (.lst rows),.sh v7,.sh x1,.sh x2,.sh v10,.sh (.lst [y1,y2]),.sh (.int (if q2<bd then z else 1)),.sh (.int 1)]:=λz=>by
  unfold eu;by_cases h:q2<bd
  .rw[J_ h] at l2;rw[if_pos h];simp![bz,bB,bA,bp,aO,aQ,aW,aA,aF,aS,aN,aK,aD,aw,aV,az,aX,aM,aa,ao,bg,ay,aE,ag,au,aj,aY,aR,aP,bw,bt,aZ,aU,bc,aC,bo,bq,bf,bj,aB,aG,ak,aq,bh,aT,a8,ar,aH,av,aJ,af,ba,ah,bu,e2,l2]
  .rw[F_ h] at l2;rw[if_neg h];simp![bz,bB,bA,bp,aO,aQ,aW,aA,aF,aS,aN,aK,aD,aw,aV,az,aX,aM,aa,ao,bg,ay,aE,ag,au,aj,aY,aR,aP,bw,bt,aZ,aU,bc,aC,bo,bq,bf,bj,aB,aG,ak,aq,bh,aT,a8,ar,aH,av,aJ,af,ba,ah,bu,e2,l2]
 have g:∀(i:Int) (z:Val) (s13:Sl),s13.pl=true->(gtN 13).G (.int i) [.sh v0,.sh v1,.sh vw,.sh kv,.sh (fV bd),.mu v,.ow (.lst rows),.sh v7,.sh x1,.sh x2,.sh v10,.sh (.lst [y1,y2]),.sh z,s13]=some [.sh v0,.sh v1,.sh vw,.sh kv,.sh (fV bd),.mu v,.ow (.lst rows),.sh v7,.sh x1,.sh x2,.sh v10,.sh (.lst [y1,y2]),.sh z,.sh (.int i)]:=λi z s13 h=>by simp![bz,bB,bA,bp,aO,aQ,aW,aA,aF,aS,aN,aK,aD,aw,aV,az,aX,aM,aa,ao,bg,ay,aE,ag,au,aj,aY,aR,aP,bw,bt,aZ,aU,bc,aC,bo,bq,bf,bj,aB,aG,ak,aq,bh,aT,a8,ar,aH,av,aJ,af,ba,ah,bu,h]
 show dJ (gtN 13).G (eu s).G [.int 0,.int 1] _=_;rw[bY,g 0 _ _ h13];dsimp only;rw[eb1,i5];rw[bY,g 1 _ _ rfl];dsimp only;rw[eb2];rfl
def B1{s:PFx [false,false,false,false,false,true]}{kind:Str}{ws nums:List Int}{b:Bx}{n m β N q:Nat}{bd:Rat}{c:Str×List Int×List Int}{v:Val}{acc:List Val}{s7 s8 s9 s10 s11 s12 s13:Sl}(hk:kind="order" \/ kind="any")(hw:∀w∈ws,1<=w)(zb:Sz β bd)(hβ:β<=8000)(H:Ok51 ws nums b n m)(hl:nums.length<=4)(hc:c∈bI kind nums)(f:Fd N v)(hN:N+(1+q)<=1000000)(ha:acc.length<100000)(h7:s7.pl=true)(h8:s8.pl=true)(h9:s9.pl=true)(h10:s10.pl=true)(h11:s11.pl=true)(h12:s12.pl=true)(h13:s13.pl=true){Q:Bool->Val->Prop}(hQ:∀r p,Q r p->L3.flatV p=true)
 (ih:∀(r:Bool) (u:Val),Fd (N+1) u->∃p u',s.G [bV (fA ws b c r),liV (dP c r),liV ws,.str kind,fV bd,u]=.ok (.val p) [u']/\Fd (N+1+q) u'/\Q r p):
 ∃e1 e2 r p,(gtX (gtT 3 (bM (gtN 7) (bM (gtN 8) (bM (gtN 9) cU))))).G (cuV c) [.sh (bV b),.sh (liV nums),.sh (liV ws),.sh (.str kind),.sh (fV bd),.mu v,.ow (.lst acc),s7,s8,s9,s10,s11,s12,s13]=some e1/\(gO s).G e1=.nx e2/\(∃(v':Val) (t7 t8 t9 t10 t11 t12 t13:Sl),Fd (N+(1+q)) v'/\t7.pl=true/\t8.pl=true/\t9.pl=true/\t10.pl=true/\t11.pl=true/\t12.pl=true/\t13.pl=true/\e2=[.sh (bV b),.sh (liV nums),.sh (liV ws),.sh (.str kind),.sh (fV bd),.mu v',.ow (.lst (acc++[rwV (r,p)])),t7,t8,t9,t10,t11,t12,t13])/\Q r p/\(bd<=cX (bst kind ws 7) ws b c->bd<=bst kind ws 7 (fA ws b c r) (dP c r)):=by
 have co:=fh H.nd hc;have S:=H.cut hw co;have nm:=H.nm;have q1:=co.one.lt;have q2:=co.two.lt;have cu:=ph H.ok H.sz co.way S.w1 S.w2 S.sm (by omega);obtain⟨a1,z1⟩:=ia hk hw 7 _ _ _ S.o1 (by omega);obtain⟨a2,z2⟩:=ia hk hw 7 _ _ _ S.o2 (by omega);have b1:=eQ z1 zb (by omega) (by omega);have b2:=eQ z2 zb (by omega) (by omega);obtain⟨x,vd,ed,fd,x0,x1⟩:=bS (m:=2) f (by omega) (by decide) (sm8 (by decide));obtain⟨sb,lb⟩:=oK S.o1.inr (by omega);obtain⟨sc,lc⟩:=oK S.o2.inr (by omega);have c1:((c.2.1.map (cL ws)).map Val.int).length<=16777216:=by rw[v_,v_];omega
 have c2:((c.2.2.map (cL ws)).map Val.int).length<=16777216:=by rw[v_,v_];omega
 have rg:iV [.int 2]=some (rgV 2):=kr (i:=2) (by omega) (by omega);have ll:acc.length<16777216:=by omega
 obtain⟨r,er,hr⟩:∃r:Bool,(if bst kind ws 7 (cI b c.1 (wt ws c.2.1) (wt ws c.2.2)) c.2.2<bd then (if bst kind ws 7 (cF b c.1 (wt ws c.2.1) (wt ws c.2.2)) c.2.1<bd then x else 0) else 1)=(if r then 1 else 0)/\(bd<=cX (bst kind ws 7) ws b c->bd<=bst kind ws 7 (fA ws b c r) (dP c r)):=by
  unfold cX mx;by_cases h2:bst kind ws 7 (cI b c.1 (wt ws c.2.1) (wt ws c.2.2)) c.2.2<bd
  .rw[if_pos h2];by_cases h1:bst kind ws 7 (cF b c.1 (wt ws c.2.1) (wt ws c.2.2)) c.2.1<bd
   .rw[if_pos h1];obtain⟨r,er⟩:∃r:Bool,x=if r then 1 else 0:=by
     by_cases h:x=0
     .exact⟨false,by rw[h];rfl⟩
     .exact⟨true,by rw[if_pos rfl];omega⟩
    refine⟨r,er,λz=>?_⟩;split at z
    .exact absurd z (Rat.not_le.mpr h2)
    .exact absurd z (Rat.not_le.mpr h1)
   .rw[if_neg h1];exact⟨false,rfl,λ_=>OT.mp h1⟩
  .rw[if_neg h2];exact⟨true,rfl,λ_=>OT.mp h2⟩
 obtain⟨p,v',e,f',hq⟩:=ih r vd fd;have fp:=hQ r p hq;have ap:=CV (s:=s) (v0:=bV b) (v1:=liV nums) (v:=vd) (v7:=.str c.1) (v10:=.lst [.int (wt ws c.2.1),.int (wt ws c.2.2)]) (rows:=acc) (x:=x) h13 a1 a2 b1 b2;rw[er] at ap;refine⟨[.sh (bV b),.sh (liV nums),.sh (liV ws),.sh (.str kind),.sh (fV bd),.mu v,.ow (.lst acc),.sh (.str c.1),.sh (liV c.2.1),.sh (liV c.2.2),s10,s11,s12,s13],[.sh (bV b),.sh (liV nums),.sh (liV ws),.sh (.str kind),.sh (fV bd),.mu v',.ow (.lst (acc++[rwV (r,p)])),.sh (.str c.1),.sh (liV c.2.1),.sh (liV c.2.2),.sh (.lst [.int (wt ws c.2.1),.int (wt ws c.2.2)]),.sh (.lst [bV (cF b c.1 (wt ws c.2.1) (wt ws c.2.2)),bV (cI b c.1 (wt ws c.2.1) (wt ws c.2.2))]),.sh (.int (if r then 1 else 0)),.sh (.int 1)],r,p,?_,?_,⟨v',_,_,_,_,_,_,_,f'.mono (by omega),rfl,rfl,rfl,rfl,rfl,rfl,rfl,rfl⟩,hq,hr⟩
 .unfold cuV;generalize liV c.2.1=x1 at *;generalize liV c.2.2=x2 at *;simp![bz,bB,bA,bp,aO,aQ,aW,aA,aF,aS,aN,aK,aD,aw,aV,az,aX,aM,aa,ao,bg,ay,aE,ag,au,aj,aY,aR,aP,bw,bt,aZ,aU,bc,aC,bo,bq,bf,bj,aB,aG,ak,aq,bh,aT,a8,ar,aH,av,aJ,af,ba,ah,bu,h7,h8,h9]
 .unfold fA dP at e;clear hr er hq ih hQ a1 a2 b1 b2 z1 z2;unfold gO rwV;dsimp only;cases r with
  |false=>rw[if_neg A_] at e ap ⊢;rw[if_neg A_] at e;generalize bV (cF b c.1 (wt ws c.2.1) (wt ws c.2.2))=y1 at *;generalize bV (cI b c.1 (wt ws c.2.1) (wt ws c.2.2))=y2 at *;unfold wt at *;unfold liV at *;simp![bz,bB,bA,bp,aO,aQ,aW,aA,aF,aS,aN,aK,aD,aw,aV,az,aX,aM,aa,ao,bg,ay,aE,ag,au,aj,aY,aR,aP,bw,bt,aZ,aU,bc,aC,bo,bq,bf,bj,aB,aG,ak,aq,bh,aT,a8,ar,aH,av,aJ,af,ba,ah,bu,dm,lb,lc,c1,c2,cu,ed,rg,ap,h10,h11,h12,e,fp,ll]
  |true=>rw[if_pos rfl] at e ap ⊢;rw[if_pos rfl] at e;generalize bV (cF b c.1 (wt ws c.2.1) (wt ws c.2.2))=y1 at *;generalize bV (cI b c.1 (wt ws c.2.1) (wt ws c.2.2))=y2 at *;unfold wt at *;unfold liV at *;simp![bz,bB,bA,bp,aO,aQ,aW,aA,aF,aS,aN,aK,aD,aw,aV,az,aX,aM,aa,ao,bg,ay,aE,ag,au,aj,aY,aR,aP,bw,bt,aZ,aU,bc,aC,bo,bq,bf,bj,aB,aG,ak,aq,bh,aT,a8,ar,aH,av,aJ,af,ba,ah,bu,dm,lb,lc,c1,c2,cu,ed,rg,ap,h10,h11,h12,e,fp,ll]
def oD{kind:Str}{ws:List Int}{bd:Rat}{k:Nat}{b:Bx}{nums:List Int}{v:Val}{t:Bool}(h:Brs kind ws bd k b nums v t):L3.flatV v=true:=oQ (vY h)
theorem nT{kind:Str}{mo:Int}{ws:List Int}{m β:Nat}{bd:Rat}(hk:kind="order" /\ mo=6\/kind="any" /\ mo=5)(hw:∀w∈ws,1<=w)(zb:Sz β bd)(hβ:β<=8000):∀(k L:Nat) (nums:List Int) (b:Bx) (n N:Nat) (v:Val),k<=7->Fd N v->Ok51 ws nums b n m->nums.length<=4->nums.length<=k->nums.length<=L+1->N+cB L<=1000000->∃p v',(dZ k).G [bV b,liV nums,liV ws,.str kind,fV bd,v]=.ok (.val p) [v']/\Fd (N+cB L) v'/\∃t,Brs kind ws bd k b nums p t/\(bd<=bst kind ws 7 b nums->t=true)
 |0,_,nums,_,_,_,_,_,_,H,_,hl,_,_=>absurd (Ox.mpr H.ne) (by omega)
 |
  k+1,L,nums,b,n,N,v,k7,f,H,h4,hl,hL,hN=>by
  have hp:=Ox.mpr H.ne;have hk':kind="order" \/ kind="any":=hk.imp Pn Pn;have lq:((nums.map Val.int).length:Nat)=nums.length:=v_ ..;show ∃p v',(PFx.of [false,false,false,false,false,true] 14 (gq (dZ k))).G [bV b,liV nums,liV ws,.str kind,fV bd,v]=_/\_;by_cases h1:nums.length=1
  .have hd:(((nums.length:Nat):Int)==1)=true:=by rw[h1];rfl
   refine⟨.tup [.str "shape"],v,?_,f.mono (by omega),_,.sh h1,λz=>?_⟩
   .rw[fC];unfold gq;generalize fV bd=zz;unfold liV;simp![bz,bB,bA,bp,aO,aQ,aW,aA,aF,aS,aN,aK,aD,aw,aV,az,aX,aM,aa,ao,bg,ay,aE,ag,au,aj,aY,aR,aP,bw,bt,aZ,aU,bc,aC,bo,bq,bf,bj,aB,aG,ak,aq,bh,aT,a8,ar,aH,av,aJ,af,ba,ah,bu,lq,hd]
   .have e:bst kind ws 7 b nums=df b:=by unfold bst;rw[if_pos h1]
    rw[e] at z;rw[F_ (OT.mpr z)];rfl
  .have hd:(((nums.length:Nat):Int)==1)=false:=by rw[Oy];omega
   obtain⟨L,rfl⟩:∃M,L=M+1:=⟨L-1,by omega⟩;have cl:=wX (kind:=kind) h4;have hc:cB (L+1)=14*(1+cB L):=rfl;have hm:(bI kind nums).length*(1+cB L)<=14*(1+cB L):=Nat.mul_le_mul_right _ cl;have fc:=lO hk H.ne H.len;obtain⟨g,e',⟨v',t7,t8,t9,t10,t11,t12,t13,f',_,_,_,_,_,_,_,rfl⟩,hg,fr⟩:=kJ (G:=(gtX (gtT 3 (bM (gtN 7) (bM (gtN 8) (bM (gtN 9) cU))))).G) (B:=(gO (dZ k)).G) (P:=λc r p=>∃t,Brs kind ws bd k (fA ws b c r) (dP c r) p t/\(bd<=cX (bst kind ws 7) ws b c->t=true)) (q:=1+cB L) (I:=λN acc e=>∃(v':Val) (t7 t8 t9 t10 t11 t12 t13:Sl),Fd N v'/\t7.pl=true/\t8.pl=true/\t9.pl=true/\t10.pl=true/\t11.pl=true/\t12.pl=true/\t13.pl=true/\e=[.sh (bV b),.sh (liV nums),.sh (liV ws),.sh (.str kind),.sh (fV bd),.mu v',.ow (.lst acc),t7,t8,t9,t10,t11,t12,t13]) (bI kind nums) (wU H.nd) (by
    rintro c hc' M acc e ⟨u,s7,s8,s9,s10,s11,s12,s13,fu,h7,h8,h9,h10,h11,h12,h13,rfl⟩ hM ha;have co:=fh H.nd hc';have l1:=co.one.lt;have l2:=co.two.lt;have S:=H.cut hw co;obtain⟨e1,e2,r,p,eg,eb,hi,⟨t,hb,ht⟩,hr⟩:=B1 (s:=dZ k) (q:=cB L) (acc:=acc) (Q:=λr p=>∃t,Brs kind ws bd k (fA ws b c r) (dP c r) p t/\(bd<=bst kind ws 7 (fA ws b c r) (dP c r)->t=true)) hk' hw zb hβ H h4 hc' fu hM ha h7 h8 h9 h10 h11 h12 h13 (λr p ⟨t,h,_⟩=>oD h) (λr u fu=>by
     unfold fA dP;split
     .exact nT hk hw zb hβ k L _ _ _ _ u (by omega) fu S.o2 (by omega) (by omega) (by omega) (by omega)
     .exact nT hk hw zb hβ k L _ _ _ _ u (by omega) fu S.o1 (by omega) (by omega) (by omega) (by omega))
    exact⟨e1,e2,r,p,eg,eb,hi,t,hb,λz=>ht (hr z)⟩) _ [] _ ⟨v,.no,.no,.no,.no,.no,.no,.no,f,rfl,rfl,rfl,rfl,rfl,rfl,rfl,rfl⟩ (by omega) (by rw[OM];omega)
   have ch:∀c,∃t,c∈bI kind nums->Brs kind ws bd k (fA ws b c (g c).1) (dP c (g c).1) (g c).2 t/\(bd<=cX (bst kind ws 7) ws b c->t=true):=λc=>by
    by_cases h:c∈bI kind nums
    .obtain⟨t,ht⟩:=hg c h;exact⟨t,λ_=>ht⟩
    .exact⟨false,λz=>absurd z h⟩
   refine⟨.tup [.str "cases",.tup ((bI kind nums).map λc=>rwV (g c))],v',?_,f'.mono (by omega),_,.cs g (λc=>(ch c).choose) h1 (λc hc=>((ch c).choose_spec hc).1),λz=>?_⟩
   .rw[OL] at fr;have lr:((bI kind nums).map λc=>rwV (g c)).length<=16777216:=by rw[v_];omega
    clear ch hg;rw[fC];unfold gq;generalize ((bI kind nums).map λc=>rwV (g c))=rv at *;generalize (bI kind nums).map cuV=cv at *;generalize fV bd=zz at *;unfold liV at *;simp![bz,bB,bA,bp,aO,aQ,aW,aA,aF,aS,aN,aK,aD,aw,aV,az,aX,aM,aa,ao,bg,ay,aE,ag,au,aj,aY,aR,aP,bw,bt,aZ,aU,bc,aC,bo,bq,bf,bj,aB,aG,ak,aq,bh,aT,a8,ar,aH,av,aJ,af,ba,ah,bu,lq,hd,fc,fr,lr]
   .rw[OA];intro c hc;refine ((ch c).choose_spec hc).2 (O3 z ?_);have e:bst kind ws 7 b nums=bst kind ws (7+1) b nums:=(qS 7 b nums H.nd H.ne (by omega)).symm;rw[e];unfold bst;rw[if_neg h1];obtain⟨q,eq⟩:=j9 (λc=>cX (bst kind ws 7) ws b c) (j5 (kind:=kind) (nums:=nums) (by omega));rw[eq];exact (p8 _ _ _ _ eq).2 c hc
def tQ(s0 s2 s3 s5 s6 s7 s8:Sl)(w:Val)(N:Nat)(r:SR3):Prop:=∃v' u9 u10 u11 u12,Fd N v'/\r=.nx [s0,.ow v',s2,s3,.sh w,s5,s6,s7,s8,.sh u9,.sh u10,.sh u11,.sh u12]
def LR(q:Rat):eh (fV q) (fV q)=some true:=by rw[Me (yB q 59) (yB q 59),wa 60 _ (yB q 59)]
def F6{n:Nat}{v:Val}(f:Fd n v):L3.flatC v=false:=by obtain⟨cs,a,l,rfl,_,_⟩:=f;rfl
def EB(a b c:Bool):bIn.G (.bl true) (.lst [.bl a,.bl b,.bl c])=.val (.bl (a || b || c)):=by cases a <;> cases b <;> cases c <;> rfl
def Im{N:Nat}{v:Val}{kind:Str}{mo:Int}{b:Bx}{ws:List Int}{far:Int}{β μ mn:Nat}{k_:Val}{s0 s4 s8 s9 s10 s11 s12:Sl}(h4:s4=.ow (.lst (ws.map .int))\/s4=.sh (.lst (ws.map .int)))(hN:N<=900000)(hk:kind="order" /\ mo=6\/kind="any" /\ mo=5)(f:Fd N v)(C:Ca 4 b ws far β μ mn)(hb:Brs kind ws (bst kind ws 7 b (bK mn)) 7 b (bK mn) k_ true)(h9:s9.pl=true)(h10:s10.pl=true)(h11:s11.pl=true)(h12:s12.pl=true):tQ s0 (.sh (.str kind)) (.sh (bV b)) (.sh (.lst ((bK mn).map .int))) (.sh (fV (bst kind ws 7 b (bK mn)))) (.sh k_) s8 (.lst (ws.map .int)) (N+20000) (lT.G [s0,.ow v,.sh (.str kind),.sh (bV b),s4,.sh (.lst ((bK mn).map .int)),.sh (fV (bst kind ws 7 b (bK mn))),.sh k_,s8,s9,s10,s11,s12]):=by
 have c_:=C.len;have hm1:=C.m1;have hm5:=C.m5;have hw:∀w∈ws,1<=w:=λw h=>(C.le w h).1;have h0:ws≠[]:=by rintro rfl;rw[OM] at c_;omega
 have mo5:5<=mo:=by rcases hk with ⟨_,rfl⟩ |⟨_,rfl⟩ <;> decide
 have hl:(ws.length:Int)<=mo:=by omega
 have H:=C.h51;rw[c_] at H;have nl:(bK mn).length=mn:=by unfold bK;rw[v_,PD]
 have hk':kind="order" \/ kind="any":=hk.imp Pn Pn;obtain⟨e0,z⟩:=ia hk' hw 7 (bK mn) b β H (by omega);clear e0;unfold lT;obtain⟨d1,v1,e1,f1,d10,d11⟩:=bS (m:=20) f (by omega) (by decide) (sm8 (by decide));obtain⟨d2,v2,e2,f2,d20,d21⟩:=bS (m:=300) f1 (by omega) (by decide) (sm8 (by decide));have el:=gi (a:=d1-9) (b:=1+d2) (by omega) (sm8 (by omega));have s3:Sm 10 (300:Int):=by show (300:Int).natAbs<2^10;decide
 have zm:Sz 10 (((d1-9:Int):Rat)/((1+d2:Int):Rat)):=Sz.div (by omega) (s3.of_le (by omega)) (s3.of_le (by omega)) 10 (z_ _) (z_ _);generalize hq:bst kind ws 7 b (bK mn)=q at *;generalize (((d1-9:Int):Rat)/((1+d2:Int):Rat))=more at *;refine eV (λe=>e=[s0,.ow v2,.sh (.str kind),.sh (bV b),s4,.sh (.lst ((bK mn).map .int)),.sh (fV q),.sh k_,s8,.sh (fV more),s10,s11,s12]) ⟨_,by simp![bz,bB,bA,bp,aO,aQ,aW,aA,aF,aS,aN,aK,aD,aw,aV,az,aX,aM,aa,ao,bg,ay,aE,ag,au,aj,aY,aR,aP,bw,bt,aZ,aU,bc,aC,bo,bq,bf,bj,aB,aG,ak,aq,bh,aT,a8,ar,aH,av,aJ,af,ba,ah,bu,e1,e2,el,h9],rfl⟩ ?_;rintro _ rfl;obtain⟨d3,v3,e3,f3,d30,d31⟩:=bS (m:=3) f2 (by omega) (by decide) (sm8 (by decide));have f0:Val.tup [.int 0,.int 1]=fV 0:=rfl;have z0:Sz 10 (0:Rat):=by
  refine⟨?_,?_⟩
  .show (0:Int).natAbs<2^10;decide
  .show (1:Int).natAbs<2^10;decide
 have a0:=ja z z0 (by omega);have a1:=ja z zm (by omega);refine eV (λe=>∃bd:Rat,Sz (4000+10+1) bd/\e=[s0,.ow v3,.sh (.str kind),.sh (bV b),s4,.sh (.lst ((bK mn).map .int)),.sh (fV q),.sh k_,s8,.sh (fV more),.sh (fV bd),s11,s12]) ?_ ?_
 .obtain rfl |rfl |rfl:d3=0\/d3=1\/d3=2:=by omega
  .exact⟨_,by simp![bz,bB,bA,bp,aO,aQ,aW,aA,aF,aS,aN,aK,aD,aw,aV,az,aX,aM,aa,ao,bg,ay,aE,ag,au,aj,aY,aR,aP,bw,bt,aZ,aU,bc,aC,bo,bq,bf,bj,aB,aG,ak,aq,bh,aT,a8,ar,aH,av,aJ,af,ba,ah,bu,f0,e3,a0,h10],_,z.add z0,rfl⟩
  .exact⟨_,by simp![bz,bB,bA,bp,aO,aQ,aW,aA,aF,aS,aN,aK,aD,aw,aV,az,aX,aM,aa,ao,bg,ay,aE,ag,au,aj,aY,aR,aP,bw,bt,aZ,aU,bc,aC,bo,bq,bf,bj,aB,aG,ak,aq,bh,aT,a8,ar,aH,av,aJ,af,ba,ah,bu,f0,e3,a1,h10],_,z.add zm,rfl⟩
  .exact⟨_,by simp![bz,bB,bA,bp,aO,aQ,aW,aA,aF,aS,aN,aK,aD,aw,aV,az,aX,aM,aa,ao,bg,ay,aE,ag,au,aj,aY,aR,aP,bw,bt,aZ,aU,bc,aC,bo,bq,bf,bj,aB,aG,ak,aq,bh,aT,a8,ar,aH,av,aJ,af,ba,ah,bu,f0,e3,a1,h10],_,z.add zm,rfl⟩
 rintro _ ⟨bd,zb,rfl⟩;have c3:cA 3=11819:=by decide
 have c4:cB 3=2954:=by decide
 obtain⟨p1,v4,e4,f4,pa1⟩:=vB hk 7 3 (bK mn) _ v3 f3 H.nd H.ne (by omega) (by omega) (by omega);obtain⟨p2,v5,e5,f5,t2,hb2,ht2⟩:=nT hk hw zb (by omega) 7 3 (bK mn) b β _ v4 (by omega) f4 H (by omega) (by omega) (by omega) (by omega);have fl1:=oQ pa1;have fl2:=oD hb2;have fl0:=oD hb;unfold liV at e4 e5;rw[show ((3:Nat):Int)=3 from rfl] at e4;have n41:(!((4:Nat)==1))=true:=rfl;have fc5:L3.flatC v5=false:=F6 f5;have dml:∀s1 s2 s3 s5 s6 s7 s8 s9 s10 s11 s12:Sl,nS [s0,s1,s2,s3,.ow (.lst (ws.map .int)),s5,s6,s7,s8,s9,s10,s11,s12] [4]=some [s0,s1,s2,s3,.sh (.lst (ws.map .int)),s5,s6,s7,s8,s9,s10,s11,s12]:=λ_ _ _ _ _ _ _ _ _ _ _=>rfl;refine eV (λe=>e=[s0,.ow v5,.sh (.str kind),.sh (bV b),.sh (.lst (ws.map .int)),.sh (.lst ((bK mn).map .int)),.sh (fV q),.sh k_,s8,.sh (fV more),.sh (fV bd),.sh (.lst [k_,p1,p2]),s12]) ⟨_,by rcases h4 with rfl |rfl <;> simp![bz,bB,bA,bp,aO,aQ,aW,aA,aF,aS,aN,aK,aD,aw,aV,az,aX,aM,aa,ao,bg,ay,aE,ag,au,aj,aY,aR,aP,bw,bt,aZ,aU,bc,aC,bo,bq,bf,bj,aB,aG,ak,aq,bh,aT,a8,ar,aH,av,aJ,af,ba,ah,bu,e4,e5,fl1,fl2,fc5,dml,n41,h11],rfl⟩ ?_;rintro _ rfl;obtain⟨t1,hb1⟩:=tu (ws:=ws) (bd:=bd) (b:=b) pa1;obtain⟨t0,hb0⟩:=tu (ws:=ws) (bd:=bd) (b:=b) (vY hb);have up:∀t p,Brs kind ws bd 7 b (bK mn) p t->t=true->bd<=q:=λt p h ht=>by rw[<- hq];exact JF hw h H.ok H.inr H.nd H.ne (by omega) ht
 have st:∀t p,Brs kind ws bd 7 b (bK mn) p t->fQ.G [bV b,.lst (ws.map .int),.str kind,fV bd,p]=.ok (.val (.bl t)) []:=λt p h=>by refine AV (m:=μ) hk hw h0 hl (by rw[c_];exact H) zb (by omega) ?_;rw[c_];exact h
 have m0:bd<=q->t0=true:=λle=>by obtain⟨t',h',ht⟩:=BZ le hb;have e:=(st _ _ hb0).symm.trans (st _ _ h');injection e with e _;injection e with e;injection e with e;rw[e];exact ht rfl
 have st0:=st _ _ hb0;have st1:=st _ _ hb1;have st2:=st _ _ hb2;have u0:=up _ _ hb0;have u1:=up _ _ hb1;have u2:=up _ _ hb2;rw[hq] at ht2;have le:=eQ z zb (by omega) (by omega);clear up st;obtain⟨e',⟨s,rfl,_⟩,lc⟩:=gA (g:=(gtN 0).G) (F:=(bD fQ (ai (ax 1) (ai (ax 2) (ai (ax 3) (ai (ax 4) (ai (ax 0) bx)))))).G) (λp:Val×Bool=>p.1) (λp=>.bl p.2) (λe=>∃s,e=[s,.sh (bV b),.sh (.lst (ws.map .int)),.sh (.str kind),.sh (fV bd)]/\s.pl=true) [(k_,t0),(p1,t1),(p2,t2)] [] [.no,.sh (bV b),.sh (.lst (ws.map .int)),.sh (.str kind),.sh (fV bd)] ⟨.no,rfl,rfl⟩ (by
  rintro⟨p,t⟩ hp e ⟨s,rfl,hs⟩;have sp:fQ.G [bV b,.lst (ws.map .int),.str kind,fV bd,p]=.ok (.val (.bl t)) []:=by
   rcases N_.mp hp with hp |hp
   .cases hp;exact st0
   .rcases N_.mp hp with hp |hp
    .cases hp;exact st1
    .cases OG.mp hp;exact st2
  refine⟨[.sh p,.sh (bV b),.sh (.lst (ws.map .int)),.sh (.str kind),.sh (fV bd)],.val (.bl t),[.sh p,.sh (bV b),.sh (.lst (ws.map .int)),.sh (.str kind),.sh (fV bd)],?_,?_,rfl,⟨_,rfl,rfl⟩⟩
  .simp![bz,bB,bA,bp,aO,aQ,aW,aA,aF,aS,aN,aK,aD,aw,aV,az,aX,aM,aa,ao,bg,ay,aE,ag,au,aj,aY,aR,aP,bw,bt,aZ,aU,bc,aC,bo,bq,bf,bj,aB,aG,ak,aq,bh,aT,a8,ar,aH,av,aJ,af,ba,ah,bu,hs]
  .simp![bz,bB,bA,bp,aO,aQ,aW,aA,aF,aS,aN,aK,aD,aw,aV,az,aX,aM,aa,ao,bg,ay,aE,ag,au,aj,aY,aR,aP,bw,bt,aZ,aU,bc,aC,bo,bq,bf,bj,aB,aG,ak,aq,bh,aT,a8,ar,aH,av,aJ,af,ba,ah,bu,sp]) (by simp)
 have itl:∀xs:List Val,(Val.lst xs).items=some xs:=λ_=>rfl;rw[show ([(k_,t0),(p1,t1),(p2,t2)]:List (Val×Bool)).map (λp=>p.1)=[k_,p1,p2] from rfl,show ([]:List Val)++([(k_,t0),(p1,t1),(p2,t2)]:List (Val×Bool)).map (λp=>Val.bl p.2)=[.bl t0,.bl t1,.bl t2] from rfl] at lc;refine eV (λe=>e=[s0,.ow v5,.sh (.str kind),.sh (bV b),.sh (.lst (ws.map .int)),.sh (.lst ((bK mn).map .int)),.sh (fV q),.sh k_,s8,.sh (fV more),.sh (fV bd),.sh (.lst [k_,p1,p2]),.sh (.lst [.bl t0,.bl t1,.bl t2])]) ⟨_,by simp![bz,bB,bA,bp,aO,aQ,aW,aA,aF,aS,aN,aK,aD,aw,aV,az,aX,aM,aa,ao,bg,ay,aE,ag,au,aj,aY,aR,aP,bw,bt,aZ,aU,bc,aC,bo,bq,bf,bj,aB,aG,ak,aq,bh,aT,a8,ar,aH,av,aJ,af,ba,ah,bu,itl,dm,inS,lc,h12],rfl⟩ ?_;rintro _ rfl;have it:=EB t0 t1 t2;by_cases hlt:q<bd
 .rw[J_ hlt] at le;have n:∀t:Bool,(t=true->bd<=q)->t=false:=λt h=>by
   cases t with
   |false=>rfl
   |true=>exact absurd hlt (OT.mpr (h rfl))
  rw[n t0 u0,n t1 u1,n t2 u2] at it ⊢;refine⟨v5,fV more,fV bd,.lst [k_,p1,p2],.lst [.bl false,.bl false,.bl false],f5.mono (by omega),?_⟩;simp![bz,bB,bA,bp,aO,aQ,aW,aA,aF,aS,aN,aK,aD,aw,aV,az,aX,aM,aa,ao,bg,ay,aE,ag,au,aj,aY,aR,aP,bw,bt,aZ,aU,bc,aC,bo,bq,bf,bj,aB,aG,ak,aq,bh,aT,a8,ar,aH,av,aJ,af,ba,ah,bu,it,le,Bool.or_self]
 .rw[F_ hlt] at le;have tt:(true != true)=false:=rfl;rw[m0 (OT.mp hlt),ht2 (OT.mp hlt)] at it ⊢;refine⟨v5,fV more,fV bd,.lst [k_,p1,p2],.lst [.bl true,.bl t1,.bl true],f5.mono (by omega),?_⟩;simp![bz,bB,bA,bp,aO,aQ,aW,aA,aF,aS,aN,aK,aD,aw,aV,az,aX,aM,aa,ao,bg,ay,aE,ag,au,aj,aY,aR,aP,bw,bt,aZ,aU,bc,aC,bo,bq,bf,bj,aB,aG,ak,aq,bh,aT,a8,ar,aH,av,aJ,af,ba,ah,bu,it,le,Ng,tt,Bool.or_true,Bool.true_or]
def J7(ns:List Int)(hl:ns.length<=63):sQ.G [.kl (ns.map .int)]=.ok (.val (.bl true)) []:=by
 obtain⟨v,e1,f⟩:=FJ hl;obtain⟨c,v1,e2,f1,c0,c1⟩:=bS (m:=2) f (by omega) (by decide) (sm8 (by decide));obtain⟨b,ws,far,β,μ,mn,v',C,f2,e3⟩:=Fx (mo:=4) (by decide) (by decide) f1 (by omega);have c_:=C.len;have hm1:=C.m1;have hm5:=C.m5;have hw:∀w∈ws,1<=w:=λw h=>(C.le w h).1;have h0:ws≠[]:=by rintro rfl;rw[OM] at c_;omega
 have H:=C.h51;have nl:(bK mn).length=mn:=by unfold bK;rw[v_,PD]
 have key:∀(kind:Str) (mo:Int),(kind="order" /\ mo=6\/kind="any" /\ mo=5)->∃q k_,(cG 7).G [bV b,.lst ((bK mn).map .int),.lst (ws.map .int),.str kind]=.ok (.val (fV q)) []/\fU.G [bV b,.lst (ws.map .int),.str kind]=.ok (.val k_) []/\L3.flatV k_=true/\L3.flatV (fV q)=true/\(∃t,dS.G [bV b,.lst (ws.map .int),.str kind]=.ok (.val (.tup [fV q,t])) []/\L3.flatV t=true)/\eh (fV q) (fV q)=some true/\∃e',(∃(v:Val) (s4 s8 s9 s10 s11 s12:Sl),e'=[.sh (.kl (ns.map .int)),.ow v,.sh (.str kind),.sh (bV b),s4,.sh (.lst ((bK mn).map .int)),.sh (fV q),.sh k_,s8,s9,s10,s11,s12]/\(s4=.ow (.lst (ws.map .int))\/s4=.sh (.lst (ws.map .int))))/\dJ (gtN 8).G lT.G (rgV (2+min 2 ns.length)) [.sh (.kl (ns.map .int)),.ow v',.sh (.str kind),.sh (bV b),.ow (.lst (ws.map .int)),.sh (.lst ((bK mn).map .int)),.sh (fV q),.sh k_,.no,.no,.no,.no,.no]=.nx e':=by
  intro kind mo hk;have mo5:5<=mo:=by rcases hk with ⟨_,rfl⟩ |⟨_,rfl⟩ <;> decide
  have hk':kind="order" \/ kind="any":=hk.imp Pn Pn;obtain⟨p,ep,hb⟩:=BV hk hw h0 (by omega) H;obtain⟨t,lw,ft⟩:=ke hk hw h0 (by omega) H;obtain⟨el,z⟩:=ia hk' hw 7 (bK ws.length) b β H (by rw[c_];omega);rw[c_] at hb el lw;unfold liV at el;refine⟨bst kind ws 7 b (bK mn),p,el,ep,oD hb,xE _,⟨t,lw,ft⟩,LR _,?_⟩;obtain⟨e',he,fr⟩:=tV (g:=(gtN 8).G) (B:=lT.G) (e:=[.sh (.kl (ns.map .int)),.ow v',.sh (.str kind),.sh (bV b),.ow (.lst (ws.map .int)),.sh (.lst ((bK mn).map .int)),.sh (fV (bst kind ws 7 b (bK mn))),.sh p,.no,.no,.no,.no,.no]) (λi e=>∃(v:Val) (s4 s8 s9 s10 s11 s12:Sl),(s4=.ow (.lst (ws.map .int))\/s4=.sh (.lst (ws.map .int)))/\Fd (1000+20000*i) v/\s8.pl=true/\s9.pl=true/\s10.pl=true/\s11.pl=true/\s12.pl=true/\e=[.sh (.kl (ns.map .int)),.ow v,.sh (.str kind),.sh (bV b),s4,.sh (.lst ((bK mn).map .int)),.sh (fV (bst kind ws 7 b (bK mn))),.sh p,s8,s9,s10,s11,s12]) (2+min 2 ns.length) ⟨v',_,.no,.no,.no,.no,.no,.inl rfl,f2.mono (by omega),rfl,rfl,rfl,rfl,rfl,rfl⟩ (by rintro i hi e ⟨v,s4,s8,s9,s10,s11,s12,h4,f,h8,h9,h10,h11,h12,rfl⟩;obtain⟨v',u9,u10,u11,u12,f',eb⟩:=Im (s0:=.sh (.kl (ns.map .int))) (s8:=.sh (.int (i:Nat))) h4 (by omega) hk f C hb h9 h10 h11 h12;exact⟨_,_,by simp![bz,bB,bA,bp,aO,aQ,aW,aA,aF,aS,aN,aK,aD,aw,aV,az,aX,aM,aa,ao,bg,ay,aE,ag,au,aj,aY,aR,aP,bw,bt,aZ,aU,bc,aC,bo,bq,bf,bj,aB,aG,ak,aq,bh,aT,a8,ar,aH,av,aJ,af,ba,ah,bu,h8],.inl eb,v',_,_,_,_,_,_,.inr rfl,f'.mono (by omega),rfl,rfl,rfl,rfl,rfl,rfl⟩);obtain⟨v,s4,s8,s9,s10,s11,s12,h4,_,_,_,_,_,_,rfl⟩:=he;exact⟨_,⟨v,s4,s8,s9,s10,s11,s12,rfl,h4⟩,fr⟩
 have lw:((ws.map Val.int).length:Nat)=mn:=by rw[v_];exact c_
 have lr:iH.G [.int (mn:Nat)]=.new (.lst ((bK mn).map Val.int)):=by rw[sJ ⟨by omega,by omega⟩,<- mL];rfl
 have lk:((ns.map Val.int).length:Nat)=ns.length:=v_ ..;have rg:iV [.int (2+if ((ns.length:Nat):Int)<2 then ((ns.length:Nat):Int) else 2)]=some (rgV (2+min 2 ns.length)):=by rw[show (2+if ((ns.length:Nat):Int)<2 then ((ns.length:Nat):Int) else 2)=((2+min 2 ns.length:Nat):Int) by split <;> omega];exact kr (by omega) (by omega)
 unfold sQ;rw[bT];unfold DH;unfold liV at e3;obtain rfl |rfl:c=0\/c=1:=by omega
 .obtain⟨q,k_,el,ep,f3,f4,⟨t,elw,ft⟩,eq,e',⟨v,s4,s8,s9,s10,s11,s12,rfl,h4⟩,fr⟩:=key "order" 6 (.inl ⟨rfl,rfl⟩);clear key;rcases h4 with rfl |rfl <;> simp![bz,bB,bA,bp,aO,aQ,aW,aA,aF,aS,aN,aK,aD,aw,aV,az,aX,aM,aa,ao,bg,ay,aE,ag,au,aj,aY,aR,aP,bw,bt,aZ,aU,bc,aC,bo,bq,bf,bj,aB,aG,ak,aq,bh,aT,a8,ar,aH,av,aJ,af,ba,ah,bu,e1,e2,e3,lw,lr,el,ep,f3,f4,lk,rg,fr,elw,ft,eq,and_self]
 .obtain⟨q,k_,el,ep,f3,f4,⟨t,elw,ft⟩,eq,e',⟨v,s4,s8,s9,s10,s11,s12,rfl,h4⟩,fr⟩:=key "any" 5 (.inr ⟨rfl,rfl⟩);clear key;rcases h4 with rfl |rfl <;> simp![bz,bB,bA,bp,aO,aQ,aW,aA,aF,aS,aN,aK,aD,aw,aV,az,aX,aM,aa,ao,bg,ay,aE,ag,au,aj,aY,aR,aP,bw,bt,aZ,aU,bc,aC,bo,bq,bf,bj,aB,aG,ak,aq,bh,aT,a8,ar,aH,av,aJ,af,ba,ah,bu,e1,e2,e3,lw,lr,el,ep,f3,f4,lk,rg,fr,elw,ft,eq,and_self]
end KK
namespace PySem.W.Fast
def q__:=trivial
def tw1002086757360994056:=q__
def tw10041496326096683312:=q__
def tw10110133261813568305:=q__
def tw10150444317345238775:=q__
def tw10158995007001339892:=q__
def tw10220158703854592519:=q__
def tw10311203565837294329:=q__
def tw10325507330280848062:=q__
def tw10373060673737111431:=q__
def tw10375486538702856854:=q__
def tw10387496413490324700:=q__
def tw10396724163972997612:=q__
def tw10467834704856346729:=q__
def tw10514551468695455756:=q__
def tw10638403567254738898:=q__
def tw10703394402246726967:=q__
def tw1084844805655741518:=q__
def tw10873428256646146241:=q__
def tw10965441654493118953:=q__
def tw10980093819850266356:=q__
def tw11014402266880252297:=q__
def tw11140513426263068011:=q__
def tw11210925904526043984:=q__
def tw11246377513971603629:=q__
def tw11251707107097707097:=q__
def tw1126971656953346366:=q__
def tw11295462394593668453:=q__
def tw11355794833013931638:=q__
def tw11373993990275488820:=q__
def tw11405540561340124311:=q__
def tw11481051188351501738:=q__
def tw1149061708984780081:=q__
def tw11508375647630269129:=q__
def tw11523698556376919980:=q__
def tw11613533833265985852:=q__
def tw11639323654464982072:=q__
def tw11662246804904030343:=q__
def tw11672643617163900079:=q__
def tw11688474833072503478:=q__
def tw11703885227946953397:=q__
def tw11724941674830647672:=q__
def tw11734950292566642566:=q__
def tw11785604009570779861:=q__
def tw11861304063470746855:=q__
def tw11864273272803580004:=q__
def tw11885471975336780048:=q__
def tw11959744557007653871:=q__
def tw12067872706166090374:=q__
def tw12080595319293210376:=q__
def tw12131379415659563231:=q__
def tw1214928713387675786:=q__
def tw12264287823259800534:=q__
def tw1230070876597237551:=q__
def tw12321327886968318810:=q__
def tw12410944628058967494:=q__
def tw12411004912604785431:=q__
def tw12456630507136524688:=q__
def tw12487278947701368744:=q__
def tw1257047595368401473:=q__
def tw12621779684249735176:=q__
def tw12624189027386243548:=q__
def tw12629408809660108424:=q__
def tw12672826480287372508:=q__
def tw12719653392232797159:=q__
def tw1273346442169798373:=q__
def tw12745685048320887032:=q__
def tw12845871940196854543:=q__
def tw12861624338512583241:=q__
def tw12868295623183526751:=q__
def tw12885718476635485744:=q__
def tw12895084699148996803:=q__
def tw12896471693463341485:=q__
def tw12929719708450832830:=q__
def tw12992049685929143640:=q__
def tw13066387639840826956:=q__
def tw13154853733807198207:=q__
def tw1317487004540057422:=q__
def tw13202338746143346431:=q__
def tw13209528917855653177:=q__
def tw13242478560885558768:=q__
def tw13263961476431896446:=q__
def tw13304459740844276350:=q__
def tw13332513848818538888:=q__
def tw13408402723753085927:=q__
def tw1340995470438253631:=q__
def tw134161335188304180:=q__
def tw1344607389261549774:=q__
def tw1345933768268232561:=q__
def tw13482792172614978221:=q__
def tw13488842846682682537:=q__
def tw13530871219178162623:=q__
def tw13644857365036392857:=q__
def tw13652687235298971996:=q__
def tw13655891922141416121:=q__
def tw13673205917411185397:=q__
def tw13674183671762896700:=q__
def tw137076575392366831:=q__
def tw13716801085966903362:=q__
def tw13766563260546344010:=q__
def tw13780113881675248892:=q__
def tw13818493033641178145:=q__
def tw1394074692952917050:=q__
def tw13956377477099096274:=q__
def tw14092820805702687306:=q__
def tw14105262532712430914:=q__
def tw14126106540907318081:=q__
def tw14133875634400375370:=q__
def tw14219106787246384133:=q__
def tw14302323912933498951:=q__
def tw14357216889942894830:=q__
def tw1436403537589451279:=q__
def tw14421913001408656180:=q__
def tw14423120716138150372:=q__
def tw14542027198289450560:=q__
def tw14563591554964172332:=q__
def tw14609118220415197379:=q__
def tw14616426794441292370:=q__
def tw1463738850631953799:=q__
def tw1463863451177169251:=q__
def tw14663327472284890483:=q__
def tw14687560574982121809:=q__
def tw14761283277352040717:=q__
def tw1480284260212266132:=q__
def tw14816135734775993865:=q__
def tw14830065711211385222:=q__
def tw14884437938025231536:=q__
def tw14886520857474903671:=q__
def tw14891676209573864148:=q__
def tw15009836312810802978:=q__
def tw15018181896547982177:=q__
def tw15047292541654129938:=q__
def tw15053289221015217310:=q__
def tw15063269182768263621:=q__
def tw15085226929611650576:=q__
def tw15089543962317479747:=q__
def tw15138968001189741111:=q__
def tw15178478470286063725:=q__
def tw15322749673109884992:=q__
def tw15357920844723912782:=q__
def tw1538973581487618878:=q__
def tw1542148176992114279:=q__
def tw15429856290705082480:=q__
def tw15466543349032256603:=q__
def tw15501156411529333606:=q__
def tw15544151303181948248:=q__
def tw15693478407853964128:=q__
def tw15704441429906420540:=q__
def tw15830707219603340385:=q__
def tw15864647402941818251:=q__
def tw15968661245821212789:=q__
def tw15981253241767119940:=q__
def tw15983813736617354814:=q__
def tw15991222326973033525:=q__
def tw16020861298911170778:=q__
def tw16064925110556384200:=q__
def tw16081110862786958317:=q__
def tw16206625450762543914:=q__
def tw16226311690274909539:=q__
def tw16256207766099188533:=q__
def tw16265276686606286427:=q__
def tw16278394349686431155:=q__
def tw16291342576106988862:=q__
def tw16356551383427720954:=q__
def tw16390126741566272329:=q__
def tw16396407966452662935:=q__
def tw16562508882759712497:=q__
def tw16616915714945724770:=q__
def tw16689645851156987539:=q__
def tw16719522111851122056:=q__
def tw16738591644371609848:=q__
def tw167516906948527425:=q__
def tw16811243659008326271:=q__
def tw16819871148031916149:=q__
def tw16824390133713902514:=q__
def tw1683168797972998919:=q__
def tw16919383797593506058:=q__
def tw17034305209343603106:=q__
def tw17050246382699740262:=q__
def tw17085563654552098720:=q__
def tw17129974789969828338:=q__
def tw17135875684752060004:=q__
def tw17180974261995904626:=q__
def tw17181480964316429093:=q__
def tw17228598708159656132:=q__
def tw17229144667631976470:=q__
def tw1723998557098445636:=q__
def tw17309865941980355934:=q__
def tw1735938205585330312:=q__
def tw17367378796950982208:=q__
def tw17373832328547516352:=q__
def tw17376681741412339597:=q__
def tw17435878041357973910:=q__
def tw1744972687157941791:=q__
def tw1744997901496396701:=q__
def tw17459393647568575027:=q__
def tw17518033717921327297:=q__
def tw17520536412766706963:=q__
def tw17611930541578541103:=q__
def tw17710835763529018940:=q__
def tw1771448289212208323:=q__
def tw17793161706185353458:=q__
def tw17853561466664863236:=q__
def tw17855053893370427549:=q__
def tw18089085143445265565:=q__
def tw18089220738186853176:=q__
def tw18094528690763209171:=q__
def tw18141478656605545093:=q__
def tw18147712510345586305:=q__
def tw18154990715576010273:=q__
def tw18212922241054864952:=q__
def tw18230966324058720001:=q__
def tw18233615440880278744:=q__
def tw18264777147084985804:=q__
def tw18293925661241334997:=q__
def tw1854286458120618278:=q__
def tw1882148120589222336:=q__
def tw1895530934209323938:=q__
def tw1910304870263440376:=q__
def tw1971681938888021211:=q__
def tw1984678424639717696:=q__
def tw2065405929247523863:=q__
def tw2086586013512403949:=q__
def tw213370445490316021:=q__
def tw2162038244293095118:=q__
def tw2166463820754796828:=q__
def tw2204915357046725307:=q__
def tw236041232662913224:=q__
def tw2443690624821752793:=q__
def tw2454398017401790522:=q__
def tw2494830480459544016:=q__
def tw2592820495048783849:=q__
def tw2615473075564336351:=q__
def tw2707036695251864296:=q__
def tw2709889920321198169:=q__
def tw2746463161760990795:=q__
def tw2784154158710858035:=q__
def tw2787096591467458928:=q__
def tw281879337581697441:=q__
def tw2857426625187548167:=q__
def tw2867108766288986190:=q__
def tw2874986486293102241:=q__
def tw2896780856031253065:=q__
def tw291647293506104590:=q__
def tw294074523105118276:=q__
def tw2950919768713609043:=q__
def tw2971124104857042553:=q__
def tw3085633681871005378:=q__
def tw3170635740427245897:=q__
def tw3196060331314530240:=q__
def tw3230866602874913352:=q__
def tw3314839862754188428:=q__
def tw342771644575213038:=q__
def tw3445489008781338445:=q__
def tw3474098270380849646:=q__
def tw3482133487828446663:=q__
def tw355744669576662369:=q__
def tw3576014639244198982:=q__
def tw3578462812824840071:=q__
def tw3648377752873116904:=q__
def tw3653632557716781639:=q__
def tw3703389338500135363:=q__
def tw3706741558188995405:=q__
def tw3746903300294015297:=q__
def tw3889550672023235241:=q__
def tw3920309529601445786:=q__
def tw3965294526973110516:=q__
def tw3974239527519313180:=q__
def tw4074426814532186529:=q__
def tw4079793019495204895:=q__
def tw4114592593762067401:=q__
def tw4133506281780308154:=q__
def tw4173469794426149128:=q__
def tw4219582357678598146:=q__
def tw4314262791056103433:=q__
def tw4317529076347333250:=q__
def tw4344445251884219471:=q__
def tw4387567929562567965:=q__
def tw4412450867543573976:=q__
def tw4440359662855553838:=q__
def tw4458360222544375786:=q__
def tw4490702788397658956:=q__
def tw4538528052481180633:=q__
def tw4555389668546554032:=q__
def tw4558237506691912883:=q__
def tw4569750630171863028:=q__
def tw4577644172968108329:=q__
def tw4639429536552764010:=q__
def tw4650310186826211962:=q__
def tw4673347297371078466:=q__
def tw4734843789138461200:=q__
def tw4758743419995806720:=q__
def tw4767745491077444562:=q__
def tw4779003324571088292:=q__
def tw4807387731726713020:=q__
def tw4819293124295544674:=q__
def tw481954216749010978:=q__
def tw4890100761408123835:=q__
def tw4948800540894642214:=q__
def tw4960670777386940916:=q__
def tw4970937487527240140:=q__
def tw4974861086073296725:=q__
def tw5047237478616891387:=q__
def tw5053386234562522210:=q__
def tw5122203913472064460:=q__
def tw5139525686909768572:=q__
def tw5155938394679081712:=q__
def tw5159969535556283219:=q__
def tw5214210743953067794:=q__
def tw5221104032408982001:=q__
def tw5242148794438584540:=q__
def tw529239218093174000:=q__
def tw5297293379298179918:=q__
def tw534439282216672158:=q__
def tw5459266360576742693:=q__
def tw5503508625903728529:=q__
def tw5511690364692024493:=q__
def tw5541609594740965536:=q__
def tw5546752937122587417:=q__
def tw563892636490799398:=q__
def tw5643267579144269971:=q__
def tw5645639345070043256:=q__
def tw5650541457307218327:=q__
def tw5673771668337119771:=q__
def tw5697111687117596205:=q__
def tw5731944290973030150:=q__
def tw5733756839978055416:=q__
def tw5874539222846509810:=q__
def tw5889036357173215495:=q__
def tw591225556626577441:=q__
def tw5946290419235027304:=q__
def tw6043720916849417442:=q__
def tw6052733110303858347:=q__
def tw6096494688204644546:=q__
def tw6097912565978152160:=q__
def tw6262314879143989676:=q__
def tw6278420776901242862:=q__
def tw6403416439116742846:=q__
def tw6443152481958268681:=q__
def tw6464217756019871377:=q__
def tw6579442957839128126:=q__
def tw6632723685668538438:=q__
def tw6650591255351323596:=q__
def tw668854021730476385:=q__
def tw669529209347913063:=q__
def tw672648733656422737:=q__
def tw6765929415685514653:=q__
def tw6780738551372696896:=q__
def tw682643430880136605:=q__
def tw6937042043569824954:=q__
def tw6952620880746262351:=q__
def tw7068734463453491063:=q__
def tw7090872267568135561:=q__
def tw7128869916116349670:=q__
def tw7129302674797802113:=q__
def tw717106304183640799:=q__
def tw720635977246333263:=q__
def tw72861457667350294:=q__
def tw729196129155796441:=q__
def tw7313816739211221049:=q__
def tw7331002184980832199:=q__
def tw7342038684172548739:=q__
def tw7427720639079138784:=q__
def tw7518117264645910491:=q__
def tw7519350538976640299:=q__
def tw7573110960906340386:=q__
def tw7582483492859509841:=q__
def tw7605215987975501117:=q__
def tw7622217459421265913:=q__
def tw7692495461755772664:=q__
def tw7696039487336615212:=q__
def tw7723787019029536018:=q__
def tw7854758690198031585:=q__
def tw7861510468464942861:=q__
def tw7879850971231132591:=q__
def tw7894076879350966957:=q__
def tw7910426299235268412:=q__
def tw7915425346101182233:=q__
def tw7927864427596703383:=q__
def tw7931243511899544265:=q__
def tw7931961876782839422:=q__
def tw79714966335548587:=q__
def tw7978930999982429377:=q__
def tw79907572003610305:=q__
def tw8075855248772026285:=q__
def tw8090083912677291361:=q__
def tw8159476476835234019:=q__
def tw8163952020886527366:=q__
def tw8188012767218735148:=q__
def tw8216301088617198380:=q__
def tw8248212677429582978:=q__
def tw8252048701092968154:=q__
def tw8257811380883558715:=q__
def tw8269718513749567007:=q__
def tw8319526859102531917:=q__
def tw8386191422354622791:=q__
def tw8400723344344508783:=q__
def tw8415260400752282688:=q__
def tw842443211937698562:=q__
def tw8489163711643938353:=q__
def tw856477033750134199:=q__
def tw8569261925159288098:=q__
def tw8575510109610540353:=q__
def tw8613812531983190130:=q__
def tw8726732823526814652:=q__
def tw8736329661103964923:=q__
def tw8751540328745523742:=q__
def tw8778818966640164945:=q__
def tw8836010314758013651:=q__
def tw8837926564703373215:=q__
def tw8850942117636735057:=q__
def tw892287364789588558:=q__
def tw8932356213720234272:=q__
def tw8966167346997025010:=q__
def tw8978535335269155305:=q__
def tw8979751292298369964:=q__
def tw9106286372966145697:=q__
def tw9107006941662522792:=q__
def tw9116110028908200515:=q__
def tw9153426732350772665:=q__
def tw9162402964290037556:=q__
def tw9195727363538175399:=q__
def tw9207583342458283432:=q__
def tw9341529493561831540:=q__
def tw9351259218047168704:=q__
def tw936601358261034524:=q__
def tw9422590027678418061:=q__
def tw9423134699753050118:=q__
def tw9442650310420776577:=q__
def tw9569921218614498701:=q__
def tw9584436987520980383:=q__
def tw9659234796490096137:=q__
def tw9679402897444173873:=q__
def tw9745491763560612235:=q__
def tw9792295831038816215:=q__
def tw9811915730006752012:=q__
def tw9842217878322596677:=q__
def tw9871694783972604854:=q__
def tw9895484071458941164:=q__
def tw9974071645172476467:=q__
def tw9990785142115342570:=q__
def tw999772988637442668:=q__
end PySem.W.Fast
open PySem PySem.W PyProof.Rows L2 L3 KK
set_option maxRecDepth 100000 in
set_option maxHeartbeats 0 in
theorem PySem.Challenge.cw_weightrooms_k60_whole_a_paper_bars_holds : PySem.Challenge.rw_weightrooms_k60_whole_a_paper_bars.Holds := by
 w_on;o_law;k_head;(case hw=>w_witness2)
 k_fill
 refine L2.walk_lawD (l:=PySem.Challenge.rw_weightrooms_k60_whole_a_paper_bars) (x:="_law_script") (k:=33) rfl rfl ⟨rfl,by decide,by decide⟩ (λw h Y=>W.kIn_of Y) ?F ?D
 case F=>
  intro w mg h KX G base kb nb;refine C7 (Gm ⟨⟨Ou KX G (by kernel_rfl),?_⟩,(by refine' BQ (kvs:=du) KX G ?a9 ?b9 ?c9 ?d9 ?e9;(case a9=>exact rfl);(case b9=>exact rfl);(case c9=>exact rfl);(case d9=>exact (.cons rfl rfl rfl (.cons rfl rfl rfl .nil)));(case e9=>decide))⟩) (KI KX G (by kernel_rfl)) (law3 sQ rfl J7);repeat first
   |exact trivial
   |refine⟨by refine' zJ KX G ?a ?l ?c ?k;(case a=>k_is);(case l=>k_is);(case c=>k_is);(case k=>k_is),?_⟩
 case D=>
  intro w mg h KX G;refine⟨top 71,?_,(λ_ _ _ _ _ _=>ar1 λ_=>rfl)⟩;refine' zJ KX G ?a ?l ?c ?k;case a|l|c|k=>k_is
