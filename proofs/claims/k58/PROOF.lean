import PyProof.Rows.All
import Wide.All
import OpenK.AllK
import Wide.FinOn
import Lean
import PyProof.EqAt
import PyProof.EqKinds
import PyProof.TupleCall
import PyProof.Rows.SumAny
import PyProof.EnumMake
import PyProof.Draws
import PyProof.ZipIter
import KE.KNestM
import PyProof.StrBlockH
import KE.KUnpack
import KE.KxIndex
import PyProof.SetRoads
import PyProof.SetNew
import PyProof.AutoSeq1
import KE.KRevSl
import PyProof.SeqI3
import PyProof.Rows.SortWalk
import PyProof.Rows.Range3
import KE.KSortTup
import KE.KLam
import PyProof.Rows.SetFrom
import PyProof.FactsAll.list_2
import PyProof.Rows.SortStr
import PyProof.Rows.StrRules
import PyProof.StrOps
import KE.KIntText
import PyProof.CallStr
import PyProof.StrWalks
import PyProof.Rows.StrNews2
import PyProof.ReprRoads
import PyProof.Rows.IntBool
import PyProof.ReprLen
import PySem.Challenge.RW_weightrooms_k58_papers_looked_at
local macro_rules|`(tactic|trivial)=>`(tactic|first|exact Or.inl rfl|exact Or.inr rfl)
local macro_rules|`(tactic|decide)=>`(tactic|decide +kernel)
set_option genSizeOf false
set_option genInjectivity false
set_option bootstrap.genMatcherCode false
noncomputable section
set_option Elab.async false
set_option linter.all false
def h_:=@Bool.false_ne_true
def i_:=@PySem.wpAny_bind
def j_:=@List.length_map
def k_:=@List.mem_cons_of_mem
def l_:=@List.mem_cons_self
def m_:=@Nat.le_refl
def n_:=@PySem.wpAny_pure
def o_:=@List.length_cons
def p_:=@Bool.and_eq_true
def q_:=@PySem.Heap.get?_push_of_some
def r_:=@beq_eq_false_iff_ne
def s_:=@List.map_cons
def t_:=@PySem.Heap.lt_size
def u_:=@List.getElem?_eq_some_iff
def v_:=@decide_eq_false
def w_:=@Nat.lt_of_lt_of_le
def x_:=@decide_eq_true
def y_:=@List.size_toArray
def z_:=@List.length_append
def A_:=@PySem.Heap.get?_push_size
def B_:=@List.getElem?_eq_getElem
def C_:=@List.mem_cons
def D_:=@List.all_eq_true
def Em:=@Nat.pow_le_pow_right
def E_:=@Option.some.inj
def F_:=@Nat.le_trans
def G_:=@Nat.ne_of_lt
def H_:=@Option.map_eq_some_iff
def I_:=@List.length_pos_iff
def J_:=@List.sum_cons
def Kx:=@List.nil_append
def Ky:=@List.mem_append_right
def Kz:=@List.getElem?_map
def KC:=@List.contains_iff_mem
def KD:=@List.map_nil
def KG:=@List.length_nil
def KH:=@beq_iff_eq
def KI:=@PySem.wpAny_newObj_type
def KJ:=@List.getElem?_append_left
def KL:=@PySem.wpAny_mono
def KN:=@PySem.wpAny_field
def KO:=@List.length_set
def KP:=@List.mem_map
def KQ:=@List.length_singleton
def KR:=@PyProof.Rows.callWith_type1
def KS:=@PyProof.Rows.slot_tuple_getitem
def KU:=@Option.bind_eq_some_iff
def KW:=@PySem.wpAny_callSpecial?_slot
def KY:=@List.getD_eq_getElem?_getD
def KZ:=@List.append_assoc
def K0:=@List.length_range
def K1:=@List.filterMap_cons
def K2:=@List.append_nil
def K3:=@congrArg
def K4:=@Nat.lt_irrefl
def K5:=@List.getElem?_replicate
def K6:=@PySem.mem_of_lookup
def K7:=@List.any_cons
def K8:=@List.mem_singleton
def K9:=@Nat.zero_le
def K_:=@List.find?_cons
def La:=@List.map_append
def Lb:=@List.nodup_cons
def Lc:=@Option.isSome_iff_exists
def Ld:=@decide_eq_true_eq
def Le:=@of_decide_eq_true
def Lf:=@PySem.wpAny_truthy_bool
def Lg:=@Int.mul_assoc
def Lh:=@PySem.wpAny_holding
def Li:=@List.length_eq_zero_iff
def Lj:=@List.length_zipWith
def Lk:=@List.lookup_cons
def Ll:=@PySem.wpAny_call_entry
def Lm:=@PySem.wpAny_seqItems
def Ln:=@List.take_of_length_le
def Lo:=@PySem.wpAny_setField_rec
def Lp:=@Int.mul_ne_zero
def Lq:=@List.getElem?_zipWith
def Lr:=@List.length_replicate
def Ls:=@List.mem_append
def Lu:=@Nat.not_lt_zero
def Lv:=@PySem.wpAny_passesOwn
def Lw:=@PySem.F.slot_tuple_iterator_next
def Lx:=@List.drop_eq_getElem_cons
def Ly:=@List.mem_of_getElem?
def Lz:=@PySem.Heap.size_push
def LA:=@Int.natAbs_mul
def LB:=@List.length_take
def LC:=@List.map_map
def LD:=@PySem.wpAny_getItem_str_slice
def LG:=@List.all_cons
def LH:=@if_true
def LJ:=@Bool.false_eq_true
def LK:=@Rat.not_lt
def LL:=@PySem.wpAny_Call_Name_kw
def LN:=@Int.mul_left_comm
def LO:=@Int.toNat_natCast
def LP:=@List.reverse_cons
def LQ:=@Bool.false_and
def LR:=@List.mem_range
def LS:=@List.take_append_drop
def LU:=@And.left
def LV:=@List.getElem_mem
def LW:=@List.length_drop
def LX:=@Int.eq_of_mul_eq_mul_right
def LY:=@List.getElem?_append_right
def LZ:=@Array.length_toList
def L4:=@Nat.mul_le_mul_left
def L5:=@Bool.eq_iff_iff
def L6:=@List.getElem?_eq_none_iff
def L7:=@List.mem_of_find?_eq_some
def L8:=@Nat.min_eq_left
def L9:=@PySem.AutoSeq1.wpAny_loadPart'
def L_:=@Int.mul_comm
def Ma:=@Int.mul_right_comm
def Mb:=@Nat.ne_of_gt
def Mc:=@PySem.F.args_tuple_add_2
def Md:=@PySem.wpAny_pyIter_tuple
def Me:=@PySem.wpAny_rule
def Mf:=@Int.eq_ofNat_of_zero_le
def Mg:=@PySem.F.entry_tuple_add
def Mh:=@decide_eq_false_iff_not
def Mi:=@PySem.F.slot_tuple_add
def Mj:=@PyProof.Rows.subscriptTail_builtinR
def Mk:=@List.take_nil
def Ml:=@PySem.wpAny_standAt
def Mm:=@Nat.le_add_right
def Mn:=@Option.getD_none
def Mo:=@decide_eq_decide
def Mp:=@if_false
def Mq:=@PySem.F.slot_zip_next
def Mr:=@PySem.Heap.get?_none_of_le
def Ms:=@List.forIn_cons
def Mu:=@List.getElem?_append
def Mv:=@List.getElem?_set_ne
def Mw:=@Nat.lt_trans
def Mx:=@Nat.mul_comm
def My:=@Nat.mul_le_mul_right
def Mz:=@Rat.intCast_mul
def MB:=@Rat.num_eq_zero
def MC:=@PySem.post_val_or_str
def MD:=@PySem.wpAny_execs_nil
def MF:=@PySem.wpAny_updateSeq_pair
def MH:=@List.length_flatMap
def MJ:=@List.length_reverse
def MK:=@List.mem_map_of_mem
def ML:=@PyProof.Rows.entry_tuple_getitem
def MM:=@List.forIn_nil
def MN:=@PyProof.Rows.slicePart_none
def MP:=@Rat.le_refl
def MQ:=@LawfulBEq.eq_of_beq
def MR:=@Bool.true_and
def MU:=@List.drop_nil
def MV:=@Rat.lt_irrefl
def MW:=@PySem.wpAny_attempt
def MX:=@PySem.wpAny_onRaise
set_option maxRecDepth 100000
namespace L2
open PySem PySem.Spec PyProof.Rows
abbrev _root_.Na:=Str->Option Value
abbrev _root_.Nb:=List (Addr×Obj)
abbrev _root_.Nc:=Value->Shared->Prop
abbrev _root_.Nd:=List (Option Nat)
abbrev Key:=Sum Int Str
noncomputable def lu:Key->Value->Bool
 |.inl k,v=>Value.isInt k v
 |.inr x,v=>Value.isStrOf x v
noncomputable def keyH (w:World):Key->Int
 |.inl k=>hashInt k
 |.inr x=>hashStr w x
theorem bM:∀{k:Key}{v:Value},lu k v=true->(∃i t,k=Sum.inl i/\v=Value.int i t)\/(∃x t,k=Sum.inr x/\v=Value.str x t)
 |
  .inl i,v,h=>by
  obtain⟨t,e⟩:=Value.isInt_shape (k:=i) (v:=v) h;exact .inl ⟨i,t,rfl,e⟩
 |
  .inr x,v,h=>by
  obtain⟨t,e⟩:=Value.isStrOf_shape (x:=x) (v:=v) h;exact .inr ⟨x,t,rfl,e⟩
def xY(i:Int)(t:Tok):lu (.inl i) (.int i t)=true:=by simp [lu,Value.isInt]
def yH(x:Str)(t:Tok):lu (.inr x) (.str x t)=true:=by simp [lu,Value.isStrOf]
def E9(a b:Int):decide ((Sum.inl a:Key)=Sum.inl b)=(a==b):=by
 by_cases e:a=b
 .subst e;simp
 .have h:¬ (Sum.inl a:Key)=Sum.inl b:=λq=>e (Sum.inl.inj q);rw[v_ h];exact (r_.mpr e).symm
def G8(a b:Str):decide ((Sum.inr a:Key)=Sum.inr b)=decide (a=b):=by
 by_cases e:a=b
 .subst e;simp
 .have h:¬ (Sum.inr a:Key)=Sum.inr b:=λq=>e (Sum.inr.inj q);rw[v_ h,v_ e]
def HX(a:Int)(b:Str):decide ((Sum.inl a:Key)=Sum.inr b)=false:=v_ (λq=>nomatch q)
def HR(a:Str)(b:Int):decide ((Sum.inr a:Key)=Sum.inl b)=false:=v_ (λq=>nomatch q)
noncomputable def bg (prog:Program) (w:World):PySem.KeyKind prog w Key where
 is:=lu
 hash:=keyH w
 inj
  := λv a b ha hb=>by
  rcases bM ha with ⟨i,t,rfl,rfl⟩ |⟨x,t,rfl,rfl⟩
  .rcases bM hb with ⟨j,u,rfl,e⟩ |⟨y,u,rfl,e⟩
   .injection e with e1 _;rw[e1]
   .exact nomatch e
  .rcases bM hb with ⟨j,u,rfl,e⟩ |⟨y,u,rfl,e⟩
   .exact nomatch e
   .injection e with e1 _;rw[e1]
 byValue:=λk v h=>by rcases bM h with ⟨i,t,rfl,rfl⟩ |⟨x,t,rfl,rfl⟩ <;> rfl
 pyHash:=λhv h=>by
  rcases bM hv with ⟨i,t,rfl,rfl⟩ |⟨x,t,rfl,rfl⟩
  .exact wpAny_pyHash_int h
  .exact wpAny_pyHash_str h
 eqBool:=λhu hv h=>by
  rcases bM hu with ⟨i,t,rfl,rfl⟩ |⟨x,t,rfl,rfl⟩
  .rcases bM hv with ⟨j,u,rfl,rfl⟩ |⟨y,u,rfl,rfl⟩
   .rw[E9] at h;exact wpAny_eqBool_int h
   .rw[HX] at h;exact SeqAt.EqAt.int_str i t y u _ _ _ _ h
  .rcases bM hv with ⟨j,u,rfl,rfl⟩ |⟨y,u,rfl,rfl⟩
   .rw[HR] at h;exact SeqAt.EqAt.str_int x t j u _ _ _ _ h
   .rw[G8] at h;exact wpAny_eqBool_str h
 «strs»:=λk x t v h=>by
  rcases bM h with ⟨i,u,rfl,e⟩ |⟨y,u,rfl,e⟩
  .exact nomatch e
  .injection e with e1 _;subst e1;cases v <;> rfl
def uS(prog:Program)(w:World)(i:Int)(t:Tok):(bg prog w).is (.inl i) (.int i t)=true:=xY i t
def lK(prog:Program)(w:World)(x:Str)(t:Tok):(bg prog w).is (.inr x) (.str x t)=true:=yH x t
inductive V where
 |non |bl (b:Bool) |int (i:Int) |str (x:Str) |byt (b:Array UInt8) |flt (b:UInt64) |ref (a:Addr) |ty (n:String)
 deriving DecidableEq
def RelV:V->Value->Prop
 |.non,u=>u=Value.none
 |.bl b,u=>u=Value.bool b
 |.int i,u=>∃t,u=Value.int i t
 |.str x,u=>∃t,u=Value.str x t
 |.byt b,u=>∃t,u=Value.bytes b t
 |.flt b,u=>∃t,u=Value.float b t
 |.ref a,u=>u=Value.ref a
 |.ty n,u=>u=Value.type n
abbrev Vals:List V->List Value->Prop:=Paired RelV
def Vals.length(r:Vals xs us):xs.length=us.length:=Paired.length r
def Vals.get{xs:List V}{us:List Value}{i:Nat}{x:V}(r:Vals xs us)(e:xs[i]?=some x):∃u,us[i]?=some u/\RelV x u:=by
 induction r generalizing i with
 |nil=>rw[List.getElem?_nil] at e;cases e
 |
  cons r t ih=>
  cases i with
  |zero=>cases e;exact⟨_,rfl,r⟩
  |succ i=>exact ih (i:=i) e
def Vals.append(r:Vals xs us)(s:Vals ys ws):Vals (xs++ys) (us++ws):=by
 induction r with
 |nil=>exact s
 |cons r t ih=>exact .cons r ih
def Vals.take(n:Nat)(r:Vals xs us):Vals (xs.take n) (us.take n):=by
 induction r generalizing n with
 |nil=>rw[Mk,Mk];exact .nil
 |
  cons r t ih=>
  cases n with
  |zero=>exact .nil
  |succ n=>exact .cons r (ih n)
def Vals.drop(n:Nat)(r:Vals xs us):Vals (xs.drop n) (us.drop n):=by
 induction r generalizing n with
 |nil=>rw[MU,MU];exact .nil
 |
  cons r t ih=>
  cases n with
  |zero=>exact .cons r t
  |succ n=>exact ih n
def RelO:Option V->Option Value->Prop
 |some v,some u=>RelV v u
 |none,none=>True
 |_,_=>False
def KV{κ:Type}:List (κ×V)->List (κ×Value)->Prop:=Paired λ(p:κ×V) (q:κ×Value)=>p.1=q.1/\RelV p.2 q.2
noncomputable def kV:Key->V
 |.inl i=>.int i
 |.inr x=>.str x
inductive HO where
 |lst (xs:List V)
 |tup (xs:List V)
 |dK (kvs:List (Key×V)) |dT (kvs:List (List Key×V))
 |set (S:Int->Bool) (n:Nat)
 |ins (C dx:Addr) (fs:List (Str×V))
 |own (x:Addr)
 |xd (fs:List (Str×V))
 |met (f x:Addr)
 |rng (lo hi:Int)
 |frz (o:Obj) (u:HO)
 |tbl (ps:Array Value)
 |ext (φ:Heap->Prop)
abbrev Hp:=Addr->Option HO
noncomputable def upd (H:Hp) (a:Addr) (o:HO):Hp:=λb=>if b=a then some o else H b
def aU:upd H a o a=some o:=by unfold upd;rw[if_pos rfl]
def aG(h:b≠a):upd H a o b=H b:=by unfold upd;rw[if_neg h]
def JU{H:Hp}{a b:Addr}{o u:HO}(h:H a=some o)(h':H b=some u)(d:o≠u):a≠b:=by intro e;subst e;rw[h] at h';exact d (E_ h')
def eE{H:Hp}{a b:Addr}{o:HO}(h:H a=some o)(h':H b=none):a≠b:=by intro e;subst e;rw[h] at h';cases h'
section
variable(P:Program)(w:World)
def ObjOk(H:Hp)(h:Heap)(a:Addr):HO->Prop
 |.lst xs=>xs.length<=sizeLine/\∃(its:List Value) (n:Nat),Vals xs its/\h.get? a=some { cls:=.type "list",data:=.seq its.toArray n }
 |.tup xs=>xs.length<=sizeLine/\∃its:List Value,Vals xs its/\IsTup h a its.toArray
 |.dK kvs=>kvs.length<=sizeLine/\(a==sysModules)=false/\∃vs,KV kvs vs/\h.DictOf (bg P w) a vs
 |.dT kvs=>kvs.length<=sizeLine/\(a==sysModules)=false/\∃xs:List (List Key×Addr×Value),
  Paired (λ(p:List Key×V) (q:List Key×Addr×Value)=>p.1=q.1/\H q.2.1=some (.tup (p.1.map kV))/\RelV p.2 q.2.2) kvs xs/\
  ∃o es ep,h.get? a=some o/\o.ExactDict/\o.data=.dict es ep/\es.toList=xs.map (entryOfKey (tupleKind (bg P w)))/\(xs.map (·.1)).Nodup
 |.set S n=>h.SetOf (intKind P w) a S n
 |.ins C dx fs=>H dx=some (.own a)/\fs.length<=1000/\dx≠a/\h.get? a=some (W.instObj C dx)/\
  ∃mA,h.Ns1 dx mA/\(∀f,RelO (fs.lookup f) (mA f))/\PySem.Within mA (fs.map (·.1))
 |.own _=>∃o,h.get? a=some o
 |.xd fs=>∃mA,h.Ns1 a mA/\∀f,RelO (fs.lookup f) (mA f)
 |.rng lo hi=>∃t u v,h.get? a=some { cls:=.type "range",data:=.fields #[.int lo t,.int hi u,.int 1 v] }
 |.frz o u=>h.get? a=some o/\ObjOk H h a u
 |.tbl ps=>h.get? a=some { cls:=.none,data:=.fields ps }
 |.met f x=>h.get? a=some (W.methodObj (.ref f) (.ref x))
 |.ext φ=>φ h/\(∃o,h.get? a=some o)/\∀h1 h2:Heap,φ h1->(∀o,h1.get? a=some o->h2.get? a=some o)->φ h2
def HOk(H:Hp)(h:Heap):Prop:=∀a o,H a=some o->ObjOk P w H h a o
end
section
variable{P:Program}{w:World}{H H':Hp}{h h':Heap}{a:Addr}{o:HO}
def ObjOk.lt(x:ObjOk P w H h a o):a<h.objs.size:=by
 cases o with
 |lst xs=>obtain⟨_,_,_,_,e⟩:=x;exact t_ e
 |tup xs=>obtain⟨_,_,_,p⟩:=x;exact p.lt
 |dK kvs=>obtain⟨_,_,_,_,o,_,_,e,_⟩:=x;exact t_ e
 |dT kvs=>obtain⟨_,_,_,_,o,_,_,e,_⟩:=x;exact t_ e
 |set S n=>obtain⟨o,_,_,_,e,_⟩:=x;exact t_ e
 |ins C dx fs=>obtain⟨_,_,_,e,_⟩:=x;exact t_ e
 |own y=>obtain⟨_,e⟩:=x;exact t_ e
 |xd fs=>obtain⟨_,⟨_,_,_,e,_⟩,_⟩:=x;exact t_ e
 |rng lo hi=>obtain⟨_,_,_,e⟩:=x;exact t_ e
 |frz ob u=>obtain⟨e,_⟩:=x;exact t_ e
 |tbl ps=>exact t_ (show h.get? a=some _ from x)
 |met f y=>exact t_ (show h.get? a=some _ from x)
 |ext φ=>obtain⟨_,⟨_,e⟩,_⟩:=x;exact t_ e
def Paired.mapP(r:Paired F l₁ l₂)(f:∀a b,F a b->G a b):Paired G l₁ l₂:=by
 induction r with
 |nil=>exact .nil
 |cons r t ih=>exact .cons (f _ _ r) ih
def ObjOk.stay(x:ObjOk P w H h a o)(k:∀b u,(b=a\/H b=some (.own a))->h.get? b=some u->h'.get? b=some u)
 (ho:∀b,H b=some (.own a)->H' b=some (.own a)) (ht:∀b xs,H b=some (.tup xs)->H' b=some (.tup xs)):ObjOk P w H' h' a o:=by
 induction o with
 |lst xs=>obtain⟨z,its,n,r,e⟩:=x;exact⟨z,its,n,r,k _ _ (.inl rfl) e⟩
 |tup xs=>obtain⟨z,its,r,ob,e,c⟩:=x;exact⟨z,its,r,ob,k _ _ (.inl rfl) e,c⟩
 |dK kvs=>obtain⟨z,y,vs,r,ob,es,ep,e,c⟩:=x;exact⟨z,y,vs,r,ob,es,ep,k _ _ (.inl rfl) e,c⟩
 |dT kvs=>obtain⟨z,y,xs,r,ob,es,ep,e,c⟩:=x;exact⟨z,y,xs,Paired.mapP r λp q z=>⟨z.1,ht _ _ z.2.1,z.2.2⟩,ob,es,ep,k _ _ (.inl rfl) e,c⟩
 |set S n=>obtain⟨ob,es,ep,t,e,c⟩:=x;exact⟨ob,es,ep,t,k _ _ (.inl rfl) e,c⟩
 |ins C dx fs=>obtain⟨d,z,ne,e,mA,⟨od,es,ep,e2,c⟩,r⟩:=x;exact⟨ho _ d,z,ne,k _ _ (.inl rfl) e,mA,⟨od,es,ep,k _ _ (.inr d) e2,c⟩,r⟩
 |own y=>obtain⟨ob,e⟩:=x;exact⟨ob,k _ _ (.inl rfl) e⟩
 |xd fs=>obtain⟨mA,⟨od,es,ep,e,c⟩,r⟩:=x;exact⟨mA,⟨od,es,ep,k _ _ (.inl rfl) e,c⟩,r⟩
 |rng lo hi=>obtain⟨t,u,v,e⟩:=x;exact⟨t,u,v,k _ _ (.inl rfl) e⟩
 |frz ob u ih=>obtain⟨e,q⟩:=x;exact⟨k _ _ (.inl rfl) e,ih q⟩
 |tbl ps=>have e:h.get? a=some { cls:=.none,data:=.fields ps }:=x;show h'.get? a=some { cls:=.none,data:=.fields ps };exact k a _ (.inl rfl) e
 |met f y=>have e:h.get? a=some (W.methodObj (.ref f) (.ref y)):=x;show h'.get? a=some (W.methodObj (.ref f) (.ref y));exact k a _ (.inl rfl) e
 |ext φ=>obtain⟨p,⟨o,e⟩,st⟩:=x;exact⟨st _ _ p λo q=>k _ _ (.inl rfl) q,⟨o,k _ _ (.inl rfl) e⟩,st⟩
def HOk.lt(x:HOk P w H h)(e:H a=some o):a<h.objs.size:=(x a o e).lt
def HOk.fresh(x:HOk P w H h)(e:h.objs.size<=a):H a=none:=by
 cases q:H a with
 |none=>rfl
 |some u=>exact absurd (w_ (x.lt q) e) (K4 _)
def HOk.kept(x:HOk P w H h)(k:∀b u,h.get? b=some u->h'.get? b=some u):HOk P w H h':=λa o e=>
 (x a o e).stay (λb u _ q=>k b u q) (λ_ q=>q) λ_ _ q=>q
def HOk.laid(x:HOk P w H h)(k:∀b u,h.get? b=some u->h'.get? b=some u)(hp:h.objs.size<=a)(new:ObjOk P w (upd H a o) h' a o):HOk P w (upd H a o) h':=λb u e=>by
 have hn:=x.fresh hp;by_cases hb:b=a
 .subst hb;rw[aU] at e;cases e;exact new
 .rw[aG hb] at e;exact (x b u e).stay (λc v _ q=>k c v q) (λc q=>by rw[aG (eE q hn)];exact q) λc xs q=>by rw[aG (eE q hn)];exact q
end
def Rd(H:Hp)(a:Addr)(u:HO):Prop:=H a=some u\/∃o,H a=some (.frz o u)
def Rd.ok(r:Rd H a u)(x:HOk P w H h):ObjOk P w H h a u:=by
 rcases r with r |⟨o,r⟩
 .exact x a u r
 .obtain⟨_,q⟩:=x a _ r;exact q
def Mut:Option HO->Prop
 |some (.lst _)=>True
 |some (.dK _)=>True
 |some (.dT _)=>True
 |some (.set _ _)=>True
 |some (.ins _ _ _)=>True
 |some (.ext _)=>True
 |_=>False
section
variable{P:Program}{w:World}{H:Hp}{h h':Heap}{x e:Addr}{o':HO}
def HOk.write(ok:HOk P w H h)(mu:Mut (H x))(he:e=x\/H e=some (.own x))(k:∀b u,b≠e->h.get? b=some u->h'.get? b=some u)(heo:∃u,h'.get? e=some u)
 (new:ObjOk P w (upd H x o') h' x o'):HOk P w (upd H x o') h':=λb u q=>by
 have nown:∀c y,H c=some (.own y)->c≠x:=λc y r z=>by subst z;rw[r] at mu;exact mu
 have ntup:∀c xs,H c=some (.tup xs)->c≠x:=λc xs r z=>by subst z;rw[r] at mu;exact mu
 by_cases hb:b=x
 .subst hb;rw[aU] at q;cases q;exact new
 .rw[aG hb] at q;by_cases hbe:b=e
  .have q':H b=some (.own x):=by
    rcases he with z |z
    .exact absurd (hbe.trans z) hb
    .rw[hbe];exact z
   rw[q] at q';cases q';obtain⟨v,hv⟩:=heo;exact⟨v,by rw[hbe];exact hv⟩
  .refine (ok b u q).stay (λc v hc r=>k c v ?_ r) (λc r=>by rw[aG (nown c b r)];exact r) λc xs r=>by rw[aG (ntup c xs r)];exact r
   rcases hc with rfl |hc
   .exact hbe
   .rintro rfl;rcases he with z |z
    .exact nown c b hc z
    .rw[hc] at z;cases z;exact hb rfl
end
structure Un(fs ex:List Addr)(H H':Hp)(h h':Heap):Prop where
 keep:∀b o,h.get? b=some o->H b=none->b∉fs->b∉ex->h'.get? b=some o
 slot:∀b o,h.get? b=some o->H b=none->b∈fs->b∉ex->∃sl,h'.get? b=some { o with slots:=sl }
 free:∀b o,h.get? b=some o->H b=none->b∉ex->H' b=none
 there:∀b o,h.get? b=some o->b∉ex->∃o',h'.get? b=some o'
 tups:∀b xs,H b=some (.tup xs)->H' b=some (.tup xs)
 frzs:∀b o u,H b=some (.frz o u)->H' b=some (.frz o u)
 tbls:∀b ps,H b=some (.tbl ps)->∃more,H' b=some (.tbl (ps++more))
section
variable{fs ex:List Addr}{H H1:Hp}{h h1 h':Heap}{a x e:Addr}{o:HO}
def Un.any(u:Un fs ex H H1 h h1)(q:h.get? b=some ob)(n:H b=none)(hx:b∉ex):∃sl,h1.get? b=some { ob with slots:=sl }:=by
 by_cases hb:b∈fs
 .exact u.slot b ob q n hb hx
 .exact⟨ob.slots,u.keep b ob q n hb hx⟩
def Un.kept(k:∀b u,h.get? b=some u->h'.get? b=some u):Un fs ex H H h h':=
 ⟨λb ob q _ _ _=>k b ob q,λb ob q _ _ _=>⟨ob.slots,k b ob q⟩,λ_ _ _ n _=>n,λb ob q _=>⟨ob,k b ob q⟩,λ_ _ q=>q,λ_ _ _ q=>q,λ_ ps q=>⟨#[],by rw[q];simp⟩⟩
def Un.refl:Un fs ex H H h h:=Un.kept λ_ _ q=>q
def Un.laid(k:∀b u,h.get? b=some u->h'.get? b=some u)(hp:h.objs.size<=a)(hn:H a=none):Un fs ex H (upd H a o) h h' where
 keep:=λb u q _ _ _=>k b u q
 slot:=λb u q _ _ _=>⟨u.slots,k b u q⟩
 free:=λb u q n _=>by rw[aG (G_ (w_ (t_ q) hp))];exact n
 there:=λb u q _=>⟨u,k b u q⟩
 tups:=λb xs q=>by rw[aG (eE q hn)];exact q
 frzs:=λb u xs q=>by rw[aG (eE q hn)];exact q
 tbls:=λb ps q=>⟨#[],by rw[aG (eE q hn),q];simp⟩
def Un.write(mu:Mut (H x))(he:e=x\/H e=some (.own x))(k:∀b u,b≠e->h.get? b=some u->h'.get? b=some u)(heo:∃u,h'.get? e=some u):Un fs ex H (upd H x o) h h':=by
 have hx:∀b,H b=none->b≠x:=λb n z=>by subst z;rw[n] at mu;exact mu
 have hb:∀b,H b=none->b≠e:=λb n z=>by
  subst z;rcases he with r |r
  .exact hx b n r
  .rw[n] at r;cases r
 have hm:∀b u,H b=some u->¬ Mut (some u)->b≠x:=λb u q nm z=>by subst z;rw[q] at mu;exact nm mu
 refine⟨λb u q n _ _=>k b u (hb b n) q,λb u q n _ _=>⟨u.slots,k b u (hb b n) q⟩,λb u q n _=>by rw[aG (hx b n)];exact n,λb u q _=>?_,
  λb xs q=>by rw[aG (hm b _ q λz=>z)];exact q,λb u xs q=>by rw[aG (hm b _ q λz=>z)];exact q,λb ps q=>⟨#[],by rw[aG (hm b _ q λz=>z),q];simp⟩⟩
 by_cases hbe:b=e
 .subst hbe;exact heo
 .exact⟨u,k b u hbe q⟩
end
noncomputable def trk (h:Heap) (H:Hp):List Addr:=(List.range h.objs.size).filter λa=>(H a).isSome
noncomputable def jL (h:Heap) (H:Hp):Heap:=W.hideAll h (trk h H)
def yd(h:Heap)(H:Hp):(jL h H).objs.size=h.objs.size:=W.hideAll_size _ _
def AU(e:h.get? b=some o)(n:H b=none):(jL h H).get? b=some o:=
 W.hideAll_get _ e λhm=>by have q:(H b).isSome=true:=(List.mem_filter.mp hm).2;rw[n] at q;simp at q
def Dn(e:(jL h H).get? b=some o):h.get? b=some o/\H b=none:=by
 have e':h.get? b=some o:=W.of_hideAll (trk h H) e;refine⟨e',?_⟩;cases q:H b with
 |none=>rfl
 |some x=>have hm:b∈trk h H:=List.mem_filter.mpr ⟨LR.mpr (t_ e'),by simp [q]⟩;have z:(jL h H).get? b=none:=W.hideAll_none (trk h H) hm;rw[z] at e;cases e
noncomputable def Er (g h:Heap) (L:Addr):List (Addr×Obj):=(List.range h.objs.size).filterMap λa=>if a=L\/(g.get? a).isSome=true then none else (h.get? a).map λo=>(a,o)
noncomputable def rest (g h:Heap) (L d:Addr):List (Addr×Obj):=(Er g h L).filter λp=>decide (p.1≠d)
structure Mod(K:W.Frag)(mg:Na)(base:Heap):Prop where
 kin:K.In base
 glob:base.Ns mainGlobals mg
 blt:∃mb,base.Ns builtinsNs mb/\∀x:Str,x ≠ "__name__"->mb x=bootBuiltins x
 nolimit:base.NoLimit
structure Cx where
 prog:Program
 w:World
 K:W.Frag
 mg:Str->Option Value
 base:Heap
 A:Around
 N:List Str
 s₀:Shared
 H₀:Hp
 env:Env
 outer:List Env
 stack:List Env
 ex:List Addr
 fn:Str->Bool
 calm:Bool
 pn:List (Addr×Obj)
 xe:Value->Shared->Prop
noncomputable def frs (l:List Env):List Addr:=l.filterMap (·.frame)
abbrev Cx.fs(X:Cx):List Addr:=frs X.outer
def Vis(sc:Scope)(x:Str):Prop:=sc.names.lookup x=some .local\/sc.names.lookup x=some .cell\/sc.names.lookup x=some .free
def Loc(sc:Scope)(x:Str):Prop:=sc.names.lookup x=some .local\/sc.names.lookup x=some .cell
def Look(env:Env)(h:Heap)(m:Na)(x:Str)(u:Value):Prop:=
 (env.kindOf x=some .local/\m x=some u)\/((env.kindOf x=some .cell\/env.kindOf x=some .free)/\∃c,env.cells.lookup x=some c/\h.IsCell c (some u))
structure Cx.Ok(X:Cx):Prop where
 mod:Mod X.K X.mg X.base
 kind:X.env.scope.kind=.function
 glob:X.env.globals=mainGlobals
 blt:X.env.builtins=builtinsNs
 above:X.s₀.heap.objs.size<=X.env.locals
 inj:∀x y c,X.env.cells.lookup x=some c->X.env.cells.lookup y=some c->x=y
 has:∀x,(X.env.kindOf x=some .cell\/X.env.kindOf x=some .free)->∃c,X.env.cells.lookup x=some c
 cab:∀x c,X.fn x=true->X.env.cells.lookup x=some c->X.s₀.heap.objs.size<=c
 hd:X.calm=true->X.A.handled=none
 frames:X.A.frames=some X.stack
 stk:X.stack=X.outer\/(X.stack=X.env::X.outer/\X.env.frame=some X.env.locals)
 exf:∀b∈X.ex,b≠X.env.locals/\∀x c,X.env.cells.lookup x=some c->c≠b
 bs:∀b o,X.base.get? b=some o->X.s₀.heap.get? b=some o/\X.H₀ b=none
 bsz:X.base.objs.size<=X.s₀.heap.objs.size
 noex:∀b o,X.base.get? b=some o->b∉X.ex
 exfs:∀b∈X.ex,b∉X.fs
 funs:X.s₀.heap.FunFrames X.base X.outer
 frf:∀b∈X.fs,X.H₀ b=none
structure Inv(X:Cx)(pins:Nb)(σ:List (Option V))(H:Hp)(s:Shared):Prop where
 ok:X.Ok
 os:s.os=X.s₀.os
 bare:AllBare s.gens
 base:Un X.fs X.ex X.H₀ H X.s₀.heap s.heap
 loc:∃m,s.heap.Ns X.env.locals m/\∀(i:Nat) (x:Str) (v:V),X.N[i]?=some x->σ[i]?=some (some v)->Vis X.env.scope x->∃u,RelV v u/\Look X.env s.heap m x u
 cell:∀x c,X.env.cells.lookup x=some c->∃v,s.heap.IsCell c v
 free:H X.env.locals=none
 freeC:∀x c,X.env.cells.lookup x=some c->H c=none
 pin:∀p∈X.pn++pins,s.heap.get? p.1=some p.2/\H p.1=none/\p.1≠X.env.locals/\p.1∉X.fs/\∀v,p.2.data ≠ .cell v
 hok:HOk X.prog X.w H s.heap
 len:σ.length=X.N.length
section
variable{X:Cx}{pins:Nb}{σ:List (Option V)}{H H':Hp}{s:Shared}{h':Heap}
def Cx.Ok.nofr(ok:X.Ok)(e:X.base.get? b=some o):b∉X.fs:=λhb=>by
 have:=(ok.funs.mem hb).1
 rw[e] at this;cases this
def Inv.bs(I:Inv X pins σ H s):∀b o,X.base.get? b=some o->s.heap.get? b=some o/\H b=none:=λb o e=>
 ⟨I.base.keep b o (I.ok.bs b o e).1 (I.ok.bs b o e).2 (I.ok.nofr e) (I.ok.noex b o e),I.base.free b o (I.ok.bs b o e).1 (I.ok.bs b o e).2 (I.ok.noex b o e)⟩
def Inv.bk(I:Inv X pins σ H s):∀b o,X.base.get? b=some o->s.heap.get? b=some o:=λb o e=>(I.bs b o e).1
def Inv.mod(I:Inv X pins σ H s):Mod X.K X.mg X.base:=I.ok.mod
def Inv.kIn(I:Inv X pins σ H s):X.K.In s.heap:=I.ok.mod.kin.keeps I.bk
def Inv.lt(I:Inv X pins σ H s):X.env.locals<s.heap.objs.size:=let ⟨_,hn,_⟩:=I.loc;hn.lt
def Inv.sz(I:Inv X pins σ H s):X.s₀.heap.objs.size<=s.heap.objs.size:=F_ I.ok.above (Nat.le_of_lt I.lt)
def Inv.nofs(I:Inv X pins σ H s)(h:s.heap.objs.size<=a):a∉X.fs:=λhb=>by obtain⟨_,o,ho,_⟩:=I.ok.funs.mem hb;exact absurd (w_ (t_ ho) (F_ I.sz h)) (K4 _)
def Inv.cne(I:Inv X pins σ H s):∀x c,X.env.cells.lookup x=some c->c≠X.env.locals:=λx c e z=>by obtain⟨v,o,ho,hd⟩:=I.cell x c e;obtain⟨m,⟨o',es,ep,ho',hd',_⟩,_⟩:=I.loc;rw[z,ho'] at ho;cases ho;rw[hd'] at hd;cases hd
def Inv.funs(I:Inv X pins σ H s):s.heap.FunFrames X.base X.outer:=by
 have all:∀(l:List Env),(∀b∈frs l,b∈X.fs)->X.s₀.heap.FunFrames X.base l->s.heap.FunFrames X.base l:=by
  intro l;induction l with
  |nil=>intro _ _;trivial
  |cons env r ih=>intro hs hl;obtain⟨hk,⟨L,o,hf,hn,ho,hd⟩,hr⟩:=hl;have hL:L∈X.fs:=hs L (by unfold frs;rw[K1,hf];exact l_);obtain⟨sl,e⟩:=I.base.slot L o ho (I.ok.frf L hL) hL λz=>I.ok.exfs L z hL;exact⟨hk,⟨L,_,hf,hn,e,hd⟩,ih (λb hb=>hs b (by unfold frs;rw[K1,hf];exact k_ _ hb)) hr⟩
 exact all X.outer (λ_ hb=>hb) I.ok.funs
def Inv.stack(I:Inv X pins σ H s):s.heap.FunFrames X.base X.stack:=by
 rcases I.ok.stk with e |⟨e,hf⟩
 .rw[e];exact I.funs
 .rw[e];obtain⟨m,hn,_⟩:=I.loc;refine .cons (by rw[I.ok.kind];decide) hf hn ?_ I.funs;exact Mr (F_ I.ok.bsz I.ok.above)
def Inv.stkSub(I:Inv X pins σ H s):∀b∈frs X.stack,b∈X.env.locals::X.fs:=λb hb=>by
 rcases I.ok.stk with e |⟨e,hf⟩
 .rw[e] at hb;exact k_ _ hb
 .rw[e] at hb;unfold frs at hb;rw[K1,hf] at hb;exact hb
def Inv.stkFree(I:Inv X pins σ H s):∀b∈frs X.stack,H b=none:=λb hb=>by
 rcases C_.mp (I.stkSub b hb) with e |hb
 .rw[e];exact I.free
 .obtain⟨_,o,ho,_⟩:=I.ok.funs.mem hb;exact I.base.free b o ho (I.ok.frf b hb) λz=>I.ok.exfs b z hb
def Inv.step{g':Array GenState}{t':Nat}{d':Drawn}{ch:List Addr}(I:Inv X pins σ H s)
 (hch:∀b∈ch,(b∈X.ex\/X.s₀.heap.objs.size<=b)/\b≠X.env.locals/\(∀x c,X.env.cells.lookup x=some c->c≠b)/\∀p∈X.pn++pins,p.1≠b)
 (keep:∀b o,b≠X.env.locals->b∉X.fs->b∉ch->s.heap.get? b=some o->H b=none->h'.get? b=some o)
 (slot:∀b o,b≠X.env.locals->b∈X.fs->b∉ch->s.heap.get? b=some o->H b=none->∃sl,h'.get? b=some { o with slots:=sl }) (free:∀b o,b∉ch->s.heap.get? b=some o->H b=none->H' b=none)
 (there:∀b o,b∉ch->s.heap.get? b=some o->∃o',h'.get? b=some o')
 (tups:∀b xs,H b=some (.tup xs)->H' b=some (.tup xs)) (frzs:∀b o u,H b=some (.frz o u)->H' b=some (.frz o u)) (tbls:∀b ps,H b=some (.tbl ps)->∃more,H' b=some (.tbl (ps++more)))
 (ns:∀m,s.heap.Ns X.env.locals m->h'.Ns X.env.locals m) (hok:HOk X.prog X.w H' h') (hg:AllBare g'):
 Inv X pins σ H' { s with heap:=h',gens:=g',drawn:=d',toks:=t' }:=by
 have neL:∀b o,X.s₀.heap.get? b=some o->b≠X.env.locals:=λb o e=>G_ (w_ (t_ e) I.ok.above);have neC:∀b o,X.s₀.heap.get? b=some o->b∉X.ex->b∉ch:=λb o e hx hb=>by
  rcases (hch b hb).1 with z |z
  .exact hx z
  .exact absurd (w_ (t_ e) z) (K4 _)
 have cellK:∀x c,X.env.cells.lookup x=some c->∀v,s.heap.IsCell c v->h'.IsCell c v:=λx c e v ⟨o,ho,hd⟩=>by
  have nch:c∉ch:=λz=>(hch c z).2.2.1 x c e rfl;by_cases hc:c∈X.fs
  .obtain⟨sl,q⟩:=slot c o (I.cne x c e) hc nch ho (I.freeC x c e);exact⟨_,q,hd⟩
  .exact⟨o,keep c o (I.cne x c e) hc nch ho (I.freeC x c e),hd⟩
 refine⟨I.ok,I.os,hg,⟨λb o e n hb hx=>?_,λb o e n hb hx=>?_,λb o e n hx=>?_,λb o e hx=>?_,λb xs e=>tups b xs (I.base.tups b xs e),λb o xs e=>frzs b o xs (I.base.frzs b o xs e),λb ps e=>?_⟩,?_,λx c e=>?_,?_,λx c e=>?_,λp hp=>?_,hok,I.len⟩
 .exact keep b o (neL b o e) hb (neC b o e hx) (I.base.keep b o e n hb hx) (I.base.free b o e n hx)
 .obtain⟨sl,e1⟩:=I.base.slot b o e n hb hx;obtain⟨sl',e2⟩:=slot b _ (neL b o e) hb (neC b o e hx) e1 (I.base.free b o e n hx);exact⟨sl',e2⟩
 .obtain⟨o',e1⟩:=I.base.there b o e hx;exact free b o' (neC b o e hx) e1 (I.base.free b o e n hx)
 .obtain⟨o',e1⟩:=I.base.there b o e hx;exact there b o' (neC b o e hx) e1
 .obtain⟨m1,e1⟩:=I.base.tbls b ps e;obtain⟨m2,e2⟩:=tbls b _ e1;exact⟨m1++m2,by rw[e2,Array.append_assoc]⟩
 .obtain⟨m,hn,hl⟩:=I.loc;refine⟨m,ns m hn,λi x v e1 e2 e3=>?_⟩;obtain⟨u,r,l⟩:=hl i x v e1 e2 e3;refine⟨u,r,?_⟩;rcases l with l |⟨k,c,e,z⟩
  .exact .inl l
  .exact .inr ⟨k,c,e,cellK x c e _ z⟩
 .obtain⟨v,z⟩:=I.cell x c e;exact⟨v,cellK x c e v z⟩
 .obtain⟨m,⟨o,_,_,ho,_⟩,_⟩:=I.loc;exact free _ o (λz=>(hch _ z).2.1 rfl) ho I.free
 .obtain⟨v,o,ho,hd⟩:=I.cell x c e;exact free c o (λz=>(hch c z).2.2.1 x c e rfl) ho (I.freeC x c e)
 .obtain⟨e,n,ne,nf,d⟩:=I.pin p hp;have nch:p.1∉ch:=λz=>(hch p.1 z).2.2.2 p hp rfl;exact⟨keep p.1 p.2 ne nf nch e n,free p.1 p.2 nch e n,ne,nf,d⟩
def Inv.un{t':Nat}(I:Inv X pins σ H s)(u:Un X.fs [] H H' s.heap h')(hok:HOk X.prog X.w H' h'):Inv X pins σ H' { s with heap:=h',toks:=t' }:=by obtain⟨m,⟨o,es,ep,ho,r⟩,_⟩:=id I.loc;obtain⟨sl,hL⟩:=u.any ho I.free (by simp);exact I.step (g':=s.gens) (d':=s.drawn) (ch:=[]) (λ_ z=>nomatch z) (λb o _ hb _ e n=>u.keep b o e n hb (by simp)) (λb o _ hb _ e n=>u.slot b o e n hb (by simp)) (λb o _ e n=>u.free b o e n (by simp)) (λb o _ e=>u.there b o e (by simp)) u.tups u.frzs u.tbls (λm' hm=>by obtain⟨o',es',ep',ho',r'⟩:=hm;rw[ho] at ho';cases ho';exact⟨_,es',ep',hL,r'⟩) hok I.bare
def Inv.call{g':Array GenState}{t':Nat}{d':Drawn}{ch:List Addr}(I:Inv X pins σ H s)(u:Un (frs X.stack) ch H H' s.heap h')(hok:HOk X.prog X.w H' h')(hg:AllBare g')
 (hch:∀b∈ch,(b∈X.ex\/X.s₀.heap.objs.size<=b)/\b≠X.env.locals/\(∀x c,X.env.cells.lookup x=some c->c≠b)/\∀p∈X.pn++pins,p.1≠b):
 Inv X pins σ H' { s with heap:=h',gens:=g',drawn:=d',toks:=t' }:=by
 obtain⟨m,⟨o,es,ep,ho,r⟩,_⟩:=id I.loc;obtain⟨sl,hL⟩:=u.any ho I.free λz=>(hch _ z).2.1 rfl;exact I.step (ch:=ch) hch (λb o hL hb hc e n=>u.keep b o e n (λz=>(C_.mp (I.stkSub b z)).elim hL hb) hc) (λb o _ _ hc e n=>u.any e n hc) (λb o hc e n=>u.free b o e n hc) (λb o hc e=>u.there b o e hc) u.tups u.frzs u.tbls (λm' hm=>by obtain⟨o',es',ep',ho',r'⟩:=hm;rw[ho] at ho';cases ho';exact⟨_,es',ep',hL,r'⟩) hok hg
def Inv.turned{t':Nat}{it:Addr}(I:Inv X pins σ H s)(k:∀b o,b≠it->s.heap.get? b=some o->h'.get? b=some o)(hn:H it=none)(hL:it≠X.env.locals)
 (h1:it∈X.ex\/X.s₀.heap.objs.size<=it) (h2:∀x c,X.env.cells.lookup x=some c->c≠it) (h3:∀p∈X.pn++pins,p.1≠it):Inv X pins σ H { s with heap:=h',toks:=t' }:=by
 have nit:∀b u,H b=some u->b≠it:=λb u e z=>by rw[z,hn] at e;cases e
 refine I.step (g':=s.gens) (d':=s.drawn) (ch:=[it]) (λb hb=>?_) (λb o _ _ hc e _=>k b o (λz=>hc (by simp [z])) e) (λb o _ _ hc e _=>⟨o.slots,k b o (λz=>hc (by simp [z])) e⟩) (λ_ _ _ _ n=>n)
  (λb o hc e=>⟨o,k b o (λz=>hc (by simp [z])) e⟩) (λ_ _ e=>e) (λ_ _ _ e=>e) (λb ps e=>⟨#[],by rw[e];simp⟩) (λm hm=>?_) (λb u e=>?_) I.bare
 .have e:b=it:=by simpa using hb
  subst e;exact⟨h1,hL,h2,h3⟩
 .obtain⟨o,es,ep,ho,r⟩:=hm;exact⟨o,es,ep,k _ o (Ne.symm hL) ho,r⟩
 .refine (I.hok b u e).stay (λc v hc q=>k c v ?_ q) (λ_ q=>q) λ_ _ q=>q;rcases hc with z |z
  .rw[z];exact nit b u e
  .exact nit c _ z
def Inv.tok(I:Inv X pins σ H s)(t:Nat):Inv X pins σ H { s with toks:=t }:=I.un (h':=s.heap) (t':=t) Un.refl I.hok
def Inv.kept(I:Inv X pins σ H s)(k:∀b u,s.heap.get? b=some u->h'.get? b=some u):Inv X pins σ H { s with heap:=h',toks:=t' }:=I.un (Un.kept k) (I.hok.kept k)
def Inv.laid(I:Inv X pins σ H s)(k:∀b u,s.heap.get? b=some u->h'.get? b=some u)(hp:s.heap.objs.size<=a)(new:ObjOk X.prog X.w (upd H a o) h' a o):
 Inv X pins σ (upd H a o) { s with heap:=h',toks:=t' }:=I.un (Un.laid k hp (I.hok.fresh hp)) (I.hok.laid k hp new)
def Inv.write(I:Inv X pins σ H s)(mu:Mut (H x))(he:e=x\/H e=some (.own x))(k:∀b u,b≠e->s.heap.get? b=some u->h'.get? b=some u)(heo:∃u,h'.get? e=some u)
 (new:ObjOk X.prog X.w (upd H x o) h' x o):Inv X pins σ (upd H x o) { s with heap:=h',toks:=t' }:=I.un (Un.write mu he k heo) (I.hok.write mu he k heo new)
def Inv.pins_of(I:Inv X pins σ H s)(h:∀p∈pins',s.heap.get? p.1=some p.2/\H p.1=none/\p.1≠X.env.locals/\p.1∉X.fs/\∀v,p.2.data ≠ .cell v):Inv X pins' σ H s:=
 ⟨I.ok,I.os,I.bare,I.base,I.loc,I.cell,I.free,I.freeC,λp hp=>(Ls.mp hp).elim (λz=>I.pin p (List.mem_append_left _ z)) (h p),I.hok,I.len⟩
def tZ{N:List Str}(hN:N.Nodup){i j:Nat}{x:Str}(a:N[i]?=some x)(b:N[j]?=some x):i=j:=by obtain⟨h1,e1⟩:=u_.mp a;obtain⟨h2,e2⟩:=u_.mp b;exact (List.getElem_inj hN).mp (e1.trans e2.symm)
def qf(I:Inv X pins σ H s)(hN:X.N.Nodup)(hi:X.N[i]?=some x)(hx:Loc X.env.scope x)(r:RelV v u)
 (h:∀s',Inv X pins (σ.set i (some v)) H s'->(∃a,Heap.SameBut a s.heap s'.heap/\(a=X.env.locals\/X.env.cells.lookup x=some a))->Q () s') (hf:X.fn x=true\/X.env.scope.names.lookup x=some .local):wpAny M A (storeName X.env x u) Q E s:=by
 obtain⟨m,hn,hl⟩:=id I.loc;have hcls:(X.env.scope.kind == .class || (X.env.scope.kind == .module&&X.env.locals != X.env.globals))=false:=by rw[I.ok.kind];rfl
 have hiσ:i<σ.length:=by rw[I.len];exact (u_.mp hi).1
 have cne:=I.cne;have tracked:∀{a:Addr}{h':Heap},(∃o,s.heap.get? a=some o/\H a=none)->Heap.SameBut a s.heap h'->HOk X.prog X.w H h':=λ{a h'} ha hs b ob e=>by
  obtain⟨_,_,hfree⟩:=ha;refine (I.hok b ob e).stay (λc w' hc q=>(hs.2 c ?_).trans q) (λ_ q=>q) λ_ _ q=>q;rintro rfl;rcases hc with rfl |hc
  .rw[hfree] at e;cases e
  .rw[hfree] at hc;cases hc
 rcases hx with hk |hk
 .refine wpAny_storeName_local hk hn (λh' hn' hs=>?_) hcls;obtain⟨oL,_,_,hoL,_⟩:=id hn;refine h _ ⟨I.ok,I.os,I.bare,⟨λb o e n hb hx=>?_,λb o e n hb hx=>?_,I.base.free,λb o e hx=>?_,I.base.tups,I.base.frzs,I.base.tbls⟩,⟨_,hn',λj y v' e1 e2 e3=>?_⟩,λy c e=>?_,I.free,I.freeC,λp hp=>?_,tracked ⟨oL,hoL,I.free⟩ hs,by simpa using I.len⟩ ⟨_,hs,.inl rfl⟩
  .exact (hs.2 b (G_ (w_ (t_ e) I.ok.above))).trans (I.base.keep b o e n hb hx)
  .obtain⟨sl,e1⟩:=I.base.slot b o e n hb hx;exact⟨sl,(hs.2 b (G_ (w_ (t_ e) I.ok.above))).trans e1⟩
  .obtain⟨o',e1⟩:=I.base.there b o e hx;exact⟨o',(hs.2 b (G_ (w_ (t_ e) I.ok.above))).trans e1⟩
  .by_cases hj:j=i
   .subst hj;rw[hi] at e1;cases e1;rw[List.getElem?_set_self hiσ] at e2;cases e2;exact⟨u,r,.inl ⟨hk,by simp⟩⟩
   .rw[Mv (Ne.symm hj)] at e2;obtain⟨u',r',q⟩:=hl j y v' e1 e2 e3;refine⟨u',r',?_⟩;rcases q with ⟨k,e⟩ |⟨k,c,e,z⟩
    .refine .inl ⟨k,?_⟩;have:y≠x:=λe=>hj (tZ hN e1 (e ▸ hi));simp [this,e]
    .exact .inr ⟨k,c,e,z.sameBut hs (cne y c e)⟩
  .obtain⟨w',z⟩:=I.cell y c e;exact⟨w',z.sameBut hs (cne y c e)⟩
  .obtain⟨e,n,ne,nf,d⟩:=I.pin p hp;exact⟨(hs.2 p.1 ne).trans e,n,ne,nf,d⟩
 .have hfn:X.fn x=true:=by
   rcases hf with z |z
   .exact z
   .rw[z] at hk;cases hk
  obtain⟨c,hc⟩:=I.ok.has x (.inl hk);obtain⟨w',z⟩:=I.cell x c hc;refine wpAny_storeName_cell I.ok.kind hk hc z (λh' hc' hs=>?_);obtain⟨oc,hoc,hocd⟩:=id z;refine h { s with heap:=h' } ⟨I.ok,I.os,I.bare,⟨λb o e n hb hx=>?_,λb o e n hb hx=>?_,I.base.free,λb o e hx=>?_,I.base.tups,I.base.frzs,I.base.tbls⟩,⟨m,hn.sameBut hs (Ne.symm (cne x c hc)),λj y v' e1 e2 e3=>?_⟩,λy c' e=>?_,I.free,I.freeC,λp hp=>?_,tracked ⟨oc,hoc,I.freeC x c hc⟩ hs,by simpa using I.len⟩ ⟨c,hs,.inr hc⟩
  .exact (hs.2 b (G_ (w_ (t_ e) (I.ok.cab x c hfn hc)))).trans (I.base.keep b o e n hb hx)
  .obtain⟨sl,e1⟩:=I.base.slot b o e n hb hx;exact⟨sl,(hs.2 b (G_ (w_ (t_ e) (I.ok.cab x c hfn hc)))).trans e1⟩
  .obtain⟨o',e1⟩:=I.base.there b o e hx;exact⟨o',(hs.2 b (G_ (w_ (t_ e) (I.ok.cab x c hfn hc)))).trans e1⟩
  .by_cases hj:j=i
   .subst hj;rw[hi] at e1;cases e1;rw[List.getElem?_set_self hiσ] at e2;cases e2;exact⟨u,r,.inr ⟨.inl hk,c,hc,hc'⟩⟩
   .rw[Mv (Ne.symm hj)] at e2;obtain⟨u',r',q⟩:=hl j y v' e1 e2 e3;refine⟨u',r',?_⟩;rcases q with q |⟨k,c',e,z'⟩
    .exact .inl q
    .refine .inr ⟨k,c',e,z'.sameBut hs ?_⟩;rintro rfl;exact hj (tZ hN e1 (I.ok.inj _ _ _ e hc ▸ hi))
  .by_cases hcc:c'=c
   .subst hcc;exact⟨_,hc'⟩
   .obtain⟨w2,z2⟩:=I.cell y c' e;exact⟨w2,z2.sameBut hs hcc⟩
  .obtain⟨e,n,ne,nf,d⟩:=I.pin p hp;refine⟨(hs.2 p.1 ?_).trans e,n,ne,nf,d⟩;intro q;rw[q,hoc] at e;have q':oc=p.2:=E_ e;exact d w' (by rw[<- q'];exact hocd)
def gQ(I:Inv X pins σ H s)(hN:X.N.Nodup)(hi:X.N[i]?=some x)(hx:Loc X.env.scope x)(r:RelV v u)
 (h:∀s',Inv X pins (σ.set i (some v)) H s'->Q () s') (hf:X.fn x=true\/X.env.scope.names.lookup x=some .local):wpAny M A (storeName X.env x u) Q E s:=
 qf I hN hi hx r (λs' I' _=>h s' I') hf
def Inv.call'(I:Inv X pins σ H s)(ho:s'.os=s.os)(u:Un (frs X.stack) ch H H' s.heap s'.heap)(hok:HOk X.prog X.w H' s'.heap)(hg:AllBare s'.gens)
 (hch:∀b∈ch,(b∈X.ex\/X.s₀.heap.objs.size<=b)/\b≠X.env.locals/\(∀x c,X.env.cells.lookup x=some c->c≠b)/\∀p∈X.pn++pins,p.1≠b):Inv X pins σ H' s':=by
 obtain⟨h',g',d',t',o'⟩:=s';have e:o'=s.os:=ho;subst e;exact I.call (g':=g') (t':=t') (d':=d') u hok hg hch
end
abbrev XK:=Value->Option Addr->Hp->Prop
abbrev St:=List (Option V)
abbrev VK:=V->Hp->Prop
abbrev TE:=St->Hp->VK->Prop
abbrev TT:=St->Hp->(Bool->Hp->Prop)->Prop
abbrev TA:=St->Hp->(List V->Hp->Prop)->Prop
structure Ends where
 nx:St->Hp->Prop
 rt:VK
 bk:St->Hp->Prop:=λ_ _=>False
 ct:St->Hp->Prop:=λ_ _=>False
abbrev TS:=Ends->St->Hp->Prop
def EP(X:Cx)(pins:Nb)(σ:St)(Q:VK)(u:Value)(s':Shared):Prop:=∃v H',Inv X pins σ H' s'/\RelV v u/\Q v H'
def TP(X:Cx)(pins:Nb)(σ:St)(Q:Bool->Hp->Prop)(b:Bool)(s':Shared):Prop:=∃H',Inv X pins σ H' s'/\Q b H'
def AP(X:Cx)(pins:Nb)(σ:St)(Q:List V->Hp->Prop)(us:List Value)(s':Shared):Prop:=∃vs H',Inv X pins σ H' s'/\Vals vs us/\Q vs H'
def SP(X:Cx)(pins:Nb)(D:Ends)(f:Flow)(s':Shared):Prop:=
 match f with
 |.next=>∃σ' H',Inv X pins σ' H' s'/\D.nx σ' H'
 |.brk=>∃σ' H',Inv X pins σ' H' s'/\D.bk σ' H'
 |.cont=>∃σ' H',Inv X pins σ' H' s'/\D.ct σ' H'
 |.ret u=>∃v σ' H',Inv X pins σ' H' s'/\RelV v u/\D.rt v H'
def exA{α:Type}{A B C:α->Hp->Prop}{Z:Prop}(h:∃v H',A v H'/\B v H'/\C v H')(k:∀v H',A v H'->B v H'->C v H'->Z):Z:=by obtain⟨v,H',a,b,c⟩:=h;exact k v H' a b c
def PE(X:Cx)(e:Expr)(t:TE):Prop:=
 ∀(pins:Nb) (s:Shared) (σ:St) (H:Hp) (Q:VK),Inv X pins σ H s->t σ H Q->wpAny (model X.prog X.w) X.A (eval e X.env) (EP X pins σ Q) X.xe s
def PT(X:Cx)(e:Expr)(t:TT):Prop:=
 ∀(pins:Nb) (s:Shared) (σ:St) (H:Hp) (Q:Bool->Hp->Prop),Inv X pins σ H s->t σ H Q->wpAny (model X.prog X.w) X.A (isTrue e X.env (eval e X.env)) (TP X pins σ Q) X.xe s
def PW(X:Cx)(e:Expr)(t:TT):Prop:=
 ∀(whole:Sem Value) (pins:Nb) (s:Shared) (σ:St) (H:Hp) (Q:Bool->Hp->Prop),Inv X pins σ H s->t σ H Q->wpAny (model X.prog X.w) X.A (isTrue e X.env whole) (TP X pins σ Q) X.xe s
def PW.pt(h:PW X e t):PT X e t:=h _
def PA(X:Cx)(es:List Expr)(t:TA):Prop:=
 ∀(pos:Pos) (pins:Nb) (s:Shared) (σ:St) (H:Hp) (Q:List V->Hp->Prop),Inv X pins σ H s->t σ H Q->wpAny (model X.prog X.w) X.A (spliced (backTo pos (starEach es X.env))) (AP X pins σ Q) X.xe s
def PS(X:Cx)(st:Stmt)(t:TS):Prop:=
 ∀(pins:Nb) (s:Shared) (σ:St) (H:Hp) (D:Ends),Inv X pins σ H s->t D σ H->wpAny (model X.prog X.w) X.A (exec st X.env) (SP X pins D) X.xe s
def PSs(X:Cx)(st:List Stmt)(t:TS):Prop:=
 ∀(pins:Nb) (s:Shared) (σ:St) (H:Hp) (D:Ends),Inv X pins σ H s->t D σ H->wpAny (model X.prog X.w) X.A (execs st X.env) (SP X pins D) X.xe s
def thn(h:wpAny M A t Q E s)(hQ:∀a s,Q a s->Q' a s):wpAny M A t Q' E s:=KL h hQ λ_ _ x=>x
section
variable{X:Cx}
def tVar(i:Nat):TE:=λσ H Q=>∃v,σ[i]?=some (some v)/\Q v H
def tC(v:V):TE:=λ_ H Q=>Q v H
def yu(hN:X.N[i]?=some x)(hv:Vis X.env.scope x)(hd:(x==("__debug__" : Str))=false)(hcd:(x==("__classdict__" : Str))=false):PE X (.Name x pos) (tVar i):=by
 intro pins s σ H Q I h;obtain⟨v,e,h⟩:=h;obtain⟨m,hn,hl⟩:=I.loc;obtain⟨u,r,l⟩:=hl i x v hN e hv;have d_:EP X pins σ Q u s:=⟨v,H,I,r,h⟩;rcases l with ⟨hk,hm⟩ |⟨hk,c,hc,hcell⟩
 .exact wpAny_Name (wpAny_loadName_local I.ok.kind hk hn hm d_) hd
 .rcases hk with hk |hk
  .exact wpAny_Name (wpAny_loadName_cell I.ok.kind hk hc hcell d_) hd
  .exact wpAny_Name (wpAny_loadName_free I.ok.kind hk hc hcell d_ hcd) hd
def sN{i j pos}:PE X (.Constant (.int i) j pos) (tC (.int i)):=λ_ _ _ H _ I h=>wpAny_Constant_int ⟨.int i,H,I.tok _,⟨_,rfl⟩,h⟩
def IU{b j pos}:PE X (.Constant (.bool b) j pos) (tC (.bl b)):=λ_ _ _ H _ I h=>Constant_bool ⟨.bl b,H,I,rfl,h⟩
def E1{j pos}:PE X (.Constant .none j pos) (tC .non):=λ_ _ _ H _ I h=>Constant_none ⟨.non,H,I,rfl,h⟩
def zq{x j pos}:PE X (.Constant (.str x) j pos) (tC (.str x)):=λ_ _ _ H _ I h=>Calls.Constant_str ⟨.str x,H,I.tok _,⟨_,rfl⟩,h⟩
def Gl(X:Cx)(x:Str):Prop:=X.env.kindOf x=some .globalImplicit
def oF(I:Inv X pins σ H s)(hg:Gl X x)(hm:X.mg x=some u)(h:Q u s)
 (hd:(x==("__debug__" : Str))=false):wpAny (model X.prog X.w) X.A (eval (.Name x pos) X.env) Q E s:=
 Calls.Name_function_global I.ok.kind hg (Calls.loadGlobal_global (by rw[I.ok.glob];exact I.mod.glob.keeps I.bk) hm h) hd
def fC(I:Inv X pins σ H s)(hg:Gl X x)(hm:X.mg x=none)(hv:bootBuiltins x=some u)(h:Q u s)
 (hn:x ≠ "__name__":=by decide) (hd:(x==("__debug__" : Str))=false:=by decide):wpAny (model X.prog X.w) X.A (eval (.Name x pos) X.env) Q E s:=by
 obtain⟨mb,h1,h2⟩:=I.mod.blt;exact Calls.Name_function_global I.ok.kind hg (Calls.loadGlobal_builtin (by rw[I.ok.glob];exact I.mod.glob.keeps I.bk) hm (by rw[I.ok.blt];exact h1.keeps I.bk) ((h2 x hn).trans hv) h) hd
def wj(hg:Gl X x)(hm:X.mg x=some u)(r:RelV v u)(hd:(x==("__debug__" : Str))=false):PE X (.Name x pos) (tC v):=
 λ_ _ _ H _ I h=>oF I hg hm ⟨v,H,I,r,h⟩ hd
def DP(hg:Gl X x)(hm:X.mg x=none)(hv:bootBuiltins x=some u)(r:RelV v u)(hn:x ≠ "__name__")(hd:(x==("__debug__" : Str))=false):PE X (.Name x pos) (tC v):=
 λ_ _ _ H _ I h=>fC I hg hm hv ⟨v,H,I,r,h⟩ hn hd
variable{a b:Expr}{ta tb:TE}{pos:Pos}
def tB(t:TE):TT:=λσ H Q=>t σ H λx H1=>∃c,x=.bl c/\Q c H1
def Fb(h:PE X e t)(he:∀whole,isTrue e X.env whole=(do let v <- whole;standAt e.pos;holding [v] (truthy v))):PT X e (tB t):=by intro pins s σ H Q I hw;refine isTrue_plain (thn (h pins s σ H _ I hw) λv s1 zz=>exA zz λx H1 I1 r1 q1=>?_) (he _);obtain⟨d,rfl,q⟩:=q1;cases r1;exact Lf ⟨H1,I1,q⟩
variable{tA tB':TT}{rest:List Expr}
def tAnd(t u:TT):TT:=λσ H Q=>t σ H λc H1=>if c=true then u σ H1 Q else Q false H1
def tOr(t u:TT):TT:=λσ H Q=>t σ H λc H1=>if c=true then Q true H1 else u σ H1 Q
def tNot(t:TT):TT:=λσ H Q=>t σ H λc H1=>Q (!c) H1
def Ez(ha:PT X a tA):PW X (.BoolOp .And [a] pos) tA:=by
 intro wh pins s σ H Q I h;refine isTrue_and (thn (ha pins s σ H Q I h) λc s1 e=>?_);cases c with
 |true=>exact isTrue_and_nil e
 |false=>exact e
def Ha(ha:PT X a tA):PW X (.BoolOp .Or [a] pos) tA:=by
 intro wh pins s σ H Q I h;refine isTrue_or (thn (ha pins s σ H Q I h) λc s1 e=>?_);cases c with
 |false=>exact isTrue_or_nil e
 |true=>exact e
def Gs(ha:PT X a tA)(hb:PW X (.BoolOp .And (b::rest) pos) tB'):PW X (.BoolOp .And (a::b::rest) pos) (tAnd tA tB'):=by
 intro wh pins s σ H Q I h;refine isTrue_and (thn (ha pins s σ H _ I h) λc s1 ⟨H1,I1,q1⟩=>?_);cases c with
 |true=>exact hb wh pins s1 σ H1 Q I1 q1
 |false=>exact⟨H1,I1,q1⟩
def Ki(ha:PT X a tA)(hb:PW X (.BoolOp .Or (b::rest) pos) tB'):PW X (.BoolOp .Or (a::b::rest) pos) (tOr tA tB'):=by
 intro wh pins s σ H Q I h;refine isTrue_or (thn (ha pins s σ H _ I h) λc s1 ⟨H1,I1,q1⟩=>?_);cases c with
 |true=>exact⟨H1,I1,q1⟩
 |false=>exact hb wh pins s1 σ H1 Q I1 q1
def HJ(ha:PT X a tA):PT X (.UnaryOp .Not a pos) (tNot tA):=by intro pins s σ H Q I h;exact isTrue_not (ha pins s σ H (λc H1=>Q (!c) H1) I h)
def Ii(ta tb:TE):TE:=λσ H Q=>ta σ H λx H1=>∃c,x=.bl c/\if c=true then tb σ H1 Q else Q (.bl false) H1
def IV(ta:TE):TE:=λσ H Q=>ta σ H λx H1=>∃c,x=.bl c/\Q (.bl (!c)) H1
def HZ{op}(h:PE X a t):PE X (.BoolOp op [a] pos) t:=λpins s σ H Q I hw=>BoolOp_one (h pins s σ H Q I hw)
def HG(ha:PE X a ta)(hb:PE X (.BoolOp .And (b::rest) pos) tb):PE X (.BoolOp .And (a::b::rest) pos) (Ii ta tb):=by
 intro pins s σ H Q I h;refine BoolOp_and (thn (ha pins s σ H _ I h) λv s1 zz=>exA zz λx H1 I1 r1 q1=>?_);obtain⟨c,rfl,q1⟩:=q1;cases r1;refine Lf ?_;cases c with
 |true=>exact hb pins s1 σ H1 Q I1 q1
 |false=>exact⟨.bl false,H1,I1,rfl,q1⟩
def FU(ha:PE X a ta):PE X (.UnaryOp .Not a pos) (IV ta):=by intro pins s σ H Q I h;refine UnaryOp_ (thn (ha pins s σ H _ I h) λv s1 zz=>exA zz λx H1 I1 r1 q1=>?_);obtain⟨c,rfl,q1⟩:=q1;cases r1;exact not_of (Lf ⟨.bl (!c),H1,I1,rfl,q1⟩)
def tIf(t:TT)(ta tb:TE):TE:=λσ H Q=>t σ H λc H1=>if c=true then ta σ H1 Q else tb σ H1 Q
def BN(hc:PT X c tA)(ha:PE X a ta)(hb:PE X b tb):PE X (.IfExp c a b pos) (tIf tA ta tb):=by
 intro pins s σ H Q I h;refine wpAny_IfExp (thn (hc pins s σ H _ I h) λd s1 ⟨H1,I1,q1⟩=>?_);cases d with
 |true=>exact ha pins s1 σ H1 Q I1 q1
 |false=>exact hb pins s1 σ H1 Q I1 q1
end
def SqL(K:W.Frag)(H:Hp)(a:Addr)(xs:List V):Prop:=
 Rd H a (.lst xs)\/
  ∃(o:Obj) (its:Array Value) (n:Nat),K.lookup a=some o/\o.cls=.type "list" /\ o.dict=none/\o.data=.seq its n/\its.size<=sizeLine/\Vals xs its.toList
def SqT(K:W.Frag)(H:Hp)(a:Addr)(xs:List V):Prop:=
 Rd H a (.tup xs)\/
  ∃(o:Obj) (its:Array Value) (n:Nat),K.lookup a=some o/\o.cls=.type "tuple" /\ o.data=.seq its n/\its.size<=sizeLine/\Vals xs its.toList
noncomputable def absV:Value->Option V
 |.none=>some .non
 |.bool b=>some (.bl b)
 |.int i _=>some (.int i)
 |.str x _=>some (.str x)
 |.bytes b _=>some (.byt b)
 |.float b _=>some (.flt b)
 |.ref a=>some (.ref a)
 |.type n=>some (.ty n)
 |_=>none
def RelV.abs(r:RelV x u):absV u=some x:=by
 cases x with
 |non=>cases r;rfl
 |bl _=>cases r;rfl
 |int _=>obtain⟨t,rfl⟩:=r;rfl
 |str _=>obtain⟨t,rfl⟩:=r;rfl
 |byt _=>obtain⟨t,rfl⟩:=r;rfl
 |flt _=>obtain⟨t,rfl⟩:=r;rfl
 |ref _=>cases r;rfl
 |ty _=>cases r;rfl
def RelV.inj(r:RelV x u)(q:RelV y u):x=y:=E_ (r.abs.symm.trans q.abs)
def Vals.inj(r:Vals xs us)(q:Vals ys us):xs=ys:=by
 induction r generalizing ys with
 |nil=>cases q;rfl
 |
  cons r t ih=>
  cases q with
  |cons q t'=>rw[r.inj q,ih t']
section
variable{X:Cx}{pins:Nb}{σ:St}{H:Hp}{s:Shared}{a:Addr}{xs ys:List V}
def SqL.of{K:W.Frag}(h:H a=some (.lst xs)):SqL K H a xs:=.inl (.inl h)
def SqT.of{K:W.Frag}(h:H a=some (.tup xs)):SqT K H a xs:=.inl (.inl h)
def Inv.list(I:Inv X pins σ H s)(h:SqL X.K H a xs):∃its:List Value,Vals xs its/\PlainL s.heap a its.toArray/\xs.length<=sizeLine:=by
 rcases h with h |⟨o,its,n,hk,hc,hd,hs,hz,r⟩
 .obtain⟨z,its,n,r,e⟩:=h.ok I.hok;exact⟨its,r,⟨_,n,e,rfl,rfl,rfl⟩,z⟩
 .refine⟨its.toList,r,⟨o,n,I.kIn a o hk,hc,hd,by simpa using hs⟩,?_⟩;have e:=r.length;simp only[LZ] at e;omega
def Inv.tuple(I:Inv X pins σ H s)(h:SqT X.K H a xs):∃its:List Value,Vals xs its/\IsTup s.heap a its.toArray/\xs.length<=sizeLine:=by
 rcases h with h |⟨o,its,n,hk,hc,hs,hz,r⟩
 .obtain⟨z,its,r,p⟩:=h.ok I.hok;exact⟨its,r,p,z⟩
 .refine⟨its.toList,r,⟨o,I.kIn a o hk,hc,n,by simpa using hs⟩,?_⟩;have e:=r.length;simp only[LZ] at e;omega
def Inv.list_inj(I:Inv X pins σ H s)(h:SqL X.K H a xs)(h':SqL X.K H a ys):xs=ys:=by
 obtain⟨its,r,⟨o,n,e,_,_,d⟩,_⟩:=I.list h;obtain⟨its',r',⟨o',n',e',_,_,d'⟩,_⟩:=I.list h';rw[e] at e';cases e';rw[d] at d';injection d' with d1 _;have:its=its':=by simpa using K3 Array.toList d1
 subst this;exact r.inj r'
def Inv.tuple_inj(I:Inv X pins σ H s)(h:SqT X.K H a xs)(h':SqT X.K H a ys):xs=ys:=by
 obtain⟨its,r,⟨o,e,_,n,d⟩,_⟩:=I.tuple h;obtain⟨its',r',⟨o',e',_,n',d'⟩,_⟩:=I.tuple h';rw[e] at e';cases e';rw[d] at d';injection d' with d1 _;have:its=its':=by simpa using K3 Array.toList d1
 subst this;exact r.inj r'
end
section
variable{X:Cx}{st:Stmt}{rest:List Stmt}{t u:TS}{e:Expr}{te:TE}{pos:Pos}
def Ia:TS:=λD σ H=>D.nx σ H
def tSeq(t u:TS):TS:=λD σ H=>t { D with nx:=u D } σ H
def Dm:PSs X [] Ia:=λ_ _ σ H _ I h=>MD ⟨σ,H,I,h⟩
def AD(h1:PS X st t)(h2:PSs X rest u):PSs X (st::rest) (tSeq t u):=by
 intro pins s σ H D I h;refine wpAny_execs_cons (thn (h1 pins s σ H { D with nx:=u D } I h) λf s1 q=>?_);cases f with
 |next=>obtain⟨σ',H',I',q⟩:=q;exact h2 pins s1 σ' H' D I' q
 |ret v=>exact q
 |brk=>exact q
 |cont=>exact q
def DV(h1:PS X st t):PSs X [st] t:=by
 intro pins s σ H D I h;refine wpAny_execs_cons (thn (h1 pins s σ H D I h) λf s1 q=>?_);cases f with
 |next=>exact MD q
 |ret v=>exact q
 |brk=>exact q
 |cont=>exact q
def Js:TS:=λD σ H=>D.ct σ H
def uw:PS X (.Continue pos) Js:=λ_ _ σ H _ I h=>wpAny_Continue ⟨σ,H,I,h⟩
def Inv.quiet(I:Inv X pins σ H s):interactive X.env=false:=by simp [interactive,I.ok.kind]
def IQ(te:TE):TS:=λD σ H=>te σ H λ_ H1=>D.nx σ H1
def C7(he:PE X e te)(hs:swapsWith e none pos.line X.env=pure false):PS X (.Expr e pos) (IQ te):=by intro pins s σ H D I h;exact wpAny_Expr_any (thn (he pins s σ H _ I h) λv s1 zz=>exA zz λx H1 I1 r1 q1=>⟨σ,H1,I1,q1⟩) I.quiet hs
def tRet(te:TE):TS:=λD σ H=>te σ H D.rt
def HC(he:PE X e te):PS X (.Return (some e) pos) (tRet te):=by intro pins s σ H D I h;exact wpAny_Return_some (thn (he pins s σ H _ I h) λv s1 zz=>exA zz λx H1 I1 r1 q1=>⟨x,σ,H1,I1,r1,q1⟩)
def tIfS(c:TT)(t u:TS):TS:=λD σ H=>c σ H λb H1=>if b=true then t D σ H1 else u D σ H1
def Kh(hc:PT X c tc)(ha:PSs X a t)(hb:PSs X b u):PS X (.If c a b pos) (tIfS tc t u):=by
 intro pins s σ H D I h;refine wpAny_If (thn (hc pins s σ H _ I h) λd s1 ⟨H1,I1,q1⟩=>?_);cases d with
 |true=>exact ha pins s1 σ H1 D I1 q1
 |false=>exact hb pins s1 σ H1 D I1 q1
end
abbrev TG:=V->St->Hp->(St->Hp->Prop)->Prop
abbrev TGs:=List V->St->Hp->(St->Hp->Prop)->Prop
def PG(X:Cx)(target:Expr)(t:TG):Prop:=
 ∀
  (pins:Nb) (s:Shared) (σ:St) (H:Hp) (v:V) (u:Value) (Q:St->Hp->Prop),Inv X pins σ H s->RelV v u->t v σ H Q->
  wpAny (model X.prog X.w) X.A (assign target X.env u) (λ_ s'=>∃σ' H',Inv X pins σ' H' s'/\Q σ' H') X.xe s
def PGs(X:Cx)(ts:List Expr)(t:TGs):Prop:=
 ∀
  (pins:Nb) (s:Shared) (σ:St) (H:Hp) (vs:List V) (us:List Value) (Q:St->Hp->Prop),Inv X pins σ H s->Vals vs us->t vs σ H Q->
  wpAny (model X.prog X.w) X.A (assignInOrder ((assignEach ts X.env).map (·.2)) us) (λ_ s'=>∃σ' H',Inv X pins σ' H' s'/\Q σ' H') X.xe s
abbrev sV:=V->V->V->Hp->(Hp->Prop)->Prop
def BJ(X:Cx)(t:sV):Prop:=
 ∀
  (pins:Nb) (s:Shared) (σ:St) (H:Hp) (o i v:V) (ov iv u:Value) (Q:Hp->Prop),Inv X pins σ H s->RelV o ov->RelV i iv->RelV v u->t o i v H Q->
  wpAny (model X.prog X.w) X.A (setItem ov iv u) (λ_ s'=>∃H',Inv X pins σ H' s'/\Q H') X.xe s
abbrev TIp:=V->V->Hp->VK->Prop
def PIp(X:Cx)(op:Operator)(t:TIp):Prop:=
 ∀
  (pins:Nb) (s:Shared) (σ:St) (H:Hp) (x y:V) (v u:Value) (Q:VK),Inv X pins σ H s->RelV x v->RelV y u->t x y H Q->
  wpAny (model X.prog X.w) X.A (inplaceOp op v u) (EP X pins σ Q) X.xe s
section
variable{X:Cx}{pos:Pos}
def rn(i:Nat):TG:=λv σ H Q=>Q (σ.set i (some v)) H
def Ds(hN:X.N.Nodup)(hi:X.N[i]?=some x)(hx:Loc X.env.scope x)(hf:X.fn x=true\/X.env.scope.names.lookup x=some .local):PG X (.Name x pos) (rn i):=by intro pins s σ H v u Q I r h;exact wpAny_assign_Name (gQ I hN hi hx r (λs' I'=>⟨_,H,I',h⟩) hf)
def gNil:TGs:=λvs σ H Q=>vs=[]/\Q σ H
def Ku(t:TG)(u:TGs):TGs:=λvs σ H Q=>∃v r,vs=v::r/\t v σ H λσ' H'=>u r σ' H' Q
def CZ:PGs X [] gNil:=by intro pins s σ H vs us Q I r h;obtain⟨e,h⟩:=h;subst e;cases r;exact assignInOrder_nil ⟨σ,H,I,h⟩
def BH(h1:PG X e t)(h2:PGs X es u)
 (hs:(assignEach (e::es) X.env).map (·.2)=assign e X.env::(assignEach es X.env).map (·.2)):PGs X (e::es) (Ku t u):=by
 intro pins s σ H vs us Q I r h;obtain⟨v,vr,e1,h⟩:=h;subst e1;cases r with
 |cons r rr=>rw[hs];refine assignInOrder_cons (thn (h1 pins s σ H _ _ _ I r h) λ_ s1 ⟨σ1,H1,I1,q1⟩=>?_);exact h2 pins s1 σ1 H1 _ _ Q I1 rr q1
def gTup(K:W.Frag)(n:Nat)(t:TGs):TG:=λv σ H Q=>∃a xs,v=.ref a/\SqT K H a xs/\xs.length=n/\t xs σ H Q
def za(hc:X.calm=true)(h:PGs X es t)
 (hn:(assignEach es X.env).length=n) (hst:(assignEach es X.env).findIdx? (·.1)=none):PG X (.Tuple es k pos) (gTup X.K n t):=by
 intro pins s σ H v u Q I r hw;obtain⟨a,xs,e1,hq,hl,hw⟩:=hw;subst e1;cases r;obtain⟨its,rv,ht,hz⟩:=I.tuple hq;refine assign_Tuple_tuple (I.ok.hd hc) ht (by simp [hn,<- hl,rv.length]) hst λh' hx=>?_;have I1:Inv X pins σ H { s with heap:=h' }:=I.kept (t':=s.toks) λb o e=>hx b o (G_ (t_ e)) e;exact h pins _ σ H xs _ Q I1 (by simpa using rv) hw
def gSub(to ti:TE)(t:sV):TG:=λv σ H Q=>to σ H λo H1=>ti σ H1 λi H2=>t o i v H2 λH3=>Q σ H3
def Hb(ho:PE X o to)(hi:PE X i ti)(hs:BJ X t)
 (ha:∀v,assign (.Subscript o i pos) X.env v=(do
  let ov <- holding [v] (eval o X.env)
  let iv <- holding [v,ov] (eval i X.env)
  standAt pos
  holding [v,ov,iv] (setItem ov iv v)
  release [v,ov,iv] [])):PG X (.Subscript o i pos) (gSub to ti t):=by
 intro pins s σ H v u Q I r h;rw[ha];refine i_ (Lh (thn (ho pins s σ H _ I h) λov s1 zz=>exA zz λx H1 I1 r1 q1=>?_));refine i_ (Lh (thn (hi pins s1 σ H1 _ I1 q1) λiv s2 zz=>exA zz λy H2 I2 r2 q2=>?_));refine i_ (Ml (i_ (Lh (thn (hs pins s2 σ H2 x y v ov iv u _ I2 r1 r2 r q2) λ_ s3 ⟨H3,I3,q3⟩=>?_))));exact wpAny_release ⟨σ,H3,I3,q3⟩
def wL(te:TE)(g:TG):TS:=λD σ H=>te σ H λx H1=>g x σ H1 D.nx
def yM(he:PE X e te)(hg:PG X tg g)(hs:swapsWithSole [tg] e pos.line X.env=pure false)(hw:swappedStores [tg] e X.env=pure none)
 (h1:(assignEach [tg] X.env).map (·.2)=[assign tg X.env]):PS X (.Assign [tg] e pos) (wL te g):=by
 intro pins s σ H D I h;refine wpAny_Assign_stores (thn (he pins s σ H _ I h) λv s1 zz=>exA zz λx H1 I1 r1 q1=>?_) hs hw;rw[h1];exact thn (hg pins s1 σ H1 x v _ I1 r1 q1) λ_ s2 q=>q
def Fy(hN:X.N.Nodup)(hi:X.N[i]?=some x)(hx:Loc X.env.scope x)(he:PE X e te)(hs:swapsWith e (some (.Name x pos')) pos.line X.env=pure false)(hf:X.fn x=true\/X.env.scope.names.lookup x=some .local):
 PS X (.Assign [.Name x pos'] e pos) (wL te (rn i)):=by
 intro pins s σ H D I h;refine wpAny_Assign_Name (thn (he pins s σ H _ I h) λv s1 zz=>exA zz λy H1 I1 r1 q1=>?_) hs;exact gQ I1 hN hi hx r1 (λs2 I2=>⟨_,H1,I2,q1⟩) hf
def tPar(i j:Nat)(ta:TA):TS:=λD σ H=>ta σ H λvs H1=>∃v w,vs=[v,w]/\D.nx ((σ.set i (some v)).set j (some w)) H1
def GO{kt k2 pt2}(hc:X.calm=true)(hN:X.N.Nodup)(hi:X.N[i]?=some x)(hj:X.N[j]?=some y)(hij:i≠j)
 (hx:X.env.scope.names.lookup x=some .local) (hy:X.env.scope.names.lookup y=some .local) (ha:PA X [a,b] ta)
 (hw:swappedStores [.Tuple [.Name x px,.Name y py] kt pt] (.Tuple [a,b] k2 pt2) X.env=pure (some [x,y]))
 (hs:swapsWithSole [.Tuple [.Name x px,.Name y py] kt pt] (.Tuple [a,b] k2 pt2) pos.line X.env=pure false):
 PS X (.Assign [.Tuple [.Name x px,.Name y py] kt pt] (.Tuple [a,b] k2 pt2) pos) (tPar i j ta):=by
 intro pins s σ H D I h;rw[exec_Assign_arm];refine i_ (Ml ?_);rw[hs];refine i_ (n_ ?_);rw[if_neg (by decide)];refine i_ (Tuple_ (thn (ha _ pins s σ H _ I h) λus s1 zz=>exA zz λvs H1 I1 r1 q1=>?_));obtain⟨v,w,e1,q1⟩:=q1;subst e1;obtain⟨u1,u2,rfl,rv,rw'⟩:∃u1 u2,us=[u1,u2]/\RelV v u1/\RelV w u2:=by
  cases r1 with
  |
   cons p q=>
   cases q with
   |cons p' q'=>cases q';exact⟨_,_,rfl,p,p'⟩
 refine KI ?_ (by show 2<=sizeLine;decide);have I2:Inv X pins σ H1 { s1 with heap:=s1.heap.push { cls:=.type "tuple",data:=.seq [u1,u2].toArray } }:=I1.kept (t':=s1.toks) λb o e=>q_ _ e;rw[hw];refine i_ (n_ ?_);show wpAny (model X.prog X.w) X.A (do rule "assign.swapped-stores";let items <- unpackItems (.ref s1.heap.objs.size) 2 none;assignInOrder [λv=>bindName X.env y v,λv=>bindName X.env x v] items.reverse;pure Flow.next) _ _ _;refine i_ (Me (i_ (unpackItems_tuple (items:=#[u1,u2]) (I.ok.hd hc) (IsTup.new s1.heap _) λh' hx'=>?_)));have I3:=I2.kept (h':=h') (t':=s1.toks) λb o e=>hx' b o (G_ (t_ e)) e;show wpAny _ _ (assignInOrder [λv=>bindName X.env y v,λv=>bindName X.env x v] [u2,u1] >>= λ_=>pure Flow.next) _ _ _;refine i_ (assignInOrder_cons (wpAny_bindName (gQ I3 hN hj (.inl hy) rw' (λs2 I4=>?_) (.inr hy))));refine assignInOrder_cons (wpAny_bindName (gQ I4 hN hi (.inl hx) rv (λs3 I5=>assignInOrder_nil (n_ ?_)) (.inr hx)));rw[List.set_comm _ _ (Ne.symm hij)] at I5;exact⟨_,H1,I5,q1⟩
def tAug(i:Nat)(te:TE)(ti:TIp):TS:=λD σ H=>∃x,σ[i]?=some (some x)/\te σ H λy H1=>ti x y H1 λz H2=>D.nx (σ.set i (some z)) H2
def FQ(hN:X.N.Nodup)(hi:X.N[i]?=some x)(hx:Loc X.env.scope x)(he:PE X e te)(ho:PIp X op ti)(hf:X.fn x=true\/X.env.scope.names.lookup x=some .local):
 PS X (.AugAssign (.Name x pos') op e pos) (tAug i te ti):=by
 intro pins s σ H D I h;obtain⟨v,e1,h⟩:=h;obtain⟨m,hn,hl⟩:=I.loc;have vis:Vis X.env.scope x:=by rcases hx with k |k;exact .inl k;exact .inr (.inl k)
 obtain⟨u,r,l⟩:=hl i x v hi e1 vis;refine wpAny_AugAssign_Name ?_;have go:wpAny (model X.prog X.w) X.A (eval e X.env) (λw s₂=>wpAny (model X.prog X.w) X.A (inplaceOp op u w) (λr s₃=>wpAny (model X.prog X.w) X.A (storeName X.env x r) (λ_=>SP X pins D .next) X.xe s₃) X.xe s₂) X.xe s:=by refine thn (he pins s σ H _ I h) λw s1 zz=>exA zz λy H1 I1 r1 q1=>?_;refine thn (ho pins s1 σ H1 v y u w _ I1 r r1 q1) λz s2 zz=>exA zz λzv H2 I2 r2 q2=>?_;exact gQ I2 hN hi hx r2 (λs3 I3=>⟨_,H2,I3,q2⟩) hf
 rcases l with ⟨hk,hm⟩ |⟨hk,c,hc,hcell⟩
 .exact wpAny_loadName_local I.ok.kind hk hn hm go
 .rcases hk with hk |hk
  .exact wpAny_loadName_cell I.ok.kind hk hc hcell go
  .rcases hx with k |k
   .have:X.env.scope.names.lookup x=some .free:=hk;rw[k] at this;cases this
   .have:X.env.scope.names.lookup x=some .free:=hk;rw[k] at this;cases this
def ipI(f:Int->Int->Int):TIp:=λx y H Q=>∃i j,x=.int i/\y=.int j/\Q (.int (f i j)) H
def F4:PIp X .Add (ipI λi j=>i+j):=by intro pins s σ H x y v u Q I r1 r2 h;obtain⟨i,j,e1,e2,q⟩:=h;subst e1;subst e2;obtain⟨t,rfl⟩:=r1;obtain⟨t',rfl⟩:=r2;exact iadd_int ⟨.int _,H,I.tok _,⟨_,rfl⟩,q⟩
def EW(c:TT)(tb:TS):TS:=λD σ H=>∃W:Nat->St->Hp->Prop,(∃m,W m σ H)/\∀m σ H,W m σ H->
 c σ H λb H1=>if b=true then ∃N:St->Hp->Prop,(∀σ' H',N σ' H'->∃m',m'<m/\W m' σ' H')/\tb { D with nx:=N,ct:=N,bk:=D.nx } σ H1 else D.nx σ H1
def Bq(hp:PassesOwn (model X.prog X.w) X.A X.env X.xe)(hc:PT X c tc)(hb:PSs X body tb):PS X (.While c body [] pos) (EW tc tb):=by
 intro pins s σ H D I h;obtain⟨W,⟨m0,w0⟩,turn⟩:=h;refine wpAny_While (codeAny_whileLoop (λn s'=>∃σ' H',Inv X pins σ' H' s'/\W n σ' H') ?_ m0 ⟨σ,H,I,w0⟩);rintro n s1 ⟨σ1,H1,I1,w1⟩;refine Lv hp (thn (hc pins s1 σ1 H1 _ I1 (turn n σ1 H1 w1)) λb s2 ⟨H2,I2,q2⟩=>?_);cases b with
 |
  true=>
  obtain⟨N,hN,q2⟩:=q2;rw[if_pos rfl];refine Lv hp (thn (hb pins s2 σ1 H2 _ I2 q2) λf s3 q3=>?_);cases f with
  |next=>obtain⟨σ3,H3,I3,n3⟩:=q3;obtain⟨m',hm,w3⟩:=hN σ3 H3 n3;exact⟨m',hm,σ3,H3,I3,w3⟩
  |cont=>obtain⟨σ3,H3,I3,n3⟩:=q3;obtain⟨m',hm,w3⟩:=hN σ3 H3 n3;exact⟨m',hm,σ3,H3,I3,w3⟩
  |brk=>exact q3
  |ret v=>exact q3
 |false=>rw[if_neg h_];exact MD ⟨σ1,H2,I2,q2⟩
end
structure It where
 go:Nat->Hp->Prop
 yld:Nat->Hp->V->Hp->Prop
 stop:Nat->Hp->Prop
def FpOk(X:Cx)(pins:Nb)(H:Hp)(b:Addr):Prop:=
 H b=none/\b≠X.env.locals/\b∉X.fs/\(b∈X.ex\/X.s₀.heap.objs.size<=b)/\(∀x c,X.env.cells.lookup x=some c->c≠b)/\∀p∈X.pn++pins,p.1≠b
def Inv.fpOk(I:Inv X pins σ H s)(hb:s.heap.objs.size<=b)(hn:H' b=none):FpOk X pins H' b:=by
 refine⟨hn,Mb (w_ I.lt hb),I.nofs hb,.inr (F_ I.sz hb),λx c e z=>?_,λp hp z=>?_⟩
 .obtain⟨v,q⟩:=I.cell x c e;exact absurd (w_ q.lt (by rw[z];exact hb)) (K4 _)
 .exact absurd (w_ (t_ (I.pin p hp).1) (by rw[z];exact hb)) (K4 _)
structure Turn(P:Program)(w:World)(K:W.Frag)(tg:Expr)(J:It)(fp:List Addr)(it:Addr)(tn:Nat->Heap->Prop):Prop where
 mem:it∈fp
 obj:∀i h,tn i h->∀b∈fp,∃o,h.get? b=some o/\∀v,o.data ≠ .cell v
 keep:∀i h h',tn i h->(∀b∈fp,∀o,h.get? b=some o->h'.get? b=some o)->tn i h'
 item:∀(X:Cx),X.prog=P->X.w=w->X.K=K->X.calm=true->∀(i:Nat) (pins:Nb) (s:Shared) (σ:St) (H:Hp) (E:Nc),Inv X pins σ H s->(∀b∈fp,FpOk X pins H b)->tn i s.heap->J.go i H->
  wpAny (model P w) X.A (pyNext (.ref it)) (λr s1=>∃u,r=some u/\
   wpAny (model P w) X.A (letOwnedTupleGo tg (.ref it) u) (λ_ s2=>∃x H',Inv X pins σ H' s2/\RelV x u/\J.yld i H x H'/\tn (i+1) s2.heap/\∀b∈fp,H' b=none) E s1) E s
 done:∀(X:Cx),X.prog=P->X.w=w->X.K=K->X.calm=true->∀(i:Nat) (pins:Nb) (s:Shared) (σ:St) (H:Hp) (E:Nc),Inv X pins σ H s->(∀b∈fp,FpOk X pins H b)->tn i s.heap->J.stop i H->
  wpAny (model P w) X.A (pyNext (.ref it)) (λr s1=>r=none/\Inv X pins σ H s1) E s
 self:∀(A:Around) (i:Nat) (s:Shared) (Q:Nc) (E:Nc),tn i s.heap->Q (.ref it) s->wpAny (model P w) A (pyIter (.ref it)) Q E s
abbrev TI:=St->Hp->(It->Hp->Prop)->Prop
def PIE(X:Cx)(pins:Nb)(σ:St)(tg:Expr)(R:It->Hp->Prop)(itv:Value)(s2:Shared):Prop:=
 ∃(it:Addr) (fp:List Addr) (tn:Nat->Heap->Prop) (J:It) (H':Hp),itv=.ref it/\Inv X pins σ H' s2/\Turn X.prog X.w X.K tg J fp it tn/\tn 0 s2.heap/\(∀b∈fp,FpOk X pins H' b)/\R J H'
def PI(X:Cx)(tg iter:Expr)(wi:TI):Prop:=
 ∀
  (pins:Nb) (s:Shared) (σ:St) (H:Hp) (R:It->Hp->Prop),Inv X pins σ H s->wi σ H R->
  wpAny (model X.prog X.w) X.A (eval iter X.env) (λv s1=>wpAny (model X.prog X.w) X.A (pyIter v) (PIE X pins σ tg R) X.xe s1) X.xe s
def xa(ho:s.heap.get? it=some o)(hc:o.cls=.type n)(hd:o.data=.fields vs)
 (hn:["enumerate", "zip", "dict_itemiterator", "dict_reverseitemiterator", "odict_iterator", "itertools.zip_longest", "itertools.pairwise"].contains n=false) (hQ:Q () s):wpAny M A (letOwnedTupleGo tg (.ref it) u) Q E s:=by
 unfold letOwnedTupleGo;cases tg
  <;> first
  |exact n_ hQ
  |(cases u <;> first
   |exact n_ hQ
   |(
    refine i_ (wpAny_load ho ?_);rw[hc,hd];show wpAny M A (if (["enumerate", "zip", "dict_itemiterator", "dict_reverseitemiterator", "odict_iterator", "itertools.zip_longest", "itertools.pairwise"].contains n&&vs[0]?==some (rawInt _))=true then _ else _) Q E s;rw[if_neg (by intro h;rw[hn,LQ] at h;cases h)];exact n_ hQ))
noncomputable def Itl (K:W.Frag) (a:Addr):It:=
 ⟨λi H=>∃xs x,SqL K H a xs/\xs[i]?=some x,λi H x H'=>H'=H/\∀xs,SqL K H a xs->xs[i]?=some x,λi H=>∃xs,SqL K H a xs/\xs.length<=i⟩
noncomputable def Itt (K:W.Frag) (a:Addr):It:=
 ⟨λi H=>∃xs x,SqT K H a xs/\xs[i]?=some x,λi H x H'=>H'=H/\∀xs,SqT K H a xs->xs[i]?=some x,λi H=>∃xs,SqT K H a xs/\xs.length<=i⟩
noncomputable def Itr (lo:Int) (n:Nat):It:=⟨λi _=>i<n,λi H x H'=>H'=H/\x=.int (lo+i),λi _=>n<=i⟩
def zI{P:Program}{w:World}{K:W.Frag}{tg:Expr}(a it:Addr):Turn P w K tg (Itl K a) [it] it (λi h=>h.IsListIter it a i) where
 mem:=by simp
 obj:=λi h st b hb=>by
  have e:b=it:=by simpa using hb
  subst e;obtain⟨o,e,c,d⟩:=st;exact⟨o,e,λv z=>by rw[d] at z;cases z⟩
 keep:=λi h h' st k=>st.at λo e=>k it (by simp) o e
 item:=by intro X hP hw hK hc i pins s σ H E I hf st hg;subst hP hw hK;obtain⟨xs,x,hq,hx⟩:=hg;obtain⟨its,rv,p,hz⟩:=I.list hq;obtain⟨u,hu,ru⟩:=rv.get hx;obtain⟨f0,f1,f2,f3,f4,f5⟩:=hf it (by simp);refine wpAny_pyNext_list_item st p.isList (x:=u) (by simpa using hu) λh' st' sb=>?_;have I1:Inv X pins σ H { s with heap:=h' }:=I.turned (t':=s.toks) (λb o hb e=>(sb.2 b hb).trans e) f0 f1 f3 f4 f5;obtain⟨o,e,c,d⟩:=id st';exact⟨u,rfl,xa (s:={ s with heap:=h' }) e c d (by decide) ⟨x,H,I1,ru,⟨rfl,λys hy=>by rw[I.list_inj hy hq];exact hx⟩,st',λb hb=>(hf b hb).1⟩⟩
 done:=by intro X hP hw hK hc i pins s σ H E I hf st hg;subst hP hw hK;obtain⟨xs,hq,hx⟩:=hg;obtain⟨its,rv,p,hz⟩:=I.list hq;obtain⟨f0,f1,f2,f3,f4,f5⟩:=hf it (by simp);have hl:=rv.length;exact wpAny_pyNext_list_end (I.ok.hd hc) st p.isList (by simp;omega) λh' eb=>⟨rfl,I.turned (t':=s.toks) (λb o hb e=>eb b o hb e) f0 f1 f3 f4 f5⟩
 self:=λ_ _ _ _ _ st h=>wpAny_pyIter_listiter st h
def xE{P:Program}{w:World}{K:W.Frag}{tg:Expr}(a it:Addr):Turn P w K tg (Itt K a) [it] it (λi h=>h.IsTupleIter it a i) where
 mem:=by simp
 obj:=λi h st b hb=>by
  have e:b=it:=by simpa using hb
  subst e;obtain⟨o,e,c,d⟩:=st;exact⟨o,e,λv z=>by rw[d] at z;cases z⟩
 keep:=λi h h' st k=>st.at λo e=>k it (by simp) o e
 item:=by intro X hP hw hK hc i pins s σ H E I hf st hg;subst hP hw hK;obtain⟨xs,x,hq,hx⟩:=hg;obtain⟨its,rv,p,hz⟩:=I.tuple hq;obtain⟨u,hu,ru⟩:=rv.get hx;obtain⟨f0,f1,f2,f3,f4,f5⟩:=hf it (by simp);refine wpAny_pyNext_tuple_item st (show s.heap.IsTuple a its.toArray from p) (x:=u) (by simpa using hu) λh' st' sb=>?_;have I1:Inv X pins σ H { s with heap:=h' }:=I.turned (t':=s.toks) (λb o hb e=>(sb.2 b hb).trans e) f0 f1 f3 f4 f5;obtain⟨o,e,c,d⟩:=id st';exact⟨u,rfl,xa (s:={ s with heap:=h' }) e c d (by decide) ⟨x,H,I1,ru,⟨rfl,λys hy=>by rw[I.tuple_inj hy hq];exact hx⟩,st',λb hb=>(hf b hb).1⟩⟩
 done:=by intro X hP hw hK hc i pins s σ H E I hf st hg;subst hP hw hK;obtain⟨xs,hq,hx⟩:=hg;obtain⟨its,rv,p,hz⟩:=I.tuple hq;obtain⟨f0,f1,f2,f3,f4,f5⟩:=hf it (by simp);have hl:=rv.length;exact wpAny_pyNext_tuple_end (I.ok.hd hc) st (show s.heap.IsTuple a its.toArray from p) (by simp;omega) λh' eb=>⟨rfl,I.turned (t':=s.toks) (λb o hb e=>eb b o hb e) f0 f1 f3 f4 f5⟩
 self:=λ_ _ _ _ _ st h=>wpAny_pyIter_tupleiter st h
def xx{P:Program}{w:World}{K:W.Frag}{tg:Expr}(it:Addr)(lo:Int)(n:Nat):Turn P w K tg (Itr lo n) [it] it (λi h=>IsRangeIter h it (lo+(i:Nat)*1) ((n:Int)-(i:Nat)) 1) where
 mem:=by simp
 obj
  := λi h st b hb=>by
  have e:b=it:=by simpa using hb
  subst e;exact⟨_,st,λv z=>by have z':Data.fields _=Data.cell v:=z;cases z'⟩
 keep:=λi h h' st k=>k it (by simp) _ st
 item:=by intro X hP hw hK hc i pins s σ H E I hf st hg;subst hP hw hK;obtain⟨f0,f1,f2,f3,f4,f5⟩:=hf it (by simp);have W:=Walks.range (prog:=X.prog) (w:=X.w) (I.ok.hd hc) it lo 1 n;refine W.item i s _ _ hg st λv h' tk hv st' kk=>?_;obtain⟨t,rfl⟩:=hv;have I1:Inv X pins σ H { s with heap:=h',toks:=tk }:=I.turned (λb o hb e=>kk b o (by simpa using hb) e) f0 f1 f3 f4 f5;refine⟨_,rfl,xa (s:={ s with heap:=h',toks:=tk }) (n:="range_iterator") st' rfl rfl (by decide) ⟨.int (lo+i),H,I1,⟨t,?_⟩,⟨rfl,rfl⟩,st',λb hb=>(hf b hb).1⟩⟩;rw[Int.mul_one]
 done:=by intro X hP hw hK hc i pins s σ H E I hf st hg;subst hP hw hK;obtain⟨f0,f1,f2,f3,f4,f5⟩:=hf it (by simp);exact wpAny_pyNext_range_end (I.ok.hd hc) st (by have:n<=i:=hg;omega) λh' eb=>⟨rfl,I.turned (t':=s.toks) (λb o hb e=>eb b o hb e) f0 f1 f3 f4 f5⟩
 self:=λ_ _ _ _ _ st h=>wpAny_pyIter_rangeiter st h
section
variable{X:Cx}{tg:Expr}
def sx{pins:Nb}{σ:St}{H:Hp}{s:Shared}{R:It->Hp->Prop}{E:Nc}{lo hi:Int}{t u v:Tok}{tk:Nat}(I:Inv X pins σ H s)(h1:-(2^62)<=lo)(h2:lo<2^62)(h3:-(2^62)<=hi)(h4:hi<2^62)
 (q:R (Itr lo (hi-lo).toNat) H):wpAny (model X.prog X.w) X.A (pyIter (.ref s.heap.objs.size)) (PIE X pins σ tg R) E { s with heap:=s.heap.push { cls:=.type "range",data:=.fields #[.int lo t,.int hi u,.int 1 v] },toks:=tk }:=by
 refine wpAny_pyIter_range (IsRange.new ..) (small_one h1 h2 h3 h4) ?_;have I1:Inv X pins σ H { s with heap:=s.heap.push { cls:=.type "range",data:=.fields #[.int lo t,.int hi u,.int 1 v] },toks:=tk }:=I.kept λb o e=>q_ _ e;refine⟨(s.heap.push { cls:=.type "range",data:=.fields #[.int lo t,.int hi u,.int 1 v] }).objs.size,[(s.heap.push { cls:=.type "range",data:=.fields #[.int lo t,.int hi u,.int 1 v] }).objs.size],_,_,H,rfl,
  I1.kept (t':=tk) λb o e=>q_ _ e,xx _ lo (hi-lo).toNat,?_,λb hb=>?_,q⟩
 .have e1:lo+((0:Nat):Int)*1=lo:=by simp
  have e2:(((hi-lo).toNat:Nat):Int)-((0:Nat):Int)=Builtin.Range.rangeSize lo hi 1:=by rw[rangeSize_one];split <;> omega
  show IsRangeIter _ _ (lo+((0:Nat):Int)*1) ((((hi-lo).toNat:Nat):Int)-((0:Nat):Int)) 1;rw[e1,e2];exact A_ _ rfl
 .have e:b=(s.heap.push { cls:=.type "range",data:=.fields #[.int lo t,.int hi u,.int 1 v] }).objs.size:=by simpa using hb
  subst e;exact I1.fpOk (m_ _) (I1.hok.fresh (m_ _))
def Ji(ta:TA):TI:=λσ H R=>ta σ H λvs H1=>∃j:Int,vs=[.int j]/\-(2^62)<=j/\j<2^62/\R (Itr 0 j.toNat) H1
def IA(ta:TA):TI:=λσ H R=>ta σ H λvs H1=>∃i j:Int,vs=[.int i,.int j]/\(-(2^62)<=i/\i<2^62/\-(2^62)<=j/\j<2^62)/\R (Itr i (j-i).toNat) H1
def yn(hg:Gl X "range")(hm:X.mg "range"=none)(ha:PA X [a] ta)(hs:starEach [a] X.env=[(false,eval a X.env)]):PI X tg (.Call (.Name "range" p) [a] [] pos) (Ji ta):=by
 intro pins s σ H R I h;refine Call_ (fC I hg hm boot_range (KR (thn (ha pos pins s σ H _ I h) λus s1 zz=>exA zz λvs H1 I1 r1 q1=>?_) hs rfl));obtain⟨j,e,q1,q2,q⟩:=q1;subst e;cases r1 with
 |cons r rr=>cases rr;obtain⟨t,rfl⟩:=r;exact call_range_1 (sx I1 (by omega) (by omega) q1 q2 (by simpa using q))
def yV(hg:Gl X "range")(hm:X.mg "range"=none)(ha:PA X [a,b] ta)(hs:starEach [a,b] X.env=[(false,eval a X.env),(false,eval b X.env)])(hs2:starEach [b] X.env=[(false,eval b X.env)]):
 PI X tg (.Call (.Name "range" p) [a,b] [] pos) (IA ta):=by
 intro pins s σ H R I h;refine Call_ (fC I hg hm boot_range (KR (thn (ha pos pins s σ H _ I h) λus s1 zz=>exA zz λvs H1 I1 r1 q1=>?_) (by rw[hs,hs2]) (by rw[hs2];rfl)));obtain⟨i,j,e,⟨q1,q2,q3,q4⟩,q⟩:=q1;subst e;cases r1 with
 |
  cons r rr=>
  cases rr with
  |cons r' rr=>cases rr;obtain⟨t,rfl⟩:=r;obtain⟨t',rfl⟩:=r';exact call_range_2 (sx I1 q1 q2 q3 q4 q)
def tFor(wi:TI)(g:TG)(tb:TS):TS:=λD σ H=>wi σ H λJ H1=>∃W:Nat->Nat->St->Hp->Prop,(∃m,W 0 m σ H1)/\∀i m σ H,W i m σ H->
 (J.stop i H/\D.nx σ H)\/(J.go i H/\∃N:St->Hp->Prop,(∀σ' H',N σ' H'->∃m',m'<m/\W (i+1) m' σ' H')/\∀x H',J.yld i H x H'->g x σ H' λσ2 H2=>tb { D with nx:=N,ct:=N,bk:=D.nx } σ2 H2)
noncomputable def ku (fp:List Addr) (h:Heap):List (Addr×Obj):=fp.filterMap λb=>(h.get? b).map λo=>(b,o)
def gA(hb:b∈fp)(e:h.get? b=some o):(b,o)∈ku fp h:=List.mem_filterMap.mpr ⟨b,hb,by rw[e];rfl⟩
def ya(hp:p∈ku fp h):p.1∈fp/\h.get? p.1=some p.2:=by
 obtain⟨b,hb,e⟩:=List.mem_filterMap.mp hp;cases q:h.get? b with
 |none=>rw[q] at e;cases e
 |some o=>rw[q] at e;have e':(b,o)=p:=E_ e;subst e';exact⟨hb,q⟩
def Inv.pinned(I:Inv X pins σ H s)(hf:∀b∈fp,FpOk X pins H b)(ho:∀b∈fp,∃o,s.heap.get? b=some o/\∀v,o.data ≠ .cell v):Inv X (pins++ku fp s.heap) σ H s:=
 I.pins_of λp hp=>(Ls.mp hp).elim (λz=>I.pin p (Ky _ z)) λz=>by obtain⟨hb,e⟩:=ya z;obtain⟨f0,f1,f2,_⟩:=hf p.1 hb;obtain⟨o,e',d⟩:=ho p.1 hb;rw[e] at e';cases e';exact⟨e,f0,f1,f2,d⟩
def Inv.unpinned(I:Inv X (pins++pl) σ H s):Inv X pins σ H s:=I.pins_of λp hp=>I.pin p (Ky _ (List.mem_append_left _ hp))
def HF(hp:PassesOwn (model X.prog X.w) X.A X.env X.xe)(hc:X.calm=true)(hi:PI X tg iter wi)(hg:PG X tg g)(hb:PSs X body tb)
 (hs:∀x,foldedSetIterable iter X.env x=pure x):PS X (.For tg iter body [] pos) (tFor wi g tb):=by
 intro pins s σ H D I h;refine wpAny_For (thn (hi pins s σ H _ I h) λv s1 h1=>thn h1 λitv s2 h2=>?_) hs;obtain⟨it,fp,tn,J,H2,e,I2,T,st2,f2,W,⟨m0,w0⟩,turn⟩:=h2;subst e;have stat:∀{H':Hp},(∀b∈fp,H' b=none)->∀b∈fp,FpOk X pins H' b:=λhn b hb=>⟨hn b hb,(f2 b hb).2⟩;refine codeAny_forLoop_any (λn s'=>∃i σ' H',Inv X pins σ' H' s'/\tn i s'.heap/\(∀b∈fp,H' b=none)/\W i n σ' H') ?_ m0 ⟨0,σ,H2,I2,st2,λb hb=>(f2 b hb).1,w0⟩;rintro n s3 ⟨i,σ3,H3,I3,st3,fr3,w3⟩;rcases turn i n σ3 H3 w3 with ⟨stop,qn⟩ |⟨go,N,hN,step⟩
 .refine Lv hp (thn (T.done X rfl rfl rfl hc i pins s3 σ3 H3 X.xe I3 (stat fr3) st3 stop) λr s4 ⟨hr,I4⟩=>?_);subst hr;exact MD ⟨σ3,H3,I4,qn⟩
 .refine Lv hp (thn (T.item X rfl rfl rfl hc i pins s3 σ3 H3 X.xe I3 (stat fr3) st3 go) λr s4 ⟨u,hr,h4⟩=>?_);subst hr;refine Lv hp (thn h4 λ_ s5 ⟨x,H5,I5,r5,y5,st5,fr5⟩=>?_);have I5':=I5.pinned (stat fr5) (T.obj _ _ st5);refine Lv hp (thn (hg _ s5 σ3 H5 x u _ I5' r5 (step x H5 y5)) λ_ s6 ⟨σ6,H6,I6,q6⟩=>?_);refine Lv hp (thn (hb _ s6 σ6 H6 _ I6 q6) λf s7 q7=>?_);have again:∀{σ7:St}{H7:Hp},Inv X (pins++ku fp s5.heap) σ7 H7 s7->N σ7 H7->∃m,m<n/\∃i σ' H',Inv X pins σ' H' s7/\tn i s7.heap/\(∀b∈fp,H' b=none)/\W i m σ' H':=λ{σ7 H7} I7 n7=>by obtain⟨m',hm,w7⟩:=hN σ7 H7 n7;refine⟨m',hm,i+1,σ7,H7,I7.unpinned,T.keep _ _ _ st5 λb hb o e=>(I7.pin (b,o) (Ky _ (Ky _ (gA hb e)))).1,λb hb=>?_,w7⟩;obtain⟨o,e,d⟩:=T.obj _ _ st5 b hb;exact (I7.pin (b,o) (Ky _ (Ky _ (gA hb e)))).2.1
  cases f with
  |next=>obtain⟨σ7,H7,I7,n7⟩:=q7;exact again I7 n7
  |cont=>obtain⟨σ7,H7,I7,n7⟩:=q7;exact again I7 n7
  |brk=>obtain⟨σ7,H7,I7,q7⟩:=q7;exact⟨σ7,H7,I7.unpinned,q7⟩
  |ret v=>obtain⟨x7,σ7,H7,I7,r7,q7⟩:=q7;exact⟨x7,σ7,H7,I7.unpinned,r7,q7⟩
end
abbrev R2:=V->V->Hp->VK->Prop
def OpR(X:Cx)(f:Value->Value->Sem Value)(r:R2):Prop:=
 ∀
  (pins:Nb) (s:Shared) (σ:St) (H:Hp) (x y:V) (v u:Value) (Q:VK),Inv X pins σ H s->RelV x v->RelV y u->r x y H Q->
  wpAny (model X.prog X.w) X.A (f v u) (EP X pins σ Q) X.xe s
def UnR(X:Cx)(f:Value->Sem Value)(r:V->Hp->VK->Prop):Prop:=
 ∀
  (pins:Nb) (s:Shared) (σ:St) (H:Hp) (x:V) (v:Value) (Q:VK),Inv X pins σ H s->RelV x v->r x H Q->
  wpAny (model X.prog X.w) X.A (f v) (EP X pins σ Q) X.xe s
def CallR(X:Cx)(f:Value)(r:List V->Hp->VK->Prop):Prop:=
 ∀
  (pins:Nb) (s:Shared) (σ:St) (H:Hp) (xs:List V) (us:List Value) (Q:VK),Inv X pins σ H s->Vals xs us->r xs H Q->
  wpAny (model X.prog X.w) X.A (call f us) (EP X pins σ Q) X.xe s
def tOp(r:R2)(ta tb:TE):TE:=λσ H Q=>ta σ H λx H1=>tb σ H1 λy H2=>r x y H2 Q
def tUn(r:V->Hp->VK->Prop)(ta:TE):TE:=λσ H Q=>ta σ H λx H1=>r x H1 Q
def rI(C:Int->Int->Prop)(g:Int->Int->V):R2:=λx y H Q=>∃i j,x=.int i/\y=.int j/\C i j/\Q (g i j) H
def rI0(g:Int->Int->V):R2:=λx y H Q=>∃i j,x=.int i/\y=.int j/\Q (g i j) H
def rU(g:Int->V):V->Hp->VK->Prop:=λx H Q=>∃i,x=.int i/\Q (g i) H
section
variable{X:Cx}{a b:Expr}{ta tb:TE}{pos:Pos}
def Ap(ha:PE X a ta)(hb:PE X b tb){pins:Nb}{s:Shared}{σ:St}{H:Hp}{R:V->V->Hp->Prop}(I:Inv X pins σ H s)
 (h:ta σ H λx H1=>tb σ H1 λy H2=>R x y H2) {Q:Nc}{f:Value->Value->Sem Value}
 (hf:∀v u s2 x y H2,Inv X pins σ H2 s2->RelV x v->RelV y u->R x y H2->wpAny (model X.prog X.w) X.A (f v u) Q X.xe s2):
 wpAny (model X.prog X.w) X.A (eval a X.env) (λv s₁=>wpAny (model X.prog X.w) X.A (eval b X.env) (λu s₂=>wpAny (model X.prog X.w) X.A (f v u) Q X.xe s₂) X.xe s₁) X.xe s:=by
 refine thn (ha pins s σ H _ I h) λv s1 zz=>exA zz λx H1 I1 r1 q1=>?_;refine thn (hb pins s1 σ H1 _ I1 q1) λu s2 zz=>exA zz λy H2 I2 r2 q2=>?_;exact hf v u s2 x y H2 I2 r1 r2 q2
def Kn(ho:OpR X (binaryOp op) r)(ha:PE X a ta)(hb:PE X b tb):PE X (.BinOp a op b pos) (tOp r ta tb):=by intro pins s σ H Q I h;exact wpAny_BinOp (Ap ha hb I h λv u s2 x y H2 I2 rx ry q=>ho pins s2 σ H2 x y v u Q I2 rx ry q)
def Ik(ho:UnR X (unaryOp op) r)(ha:PE X a ta):PE X (.UnaryOp op a pos) (tUn r ta):=by intro pins s σ H Q I h;exact UnaryOp_ (thn (ha pins s σ H _ I h) λv s1 zz=>exA zz λx H1 I1 r1 q1=>ho pins s1 σ H1 x v Q I1 r1 q1)
def opI{f:Value->Value->Sem Value}{C:Int->Int->Prop}{g:Int->Int->Int}
 (rule:∀(i j:Int) (t u:Tok) (s:Shared) (Q:Nc) (E:Nc),C i j->Q (.int (g i j) s.toks) { s with toks:=s.toks+1 }->wpAny (model X.prog X.w) X.A (f (.int i t) (.int j u)) Q E s):
 OpR X f (rI C λi j=>.int (g i j)):=by
 intro pins s σ H x y v u Q I rx ry h;obtain⟨i,j,rfl,rfl,hc,q⟩:=h;obtain⟨t,rfl⟩:=rx;obtain⟨t',rfl⟩:=ry;exact rule i j t t' s _ _ hc ⟨.int (g i j),H,I.tok _,⟨_,rfl⟩,q⟩
def opI0{f:Value->Value->Sem Value}{g:Int->Int->Int}
 (rule:∀(i j:Int) (t u:Tok) (s:Shared) (Q:Nc) (E:Nc),Q (.int (g i j) s.toks) { s with toks:=s.toks+1 }->wpAny (model X.prog X.w) X.A (f (.int i t) (.int j u)) Q E s):
 OpR X f (rI0 λi j=>.int (g i j)):=by
 intro pins s σ H x y v u Q I rx ry h;obtain⟨i,j,rfl,rfl,q⟩:=h;obtain⟨t,rfl⟩:=rx;obtain⟨t',rfl⟩:=ry;exact rule i j t t' s _ _ ⟨.int (g i j),H,I.tok _,⟨_,rfl⟩,q⟩
def xv{f:Value->Value->Sem Value}{g:Int->Int->Bool}
 (rule:∀(i j:Int) (t u:Tok) (s:Shared) (Q:Nc) (E:Nc),Q (.bool (g i j)) s->wpAny (model X.prog X.w) X.A (f (.int i t) (.int j u)) Q E s):
 OpR X f (rI0 λi j=>.bl (g i j)):=by
 intro pins s σ H x y v u Q I rx ry h;obtain⟨i,j,rfl,rfl,q⟩:=h;obtain⟨t,rfl⟩:=rx;obtain⟨t',rfl⟩:=ry;exact rule i j t t' s _ _ ⟨.bl (g i j),H,I,rfl,q⟩
def kN(i j:Int):Prop:=0<=j/\j<=1000000/\i.natAbs<2^64
def CMul(i j:Int):Prop:=(-(2^64)<i/\i<2^64)\/(-(2^64)<j/\j<2^64)
def CMul.ok(h:CMul i j):IntMulOk i j:=by
 rcases h with ⟨h1,h2⟩ |⟨h1,h2⟩
 .exact .of_left (intBits_le_64 h1 h2)
 .exact .of_right (intBits_le_64 h1 h2)
def FF:OpR X (binaryOp .Add) (rI0 λi j=>.int (i+j)):=opI0 λ_ _ _ _ _ _ _ q=>add_int q
def Hw:OpR X (binaryOp .Sub) (rI0 λi j=>.int (i-j)):=opI0 λ_ _ _ _ _ _ _ q=>sub_int q
def Gj:OpR X (binaryOp .Mult) (rI CMul λi j=>.int (i*j)):=opI λ_ _ _ _ _ _ _ hc q=>mul_int q hc.ok
def EB:OpR X (binaryOp .Mod) (rI (λ_ j=>j≠0) λi j=>.int (i.fmod j)):=opI λ_ _ _ _ _ _ _ hc q=>mod_int' hc q
def GQ:OpR X (binaryOp .Pow) (rI kN λi j=>.int (i^j.toNat)):=opI λ_ _ _ _ _ _ _ hc q=>pow_int_small hc.1 hc.2.1 hc.2.2 q
def Fw:OpR X (binaryOp .LShift) (rI kN λi j=>.int (i*2^j.toNat)):=opI λ_ _ _ _ _ _ _ hc q=>lshift_int_small hc.1 hc.2.1 hc.2.2 q
def unI{f:Value->Sem Value}{g:Int->Int}
 (rule:∀(i:Int) (t:Tok) (s:Shared) (Q:Nc) (E:Nc),Q (.int (g i) s.toks) { s with toks:=s.toks+1 }->wpAny (model X.prog X.w) X.A (f (.int i t)) Q E s):
 UnR X f (rU λi=>.int (g i)):=by
 intro pins s σ H x v Q I rx h;obtain⟨i,rfl,q⟩:=h;obtain⟨t,rfl⟩:=rx;exact rule i t s _ _ ⟨.int (g i),H,I.tok _,⟨_,rfl⟩,q⟩
def H9:UnR X (unaryOp .USub) (rU λi=>.int (-i)):=unI λ_ _ _ _ _ q=>neg_int q
end
section
variable{X:Cx}{a b c:Expr}{ta tb tc:TE}{pos:Pos}
def kP(I:Inv X pins σ H s)(q:Q (.bl k) H)(e:k=k'):EP X pins σ Q (.bool k') s:=by subst e;exact⟨.bl k,H,I,rfl,q⟩
def B9:OpR X (compareOp .Lt) (rI0 λi j=>.bl (decide (i<j))):=xv λ_ _ _ _ _ _ _ q=>lt_int q
def CL:OpR X (compareOp .LtE) (rI0 λi j=>.bl (decide (i<=j))):=xv λ_ _ _ _ _ _ _ q=>le_int q
def CP:OpR X (compareOp .Gt) (rI0 λi j=>.bl (decide (j<i))):=xv λ_ _ _ _ _ _ _ q=>gt_int q
def CG:OpR X (compareOp .GtE) (rI0 λi j=>.bl (decide (j<=i))):=xv λ_ _ _ _ _ _ _ q=>ge_int q
def Ho:OpR X (compareOp .Is) (λx y H Q=>y=.non/\Q (.bl (decide (x=.non))) H):=by
 intro pins s σ H x y v u Q I rx ry h;obtain⟨rfl,q⟩:=h;cases ry;refine is_none_gen (kP I q ?_);cases x <;> first
  |(cases rx;rfl)
  |(obtain⟨t,rfl⟩:=rx;rfl)
def D8:OpR X (compareOp .IsNot) (λx y H Q=>y=.non/\Q (.bl (!decide (x=.non))) H):=by
 intro pins s σ H x y v u Q I rx ry h;obtain⟨rfl,q⟩:=h;cases ry;refine isnot_none_gen (kP I q ?_);cases x <;> first
  |(cases rx;rfl)
  |(obtain⟨t,rfl⟩:=rx;rfl)
def OpR.or(h:OpR X f r)(h':OpR X f r'):OpR X f (λx y H Q=>r x y H Q\/r' x y H Q):=by
 intro pins s σ H x y v u Q I rx ry q;rcases q with q |q
 .exact h pins s σ H x y v u Q I rx ry q
 .exact h' pins s σ H x y v u Q I rx ry q
def zd(b:Expr)(h:op ≠ .In:=by decide)(h2:op ≠ .NotIn:=by decide):behindInMarks op b=false:=by
 have e1:(op==CmpOp.In)=false:=by cases op <;> first |rfl |exact absurd rfl h
 have e2:(op==CmpOp.NotIn)=false:=by cases op <;> first |rfl |exact absurd rfl h2
 cases b <;> simp [behindInMarks,e1,e2]
def Eu(ho:OpR X (compareOp op) r)(ha:PE X a ta)(hb:PE X b tb)(hm:behindInMarks op b=false):PE X (.Compare a [op] [b] pos) (tOp r ta tb):=by intro pins s σ H Q I h;exact wpAny_Compare1 (Ap ha hb I h λv u s2 x y H2 I2 rx ry q=>ho pins s2 σ H2 x y v u Q I2 rx ry q) hm
def Cp(t:TE):TT:=λσ H Q=>t σ H λx H'=>∃k,x=.bl k/\Q k H'
def C5(ho:OpR X (compareOp op) r)(ha:PE X a ta)(hb:PE X b tb)(hm:behindInMarks op b=false):PT X (.Compare a [op] [b] pos) (Cp (tOp r ta tb)):=by
 intro pins s σ H Q I h;refine wpAny_isTrue_Compare1 (thn (ha pins s σ H _ I h) λv s1 zz=>exA zz λx H1 I1 r1 q1=>thn (hb pins s1 σ H1 _ I1 q1) λu s2 zz=>exA zz λy H2 I2 r2 q2=>
  thn (ho pins s2 σ H2 x y v u _ I2 r1 r2 q2) λc s3 ⟨z,H3,I3,r3,k,e,q3⟩=>?_) hm
 subst e;cases r3;exact Lf ⟨H3,I3,q3⟩
def FT(r r':R2)(ta tb tc:TE):TE:=λσ H Q=>ta σ H λx H1=>tb σ H1 λy H2=>r x y H2 λz H3=>∃k,z=.bl k/\
 (if k=true then tc σ H3 λw' H4=>r' y w' H4 Q else Q (.bl false) H3)
def AN(ho:OpR X (compareOp op) r)(ho':OpR X (compareOp op') r')(ha:PE X a ta)(hb:PE X b tb)(hc:PE X c tc)
 (hm:lastMarks [op,op'] [b,c]=false):PT X (.Compare a [op,op'] [b,c] pos) (Cp (FT r r' ta tb tc)):=by
 intro pins s σ H Q I h;refine isTrue_chain (thn (ha pins s σ H _ I h) λv s1 zz=>exA zz λx H1 I1 r1 q1=>test_link (thn (hb pins s1 σ H1 _ I1 q1) λu s2 zz=>exA zz λy H2 I2 r2 q2=>
  thn (ho pins s2 σ H2 x y v u _ I2 r1 r2 q2) λd s3 ⟨z,H3,I3,r3,k,e,q3⟩=>?_)) hm
 subst e;cases r3;refine Lf ?_;cases k with
 |false=>obtain⟨k',e',q'⟩:=q3;cases e';exact ite_ff ⟨H3,I3,q'⟩
 |true=>refine ite_tt (test_last (thn (hc pins s3 σ H3 _ I3 q3) λw' s4 ⟨z',H4,I4,r4,q4⟩=>thn (ho' pins s4 σ H4 y z' u w' _ I4 r2 r4 q4) λd' s5 ⟨z2,H5,I5,r5,k2,e2,q5⟩=>?_));subst e2;cases r5;exact Lf ⟨H5,I5,q5⟩
def nL:(sizeLine:Nat)<2^63:=by rw[sizeLine_eq];decide
def iK(r:Vals [x] us):∃u,us=[u]/\RelV x u:=by
 cases r with
 |cons r1 r2=>cases r2;exact⟨_,rfl,r1⟩
def CS(r:Vals [x,y] us):∃u w',us=[u,w']/\RelV x u/\RelV y w':=by
 cases r with
 |
  cons r1 r2=>
  cases r2 with
  |cons r3 r4=>cases r4;exact⟨_,_,rfl,r1,r3⟩
def B2:CallR X (.builtin "abs") (λxs H Q=>∃i,xs=[.int i]/\Q (.int (if i<0 then -i else i)) H):=by intro pins s σ H xs us Q I r h;obtain⟨i,rfl,q⟩:=h;obtain⟨u,rfl,t,rfl⟩:=iK r;exact call_abs_int λu tk=>⟨.int (if i<0 then -i else i),H,I.tok _,⟨_,rfl⟩,q⟩
end
structure ObjM(h:Heap)(x dx C:Addr)(mA:Na):Prop where
 obj:h.get? x=some (W.instObj C dx)
 ns:h.Ns1 dx mA
 ne:dx≠x
def zR{h:Heap}{dx:Addr}{mA:Na}(n:h.Ns1 dx mA):∃od,h.get? dx=some od/\∀name,W.lookIn name od=some (mA name):=by
 obtain⟨o,es,ep,ho,hd,hk,_,hm⟩:=n;refine⟨o,ho,λname=>?_⟩;have e:=hm name;unfold nsFind findBy at e;rw[<- Array.find?_toList] at e;unfold W.lookIn;rw[hd];dsimp only;split
 .rename_i y q;rw[q] at e;exact K3 some e
 .rename_i q;rw[q] at e;have a:es.toList.any (·.refKey)=false:=by rw[List.any_eq_false];intro y hy;obtain⟨z,t,hkey⟩:=hk y (Array.mem_toList_iff.mp hy);simp [DictEntry.refKey,hkey]
  have a':¬ es.toList.any (·.refKey)=true:=by rw[a];exact h_
  rw[if_neg a'];exact K3 some e
def ObjM.look(I:ObjM h x dx C mA):∃od,W.InstAt h x (W.instObj C dx) C (some od)/\∀name,W.lookIn name od=some (mA name):=
 let ⟨od,ho,hl⟩:=zR I.ns
 ⟨od,⟨I.obj,rfl,rfl,ho⟩,hl⟩
def RelO.some_of(r:RelO (some v) o):∃u,o=some u/\RelV v u:=by
 cases o with
 |none=>exact (show False from r).elim
 |some u=>exact⟨u,rfl,r⟩
section
variable{P:Program}{w:World}{H:Hp}{h:Heap}{a C dx:Addr}{fs:List (Str×V)}
def DC(hok:HOk P w H h)(e:H a=some (.ins C dx fs)):∃mA,ObjM h a dx C mA/\(∀f,RelO (fs.lookup f) (mA f))/\PySem.Within mA (fs.map (·.1))/\fs.length<=1000/\H dx=some (.own a):=by obtain⟨d,z,ne,ob,mA,n,r,q⟩:=(show ObjOk P w H h a (.ins C dx fs) from hok a _ e);exact⟨mA,⟨ob,n,ne⟩,r,q,z,d⟩
end
structure Cls(K:W.Frag)(C:Addr):Prop where
 pg:W.plainGet K C Str.empty=true
 hd:W.hasDictIn K C=true
 po:W.plainOver K C=true
 sa:W.findIn K (.ref C) "__setattr__"=some (some (.builtin "object.__setattr__"))
def Cls.get{K:W.Frag}{C:Addr}(c:Cls K C)(f:Str):W.plainGet K C f=true:=c.pg
section
variable{H:Hp}
inductive TyOf(K:W.Frag)(H:Hp):V->Value->Prop where
 |non:TyOf K H .non (.type "NoneType")
 |bl (x:Bool):TyOf K H (.bl x) (.type "bool")
 |int (i:Int):TyOf K H (.int i) (.type "int")
 |str (x:Str):TyOf K H (.str x) (.type "str")
 |flt (x:UInt64):TyOf K H (.flt x) (.type "float")
 |lst {a:Addr}{xs:List V} (e:H a=some (.lst xs)):TyOf K H (.ref a) (.type "list")
 |frz {a:Addr}{o:Obj}{xs:List V} (e:H a=some (.frz o (.lst xs))):TyOf K H (.ref a) (.type "list")
 |tup {a:Addr}{xs:List V} (e:H a=some (.tup xs)):TyOf K H (.ref a) (.type "tuple")
 |dK {a:Addr}{kvs:List (Key×V)} (e:H a=some (.dK kvs)):TyOf K H (.ref a) (.type "dict")
 |dT {a:Addr}{kvs:List (List Key×V)} (e:H a=some (.dT kvs)):TyOf K H (.ref a) (.type "dict")
 |ins {a C dx:Addr}{fs:List (Str×V)} (e:H a=some (.ins C dx fs)) (cl:Cls K C) (ha:W.findIn K (.ref C) "__class__"=some (some (.builtin "object.__class__")))
  (hn:W.specialIn K (.builtin "object.__class__") "__get__"=some (some (.builtin "getset_descriptor.__get__"))) (htk:W.takesIn K (.builtin "object.__class__")=some true)
  (hm:W.mroIn K C (.type "object")=some true):TyOf K H (.ref a) (.ref C)
end
structure Room(k:Nat)(A:Around):Prop where
 hd:A.handled=none
 dp:A.depth+3*k+5<recursionLimit
 un:A.units+16*k+200<cLine
 gd:A.guards=some []
def Room.mono(r:Room k A)(h:j<=k):Room j A:=⟨r.hd,by have:=r.dp;omega,by have:=r.un;omega,r.gd⟩
def Room.deeper(r:Room (k+1) A)(env:Env):Room k (A.deeper env):=
 ⟨r.hd,by have:=r.dp;show A.depth+1+3*k+5<_;omega,by have:=r.un;show A.units+3+16*k+200<_;omega,r.gd⟩
def Room.depth(r:Room k A):A.depth<recursionLimit:=by have:=r.dp;omega
def Room.units(r:Room k A):A.units+64<cLine:=by have:=r.un;omega
def tNil:TA:=λ_ H Q=>Q [] H
def JG(ta:TE)(tr:TA):TA:=λσ H Q=>ta σ H λx H1=>tr σ H1 λxs H2=>Q (x::xs) H2
section
variable{X:Cx}{e:Expr}{es:List Expr}{te:TE}{t:TA}{pos:Pos}
def Gw:PA X [] tNil:=λ_ _ _ _ H Q I h=>Calls.spliced_nil ⟨[],H,I,.nil,h⟩
def EL(ha:PE X e te)(hr:PA X es t)(hs:starEach (e::es) X.env=(false,eval e X.env)::starEach es X.env):PA X (e::es) (JG te t):=by intro pos pins s σ H Q I h;rw[hs];show wpAny _ _ (spliced ((false,eval e X.env)::backTo pos (starEach es X.env))) _ _ s;refine Calls.spliced_cons (thn (ha pins s σ H _ I h) λu s1 zz=>exA zz λx H1 I1 r1 q1=>?_);exact thn (hr pos pins s1 σ H1 _ I1 q1) λus s2 zz=>exA zz λxs H2 I2 r2 q2=>⟨x::xs,H2,I2,.cons r1 r2,q2⟩
def tTup(t:TA):TE:=λσ H Q=>t σ H λxs H1=>xs.length<=sizeLine/\∀p,H1 p=none->Q (.ref p) (upd H1 p (.tup xs))
def tLst(t:TA):TE:=λσ H Q=>t σ H λxs H1=>xs.length<=sizeLine/\∀p,H1 p=none->Q (.ref p) (upd H1 p (.lst xs))
def Fi{x1}(h:PA X es t):PE X (.Tuple es x1 pos) (tTup t):=by intro pins s σ H Q I hq;refine wpAny_Tuple_spliced (thn (h pos pins s σ H _ I hq) λus s1 ⟨xs,H1,I1,r,z,q⟩=>⟨by rw[<- r.length];exact z,?_⟩);have hf:H1 s1.heap.objs.size=none:=I1.hok.fresh (m_ _);refine⟨.ref s1.heap.objs.size,upd H1 s1.heap.objs.size (.tup xs),I1.laid (t':=s1.toks) (λb u e=>q_ _ e) (m_ _) ?_,rfl,q _ hf⟩;exact⟨z,us,r,⟨_,A_ _ rfl,rfl,_,rfl⟩⟩
def HU(h:PA X es t):PE X (.List es pos) (tLst t):=by intro pins s σ H Q I hq;refine wpAny_List_spliced (thn (h pos pins s σ H _ I hq) λus s1 ⟨xs,H1,I1,r,z,q⟩=>⟨by rw[<- r.length];exact z,?_⟩);have hf:H1 s1.heap.objs.size=none:=I1.hok.fresh (m_ _);refine⟨.ref s1.heap.objs.size,upd H1 s1.heap.objs.size (.lst xs),I1.laid (t':=s1.toks) (λb u e=>q_ _ e) (m_ _) ?_,rfl,q _ hf⟩;exact⟨z,us,0,r,A_ _ rfl⟩
end
abbrev Sp:=List V->Hp->VK->XK->Prop
abbrev CXT:=List Env->Hp->Shared->XK->Value->Shared->Prop
structure Env0(P:Program)(w:World)(K:W.Frag)(mg:Na)(base:Heap)(A:Around)(outer:List Env)(s:Shared)(H:Hp):Prop where
 frames:A.frames=some outer
 mod:Mod K mg base
 bs:∀b o,base.get? b=some o->s.heap.get? b=some o/\H b=none
 bsz:base.objs.size<=s.heap.objs.size
 funs:s.heap.FunFrames base outer
 frf:∀b∈frs outer,H b=none
 hok:HOk P w H s.heap
 bare:AllBare s.gens
def CE(outer:List Env)(P:Program)(w:World)(H:Hp)(s:Shared)(Q:VK)(u:Value)(s':Shared):Prop:=
 ∃v H',s'.os=s.os/\AllBare s'.gens/\Un (frs outer) [] H H' s.heap s'.heap/\HOk P w H' s'.heap/\RelV v u/\Q v H'
def CR(CX:CXT)(outer:List Env)(P:Program)(w:World)(H:Hp)(s:Shared)(Q:VK)(E:XK)(r:Result)(s':Shared):Prop:=
 match r with
 |.ok (.ret u)=>CE outer P w H s Q u s'
 |.ok _=>False
 |.error e=>CX outer H s E e s'
structure FnOk(P:Program)(w:World)(K:W.Frag)(mg:Na)(base:Heap)(CX:CXT)(k:Nat)(f:Addr)(fd:FuncData)(ps:List Str)(sp:Sp):Prop where
 len:∀vs H Q E,sp vs H Q E->vs.length=ps.length
 run:∀(A:Around) (outer:List Env) (s:Shared) (H:Hp) (args:Args) (us:List Value) (vs:List V) (Q:VK) (E:XK),Room k A->Env0 P w K mg base A outer s H->BindsTo s fd args (ps.zip us)->Vals vs us->sp vs H Q E->
  codeAny (model P w) A (.call (.ref f) args) (CR CX outer P w H s Q E) s
def FnOk.imp{P:Program}{w:World}{K:W.Frag}{mg:Na}{base:Heap}{CX:CXT}{k:Nat}{f:Addr}{fd:FuncData}{ps:List Str}{sp sp':Sp}(F:FnOk P w K mg base CX k f fd ps sp)
 (h:∀vs H Q E,sp' vs H Q E->sp vs H Q E):FnOk P w K mg base CX k f fd ps sp':=
 ⟨λvs H Q E q=>F.len vs H Q E (h _ _ _ _ q),λA outer s H args us vs Q E hr he hb hv hs=>F.run A outer s H args us vs Q E hr he hb hv (h _ _ _ _ hs)⟩
section
variable{X:Cx}{pins:Nb}{σ:St}{H:Hp}{s s':Shared}
def Inv.env0(I:Inv X pins σ H s):Env0 X.prog X.w X.K X.mg X.base X.A X.stack s H:=
 ⟨I.ok.frames,I.ok.mod,I.bs,F_ I.ok.bsz I.sz,I.stack,I.stkFree,I.hok,I.bare⟩
def Inv.after(I:Inv X pins σ H s)(h:CE X.stack X.prog X.w H s Q u s'):EP X pins σ Q u s':=by obtain⟨v,H',os,bare,un,hok,r,q⟩:=h;obtain⟨hh,g,d,t,os'⟩:=s';obtain rfl:os'=s.os:=os;exact⟨v,H',I.call (h':=hh) (g':=g) (d':=d) (t':=t) (ch:=[]) un hok bare (λb z=>absurd z (by simp)),r,q⟩
end
def Binds(K:W.Frag)(fd:FuncData)(ps:List Str)(ds:List Value):Prop:=
 ∀(s:Shared) (us:List Value),K.In s.heap->(us++ds).length=ps.length->BindsTo s fd ⟨us,[]⟩ (ps.zip (us++ds))
def Binds.all{K:W.Frag}{fd:FuncData}{ps:List Str}(h:∀us:List Value,us.length=ps.length->bindArgs fd ⟨us,[]⟩=pure (ps.zip us)):Binds K fd ps []:=λs us _ hl=>by rw[K2] at hl ⊢;exact .of_eq (h us hl)
def tF(CX:CXT)(X:Cx)(E:XK):Prop:=∀(pins:Nb) (σ:St) (H:Hp) (s:Shared) (e:Value) (s':Shared),Inv X pins σ H s->CX X.stack H s E e s'->X.xe e s'
structure FnScope(N P:List Str)(sc:Scope):Prop where
 kind:sc.kind=.function
 co:sc.isCoroutine=false
 gen:sc.isGenerator=false
 nd:N.Nodup
 pre:N.take P.length=P
 par:∀x∈P,sc.names.lookup x=some .local\/sc.names.lookup x=some .cell
 nofree:∀y∈sc.names,y.2 ≠ .free
theorem pJ{kindOf:Str->Option NameKind}{x:Str}:∀{binds:List (Str×Value)}{m:Na},(∀v,(x,v)∉binds)->bindL kindOf binds m x=m x
 | [],_,_=>rfl
 |
  (n,v)::r,m,h=>by
  unfold bindL;rw[pJ λw hw=>h w (k_ _ hw)];split
  .have:x≠n:=by rintro rfl;exact h v l_
   simp [this]
  .rfl
theorem pQ{kindOf:Str->Option NameKind}{x:Str}:∀{binds:List (Str×Value)}{m:Na},(∀v,(x,v)∉binds)->bindC kindOf binds m x=m x
 | [],_,_=>rfl
 |
  (n,v)::r,m,h=>by
  unfold bindC;rw[pQ λw hw=>h w (k_ _ hw)];split
  .rfl
  .have:x≠n:=by rintro rfl;exact h v l_
   simp [this]
theorem pV{kindOf:Str->Option NameKind}{x:Str}{v:Value}:∀{P:List Str}{vs:List Value}{i:Nat}{m:Na},P.Nodup->P[i]?=some x->vs[i]?=some v->kindOf x=some .local->
 bindL kindOf (P.zip vs) m x=some v
 | [],_,_,_,_,h,_,_=>by simp at h
 |_::_,[],_,_,_,_,h,_=>by simp at h
 |
  p::P,w::vs,0,m,nd,h1,h2,hk=>by
  simp at h1 h2;subst h1;subst h2;show bindL kindOf ((p,w)::P.zip vs) m p=_;unfold bindL;rw[pJ λv hv=>(Lb.mp nd).1 (List.of_mem_zip hv).1,if_pos hk];simp
 |
  p::P,w::vs,i+1,m,nd,h1,h2,hk=>by
  show bindL kindOf ((p,w)::P.zip vs) m x=_;unfold bindL;exact pV (i:=i) (Lb.mp nd).2 (by simpa using h1) (by simpa using h2) hk
theorem qr{kindOf:Str->Option NameKind}{x:Str}{v:Value}:∀{P:List Str}{vs:List Value}{i:Nat}{m:Na},P.Nodup->P[i]?=some x->vs[i]?=some v->kindOf x≠some .local->
 bindC kindOf (P.zip vs) m x=some v
 | [],_,_,_,_,h,_,_=>by simp at h
 |_::_,[],_,_,_,_,h,_=>by simp at h
 |
  p::P,w::vs,0,m,nd,h1,h2,hk=>by
  simp at h1 h2;subst h1;subst h2;show bindC kindOf ((p,w)::P.zip vs) m p=_;unfold bindC;rw[pQ λv hv=>(Lb.mp nd).1 (List.of_mem_zip hv).1,if_neg hk];simp
 |
  p::P,w::vs,i+1,m,nd,h1,h2,hk=>by
  show bindC kindOf ((p,w)::P.zip vs) m x=_;unfold bindC;exact qr (i:=i) (Lb.mp nd).2 (by simpa using h1) (by simpa using h2) hk
noncomputable def gj (N:List Str) (vs:List V):St:=vs.map some++List.replicate (N.length-vs.length) none
noncomputable def eS (CX:CXT) (P:Program) (w:World) (K:W.Frag) (mg:Na) (base:Heap) (N:List Str) (qual:Str) (scope:Scope) (f:Addr) (cd:Value) (A:Around) (outer:List Env) (s:Shared) (H:Hp) (E:XK):Cx where
 prog:=P
 w:=w
 K:=K
 mg:=mg
 base:=base
 A:=A.deeper (envOfC qual scope s.heap.objs.size f cd)
 N:=N
 s₀:=s
 H₀:=H
 env:=envOfC qual scope s.heap.objs.size f cd
 outer:=outer
 stack:=envOfC qual scope s.heap.objs.size f cd::outer
 ex:=[]
 calm:=true
 fn:=λ_=>true
 pn:=[]
 xe:=λe s'=>wpAny (model P w) (A.deeper (envOfC qual scope s.heap.objs.size f cd)) (leaving (envOfC qual scope s.heap.objs.size f cd) e) (λ_ s''=>CX outer H s E e s'') (λe' s''=>CX outer H s E e' s'') s'
def sX{sc:Scope}{n:Nat}{x:Str}(h:sc.names.lookup x=some .cell):∃c,(cellsFrom n sc.names []).lookup x=some c:=by have q:=W.cellsFrom_some sc.names n [] (.inl h);exact Lc.mp q
def xU{CX:CXT}{P:Program}{w:World}{K:W.Frag}{mg:Na}{base:Heap}{N ps:List Str}{qual:Str}{scope:Scope}{f:Addr}{cd:Value}{A:Around}{outer:List Env}{s s1:Shared}{H:Hp}{E:XK}{us:List Value}{vs:List V}
 (S:FnScope N ps scope) (hd:A.handled=none) (e0:Env0 P w K mg base A outer s H) (hl:vs.length=ps.length) (r:Vals vs us)
 (x:InCallC s s.heap.objs.size (bindL (envOfC qual scope s.heap.objs.size f cd).kindOf (ps.zip us) λ_=>none) (cellsFrom (s.heap.objs.size+1) scope.names []) (bindC (envOfC qual scope s.heap.objs.size f cd).kindOf (ps.zip us) λ_=>none) s1):
 Inv (eS CX P w K mg base N qual scope f cd A outer s H E) [] (gj N vs) H s1:=by
 have hpl:ps.length<=N.length:=by have:=K3 List.length S.pre;rw[LB] at this;omega
 obtain⟨h1,tk,rfl,hk⟩:=x.done;have noA:∀b:Addr,b∉(eS CX P w K mg base N qual scope f cd A outer s H E).ex:=λb z=>absurd (show b∈([]:List Addr) from z) (by simp);refine⟨⟨e0.mod,S.kind,rfl,rfl,m_ _,λy z c h1 h2=>?_,λy hy=>?_,λy c _ h=>?_,λ_=>hd,Around.frames_deeper e0.frames,.inr ⟨rfl,rfl⟩,λb z=>absurd z (noA b),e0.bs,e0.bsz,λb _ _=>noA b,λb z=>absurd z (noA b),e0.funs,e0.frf⟩,
  rfl,e0.bare,Un.kept hk,⟨_,x.toInCall.ns,λi y v h1 h2 h3=>?_⟩,λy c h=>⟨_,x.cell y c h⟩,e0.hok.fresh (m_ _),λy c h=>?_,λp hp=>absurd (show p∈([]:Nb) from hp) (by simp),e0.hok.kept hk,?_⟩
 .exact name_of_addr x.apart (K6 h1) (K6 h2)
 .have hy:scope.names.lookup y=some .cell\/scope.names.lookup y=some .free:=hy;rcases hy with hy |hy
  .exact sX hy
  .exact absurd rfl (S.nofree _ (K6 hy))
 .exact Nat.le_of_lt (x.above y c (K6 h))
 .have hi:i<vs.length:=by
   unfold gj at h2;by_cases hi:i<vs.length
   .exact hi
   .rw[LY (by simpa using hi)] at h2;rw[K5] at h2;split at h2 <;> cases h2
  have ha:vs[i]?=some v:=by
   unfold gj at h2;rw[KJ (by simpa using hi),Kz] at h2;cases e:vs[i]? with
   |none=>rw[e] at h2;cases h2
   |some a=>rw[e] at h2;cases h2;rfl
  obtain⟨u,hu,rv⟩:=r.get ha;have hp:ps[i]?=some y:=by rw[<- S.pre,List.getElem?_take_of_lt (by omega)];exact h1
  have ndP:ps.Nodup:=by rw[<- S.pre];exact S.nd.sublist (List.take_sublist _ _)
  refine⟨u,rv,?_⟩;rcases S.par y (Ly hp) with k |k
  .exact .inl ⟨k,pV ndP hp hu k⟩
  .obtain⟨c,e⟩:=sX (n:=s.heap.objs.size+1) k;refine .inr ⟨.inl k,c,e,?_⟩;have q:=x.cell y c e;rw[qr ndP hp hu (by show scope.names.lookup y≠_;rw[k];decide)] at q;exact q
 .exact e0.hok.fresh (Nat.le_of_lt (x.above y c (K6 h)))
 .unfold gj;show _=N.length;rw[z_,j_,Lr];omega
def JY{CX:CXT}{P:Program}{w:World}{K:W.Frag}{mg:Na}{base:Heap}{k:Nat}{f:Addr}{name qual:Str}{params:Arguments}{body:List Stmt}{scope:Scope}{dV kV doc pm cdv ct oc:Value}{an od:Option Addr}
 {osl:Array (Option Value)}{N ps:List Str}{sp:Sp} (lk:K.lookup f=some ⟨oc,od,.func (W.fnOf name qual params body scope dV kV doc pm an cdv ct),osl⟩) (hcd:W.codeIn K cdv qual=true) (S:FnScope N ps scope)
 (len:∀vs H Q E,sp vs H Q E->vs.length=ps.length)
 (hbody:∀(A:Around) (outer:List Env) (s:Shared) (H:Hp) (vs:List V) (Q:VK) (E:XK),Room k (A.deeper (envOfC qual scope s.heap.objs.size f cdv))->sp vs H Q E->
  ∃t,PSs (eS CX P w K mg base N qual scope f cdv A outer s H E) body t/\t { nx:=λ_ H'=>Q .non H',rt:=Q } (gj N vs) H):
 FnOk P w K mg base CX (k+1) f (W.fnOf name qual params body scope dV kV doc pm an cdv ct) ps sp:=by
 refine⟨len,λA outer s H args us vs Q E hr e0 hb r hsp=>?_⟩;have hl:=len _ _ _ _ hsp;have KX:K.In s.heap:=e0.mod.kin.keeps λb o e=>(e0.bs b o e).1;have lim:s.heap.NoLimit:=e0.mod.nolimit.keeps λb o e=>(e0.bs b o e).1;have hkind:∀y∈ps.zip us,scope.names.lookup y.1=some .local\/(scope.names.lookup y.1=some .cell/\((cellsFrom (s.heap.objs.size+1) scope.names []).lookup y.1).isSome=true):=λ⟨n,v⟩ hy=>by
  rcases S.par n (List.of_mem_zip hy).1 with q |q
  .exact .inl q
  .exact .inr ⟨q,W.cellsFrom_some _ _ _ (.inl q)⟩
 refine codeAny_call_function hr.depth (KX _ _ lk) rfl S.co S.gen rfl (W.codeRec_of KX hcd) (hb _ _ _ _ ?_);refine wpAny_newFunctionEnv_cells S.kind hkind λenv he s1 x=>?_;subst he;refine⟨lim.keeps x.toInCall.keep,codeAny_func ?_⟩;obtain⟨t,ht,hq⟩:=hbody A outer s H vs Q E (hr.deeper _) hsp;have I:Inv (eS CX P w K mg base N qual scope f cdv A outer s H E) [] (gj N vs) H s1:=xU S hr.hd e0 hl r x;refine KL (ht [] s1 (gj N vs) H _ I hq) (λfl s' hs=>?_) λe s' hs=>hs;have d_:∀{σ':St}{H':Hp}{v:V}{u:Value},Inv (eS CX P w K mg base N qual scope f cdv A outer s H E) [] σ' H' s'->RelV v u->Q v H'->CE outer P w H s Q u s':=
  λ{σ' H' v u} J rv q=>⟨v,H',J.os,J.bare,J.base,J.hok,rv,q⟩
 cases fl with
 |ret u=>obtain⟨v,σ',H',J,rv,q⟩:=hs;exact d_ J rv q
 |next=>obtain⟨σ',H',J,q⟩:=hs;exact d_ (v:=V.non) (u:=Value.none) J rfl q
 |brk=>obtain⟨_,_,_,q⟩:=hs;exact False.elim q
 |cont=>obtain⟨_,_,_,q⟩:=hs;exact False.elim q
section
variable{X:Cx}{x:Str}{p pos:Pos}{e:Expr}{es:List Expr}{t:TA}{id T:String}{r:List V->Hp->VK->Prop}
def tCB(r:List V->Hp->VK->Prop)(t:TA):TE:=λσ H Q=>t σ H λvs H1=>r vs H1 Q
def Bh(hc:CallR X (.builtin id) r)(hg:Gl X x)(hm:X.mg x=none)(hv:bootBuiltins x=some (.builtin id))(ha:PA X (e::es) t)(hn:x ≠ "__name__")(hdb:(x==("__debug__" : Str))=false)
 (he:starEach (e::es) X.env=(false,eval e X.env)::starEach es X.env) (hpl:(backTo pos (starEach es X.env)).any (·.1)=false):PE X (.Call (.Name x p) (e::es) [] pos) (tCB r t):=by
 intro pins s σ H Q I h;refine LL (fC I hg hm hv ?_ hn hdb);exact PyProof.Rows.callWith_builtin1 (thn (ha pos pins s σ H _ I h) λus s1 zz=>exA zz λvs H1 I1 r1 q1=>hc pins s1 σ H1 vs us Q I1 r1 q1) he hpl
def zf(hc:CallR X (.type T) r)(hg:Gl X x)(hm:X.mg x=none)(hv:bootBuiltins x=some (.type T))(ha:PA X (e::es) t)(hn:x ≠ "__name__")(hdb:(x==("__debug__" : Str))=false)
 (he:starEach (e::es) X.env=(false,eval e X.env)::starEach es X.env) (hpl:(backTo pos (starEach es X.env)).any (·.1)=false):PE X (.Call (.Name x p) (e::es) [] pos) (tCB r t):=by
 intro pins s σ H Q I h;refine LL (fC I hg hm hv ?_ hn hdb);exact KR (thn (ha pos pins s σ H _ I h) λus s1 zz=>exA zz λvs H1 I1 r1 q1=>hc pins s1 σ H1 vs us Q I1 r1 q1) he hpl
end
end L2
namespace HT
open PySem PyProof.Rows
section
variable{prog:Program}{w:World}{A:Around}{E:Nc}{s:Shared}
def cat_tup(ht:IsTup s.heap t vs.toArray)(hb:IsTup s.heap b ws.toArray)(hv:vs≠[])
 (h1:ws=[]->Q (.ref t) s) (h2:ws≠[]->Q (.ref s.heap.objs.size) { s with heap:=s.heap.push { cls:=.type "tuple",data:=.seq (vs++ws).toArray } })
 (hsz:vs.length+ws.length<=sizeLine):wpAny (model prog w) A (binaryOp .Add (.ref t) (.ref b)) Q E s:=by
 obtain⟨⟨cls,dd,data,sl⟩,ho,hc,n,hd⟩:=id ht;obtain⟨⟨cls2,dd2,data2,sl2⟩,ho2,hc2,n2,hd2⟩:=id hb;simp only at hc hd hc2 hd2;subst hc hd hc2 hd2;have e:vs.toArray++ws.toArray=(vs++ws).toArray:=by simp
 by_cases hw:ws=[]
 .exact concat_meets ⟨_,ho,rfl⟩ ⟨_,ho2,rfl⟩ noFill_tuple_add seq_tuple_add Mi Mg (Mc _ _)
   (tuple_addW1 t b vs.toArray ws.toArray n n2 dd dd2 sl sl2 (by simpa using hv) (by simp [hw])) ⟨ho,ho2,h1 hw⟩
 .refine concat_meets ⟨_,ho,rfl⟩ ⟨_,ho2,rfl⟩ noFill_tuple_add seq_tuple_add Mi Mg (Mc _ _)
   (tuple_addW2 t b vs.toArray ws.toArray n n2 dd dd2 sl sl2 (by simpa using hv) (by simpa using hw) (by rw[y_,y_];exact hsz)) ⟨ho,ho2,?_⟩
  rw[e];exact h2 hw
noncomputable def sIx (n d:Nat):Option Int->Nat
 |none=>d
 |some v=>if v<0 then (v+(n:Int)).toNat else min v.toNat n
def sIx_none(n d:Nat):sIx n d none=d:=rfl
def sIx_nat(n d k:Nat):sIx n d (some (k:Int))=min k n:=by show (if (k:Int)<0 then ((k:Int)+(n:Int)).toNat else min (k:Int).toNat n)=min k n;rw[if_neg (by omega),LO]
def F6(n d:Nat)(hd:d<=n)(o:Option Int):sIx n d o<=n:=by
 cases o with
 |none=>exact hd
 |
  some v=>
  show (if v<0 then (v+(n:Int)).toNat else min v.toNat n)<=n;by_cases hv:v<0
  .rw[if_pos hv];omega
  .rw[if_neg hv];exact Nat.min_le_right _ _
def wa(v:Int)(n d:Nat):(if v<0 then max (v+(n:Int)) 0 else min v (n:Int))=((sIx n d (some v):Nat):Int):=by
 show (if v<0 then max (v+(n:Int)) 0 else min v (n:Int))=(((if v<0 then (v+(n:Int)).toNat else min v.toNat n):Nat):Int);by_cases hv:v<0
 .simp only[if_pos hv];omega
 .simp only[if_neg hv];omega
def wz(lo hi:Option Int)(n:Nat):Builtin.Slice.sliceAdjust lo hi 1 (n:Int)=(((sIx n 0 lo:Nat):Int),((sIx n n hi:Nat):Int)):=by
 have h1:¬ ((1:Int)<0):=by omega
 unfold Builtin.Slice.sliceAdjust;simp only[h1,Mp];refine Prod.ext ?_ ?_
 .cases lo with
  |none=>rfl
  |some v=>exact wa v n 0
 .cases hi with
  |none=>rfl
  |some v=>exact wa v n n
def xC(i j:Nat):Builtin.Slice.slicePlaces (i:Int) (j:Int) 1=j-i:=by
 unfold Builtin.Slice.slicePlaces;have h1:(1:Int)>0:=by omega
 simp only[h1,LH,Int.ediv_one];split <;> omega
def nu(p:IsPart v o)(h:Q o s):wpAny (model prog w) A (Builtin.Slice.slicePartIndex v) Q E s:=by
 cases p with
 |none=>exact MN h
 |int i t=>exact slicePart_int h
def ik{sl:Addr}{vl vu:Value}{lo hi:Option Int}{n:Nat}{Q:Int×Int×Nat->Shared->Prop}(hs:s.heap.IsSliceOf sl vl vu .none)(pl:IsPart vl lo)(pu:IsPart vu hi)
 (h:Q (((sIx n 0 lo:Nat):Int),1,sIx n n hi-sIx n 0 lo) s):wpAny (model prog w) A (Builtin.Slice.sliceApplied (.ref sl) (pure (n:Int))) Q E s:=by
 obtain⟨os,hos,hcs,hds⟩:=id hs;unfold Builtin.Slice.sliceApplied Builtin.Slice.sliceFields;refine i_ (i_ (KN hos hds (x:=vl) rfl (i_ (KN hos hds (x:=vu) rfl (i_ (KN hos hds (x:=.none) rfl (n_ ?_)))))));refine i_ (MN ?_);show wpAny _ _ (if ((1:Int)==0)=true then _ else _) _ _ s;rw[if_neg (by decide)];refine i_ (nu pl (i_ (nu pu (i_ (n_ ?_)))));show wpAny _ _ (match Builtin.Slice.sliceAdjust lo hi 1 (n:Int) with |(lo,hi)=>pure (lo,(1:Int),Builtin.Slice.slicePlaces lo hi 1)) _ _ s;rw[wz lo hi n];show wpAny _ _ (pure (((sIx n 0 lo:Nat):Int),(1:Int),Builtin.Slice.slicePlaces ((sIx n 0 lo:Nat):Int) ((sIx n n hi:Nat):Int) 1)) _ _ s;rw[xC];exact n_ h
def A4(xs:Array Value)(i k:Nat):((List.range k).filterMap λ(m:Nat)=>xs[((i:Int)+(m:Int)*1).toNat]?).toArray=((xs.toList.drop i).take k).toArray:=by
 have e:(λ(m:Nat)=>xs[((i:Int)+(m:Int)*1).toNat]?)=λm=>xs[i+m]?:=by
  funext m;have:((i:Int)+(m:Int)*1).toNat=i+m:=by omega
  rw[this]
 rw[e]
 have:=pick_run xs i k
 rw[List.filterMap_map] at this;have e2:((λx=>xs[x]?) ∘ λx=>i+x)=λm=>xs[i+m]?:=rfl;rw[e2] at this;rw[this]
def getItem_tuple_cut{t sl:Addr}{items:Array Value}{vl vu:Value}{lo hi:Option Int}{Q:Nc}(ht:IsTup s.heap t items)(hs:s.heap.IsSliceOf sl vl vu .none)(pl:IsPart vl lo)(pu:IsPart vu hi)
 (hw:¬ (sIx items.size 0 lo=0/\sIx items.size items.size hi=items.size))
 (h:Q (.ref s.heap.objs.size) { s with heap:=s.heap.push { cls:=.type "tuple",data:=.seq ((items.toList.drop (sIx items.size 0 lo)).take (sIx items.size items.size hi-sIx items.size 0 lo)).toArray } })
 (hsz:items.size<=sizeLine):wpAny (model prog w) A (getItem (.ref t) (.ref sl)) Q E s:=by
 have htake:sizeOk (.seq ((items.toList.drop (sIx items.size 0 lo)).take (sIx items.size items.size hi-sIx items.size 0 lo)).toArray):=by show ((items.toList.drop (sIx items.size 0 lo)).take (sIx items.size items.size hi-sIx items.size 0 lo)).toArray.size<=sizeLine;rw[y_,LB,LW,LZ];omega
 have hj:sIx items.size items.size hi<=items.size:=F6 _ _ (m_ _) hi;obtain⟨os,hos,hcs,hds⟩:=id hs;have hTs:s.TypeIs (.ref sl) "slice":=⟨os,hos,hcs⟩;unfold getItem;try with_reducible refine Lh ?_
 first |refine i_ (n_ ?_) |skip
 refine i_ (wpAny_sequenceKey ht.typeIs (by decide) ?_);refine i_ (KW (name:=Str.ofString "__getitem__") ht.typeIs KS
  (Ll KS ht.typeIs ML ?_ (args_tuple_getitem _ _)))
 show wpAny _ _ (Builtin.Tuple.tupleItemsOf (.ref t) >>= _) _ _ s;refine i_ (tupleItemsOf_ ht ?_);refine i_ (wpAny_typeOf hTs ?_);rw[if_pos (by decide)];refine i_ (ik hs pl pu ?_);have hno:¬ ((((sIx items.size 0 lo:Nat):Int)==0&&(1:Int)==1&&(sIx items.size items.size hi-sIx items.size 0 lo)==items.size)=true):=by intro q;rw[p_,p_] at q;have q1:((sIx items.size 0 lo:Nat):Int)=0:=MQ q.1.1;have q2:sIx items.size items.size hi-sIx items.size 0 lo=items.size:=MQ q.2;exact hw ⟨by omega,by omega⟩
 show wpAny _ _ (if (((sIx items.size 0 lo:Nat):Int)==0&&(1:Int)==1&&(sIx items.size items.size hi-sIx items.size 0 lo)==items.size)=true then _ else _) _ _ s;rw[if_neg hno,A4];first
  |exact i_ (m:=Builtin.Tuple.tupleExact _) (KI (n_ ⟨_,rfl,n_ h⟩) htake)
  |exact i_ (m:=Builtin.Tuple.tupleExact _) (KI (i_ (n_ (n_ ⟨_,rfl,n_ h⟩))) htake)
  |exact i_ (i_ (m:=Builtin.Tuple.tupleExact _) (KI (n_ (n_ ⟨_,rfl,n_ h⟩)) htake))
  |exact i_ (i_ (m:=Builtin.Tuple.tupleExact _) (KI (n_ ⟨_,rfl,n_ h⟩) htake))
end
end HT
namespace L2
open PySem PySem.Spec PyProof.Rows
abbrev TO:=St->Hp->(Option Int->Hp->Prop)->Prop
def PO(X:Cx)(e:Option Expr)(t:TO):Prop:=
 ∀
  (pins:Nb) (s:Shared) (σ:St) (H:Hp) (Q:Option Int->Hp->Prop),Inv X pins σ H s->t σ H Q->
  wpAny (model X.prog X.w) X.A (evalPart e X.env) (λu s'=>∃o H',Inv X pins σ H' s'/\IsPart u o/\Q o H') X.xe s
def Dw:TO:=λ_ H Q=>Q none H
def JZ(t:TE):TO:=λσ H Q=>t σ H λx H1=>∃i,x=.int i/\Q (some i) H1
section
variable{X:Cx}{e:Expr}{te:TE}{lo hi:Option Expr}{tl th:TO}{pos p2:Pos}
def EA:PO X none Dw:=by intro pins s σ H Q I h;rw[evalPart_none];exact n_ ⟨none,H,I,.none,h⟩
def Du(h:PE X e te):PO X (some e) (JZ te):=by intro pins s σ H Q I hw;rw[evalPart_some];refine thn (h pins s σ H _ I hw) λu s1 zz=>exA zz λx H1 I1 r1 q1=>?_;obtain⟨i,rfl,q⟩:=q1;obtain⟨t,rfl⟩:=r1;exact⟨some i,H1,I1,.int i t,q⟩
def SlR(X:Cx)(r:V->Option Int->Option Int->Hp->VK->Prop):Prop:=
 ∀
  (pins:Nb) (s:Shared) (σ:St) (H:Hp) (x:V) (v vl vu:Value) (lo hi:Option Int) (sl:Addr) (Q:VK),Inv X pins σ H s->RelV x v->s.heap.IsSliceOf sl vl vu .none->IsPart vl lo->IsPart vu hi->r x lo hi H Q->
  ∃T id,typeLookup (.type T) "__getitem__"=pure (some (.builtin id))/\s.TypeIs v T/\wpAny (model X.prog X.w) X.A (getItem v (.ref sl)) (EP X pins σ Q) X.xe s
def SlR.or(h:SlR X r)(h':SlR X r'):SlR X (λx lo hi H Q=>r x lo hi H Q\/r' x lo hi H Q):=by
 intro pins s σ H x v vl vu lo hi sl Q I rx hs pl pu q;rcases q with q |q
 .exact h pins s σ H x v vl vu lo hi sl Q I rx hs pl pu q
 .exact h' pins s σ H x v vl vu lo hi sl Q I rx hs pl pu q
def tSl(r:V->Option Int->Option Int->Hp->VK->Prop)(te:TE)(tl th:TO):TE:=λσ H Q=>te σ H λx H1=>tl σ H1 λl H2=>th σ H2 λu H3=>r x l u H3 Q
def BU(hr:SlR X r)(he:PE X e te)(hl:PO X lo tl)(hu:PO X hi th):PE X (.Subscript e (.Slice lo hi none p2) pos) (tSl r te tl th):=by intro pins s σ H Q I h;refine Subscript_ (thn (he pins s σ H _ I h) λv s1 zz=>exA zz λx H1 I1 r1 q1=>?_);refine wpAny_Slice (thn (hl pins s1 σ H1 _ I1 q1) λvl s2 ⟨l,H2,I2,pl,q2⟩=>thn (hu pins s2 σ H2 _ I2 q2) λvu s3 ⟨u,H3,I3,pu,q3⟩=>?_);rw[evalPart_none];refine n_ ?_;have I4:Inv X pins σ H3 { s3 with heap:=s3.heap.push { cls:=.type "slice",data:=.fields #[vl,vu,.none] } }:=I3.kept (t':=s3.toks) λb ob q=>q_ _ q;obtain⟨T,id,hT,ht,hg⟩:=hr pins { s3 with heap:=s3.heap.push { cls:=.type "slice",data:=.fields #[vl,vu,.none] } } σ H3 x v vl vu l u s3.heap.objs.size Q I4 r1 (Heap.IsSliceOf.new ..) pl pu q3;show wpAny (model X.prog X.w) X.A (subscriptTail e (.Slice lo hi none p2) v (.ref s3.heap.objs.size)) (EP X pins σ Q) X.xe { s3 with heap:=s3.heap.push { cls:=.type "slice",data:=.fields #[vl,vu,.none] } };exact tail_any (ops:=[.ref s3.heap.objs.size,v]) ht hT hg (by with_unfolding_all rfl)
noncomputable def kA (xs:List V) (lo hi:Option Int):List V:=(xs.drop (HT.sIx xs.length 0 lo)).take (HT.sIx xs.length xs.length hi-HT.sIx xs.length 0 lo)
def lU(xs:List V)(lo hi:Option Int):(kA xs lo hi).length<=xs.length:=by unfold kA;rw[LB,LW];omega
def w9(K:W.Frag):V->Option Int->Option Int->Hp->VK->Prop:=λx lo hi H Q=>∃a xs,x=.ref a/\SqT K H a xs/\
 ¬ (HT.sIx xs.length 0 lo=0/\HT.sIx xs.length xs.length hi=xs.length)/\∀p,H p=none->Q (.ref p) (upd H p (.tup (kA xs lo hi)))
def FR:SlR X (w9 X.K):=by
 intro pins s σ H x v vl vu lo hi sl Q I rx hs pl pu h;obtain⟨a,xs,rfl,hx,hw,q⟩:=h;cases rx;obtain⟨its,r,ht,hz⟩:=I.tuple hx;have b_:its.toArray.size=xs.length:=by rw[y_];exact r.length.symm
 refine⟨"tuple",_,PyProof.Rows.slot_tuple_getitem.lookup,ht.typeIs,?_⟩;refine HT.getItem_tuple_cut ht hs pl pu (by rw[b_];exact hw) ?_ (by rw[b_];exact hz);rw[b_];refine⟨.ref s.heap.objs.size,_,I.laid (t':=s.toks) (o:=.tup (kA xs lo hi)) (λb ob q=>q_ _ q) (m_ _) ?_,rfl,q _ (I.hok.fresh (m_ _))⟩;exact⟨F_ (lU xs lo hi) hz,_,(r.drop (HT.sIx xs.length 0 lo)).take (HT.sIx xs.length xs.length hi-HT.sIx xs.length 0 lo),IsTup.new _ _⟩
def nR(K:W.Frag):R2:=λx y H Q=>∃a b xs ys,x=.ref a/\y=.ref b/\SqT K H a xs/\SqT K H b ys/\xs≠[]/\xs.length+ys.length<=sizeLine/\
 (ys=[]->Q (.ref a) H)/\(ys≠[]->∀p,H p=none->Q (.ref p) (upd H p (.tup (xs++ys))))
def Vals.nil_iff(r:Vals xs us):us=[] ↔ xs=[]:=by
 cases r with
 |nil=>simp
 |cons _ _=>simp
def Dp:OpR X (binaryOp .Add) (nR X.K):=by intro pins s σ H x y v u Q I rx ry h;obtain⟨a,b,xs,ys,rfl,rfl,ha,hb,hx,hz,q1,q2⟩:=h;cases rx;cases ry;obtain⟨its,r1,p1,_⟩:=I.tuple ha;obtain⟨its2,r2,p2,_⟩:=I.tuple hb;refine HT.cat_tup p1 p2 (λz=>hx (r1.nil_iff.mp z)) (λz=>⟨.ref a,H,I,rfl,q1 (r2.nil_iff.mp z)⟩) (λz=>?_) (by rw[<- r1.length,<- r2.length];exact hz);refine⟨.ref s.heap.objs.size,_,I.laid (t':=s.toks) (o:=.tup (xs++ys)) (λb ob q=>q_ _ q) (m_ _) ?_,rfl,q2 (λw=>z (r2.nil_iff.mpr w)) _ (I.hok.fresh (m_ _))⟩;exact⟨by rw[z_];exact hz,_,r1.append r2,IsTup.new _ _⟩
end
noncomputable def ixN (n:Nat) (i:Int):Option Nat:=if 0<=i then (if i<n then some i.toNat else none) else if -(n:Int)<=i then some (i+n).toNat else none
noncomputable def atI {α:Type} (xs:List α) (i:Int):Option α:=(ixN xs.length i).bind λj=>xs[j]?
def EI(h:ixN n i=some j):seqIndex? i n=some j/\j<n/\-(n:Int)<=i/\i<n:=by
 unfold ixN at h;by_cases h0:0<=i
 .rw[if_pos h0] at h;by_cases h1:i<n
  .rw[if_pos h1] at h;have e:i.toNat=j:=E_ h;exact⟨by rw[seqIndex_of h0 h1,e],by omega,by omega,h1⟩
  .rw[if_neg h1] at h;cases h
 .rw[if_neg h0] at h;by_cases h1:-(n:Int)<=i
  .rw[if_pos h1] at h;have e:(i+n).toNat=j:=E_ h;exact⟨by rw[seqIndex_neg (by omega) h1,e],by omega,h1,by omega⟩
  .rw[if_neg h1] at h;cases h
def vO(h:atI xs i=some v):∃j,seqIndex? i xs.length=some j/\xs[j]?=some v/\j<xs.length/\-(xs.length:Int)<=i/\i<xs.length:=by
 unfold atI at h;cases e:ixN xs.length i with
 |none=>rw[e] at h;cases h
 |some j=>rw[e] at h;obtain⟨h1,h2,h3,h4⟩:=EI e;exact⟨j,h1,h,h2,h3,h4⟩
def vk(b:Expr):Prop:=∀o i,subscripted b false o i=operate [o,i] (getItem o i)
def IxR(X:Cx)(r:R2):Prop:=
 ∀
  (value slice:Expr) (pins:Nb) (s:Shared) (σ:St) (H:Hp) (x y:V) (v u:Value) (Q:VK),Inv X pins σ H s->RelV x v->RelV y u->r x y H Q->
  subscripted slice false v u=operate [v,u] (getItem v u)->wpAny (model X.prog X.w) X.A (subscriptTail value slice v u) (EP X pins σ Q) X.xe s
def MtR(X:Cx)(id:String)(r:V->List V->Hp->VK->Prop):Prop:=
 ∀
  (pins:Nb) (s:Shared) (σ:St) (H:Hp) (x:V) (xs:List V) (v:Value) (us:List Value) (Q:VK),Inv X pins σ H s->RelV x v->Vals xs us->r x xs H Q->
  wpAny (model X.prog X.w) X.A (call (.builtin id) (v::us)) (EP X pins σ Q) X.xe s
section
variable{X:Cx}{a b:Expr}{ta tb:TE}{pos:Pos}
def IxR.or(h:IxR X r)(h':IxR X r'):IxR X (λx y H Q=>r x y H Q\/r' x y H Q):=by
 intro value slice pins s σ H x y v u Q I rx ry q hs;rcases q with q |q
 .exact h value slice pins s σ H x y v u Q I rx ry q hs
 .exact h' value slice pins s σ H x y v u Q I rx ry q hs
def Jz(hr:IxR X r)(ha:PE X a ta)(hb:PE X b tb)(hs:vk b):PE X (.Subscript a b pos) (tOp r ta tb):=by intro pins s σ H Q I h;exact Subscript_ (Ap ha hb I h λv u s2 x y H2 I2 rx ry q=>hr a b pins s2 σ H2 x y v u Q I2 rx ry q (hs _ _))
def BD(K:W.Frag):R2:=λx y H Q=>∃p xs i v,x=.ref p/\y=.int i/\SqL K H p xs/\atI xs i=some v/\Q v H
def AO(K:W.Frag):R2:=λx y H Q=>∃p xs i v,x=.ref p/\y=.int i/\SqT K H p xs/\atI xs i=some v/\Q v H
def CV:IxR X (BD X.K):=by
 intro value slice pins s σ H x y v u Q I rx ry h hs;obtain⟨p,xs,i,z,rfl,rfl,hq,he,q⟩:=h;cases rx;obtain⟨t,rfl⟩:=ry;obtain⟨its,r,pl,hz⟩:=I.list hq;obtain⟨j,h1,h2,h3,h4,h5⟩:=vO he;obtain⟨w,ew,rw'⟩:=r.get h2;have hl:=r.length;have hn:=nL;have d_:EP X pins σ Q w s:=⟨z,H,I,rw',q⟩;by_cases h0:0<=i
 .have hj:i.toNat=j:=by rw[seqIndex_of h0 h5] at h1;exact E_ h1
  exact item_listR pl.isList h0 (by omega) (by rw[hj];simpa using ew) d_ hs
 .have hj:(i+(its.toArray.size:Int)).toNat=j:=by rw[seqIndex_neg (by omega) h4] at h1;rw[y_,<- hl];exact E_ h1
  exact Mj (x:=w) pl.isList.typeIs slot_list_getitem.lookup
   (wpAny_getItem_list_neg (Q:=λr s'=>r=w/\EP X pins σ Q r s') pl.isList (by omega) (by rw[y_] <;> omega) (by omega) (by rw[hj];simpa using ew) ⟨rfl,d_⟩) hs
def Hv:IxR X (AO X.K):=by
 intro value slice pins s σ H x y v u Q I rx ry h hs;obtain⟨p,xs,i,z,rfl,rfl,hq,he,q⟩:=h;cases rx;obtain⟨t,rfl⟩:=ry;obtain⟨its,r,pl,hz⟩:=I.tuple hq;obtain⟨j,h1,h2,h3,h4,h5⟩:=vO he;obtain⟨w,ew,rw'⟩:=r.get h2;have hl:=r.length;have hn:=nL;have d_:EP X pins σ Q w s:=⟨z,H,I,rw',q⟩;exact Mj (x:=w) pl.typeIs slot_tuple_getitem.lookup
  (getItem_tuple (j:=j) (Q:=λr s'=>r=w/\EP X pins σ Q r s') pl (by omega) (by omega) (by rw[y_,<- hl];exact h1) (by simpa using ew) ⟨rfl,d_⟩) hs
def tO(lo hi:Option Int)(n:Nat):(sliceBounds lo hi none n).1=((HT.sIx n 0 lo:Nat):Int)/\(sliceBounds lo hi none n).2.1=((HT.sIx n n hi:Nat):Int)/\(sliceBounds lo hi none n).2.2=1:=by
 refine⟨?_,?_,rfl⟩
 .cases lo with
  |none=>simp [sliceBounds,HT.sIx]
  |
   some i=>
   simp only[sliceBounds,HT.sIx,Mn,show (1:Int)>0 by decide,LH];by_cases h:i<0
   .simp only[h,LH] <;> omega
   .simp only[h,Mp] <;> omega
 .cases hi with
  |none=>simp [sliceBounds,HT.sIx]
  |
   some i=>
   simp only[sliceBounds,HT.sIx,Mn,show (1:Int)>0 by decide,LH];by_cases h:i<0
   .simp only[h,LH] <;> omega
   .simp only[h,Mp] <;> omega
def qR(its:List Value)(lo hi:Option Int):slicePick its.toArray lo hi none=((its.drop (HT.sIx its.length 0 lo)).take (HT.sIx its.length its.length hi-HT.sIx its.length 0 lo)).toArray:=by obtain⟨h1,h2,h3⟩:=tO lo hi its.toArray.size;unfold slicePick;rw[h1,h2,h3];simp only[sliceRange_one,pick_run,y_] <;> rfl
def xq(K:W.Frag):V->Option Int->Option Int->Hp->VK->Prop:=λx lo hi H Q=>∃a xs,x=.ref a/\SqL K H a xs/\∀p,H p=none->Q (.ref p) (upd H p (.lst (kA xs lo hi)))
def D4:SlR X (xq X.K):=by intro pins s σ H x v vl vu lo hi sl Q I rx hs pl pu h;obtain⟨a,xs,rfl,hx,q⟩:=h;cases rx;obtain⟨its,r,ht,hz⟩:=I.list hx;have b_:=r.length;refine⟨"list",_,slot_list_getitem.lookup,ht.isList.typeIs,?_⟩;refine wpAny_getItem_list_slice ht.isList hs pl pu .none (by simp) ?_ (by rw[y_] <;> omega);rw[qR,<- b_];refine⟨.ref s.heap.objs.size,_,I.laid (t':=s.toks) (o:=.lst (kA xs lo hi)) (λb ob q=>q_ _ q) (m_ _) ?_,rfl,q _ (I.hok.fresh (m_ _))⟩;exact⟨F_ (lU xs lo hi) hz,_,0,(r.drop (HT.sIx xs.length 0 lo)).take (HT.sIx xs.length xs.length hi-HT.sIx xs.length 0 lo),A_ _ rfl⟩
noncomputable def flatV:V->Bool
 |.non=>true
 |.bl _=>true
 |.int _=>true
 |.str _=>true
 |_=>false
noncomputable def eqV:V->V->Bool
 |.non,.non=>true
 |.bl a,.bl b=>a==b
 |.bl a,.int b=>(if a then 1 else 0)==b
 |.int a,.bl b=>a==(if b then 1 else 0)
 |.int a,.int b=>a==b
 |.str a,.str b=>a==b
 |_,_=>false
def Ga(ry:RelV y u)(rx:RelV x v)(fy:flatV y=true)(fx:flatV x=true):SeqAt.EqAt A s u v (eqV y x):=by
 cases y with
 |
  non=>
  cases ry;cases x with
  |non=>cases rx;exact SeqAt.EqAt.same _
  |bl b=>cases rx;exact SeqAt.EqAt.none_bool b
  |int b=>obtain⟨t,rfl⟩:=rx;exact SeqAt.EqAt.none_int b t
  |str b=>obtain⟨t,rfl⟩:=rx;exact SeqAt.EqAt.none_str b t
  |_=>exact absurd (show false=true from fx) h_
 |
  bl a=>
  cases ry;cases x with
  |non=>cases rx;exact SeqAt.EqAt.bool_none a
  |bl b=>cases rx;exact SeqAt.EqAt.bool_bool a b
  |int b=>obtain⟨t,rfl⟩:=rx;exact SeqAt.EqAt.bool_int a b t
  |str b=>obtain⟨t,rfl⟩:=rx;exact SeqAt.EqAt.bool_str a b t
  |_=>exact absurd (show false=true from fx) h_
 |
  int a=>
  obtain⟨t',rfl⟩:=ry;cases x with
  |non=>cases rx;exact SeqAt.EqAt.int_none a t'
  |bl b=>cases rx;exact SeqAt.EqAt.int_bool a t' b
  |int b=>obtain⟨t,rfl⟩:=rx;exact SeqAt.EqAt.int_int a t' b t
  |str b=>obtain⟨t,rfl⟩:=rx;exact SeqAt.EqAt.int_str a t' b t
  |_=>exact absurd (show false=true from fx) h_
 |
  str a=>
  obtain⟨t',rfl⟩:=ry;cases x with
  |non=>cases rx;exact SeqAt.EqAt.str_none a t'
  |bl b=>cases rx;exact SeqAt.EqAt.str_bool a t' b
  |int b=>obtain⟨t,rfl⟩:=rx;exact SeqAt.EqAt.str_int a t' b t
  |str b=>obtain⟨t,rfl⟩:=rx;exact SeqAt.EqAt.str_str a t' b t
  |_=>exact absurd (show false=true from fx) h_
 |_=>exact absurd (show false=true from fy) h_
noncomputable def eqU (x:V) (u:Value):Bool:=match u with
 |.none=>eqV .non x
 |.bool b=>eqV (.bl b) x
 |.int i _=>eqV (.int i) x
 |.str z _=>eqV (.str z) x
 |_=>false
def zL(r:RelV y u)(f:flatV y=true):eqU x u=eqV y x:=by
 cases y with
 |non=>cases r;rfl
 |bl b=>cases r;rfl
 |int i=>obtain⟨t,rfl⟩:=r;rfl
 |str z=>obtain⟨t,rfl⟩:=r;rfl
 |_=>exact absurd (show false=true from f) h_
theorem jq:∀{xs:List V}{us:List Value},Vals xs us->xs.all flatV=true->us.any (eqU x)=xs.any λy=>eqV y x
 |_,_,.nil,_=>rfl
 |
  y::xs,u::us,.cons r t,f=>by
  rw[LG,p_] at f;rw[K7,K7,zL r f.1,jq t f.2]
theorem gT(rx:RelV x v)(fx:flatV x=true):∀{xs:List V}{us:List Value},Vals xs us->xs.all flatV=true->∀u∈us,SeqAt.EqAt A s u v (eqU x u)
 |_,_,.nil,_=>λu hu=>by cases hu
 |
  y::xs,u::us,.cons r t,f=>λu' hu=>by
  rw[LG,p_] at f;rcases C_.mp hu with rfl |hu
  .rw[zL r f.1];exact Ga r rx f.1 fx
  .exact gT rx fx t f.2 u' hu
noncomputable def inV (x:V) (xs:List V):Bool:=xs.any λy=>eqV y x
def rIn(K:W.Frag)(neg:Bool):R2:=λx y H Q=>∃p xs,y=.ref p/\(SqL K H p xs\/SqT K H p xs)/\flatV x=true/\xs.all flatV=true/\Q (.bl (if neg then !inV x xs else inV x xs)) H
def xP:OpR X (compareOp .In) (rIn X.K false):=by
 intro pins s σ H x y v u Q I rx ry h;obtain⟨p,xs,rfl,hq,fx,fs,q⟩:=h;cases ry;rcases hq with hq |hq
 .obtain⟨its,r,pl,hz⟩:=I.list hq;refine SeqAt.in_listAt (eqU x) pl.isList (λw hw=>gT rx fx r fs w (by simpa using hw)) ⟨.bl _,H,I,rfl,?_⟩;rw[show its.toArray.any (eqU x)=its.any (eqU x) by simp,jq r fs];exact q
 .obtain⟨its,r,pl,hz⟩:=I.tuple hq;refine SeqAt.in_tupleAt (eqU x) pl (λw hw=>gT rx fx r fs w (by simpa using hw)) ⟨.bl _,H,I,rfl,?_⟩;rw[show its.toArray.any (eqU x)=its.any (eqU x) by simp,jq r fs];exact q
def sU:OpR X (compareOp .NotIn) (rIn X.K true):=by
 intro pins s σ H x y v u Q I rx ry h;obtain⟨p,xs,rfl,hq,fx,fs,q⟩:=h;cases ry;rcases hq with hq |hq
 .obtain⟨its,r,pl,hz⟩:=I.list hq;refine SeqAt.notIn_listAt (eqU x) pl.isList (λw hw=>gT rx fx r fs w (by simpa using hw)) ⟨.bl _,H,I,rfl,?_⟩;rw[show its.toArray.any (eqU x)=its.any (eqU x) by simp,jq r fs];exact q
 .obtain⟨its,r,pl,hz⟩:=I.tuple hq;refine SeqAt.notIn_tupleAt (eqU x) pl (λw hw=>gT rx fx r fs w (by simpa using hw)) ⟨.bl _,H,I,rfl,?_⟩;rw[show its.toArray.any (eqU x)=its.any (eqU x) by simp,jq r fs];exact q
def tE:CallR X (.builtin "len") (λxs H Q=>∃p ys,xs=[.ref p]/\(SqL X.K H p ys\/SqT X.K H p ys)/\Q (.int ys.length) H):=by
 intro pins s σ H xs us Q I r h;obtain⟨p,ys,rfl,hq,q⟩:=h;obtain⟨u,rfl,rx⟩:=iK r;cases rx;have hn:=nL;rcases hq with hq |hq
 .obtain⟨its,r',pl,hz⟩:=I.list hq;have b_:=r'.length;exact Calls.call_len_list pl.isList (by simp only[y_] <;> omega) ⟨.int ys.length,H,I.tok _,⟨s.toks+1,by rw[y_,b_]⟩,q⟩
 .obtain⟨its,r',pl,hz⟩:=I.tuple hq;have b_:=r'.length;exact len_tuple pl (by simp only[y_] <;> omega) ⟨.int ys.length,H,I.tok _,⟨s.toks+1,by rw[y_,b_]⟩,q⟩
def uf:CallR X (.builtin "len") (λxs H Q=>∃z,xs=[.str z]/\z.length<=sizeLine/\Q (.int z.length) H):=by intro pins s σ H xs us Q I r h;obtain⟨z,rfl,hz,q⟩:=h;obtain⟨u,rfl,t,rfl⟩:=iK r;have hn:=nL;exact len_str (by omega) ⟨.int z.length,H,I.tok _,⟨_,rfl⟩,q⟩
def CallR.or(h:CallR X f r)(h':CallR X f r'):CallR X f (λxs H Q=>r xs H Q\/r' xs H Q):=by
 intro pins s σ H xs us Q I rs q;rcases q with q |q
 .exact h pins s σ H xs us Q I rs q
 .exact h' pins s σ H xs us Q I rs q
def sY:CallR X (.type "list") (λxs H Q=>∃p ys,xs=[.ref p]/\(SqL X.K H p ys\/SqT X.K H p ys)/\∀l,H l=none->Q (.ref l) (upd H l (.lst ys))):=by
 intro pins s σ H xs us Q I r h;obtain⟨p,ys,rfl,hq,q⟩:=h;obtain⟨u,rfl,rx⟩:=iK r;cases rx;have d_:∀(its:List Value),Vals ys its->ys.length<=sizeLine->∀(h':Heap) (c':Nat),(∀b o',s.heap.get? b=some o'->h'.get? b=some o')->
  h'.get? s.heap.objs.size=some { cls:=.type "list",dict:=none,data:=.seq its.toArray c',slots:=#[] }->EP X pins σ Q (.ref s.heap.objs.size) { s with heap:=h' }:=λits r' hz h' c' kp e=>
  ⟨.ref s.heap.objs.size,_,I.laid (t':=s.toks) kp (m_ _) (show ObjOk X.prog X.w _ h' _ (.lst ys) from ⟨hz,its,c',r',e⟩),rfl,q _ (I.hok.fresh (m_ _))⟩
 rcases hq with hq |hq
 .obtain⟨its,r',pl,hz⟩:=I.list hq;have b_:=r'.length;obtain⟨o,ho,hc,n,hd⟩:=pl.isList;exact call_list_seq p (.inl rfl) ho hc hd (λh' c' kp e=>d_ its r' hz h' c' kp e) (by simp only[y_] <;> omega)
 .obtain⟨its,r',pl,hz⟩:=I.tuple hq;have b_:=r'.length;obtain⟨o,ho,hc,n,hd⟩:=pl;exact call_list_seq p (.inr rfl) ho hc hd (λh' c' kp e=>d_ its r' hz h' c' kp e) (by simp only[y_] <;> omega)
def qU:CallR X (.type "tuple") (λxs H Q=>∃p ys,xs=[.ref p]/\((SqL X.K H p ys/\∀l,H l=none->Q (.ref l) (upd H l (.tup ys)))\/(SqT X.K H p ys/\Q (.ref p) H))):=by
 intro pins s σ H xs us Q I r h;obtain⟨p,ys,rfl,h⟩:=h;obtain⟨u,rfl,rx⟩:=iK r;cases rx;rcases h with ⟨hq,q⟩ |⟨hq,q⟩
 .obtain⟨its,r',pl,hz⟩:=I.list hq;have b_:=r'.length;refine call_tuple_list pl.isList (λh' kp=>?_) (by simp only[y_] <;> omega);have I1:Inv X pins σ H { s with heap:=h' }:=I.kept (t':=s.toks) kp;have I2:Inv X pins σ (upd H h'.objs.size (.tup ys)) { s with heap:=h'.push { cls:=.type "tuple",data:=.seq its.toArray } }:=
   I1.laid (t':=s.toks) (λb o e=>q_ _ e) (m_ _) (show ObjOk X.prog X.w _ _ _ (.tup ys) from ⟨hz,its,r',IsTup.new _ _⟩)
  exact⟨.ref h'.objs.size,_,I2,rfl,q _ (I1.hok.fresh (m_ _))⟩
 .obtain⟨its,r',pl,hz⟩:=I.tuple hq;exact call_tuple_same pl ⟨.ref p,H,I,rfl,q⟩
def tyV(K:W.Frag)(T:String)(x:V)(H:Hp):Prop:=match x with
 |.str _=>T="str"
 |.int _=>T="int"
 |.ref p=>(T="list" /\ ∃xs,SqL K H p xs)\/(T="tuple" /\ ∃o,K.lookup p=some o/\o.cls=.type "tuple" /\ o.dict=none)\/
  (T="dict" /\ ((∃kvs,H p=some (.dK kvs))\/∃kvs,H p=some (.dT kvs)))\/(T="set" /\ ∃S n,H p=some (.set S n))
 |_=>False
def HY(I:Inv X pins σ H s)(r:RelV x v)(ty:tyV X.K T x H):
 s.TypeIs v T/\∀a,v=.ref a->∃ob,s.heap.get? a=some ob/\ob.dict=none:=by
 cases x with
 |str z=>obtain⟨t,rfl⟩:=r;cases (show T="str" from ty);exact⟨typeIs_str s z t,λ_ e=>nomatch e⟩
 |int i=>obtain⟨t,rfl⟩:=r;cases (show T="int" from ty);exact⟨typeIs_int s i t,λ_ e=>nomatch e⟩
 |
  ref p=>
  cases r;rcases ty with ⟨rfl,xs,hq⟩ |⟨rfl,o,hk,hc,hd⟩ |⟨rfl,hk⟩ |⟨rfl,S,n,hk⟩
  .obtain⟨its,_,pl,_⟩:=I.list hq;refine⟨pl.isList.typeIs,λa e=>?_⟩;cases e;obtain⟨o,n,e,c,hd,_⟩:=pl;exact⟨o,e,hd⟩
  .refine⟨⟨o,I.kIn p o hk,hc⟩,λa e=>?_⟩;cases e;exact⟨o,I.kIn _ o hk,hd⟩
  .have z:∃o,s.heap.get? p=some o/\o.ExactDict:=by
    rcases hk with ⟨kvs,hk⟩ |⟨kvs,hk⟩
    .obtain⟨_,_,_,_,o,_,_,e,ex,_⟩:=I.hok p _ hk;exact⟨o,e,ex⟩
    .obtain⟨_,_,_,_,o,_,_,e,ex,_⟩:=I.hok p _ hk;exact⟨o,e,ex⟩
   obtain⟨o,e,ex⟩:=z;refine⟨⟨o,e,ex.1⟩,λa e2=>?_⟩;cases e2;exact⟨o,e,ex.2.1⟩
  .obtain⟨o,_,_,_,e,ex,_⟩:=I.hok p _ hk;refine⟨⟨o,e,ex.1⟩,λa e2=>?_⟩;cases e2;exact⟨o,e,ex.2.1⟩
 |_=>exact False.elim ty
def tBM(K:W.Frag)(T:String)(r:V->List V->Hp->VK->Prop)(to:TE)(t:TA):TE:=λσ H Q=>to σ H λx H1=>tyV K T x H1/\t σ H1 λxs H2=>r x xs H2 Q
variable{o e:Expr}{es:List Expr}{to:TE}{t:TA}{name:Str}{apos cpos:Pos}{T id:String}{r:V->List V->Hp->VK->Prop}
def IF(pa:PlainAttrs T)(slot:Slot T name id)(hty:typeOf (.builtin id)=pure (.type "method_descriptor"))(hm:MtR X id r)(ho:PE X o to)(ha:PA X (e::es) t)
 (hbase:attributeBase o name X.env (eval o X.env)=eval o X.env)
 (hfew:((backTo cpos (starEach (e::es) X.env)).all (λx=>!x.1)&&(backToKw cpos (keywordEach [] X.env)).all (λx=>x.1.isSome)
  && decide ((e::es).length+([]:List Keyword).length+(if ([]:List Keyword).isEmpty then 0 else 1)<30))=true)
 (hline:(apos.endLine==cpos.line)=true) (hs:starEach (e::es) X.env=(false,eval e X.env)::starEach es X.env) (g_:(backTo cpos (starEach es X.env)).any (·.1)=false):
 PE X (.Call (.Attribute o name apos) (e::es) [] cpos) (tBM X.K T r to t):=by
 intro pins s σ H Q I h;refine wpAny_Call_method_late hbase hfew hline rfl (thn (ho pins s σ H _ I h) λv s1 ⟨x,H1,I1,r1,ty,q1⟩=>?_);obtain⟨h1,h2⟩:=HY I1 r1 ty;refine⟨T,id,pa,slot,hty,h1,h2,?_⟩;have hA:=ha cpos pins s1 σ H1 _ I1 q1;rw[hs] at hA ⊢;refine Calls.callWith_builtin (by show (false || (backTo cpos (starEach es X.env)).any (·.1))=false;rw[g_] <;> rfl) (Calls.evalArgs_plain ?_);exact thn hA λus s2 zz=>exA zz λvs H2 I2 r2 q2=>hm pins s2 σ H2 x vs v us Q I2 r1 r2 q2
end
def MtM(X:Cx)(id:String)(r:V->List V->Hp->VK->Prop):Prop:=
 ∀
  (pins:Nb) (s:Shared) (σ:St) (H:Hp) (x:V) (xs:List V) (v:Value) (us:List Value) (Q:VK),Inv X pins σ H s->RelV x v->Vals xs us->r x xs H Q->
  wpAny (model X.prog X.w) X.A (call (.builtin id) (v::us)) (EP X pins σ Q) X.xe s
def Vals.one(r:Vals [x] us):∃u,us=[u]/\RelV x u:=by
 cases r with
 |cons r t=>cases t;exact⟨_,rfl,r⟩
def Vals.eraseIdx(i:Nat)(q:Vals xs us):Vals (xs.eraseIdx i) (us.eraseIdx i):=by
 induction q generalizing i with
 |nil=>exact .nil
 |
  cons q t ih=>
  cases i with
  |zero=>exact t
  |succ i=>exact .cons q (ih i)
def Vals.reverse(h:Vals xs us):Vals xs.reverse us.reverse:=by
 induction h with
 |nil=>exact .nil
 |cons r t ih=>rw[LP,LP];exact Vals.append ih (.cons r .nil)
theorem qG{α:Type}:∀(l:List α) (i:Nat),(l.eraseIdx i).length<=l.length
 | [],_=>m_ _
 |_::_,0=>Nat.le_succ _
 |_::r,i+1=>Nat.succ_le_succ (qG r i)
section
variable{X:Cx}{pins:Nb}{σ:St}{H:Hp}{s:Shared}{l:Addr}{xs ys:List V}
def Inv.lset{its its':List Value}{n:Nat}{f:Array Value->Array Value}{t':Nat}(I:Inv X pins σ H s)(hH:H l=some (.lst xs))
 (e:s.heap.get? l=some { cls:=.type "list",data:=.seq its.toArray n }) (hf:f its.toArray=its'.toArray) (hv:Vals ys its') (hz:ys.length<=sizeLine):
 Inv X pins σ (upd H l (.lst ys)) { s with heap:=s.heap.update l (Obj.mapSeq f),toks:=t' }:=by
 have q:=PySem.IsL.update e f;rw[hf] at q;refine I.write (x:=l) (e:=l) (by rw[hH];exact trivial) (.inl rfl) (λb' u hb hu=>(Heap.get?_update_other s.heap (Obj.mapSeq f) (Ne.symm hb)).trans hu) ⟨_,q⟩ ?_;exact⟨hz,its',_,hv,q⟩
def Inv.lnew(I:Inv X pins σ H s)(hv:Vals ys its)(hz:ys.length<=sizeLine):
 Inv X pins σ (upd H s.heap.objs.size (.lst ys)) { s with heap:=s.heap.push { cls:=.type "list",data:=.seq its.toArray },toks:=t' }:=
 I.laid (λ_ _ q=>q_ _ q) (m_ _) ⟨hz,its,0,hv,A_ _ rfl⟩
def Inv.fresh(I:Inv X pins σ H s):H s.heap.objs.size=none:=I.hok.fresh (m_ _)
def Inv.lstM(I:Inv X pins σ H s)(hH:H l=some (.lst xs)):xs.length<=sizeLine/\∃(its:List Value) (n:Nat),Vals xs its/\xs.length=its.length/\s.heap.get? l=some { cls:=.type "list",data:=.seq its.toArray n }:=by obtain⟨z,its,n,r,e⟩:=I.hok l _ hH;exact⟨z,its,n,r,r.length,e⟩
end
section
variable{X:Cx}
def vm:V->List V->Hp->VK->Prop:=λx vs H Q=>∃l xs y,x=.ref l/\vs=[y]/\H l=some (.lst xs)/\xs.length<sizeLine/\Q .non (upd H l (.lst (xs++[y])))
def qJ:MtM X "list.append" vm:=by intro pins s σ H x vs v us Q I rx rv h;obtain⟨l,xs,y,rfl,rfl,hH,hz,q⟩:=h;cases rx;obtain⟨u,rfl,ru⟩:=rv.one;obtain⟨z,its,n,r,hl,e⟩:=I.lstM hH;refine call_meets F.slot_list_append ⟨_,e,rfl⟩ F.entry_list_append (F.args_list_append_2 _ _) (PySem.list_append l its.toArray n u (by rw[y_];omega)) ⟨e,?_⟩;refine⟨.non,_,I.lset (its':=its++[u]) hH e (by simp) (r.append (.cons ru .nil)) ?_,rfl,q⟩;rw[z_,KQ];omega
def xX:V->List V->Hp->VK->Prop:=λx vs H Q=>∃l xs i k y,x=.ref l/\vs=[.int i]/\H l=some (.lst xs)/\-(2^63)<=i/\i<2^63/\seqIndex? i xs.length=some k/\xs[k]?=some y/\Q y (upd H l (.lst (xs.eraseIdx k)))
def AS:MtM X "list.pop" xX:=by
 intro pins s σ H x vs v us Q I rx rv h;obtain⟨l,xs,i,k,y,rfl,rfl,hH,h1,h2,hk,hy,q⟩:=h;cases rx;obtain⟨u,rfl,ru⟩:=rv.one;obtain⟨t,rfl⟩:=ru;obtain⟨z,its,n,r,hl,e⟩:=I.lstM hH;obtain⟨w,hw,rw'⟩:=r.get hy;refine call_meets F.slot_list_pop ⟨_,e,rfl⟩ F.entry_list_pop (F.args_list_pop_2 _ _)
  (MeetsSeq.list_pop_at l its.toArray n i t k w (fitsIndex_both h1 h2) (by rw[y_,<- hl];exact hk) (by rw[<- Array.getElem?_toList];exact hw) (by rw[y_];omega)) ⟨e,?_⟩
 refine⟨y,_,I.lset (its':=its.eraseIdx k) hH e ?_ (r.eraseIdx k) ?_,rw',q⟩
 .show its.toArray.eraseIdxIfInBounds k=(its.eraseIdx k).toArray;rw[List.eraseIdxIfInBounds_toArray]
 .have:=qG xs k
  omega
def sf:R2:=λx y H Q=>∃l b xs zs,x=.ref l/\y=.ref b/\H l=some (.lst xs)/\H b=some (.lst zs)/\xs.length+zs.length<=sizeLine/\∀p,H p=none->Q (.ref p) (upd H p (.lst (xs++zs)))
def Gx:OpR X (binaryOp .Add) sf:=by
 intro pins s σ H x y v u Q I rx ry h;obtain⟨l,b,xs,zs,rfl,rfl,hH,hB,hz,q⟩:=h;cases rx;cases ry;obtain⟨z,its,n,r,hl,e⟩:=I.lstM hH;obtain⟨z2,its2,n2,r2,hl2,e2⟩:=I.lstM hB;refine PySem.P.add_list e e2 ?_ (by rw[y_,y_];omega);have ea:its.toArray++its2.toArray=(its++its2).toArray:=by simp
 rw[ea];exact⟨.ref _,_,I.lnew (t':=s.toks) (r.append r2) (by rw[z_];omega),rfl,q _ I.fresh⟩
end
section
set_option maxRecDepth 100000 in
end
end L2
namespace Att
open PySem PySem.W PySem.Calls PyProof.Rows
def nN:∀(ns:List Int) (vs:List Value),WellAll P h vs (ns.map WData.int)->IntsAre vs ns:=by
 intro ns;induction ns with
 |nil=>intro vs w;rw[KD] at w;cases w;exact .nil
 |
  cons n ns ih=>
  intro vs w;rw[s_] at w;cases w with
  |cons a b=>cases a;exact .cons _ _ (ih _ b)
def yO{l:OpenLaw}{n:Nat}(hn:l.most=some n){P:Params}{h:Heap}{args:List WData}{vals:List Value}
 (hpre:l.row.toRowW.claim.pre args=true) (hwl:WellAll P h vals args):
 ∃a vs ns,vals=[Value.ref a]/\args=[WData.list (ns.map WData.int)]/\h.get? a=some { cls:=.type "list",data:=.seq vs.toArray }/\IntsAre vs ns/\ns.length<=n:=by
 have hsh:WShape.hasAll [] args [.list .int]=true:=(pre_splitW hpre).1;have hc:l.pre.holds [] { args:=args }=true:=(pre_splitW hpre).2;obtain⟨d,r,rfl,h1,h2⟩:=hasAllW_cons hsh;obtain rfl:=hasAllW_nil h2;obtain⟨xs,rfl,h3⟩:=hasW_list h1;obtain⟨ns,rfl⟩:=items_int h3;have b_:ns.length<=n:=by
  unfold OpenLaw.pre at hc;have h4:(WTm.not (.lt (.lit (.int (n:Int))) (.len (.arg 0)))).holds [] { args:=[.list (ns.map .int)] }=true:=by have h4:=(holds_andW hc).1;rw[hn] at h4;exact h4
  have h5:=condW_of h4 (w_not (w_lt w_lit (w_len_list (w_arg rfl))));rw[j_] at h5;refine Nat.le_of_not_lt λq=>?_;have q':(n:Int)<((ns.length:Nat):Int):=by omega
  first
   |(rw[x_ q'] at h5;exact absurd h5 (by decide))
   |(simp at h5;omega)
 cases hwl with
 |
  cons w1 w2=>
  cases w2;cases w1 with
  |list ho hall=>exact⟨_,_,ns,rfl,rfl,ho,nN ns _ hall,b_⟩
def zA(l:OpenLaw)(args:List WData):l.row.toRowW.claim.post args (.bool true) args=true:=
 postW_of (r:=l.row.toRowW) (X:=(true==true))
  (show WShape.has [] (.bool true) .bool=true by first |rfl |decide |simp [WShape.has,WShape.arms,WShape.armsAll])
  (show (WTm.eq .res (.lit (.bool true))).value [] { args:=args,res:=some (.bool true),after:=args }=some (.bool (true==true)) from w_eq_bool (w_res rfl) w_lit) rfl
def attach_call{l:OpenLaw}{n:Nat}{q:Program}{loose:List Str}{XP:(Str->Option Value)->Heap->Prop}{YP:World->Heap->Prop}{d:DefRec}
 (hn:l.most=some n) (hdf:d.params.defaults=[])
 (call:∀(w:World) (s₀ s₁:Shared) (mg mb:Na) (fa:Addr) (o:Obj) (pm cd doc:Value) (a:Addr) (vs:List Value) (ns:List Int),
  Ground q loose [] XP w s₀ mg mb s₁.heap->YP w s₁.heap->
  s₁.heap.get? fa=some o->o.data=.func (docDef d.name d.params d.body d.scope pm cd doc)->s₁.heap.CodeRec cd d.name->mg d.name=some (.ref fa)->
  s₁.heap.get? a=some { cls:=.type "list",data:=.seq vs.toArray }->IntsAre vs ns->ns.length<=n->s₁.gens=#[]->
  codeAny (model l.prog w) callerA (.call (.ref fa) ⟨[.ref a],[]⟩) (λr s'=>r=.ok (.ret (.bool true))/\OldK s₁.heap s'.heap/\s'.os=s₁.os/\AllBare s'.gens) s₁):
 WalkO q loose XP YP l.row.toRowW d [] (λf vs=>PySem.call f vs):=by
 intro w s₀ s₁ mg mb G Y fa o pm cd doc dV kV ho hd hcd hD hmg hg args vals as hpre hlay hrd hwl hlo;obtain rfl:dV=.none:=Dflts.none hD hdf;obtain rfl:kV=.none:=Dflts.noKw hD;obtain⟨a,vs,ns,rfl,rfl,hobj,hints,b_⟩:=yO hn hpre hwl;refine enter_call (codeAny_mono (call w s₀ s₁ mg mb fa o pm cd doc a vs ns G Y ho (fd_plain hd) hcd hmg hobj hints b_ hg) λr s' hq=>?_);obtain⟨rfl,h2,h3,h4⟩:=hq;exact⟨.inl ⟨.bool true,.bool true,[],rfl,λ_=>rfl,.bool true,zA l _,λ_=>⟨List.Pairwise.nil,λ_ hm=>(nomatch hm)⟩⟩,h2,h3,h4⟩
section
def sG(h:Heap):Heap:={ h with objs:=#[] }
def xG(h:Heap)(b:Addr):(sG h).get? b=none:=by
 cases e:(sG h).get? b with
 |none=>rfl
 |some o=>exact absurd (t_ e) (Lu _)
def ledger(h:Heap)(L d:Addr):List (Addr×Obj):=(List.range h.objs.size).filterMap λa=>if a=L\/a=d then none else (h.get? a).map λo=>(a,o)
def fr_all(n:h.Ns L m):Fr (sG h) L h m:=
 ⟨n,λb o e=>(by rw[xG] at e;cases e),K9 _⟩
end
end Att
namespace L2
open PySem PySem.Spec PyProof.Rows
theorem pS:∀{vs:List Value}{ns:List Int},IntsAre vs ns->Vals (ns.map V.int) vs
 |_,_,.nil=>.nil
 |_,_,.cons n t h=>.cons ⟨t,rfl⟩ (pS h)
def oU(H:Hp):Prop:=∀b,H b=none\/∃o xs,H b=some (.frz o (.lst xs))
def BP{P:Program}{w:World}{K:W.Frag}{mg mb:Na}{CX:CXT}{k:Nat}{fa a:Addr}{fd:FuncData}{x:Str}{sp:Sp}{s₁:Shared}{vs:List Value}{ns:List Int}
 (KX:K.In s₁.heap) (hns:s₁.heap.Ns mainGlobals mg) (hb:s₁.heap.Ns builtinsNs mb) (hbb:∀x:Str,x ≠ "__name__"->mb x=bootBuiltins x) (hlim:s₁.heap.NoLimit) (hg:s₁.gens=#[])
 (ha:s₁.heap.get? a=some { cls:=.type "list",data:=.seq vs.toArray }) (hi:IntsAre vs ns) (hl:ns.length<=sizeLine) (hr:Room k callerA)
 (F:∀base:Heap,K.In base->base.Ns mainGlobals mg->FnOk P w K mg base CX k fa fd [x] sp) (hbind:∀(s:Shared) (u:Value),BindsTo s fd ⟨[u],[]⟩ [(x,u)])
 (hsp:∀H:Hp,oU H->SqL K H a (ns.map V.int)->sp [.ref a] H (λv _=>v=.bl true) λ_ _ _=>False)
 (hCX:∀H e s',CX [] H s₁ (λ_ _ _=>False) e s'->False):
 codeAny (model P w) callerA (.call (.ref fa) ⟨[.ref a],[]⟩) (λr s'=>r=.ok (.ret (.bool true))/\OldK s₁.heap s'.heap/\s'.os=s₁.os/\AllBare s'.gens) s₁:=by
 have rv:=pS hi;have lenV:=hi.length;have core
  : ∀H:Hp,oU H->SqL K H a (ns.map V.int)->HOk P w H s₁.heap->(∀b,H b≠none->b=a)->(H a≠none->K.lookup a=none)->
  codeAny (model P w) callerA (.call (.ref fa) ⟨[.ref a],[]⟩) (λr s'=>r=.ok (.ret (.bool true))/\OldK s₁.heap s'.heap/\s'.os=s₁.os/\AllBare s'.gens) s₁:=by
  intro H hO hS hok hA hK;have base_of:∀{b:Addr}{o:Obj},s₁.heap.get? b=some o->H b=none->(jL s₁.heap H).get? b=some o:=λe n=>AU e n;have noA:∀{b:Addr}{o:Obj}{es:Array DictEntry}{ep:Nat},s₁.heap.get? b=some o->o.data=.dict es ep->H b=none:=λ{b o es ep} e d=>by
   cases q:H b with
   |none=>rfl
   |some u=>have e':b=a:=hA b (by rw[q];simp);subst e';rw[ha] at e;cases e;have d':Data.seq vs.toArray _=Data.dict es ep:=d;cases d'
  have nsK:∀{b:Addr}{m:Na},s₁.heap.Ns b m->(jL s₁.heap H).Ns b m:=λ{b m} ⟨o,es,ep,e,d,r⟩=>⟨o,es,ep,base_of e (noA e d),d,r⟩;have hKb:K.In (jL s₁.heap H):=λb o e=>base_of (KX b o e) (by
   cases q:H b with
   |none=>rfl
   |some u=>have e':b=a:=hA b (by rw[q];simp);subst e';rw[hK (by rw[q];simp)] at e;cases e)
  have hM:Mod K mg (jL s₁.heap H):=⟨hKb,nsK hns,⟨mb,nsK hb,hbb⟩,let ⟨mc,h1,h2⟩:=hlim;⟨mc,nsK h1,h2⟩⟩;have e0:Env0 P w K mg (jL s₁.heap H) callerA [] s₁ H:=⟨rfl,hM,λb o e=>Dn e,Nat.le_of_eq (yd _ _),trivial,λb hb=>absurd (show b∈([]:List Addr) from hb) (by simp),hok,.of_eq hg⟩;refine codeAny_mono ((F _ hKb (nsK hns)).run callerA [] s₁ H ⟨[.ref a],[]⟩ [.ref a] [.ref a] _ _ hr e0 (hbind s₁ (.ref a)) (.cons rfl .nil) (hsp H hO hS)) λr s' h=>?_;cases r with
  |error e=>exact (hCX H e s' h).elim
  |
   ok fl=>
   cases fl with
   |next=>exact False.elim h
   |brk=>exact False.elim h
   |cont=>exact False.elim h
   |
    ret u=>
    obtain⟨v,H',os,bare,un,hok',r',q⟩:=h;have q':v=.bl true:=q;subst q';obtain rfl:u=Value.bool true:=r';refine⟨rfl,OldK.of_keep λb o e=>?_,os,bare⟩;cases q:H b with
    |none=>exact un.keep b o e q (by intro z;exact absurd (show b∈([]:List Addr) from z) (by simp)) (by simp)
    |
     some u=>
     rcases hO b with z |⟨ob,xs,z⟩
     .rw[q] at z;cases z
     .have z2:=un.frzs b ob _ z;obtain⟨e1,_⟩:=hok b _ z;obtain⟨e2,_⟩:=hok' b _ z2;rw[e] at e1;cases e1;exact e2
 cases hk:K.lookup a with
 |some o=>have e:=KX a o hk;rw[ha] at e;cases e;refine core (λ_=>none) (λ_=>.inl rfl) (.inr ⟨_,vs.toArray,_,hk,rfl,rfl,rfl,by rw[y_,lenV];exact hl,by simpa using rv⟩) (λb u z=>by have z':(none:Option HO)=some u:=z;cases z') (λb z=>absurd rfl z) λz=>absurd rfl z
 |
  none=>
  refine core (λb=>if b=a then some (.frz { cls:=.type "list",data:=.seq vs.toArray } (.lst (ns.map V.int))) else none) (λb=>?_) (.inl (.inr ⟨{ cls:=.type "list",data:=.seq vs.toArray },if_pos rfl⟩)) (λb u z=>?_) (λb z=>?_) λ_=>hk
  .by_cases hb:b=a
   .exact .inr ⟨_,_,if_pos hb⟩
   .exact .inl (if_neg hb)
  .by_cases hb:b=a
   .have z':=(if_pos hb).symm.trans z;cases z';subst hb;exact⟨ha,by rw[j_];exact hl,vs,_,rv,ha⟩
   .have z':=(if_neg hb).symm.trans z;cases z'
  .by_cases hb:b=a
   .exact hb
   .exact absurd (if_neg hb) z
abbrev KOf{K:W.Frag}{h:Heap}(_:K.In h):W.Frag:=K
def walk_of{l:W.OpenLaw}{n k:Nat}{q:Program}{loose:List Str}{XP:(Str->Option Value)->Heap->Prop}{YP:World->Heap->Prop}{d:DefRec}{K:Params->W.Frag}{CX:World->CXT}{sp:World->Sp}{x:Str}
 (hn:l.most=some n) (hn2:n<=sizeLine) (hdf:d.params.defaults=[]) (hr:Room k callerA)
 (hY:∀(w:World) (h:Heap),YP w h->(K w.params).In h)
 (F:∀(w:World) (mg:Na) (fa:Addr) (h:Heap),(K w.params).In h->h.Ns mainGlobals mg->mg d.name=some (.ref fa)->
  ∃
   fd:FuncData,(∀(s:Shared) (u:Value),BindsTo s fd ⟨[u],[]⟩ [(x,u)])/\
   ∀base:Heap,(K w.params).In base->base.Ns mainGlobals mg->FnOk l.prog w (K w.params) mg base (CX w) k fa fd [x] (sp w))
 (hsp:∀(w:World) (H:Hp) (a:Addr) (ns:List Int),ns.length<=n->oU H->SqL (K w.params) H a (ns.map V.int)->sp w [.ref a] H (λv _=>v=.bl true) λ_ _ _=>False)
 (hCX:∀(w:World) (H:Hp) (s:Shared) (e:Value) (s':Shared),CX w [] H s (λ_ _ _=>False) e s'->False):
 W.WalkO q loose XP YP l.row.toRowW d [] (λf vs=>PySem.call f vs):=by
 refine Att.attach_call hn hdf λw s₀ s₁ mg mb fa o pm cd doc a vs ns G Y ho hd hcd hmg hobj hints b_ hg=>?_;have KX:=hY w _ Y;obtain⟨fd,hb,hF⟩:=F w mg fa _ KX G.T.g hmg;exact BP KX G.T.g G.T.b G.T.builtins G.T.nolimit hg hobj hints (F_ b_ hn2) hr hF hb (λH hO hS=>hsp w H a ns b_ hO hS) λH e s'=>hCX w H s₁ e s'
noncomputable def dU (s:Stmt):Arguments:=match s with
 |.FunctionDef _ a _ _ _ _ _ _ _ _=>a
 |_=>{ posonlyargs:=[],args:=[],vararg:=none,kwonlyargs:=[],kw_defaults:=[],kwarg:=none,defaults:=[] }
noncomputable def bS (s:Stmt):List Stmt:=match s with
 |.FunctionDef _ _ b _ _ _ _ _ _ _=>b
 |_=>[]
noncomputable def ar (s:Stmt):Scope:=match s with
 |.FunctionDef _ _ _ _ _ _ sc _ _ _=>sc
 |_=>{ kind:=.function,names:=[],isGenerator:=false,isCoroutine:=false }
abbrev E0:XK:=λ_ _ _=>False
structure Fun(K:W.Frag)(x qual:Str)(st:Stmt)(f:Addr)(fd:FuncData):Prop where
 ex:∃(oc:Value) (od:Option Addr) (kV doc pm:Value) (an:Option Addr) (cdv ct:Value) (osl:Array (Option Value)),
  fd=W.fnOf x qual (dU st) (bS st) (ar st) .none kV doc pm an cdv ct/\K.lookup f=some ⟨oc,od,.func fd,osl⟩/\W.codeIn K cdv qual=true
 kp:W.keepIn K (.ref f)=true
section
variable{K:W.Frag}
def Fun.binds{x qual:Str}{st:Stmt}{f:Addr}{fd:FuncData}{ps:List Str}(F:Fun K x qual st f fd)
 (h:∀(kV doc pm:Value) (an:Option Addr) (cdv ct:Value) (us:List Value),us.length=ps.length->bindArgs (W.fnOf x qual (dU st) (bS st) (ar st) .none kV doc pm an cdv ct) ⟨us,[]⟩=pure (ps.zip us)):Binds K fd ps []:=by
 obtain⟨oc,od,kV,doc,pm,an,cdv,ct,osl,rfl,lk,hcd⟩:=F.ex;exact .all (h kV doc pm an cdv ct)
def EY{x qual:Str}{st:Stmt}{f:Addr}{oc:Value}{od an:Option Addr}{osl:Array (Option Value)}{kV doc pm cdv ct:Value}(l:K.lookup f=some ⟨oc,od,.func (W.fnOf x qual (dU st) (bS st) (ar st) .none kV doc pm an cdv ct),osl⟩)
 (c:W.codeIn K cdv qual=true) (k:W.keepIn K (.ref f)=true):Fun K x qual st f (W.fnOf x qual (dU st) (bS st) (ar st) .none kV doc pm an cdv ct):=⟨⟨oc,od,kV,doc,pm,an,cdv,ct,osl,rfl,l,c⟩,k⟩
end
def CN(hr:Room k A):A.units+1<cLine:=Nat.lt_of_le_of_lt (Nat.add_le_add_left (by decide:1<=64) _) hr.units
section
variable{X:Cx}{pins:Nb}{σ:St}{H:Hp}{s:Shared}
def Inv.track{a:Addr}{o:HO}(I:Inv X pins σ H s)(hn:H a=none)(h0:X.s₀.heap.get? a=none)(hL:a≠X.env.locals)(hc:∀x c,X.env.cells.lookup x=some c->c≠a)
 (hp:∀p∈X.pn++pins,p.1≠a) (new:ObjOk X.prog X.w (upd H a o) s.heap a o):Inv X pins σ (upd H a o) s:=by
 have ne:∀b u,H b=some u->b≠a:=λb u e z=>by rw[z,hn] at e;cases e
 have ne0:∀b u,X.s₀.heap.get? b=some u->b≠a:=λb u e z=>by rw[z,h0] at e;cases e
 refine⟨I.ok,I.os,I.bare,⟨I.base.keep,I.base.slot,λb u e n hx=>?_,I.base.there,λb xs e=>?_,λb u xs e=>?_,λb ps e=>?_⟩,I.loc,I.cell,?_,λx c e=>?_,λp hp'=>?_,λb u e=>?_,I.len⟩
 .rw[aG (ne0 b u e)];exact I.base.free b u e n hx
 .have q:=I.base.tups b xs e;rw[aG (ne _ _ q)];exact q
 .have q:=I.base.frzs b u xs e;rw[aG (ne _ _ q)];exact q
 .obtain⟨m,q⟩:=I.base.tbls b ps e;exact⟨m,by rw[aG (ne _ _ q)];exact q⟩
 .rw[aG (Ne.symm hL)];exact I.free
 .rw[aG (hc x c e)];exact I.freeC x c e
 .obtain⟨e,n,r⟩:=I.pin p hp';exact⟨e,by rw[aG (hp p hp')];exact n,r⟩
 .by_cases hb:b=a
  .subst hb;rw[aU] at e;cases e;exact new
  .rw[aG hb] at e;exact (I.hok b u e).stay (λc v _ q=>q) (λc q=>by rw[aG (ne _ _ q)];exact q) λc xs q=>by rw[aG (ne _ _ q)];exact q
end
theorem jM{env:Env}:∀{names:List (Str×NameKind)} (cs:List (Str×Addr)),(∀x∈names,x.2=.free->∃c,env.cells.lookup x.1=some c)->(∀x c,cs.lookup x=some c->env.cells.lookup x=some c)->
 ∃
  cl,(forIn names cs λ(x:Str×NameKind) (r:List (Str×Addr))=>if (x.2==NameKind.free)=true then do let a <- cellOf env x.1;pure (ForInStep.yield ((x.1,a)::r)) else pure (ForInStep.yield r):Sem (List (Str×Addr)))=pure cl/\
  (∀x c,cl.lookup x=some c->env.cells.lookup x=some c)/\(∀x c,cs.lookup x=some c->∃c',cl.lookup x=some c')/\∀x∈names,x.2=.free->∃c,cl.lookup x.1=some c
 | [],cs,_,h=>⟨cs,by simp,h,λx c e=>⟨c,e⟩,λ_ hx=>nomatch hx⟩
 |
  (n,k)::r,cs,hf,h=>by
  rw[Ms];by_cases hk:k=.free
  .subst hk;obtain⟨c,hc⟩:=hf (n,.free) l_ rfl;have hcell:cellOf env n=pure c:=by unfold cellOf;rw[hc]
   have h':∀x d,((n,c)::cs).lookup x=some d->env.cells.lookup x=some d:=λx d e=>by
    rw[Lk] at e;cases q:x==n with
    |true=>rw[q] at e;cases e;rw[KH.mp q];exact hc
    |false=>rw[q] at e;exact h x d e
   obtain⟨cl,e1,e2,e3,e4⟩:=jM (env:=env) (names:=r) ((n,c)::cs) (λx hx=>hf x (k_ _ hx)) h';have top:∃c',cl.lookup n=some c':=e3 n c (by rw[Lk];simp);refine⟨cl,?_,e2,λx d e=>?_,λx hx hfr=>?_⟩
   .simp only[beq_self_eq_true,LH,hcell];exact e1
   .by_cases q:x=n
    .rw[q];exact top
    .exact e3 x d (by rw[Lk,(r_.mpr q:(x==n)=false)];exact e)
   .rcases C_.mp hx with rfl |hx
    .exact top
    .exact e4 x hx hfr
  .have hb:(k==NameKind.free)=false:=by simpa using hk
   obtain⟨cl,e1,e2,e3,e4⟩:=jM (env:=env) (names:=r) cs (λx hx=>hf x (k_ _ hx)) h;refine⟨cl,?_,e2,e3,λx hx hfr=>?_⟩
   .simp only[hb,LJ,Mp];exact e1
   .rcases C_.mp hx with rfl |hx
    .exact absurd hfr hk
    .exact e4 x hx hfr
def qL{env:Env}{scope:Scope}(hf:∀x∈scope.names,x.2=.free->∃c,env.cells.lookup x.1=some c):
 ∃cl,closureFor scope env=pure cl/\(∀x c,cl.lookup x=some c->env.cells.lookup x=some c)/\∀x∈scope.names,x.2=.free->∃c,cl.lookup x.1=some c:=by
 obtain⟨cl,e1,e2,_,e4⟩:=jM (env:=env) (names:=scope.names) [] hf (λx c e=>by simp at e);refine⟨cl,?_,e2,e4⟩;unfold closureFor;simp only[e1];rfl
noncomputable def bN (X:Cx) (N:List Str) (scope:Scope) (cl:List (Str×Addr)) (C:Addr) (s₂:Shared) (H:Hp) (fp:List Addr):Cx:=
 { X with N:=N,s₀:=s₂,H₀:=H,env:=compEnvC scope cl C X.env,outer:=X.stack,stack:=X.stack,ex:=fp,fn:=λ_=>false,pn:=[],xe:=λ_ _=>False }
noncomputable def eO (sub:Nd) (σ:St):St:=sub.map λo=>o.bind λi=>(σ[i]?).bind id
def LcW(J:It)(sub:Nd)(g:TG)(tc:TT)(te:TE)(σ:St)(H1:Hp)(Q:VK):Prop:=∃W:Nat->Nat->List V->St->Hp->Prop,(∃m,W 0 m [] (eO sub σ) H1)/\∀i m ys σ H,W i m ys σ H->
 (J.stop i H/\ys.length<=sizeLine/\∀D,H D=none->Q (.ref D) (upd H D (.lst ys)))\/
 (J.go i H/\ys.length<sizeLine/\∃Nx:List V->St->Hp->Prop,(∀ys' σ' H',Nx ys' σ' H'->∃m',m'<m/\W (i+1) m' ys' σ' H')/\
  ∀x H',J.yld i H x H'->g x σ H' λσ2 H2=>tc σ2 H2 λb H3=>if b=true then te σ2 H3 λy H4=>Nx (ys++[y]) σ2 H4 else Nx ys σ2 H3)
def rb(wi:TI)(sub:Nd)(g:TG)(tc:TT)(te:TE):TE:=λσ H Q=>wi σ H λJ H1=>LcW J sub g tc te σ H1 Q
section
variable{prog:Program}{w:World}{A:Around}{R:Result->Shared->Prop}{s:Shared}
def tq{elt target iter:Expr}{ifs:List Expr}{scope:Scope}{pos:Pos}{it acc:Value}{env:Env}(I:Nat->Shared->Prop)
 (turn
  : ∀n s,I n s->wpAny (model prog w) A (pyNext it) (λr s₁=>match r with
  |none=>R (.ok .next) s₁
  |some v=>wpAny (model prog w) A (letOwnedTupleGo target it v) (λ_ s₁'=>wpAny (model prog w) A (assign target env v) (λ_ s₂=>
   wpAny (model prog w) A (forIn ifs true λc r=>if r=true then do let ok <- isTrue c env (eval c env);pure (ForInStep.yield ok) else pure (ForInStep.yield r))
    (λok s₃=>if ok=true then wpAny (model prog w) A (eval elt env) (λx s₄=>wpAny (model prog w) A (call (.builtin "list.append") [acc,x]) (λ_ s₅=>∃m,m<n/\I m s₅) (λ_ _=>False) s₄) (λ_ _=>False) s₃
     else ∃m,m<n/\I m s₃) (λ_ _=>False) s₂) (λ_ _=>False) s₁') (λ_ _=>False) s₁) (λ_ _=>False) s)
 (n:Nat) (h:I n s):
 codeAny (model prog w) A (.compLoop (.ListComp elt [⟨target,iter,ifs,0⟩] scope pos) 0 it acc env) R s:=by
 refine codeAny_loop rfl I (λn s hI=>?_) n h;show wpAny _ _ ((compTurn (.ListComp elt [⟨target,iter,ifs,0⟩] scope pos) 0 it acc env).onRaise (λx=>do noteFrame x env;theTreesLotGoes x)) _ _ s;refine wpAny_noted ?_;rw[compTurn_list];refine KL (E:=λ_ _=>False) ?_ (λ_ _ q=>q) λ_ _ q=>q.elim;refine i_ (Ml (i_ (KL (turn n s hI) (λr s₁ h₁=>?_) λ_ _ h'=>h')));cases r with
 |none=>exact n_ h₁
 |
  some v=>
  refine i_ (KL h₁ (λ_ s₁' h₁'=>?_) λ_ _ h'=>h');refine i_ (KL h₁' (λ_ s₂ h₂=>?_) λ_ _ h'=>h');refine i_ (KL h₂ (λok s₃ h₃=>?_) λ_ _ h'=>h');cases ok with
  |true=>simp only[LH] at h₃ ⊢;refine i_ (i_ (KL h₃ (λx s₄ h₄=>?_) λ_ _ h'=>h'));refine i_ (KL h₄ (λ_ s₅ h₅=>?_) λ_ _ h'=>h');exact n_ (n_ ⟨rfl,h₅⟩)
  |
   false=>
   simp only[LJ,Mp] at h₃ ⊢;first
    |exact i_ (n_ (n_ ⟨rfl,h₃⟩))
    |exact n_ ⟨rfl,h₃⟩
end
section
variable{X:Cx}
def PTs(X:Cx)(ifs:List Expr)(t:TT):Prop:=
 ∀
  (pins:Nb) (s:Shared) (σ:St) (H:Hp) (Q:Bool->Hp->Prop),Inv X pins σ H s->t σ H Q->
  wpAny (model X.prog X.w) X.A (forIn ifs true λc r=>if r=true then do let ok <- isTrue c X.env (eval c X.env);pure (ForInStep.yield ok) else pure (ForInStep.yield r)) (TP X pins σ Q) X.xe s
def D6:PTs X [] (λ_ H Q=>Q true H):=λpins s σ H Q I h=>by rw[MM];exact n_ ⟨H,I,h⟩
def Eh{c:Expr}{tc:TT}(hc:PT X c tc):PTs X [c] tc:=λpins s σ H Q I h=>by rw[Ms];simp only[LH];refine i_ (i_ (thn (hc pins s σ H Q I h) λb s1 q=>n_ ?_));dsimp only;rw[MM];exact n_ q
structure LcEnd(X:Cx)(pins:Nb)(σ:St)(Q:VK)(D C:Addr)(s4:Shared):Prop where
 ns:∃m,s4.heap.Ns C m
 dc:D<C
 fr:X.env.locals<D
 cell:∀x c,X.env.cells.lookup x=some c->c<D
 pin:∀p∈X.pn++pins,p.1<D
 sz:X.s₀.heap.objs.size<=D
 inv:∃H',H' C=none/\Q (.ref D) H'/\∀h',Heap.SameBut C s4.heap h'->Inv X pins σ H' { s4 with heap:=h' }
def wg{elt iter tg:Expr}{ifs:List Expr}{scope:Scope}{pos:Pos}{wi:TI}{g:TG}{tc:TT}{te:TE}{N:List Str}{sub:Nd}{use:Option (Value->Sem Unit)}{R:Nc}{pins:Nb}{s:Shared}{σ:St}{H:Hp}{Q:VK}{fpos:Pos}
 (hc:X.calm=true) (hi:PI X tg iter wi)
 (hk:scope.kind=.function) (hnc:∀x∈scope.names,x.2 ≠ .cell) (f_:∀x∈scope.names,x.2=.local->scope.names.lookup x.1=some .local)
 (hfr:∀x∈scope.names,x.2=.free->X.env.kindOf x.1=some .cell\/X.env.kindOf x.1=some .free)
 (hsl:sub.length=N.length) (hsub:∀(j i:Nat) (x:Str),sub[j]?=some (some i)->N[j]?=some x->X.N[i]?=some x/\scope.names.lookup x=some .free)
 (hg:∀cl C s₂ H fp,PG (bN X N scope cl C s₂ H fp) tg g) (ht:∀cl C s₂ H fp,PTs (bN X N scope cl C s₂ H fp) ifs tc) (he:∀cl C s₂ H fp,PE (bN X N scope cl C s₂ H fp) elt te)
 (hs:∀x,foldedSetIterable iter X.env x=pure x) (I:Inv X pins σ H s) (h:rb wi sub g tc te σ H Q)
 (d_:∀D C s4,LcEnd X pins σ Q D C s4->compPost (model X.prog X.w) X.A X.xe use R (.ref D) C (.ok .next) s4):
 wpAny (model X.prog X.w) X.A (comprehension (.ListComp elt [⟨tg,iter,ifs,0⟩] scope pos) scope X.env fpos (newList []) false (eval iter X.env) use) R X.xe s:=by
 obtain⟨cl,hclos,hcl,hclf⟩:=qL (env:=X.env) (scope:=scope) λx hx hf=>I.ok.has x.1 (hfr x hx hf);refine wpAny_comprehension_free rfl hs hclos hk f_ ?_;show wpAny _ _ (eval iter X.env) _ _ _;refine thn (hi pins s σ H _ I h) λv s1 h1=>thn h1 λitv s2 h2=>?_;obtain⟨it,fp,tn,J,H2,e,I2,T,st2,f2,W,⟨m0,w0⟩,turn⟩:=h2;subst e;refine KI (wpAny_newFunctionEnv hnc (by intro y hy;simp at hy) (λh₁ hns₁ hsb₁=>?_) hk);dsimp only at hns₁ hsb₁ ⊢;generalize hH2:s2.heap.push { cls:=.type "list",dict:=none,data:=.seq ([]:List Value).toArray }=G2 at hns₁ hsb₁ ⊢;have hC:G2.objs.size=s2.heap.objs.size+1:=by rw[<- hH2,Lz]
 have hDC:s2.heap.objs.size≠G2.objs.size:=by omega
 have below:∀b,b<s2.heap.objs.size->b≠G2.objs.size/\b≠s2.heap.objs.size:=λb hb=>⟨by omega,by omega⟩;have old:∀b o,s2.heap.get? b=some o->h₁.get? b=some o:=λb o e=>hsb₁.extBut b o (below b (t_ e)).1 (q_ _ (hH2 ▸ q_ _ e));have hD₁:h₁.get? s2.heap.objs.size=some { cls:=.type "list",dict:=none,data:=.seq ([]:List Value).toArray }:=hsb₁.extBut _ _ hDC (q_ _ (hH2 ▸ A_ _ rfl));have fresh:∀a,s2.heap.objs.size<=a->s2.heap.get? a=none:=λa ha=>Mr ha;have cellOld:∀x c,cl.lookup x=some c->c<s2.heap.objs.size:=λx c e=>by obtain⟨v,z⟩:=I2.cell x c (hcl x c e);exact z.lt
 have fpOld:∀b∈fp,b<s2.heap.objs.size:=λb hb=>by obtain⟨o,e,_⟩:=T.obj _ _ st2 b hb;exact t_ e
 let Y:Cx:=bN X N scope cl G2.objs.size s2 H2 fp
 have okY:Y.Ok
  := by
  refine⟨I2.ok.mod,?_,I2.ok.glob,I2.ok.blt,?_,λx y c e1 e2=>I2.ok.inj x y c (hcl x c e1) (hcl y c e2),λx hx=>?_,λx c hfn _=>absurd hfn h_,I2.ok.hd,I2.ok.frames,.inl rfl,
   λb hb=>⟨?_,λx c e z=>?_⟩,I2.bs,F_ I2.ok.bsz I2.sz,λb o e hb=>?_,λb hb hf=>?_,I2.stack,I2.stkFree⟩
  .show (relabel scope X.env).kind=.function;exact hk
  .show s2.heap.objs.size<=G2.objs.size;omega
  .have hx':(
    relabel scope X.env).names.lookup x=some .cell\/(relabel scope X.env).names.lookup x=some .free:=hx
   have:∃k,
    (x,k)∈scope.names/\k=.free:=by
    have gen:∀(names:List (Str×NameKind)),(∀y∈names,y.2 ≠ .cell)->∀kk,(kk=NameKind.cell\/kk=NameKind.free)->(names.map λ(n,k)=>if (k==NameKind.free&&X.env.scope.kind == .function&&X.env.kindOf n==some .cell) then (n,NameKind.cell) else (n,k)).lookup x=some kk->∃k,(x,k)∈names/\k=.free:=by
     intro names;induction names with
     |nil=>intro _ kk _ e;simp at e
     |
      cons y r ih=>
      intro hn kk hkk e;obtain⟨n,k⟩:=y;rw[s_,Lk] at e;by_cases hkf:k=.free
      .subst hkf;by_cases hxn:x=n
       .exact⟨.free,by rw[hxn];exact l_,rfl⟩
       .have hb:(x==(if (NameKind.free==NameKind.free&&X.env.scope.kind == .function&&X.env.kindOf n==some .cell)=true then (n,NameKind.cell) else (n,NameKind.free)).1)=false:=by split <;> exact r_.mpr hxn
        rw[hb] at e;obtain⟨k',m,q⟩:=ih (λz hz=>hn z (k_ _ hz)) kk hkk e;exact⟨k',k_ _ m,q⟩
      .have hb0:(k==NameKind.free&&X.env.scope.kind == .function&&X.env.kindOf n==some .cell)=false:=by
        have:(k==NameKind.free)=false:=by simpa using hkf
        rw[this];rfl
       rw[hb0] at e;simp only[LJ,Mp] at e;cases q:x==n with
       |
        true=>
        rw[q] at e;have e':k=kk:=E_ e;subst e';rcases hkk with z |z
        .exact absurd z (hn (n,k) l_)
        .exact absurd z hkf
       |false=>rw[q] at e;obtain⟨k',m,q⟩:=ih (λz hz=>hn z (k_ _ hz)) kk hkk e;exact⟨k',k_ _ m,q⟩
    rcases hx' with z |z
    .exact gen scope.names hnc _ (.inl rfl) z
    .exact gen scope.names hnc _ (.inr rfl) z
   obtain⟨k,m,q⟩:=this;exact hclf (x,k) m q
  .show b≠G2.objs.size;exact (below b (fpOld b hb)).1
  .exact (f2 b hb).2.2.2.2.1 x c (hcl x c e) z
  .rcases (f2 b hb).2.2.2.1 with z |z
   .exact I2.ok.noex b o e z
   .exact absurd (w_ (t_ e) (F_ I2.ok.bsz z)) (K4 _)
  .have hf':b∈frs X.stack:=hf;rcases C_.mp (I2.stkSub b hf') with z |z
   .exact (f2 b hb).2.1 z
   .exact (f2 b hb).2.2.1 z
 have startLoc
  : ∃m,h₁.Ns G2.objs.size m/\∀(i:Nat) (x:Str) (v:V),N[i]?=some x->(eO sub σ)[i]?=some (some v)->Vis (relabel scope X.env) x->∃u,RelV v u/\Look Y.env h₁ m x u:=by
  refine⟨_,hns₁,λj x v e1 e2 e3=>?_⟩;unfold eO at e2;rw[Kz] at e2;cases q:sub[j]? with
  |none=>rw[q] at e2;cases e2
  |
   some o=>
   rw[q] at e2;cases o with
   |none=>cases e2
   |
    some i=>
    obtain⟨hNi,hfree⟩:=hsub j i x q e1;have e2':(σ[i]?).bind id=some v:=E_ e2;have e2'':σ[i]?=some (some v):=by
     cases z:σ[i]? with
     |none=>rw[z] at e2';cases e2'
     |some y=>rw[z] at e2';rw[show y=some v from e2']
    obtain⟨m2,hn2,hl2⟩:=I2.loc;have hkx:=hfr (x,.free) (K6 hfree) rfl;obtain⟨u,r,l⟩:=hl2 i x v hNi e2'' (by rcases hkx with z |z;exact .inr (.inl z);exact .inr (.inr z));refine⟨u,r,.inr ⟨?_,?_⟩⟩
    .rcases e3
      with z |z |z
     .exfalso;have gen:∀(names:List (Str×NameKind)),names.lookup x=some .free->(names.map λ(n,k)=>if (k==NameKind.free&&X.env.scope.kind == .function&&X.env.kindOf n==some .cell) then (n,NameKind.cell) else (n,k)).lookup x=some .local->False:=by
       intro names;induction names with
       |nil=>intro e _;simp at e
       |
        cons y r ih=>
        intro e1 e2;obtain⟨n,k⟩:=y;rw[Lk] at e1;rw[s_,Lk] at e2;by_cases hxn:x=n
        .have hb1:(x==n)=true:=KH.mpr hxn;rw[hb1] at e1;have:k=.free:=E_ e1;subst this;split at e2
         .rename_i hq;split at e2 <;> cases e2
         .rename_i hq;split at hq <;> (rw[hb1] at hq;cases hq)
        .have hb1:(x==n)=false:=r_.mpr hxn;rw[hb1] at e1;refine ih e1 ?_;split at e2
         .rename_i hq;split at hq <;> (rw[hb1] at hq;cases hq)
         .exact e2
      exact gen scope.names hfree z
     .exact .inl z
     .exact .inr z
    .obtain⟨c,hc'⟩:=hclf (x,.free) (K6 hfree) rfl;refine⟨c,hc',?_⟩;rcases l with ⟨k,_⟩ |⟨_,c2,ec2,z⟩
     .rcases hkx with z |z <;> (rw[k] at z;cases z)
     .have:=hcl x c hc'
      rw[ec2] at this;cases this;obtain⟨oc,hoc,hd⟩:=z;exact⟨oc,old _ _ hoc,hd⟩
 have pinD:∀{σ':St}{H':Hp}{s':Shared}{pl:Nb}{o:Obj},Inv Y pl σ' H' s'->s'.heap.get? s2.heap.objs.size=some o->(∀v,o.data ≠ .cell v)->H' s2.heap.objs.size=none->Inv Y [(s2.heap.objs.size,o)] σ' H' s':=λ{σ' H' s' pl o} IY e d n=>
  IY.pins_of λp hp=>by
   have e':p=(s2.heap.objs.size,o):=by simpa using hp
   subst e';refine⟨e,n,?_,?_,d⟩
   .show s2.heap.objs.size≠G2.objs.size;omega
   .intro hf;have hf':s2.heap.objs.size∈frs X.stack:=hf;obtain⟨_,o',ho',_⟩:=I2.stack.mem hf';exact absurd (t_ ho') (K4 _)
 have fpY:∀{H':Hp}{pl:Nb},(∀b∈fp,H' b=none)->(∀p∈pl,p.1∉fp)->∀b∈fp,FpOk Y pl H' b:=λ{H' pl} hn hp b hb=>by
  refine⟨hn b hb,?_,?_,.inl hb,λx c e=>?_,λp hp'=>?_⟩
  .exact (okY.exf b hb).1
  .exact okY.exfs b hb
  .exact (okY.exf b hb).2 x c e
  .intro z;have hp'':p∈pl:=by simpa [Y,bN] using hp'
   exact hp p hp'' (by rw[z];exact hb)
 have hDfp:s2.heap.objs.size∉fp:=λz=>K4 _ (fpOld _ z);have loop
  : ∀s₃:Shared,s₃={ s2 with heap:=h₁,toks:=s2.toks+([]:List (Str×Value)).length }->
  codeAny (model X.prog X.w) X.A (.compLoop (.ListComp elt [⟨tg,iter,ifs,0⟩] scope pos) 0 (.ref it) (.ref s2.heap.objs.size) (compEnvC scope cl G2.objs.size X.env))
   (compPost (model X.prog X.w) X.A X.xe use R (.ref s2.heap.objs.size) G2.objs.size) s₃:=by
  rintro s₃ rfl;have IY0:Inv Y [(s2.heap.objs.size,{ cls:=.type "list",dict:=none,data:=.seq ([]:List Value).toArray })] (eO sub σ) H2 { s2 with heap:=h₁,toks:=s2.toks+([]:List (Str×Value)).length }:=by
   have J0:Inv Y [] (eO sub σ) H2 { s2 with heap:=h₁,toks:=s2.toks+([]:List (Str×Value)).length }:=by
    refine⟨okY,rfl,I2.bare,Un.kept old,startLoc,λx c e=>?_,I2.hok.fresh (by show s2.heap.objs.size<=G2.objs.size;omega),λx c e=>I2.freeC x c (hcl x c e),λp hp=>absurd (show p∈([]:Nb) from hp) (by simp),I2.hok.kept old,?_⟩
    .obtain⟨v,oc,hoc,hd⟩:=I2.cell x c (hcl x c e);exact⟨v,oc,old _ _ hoc,hd⟩
    .show (eO sub σ).length=N.length;unfold eO;rw[j_];exact hsl
   exact pinD J0 hD₁ (λv z=>by cases z) I2.fresh
  refine tq (λn s'=>∃(i:Nat) (ys:List V) (its:List Value) (k:Nat) (σ':St) (H':Hp),Inv Y [(s2.heap.objs.size,{ cls:=.type "list",dict:=none,data:=.seq its.toArray k })] σ' H' s'/\Vals ys its/\tn i s'.heap/\(∀b∈fp,H' b=none)/\W i n ys σ' H') ?_ m0
   ⟨0,[],[],0,eO sub σ,H2,IY0,.nil,T.keep _ _ _ st2 (λb hb o e=>old b o e),λb hb=>(f2 b hb).1,w0⟩
  rintro n s3 ⟨i,ys,its,k,σ3,H3,I3,rv,st3,fr3,w3⟩;have npl:∀(o:Obj),∀p∈[(s2.heap.objs.size,o)],p.1∉fp:=λo p hp=>by
   have e':p=(s2.heap.objs.size,o):=by simpa using hp
   subst e';exact hDfp
  rcases turn i n ys σ3 H3 w3 with ⟨stop,hz,qn⟩ |⟨go,hz,Nx,hNx,step⟩
  .refine KL (T.done Y rfl rfl rfl hc i _ s3 σ3 H3 (λ_ _=>False) I3 (fpY fr3 (npl _)) st3 stop) (λr s4 ⟨hr,I4⟩=>?_) λ_ _ z=>z;subst hr;obtain⟨m4,hn4,_⟩:=I4.loc;have hCfree:H3 G2.objs.size=none:=I4.free;have hD4:=I4.pin (s2.heap.objs.size,{ cls:=.type "list",dict:=none,data:=.seq its.toArray k }) (Ky _ l_);have un4:Un (frs X.stack) fp H2 H3 s2.heap s4.heap:=I4.base;have ne2:∀b o,s2.heap.get? b=some o->b≠G2.objs.size:=λb o e=>(below b (t_ e)).1;have hDfree:H3 s2.heap.objs.size=none:=hD4.2.1;have sz0:X.s₀.heap.objs.size<=s2.heap.objs.size:=I2.sz;refine d_ s2.heap.objs.size G2.objs.size s4 ⟨⟨m4,hn4⟩,by rw[hC];exact Nat.lt_succ_self _,I2.lt,λx c e=>?_,λp hp=>t_ (I2.pin p hp).1,sz0,upd H3 s2.heap.objs.size (.lst ys),by rw[aG (Ne.symm hDC)];exact hCfree,qn _ hDfree,λh' hs'=>?_⟩
   .obtain⟨v,q⟩:=I2.cell x c e;exact q.lt
   have up:∀b o,b≠G2.objs.size->s4.heap.get? b=some o->h'.get? b=some o:=λb o hb e=>hs'.extBut b o hb e;have un5:Un (frs X.stack) fp H2 H3 s2.heap h':=by
    refine⟨λb o e n hb hx=>up b o (ne2 b o e) (un4.keep b o e n hb hx),λb o e n hb hx=>?_,un4.free,λb o e hx=>?_,un4.tups,un4.frzs,un4.tbls⟩
    .obtain⟨sl,q⟩:=un4.slot b o e n hb hx;exact⟨sl,up b _ (ne2 b o e) q⟩
    .obtain⟨o',q⟩:=un4.there b o e hx;exact⟨o',up b _ (ne2 b o e) q⟩
   have hok5:HOk X.prog X.w H3 h':=λb u e=>(I4.hok b u e).stay (λc v hcc q=>up c v (λz=>by
    rcases hcc with zz |zz
    .rw[zz] at z;rw[z,hCfree] at e;cases e
    .rw[z,hCfree] at zz;cases zz) q) (λ_ q=>q) λ_ _ q=>q
   have I5:Inv X pins σ H3 { s4 with heap:=h' }:=I2.call' (s':={ s4 with heap:=h' }) (ch:=fp) I4.os un5 hok5 I4.bare λb hb=>by obtain⟨_,g1,_,g3,g4,g5⟩:=f2 b hb;exact⟨g3,g1,g4,g5⟩
   refine I5.track (o:=.lst ys) hDfree (Mr sz0) (Mb I2.lt) (λx c e z=>?_) (λp hp z=>?_) ?_
   .obtain⟨v,q⟩:=I2.cell x c e;exact absurd q.lt (by rw[z];exact K4 _)
   .exact absurd (t_ (I2.pin p hp).1) (by rw[z];exact K4 _)
   .exact⟨hz,its,k,rv,up _ _ hDC hD4.1⟩
  .refine KL (T.item Y rfl rfl rfl hc i _ s3 σ3 H3 (λ_ _=>False) I3 (fpY fr3 (npl _)) st3 go) (λr s4 ⟨u,hr,h4⟩=>?_) λ_ _ z=>z;subst hr;refine KL h4 (λ_ s5 ⟨x,H5,I5,r5,y5,st5,fr5⟩=>?_) λ_ _ z=>z;have I5':=I5.pinned (fpY fr5 (npl _)) (T.obj _ _ st5);refine KL (hg cl G2.objs.size s2 H2 fp _ s5 σ3 H5 x u _ I5' r5 (step x H5 y5)) (λ_ s6 ⟨σ6,H6,I6,q6⟩=>?_) λ_ _ z=>z;refine KL (ht cl G2.objs.size s2 H2 fp _ s6 σ6 H6 _ I6 q6) (λok s7 ⟨H7,I7,q7⟩=>?_) λ_ _ z=>z;have back:∀{σ':St}{H':Hp}{s':Shared},Inv Y ([(s2.heap.objs.size,{ cls:=.type "list",dict:=none,data:=.seq its.toArray k })]++ku fp s5.heap) σ' H' s'->tn (i+1) s'.heap/\∀b∈fp,H' b=none:=λ{σ' H' s'} IB=>by refine⟨T.keep _ _ _ st5 λb hb o e=>(IB.pin (b,o) (Ky _ (Ky _ (gA hb e)))).1,λb hb=>?_⟩;obtain⟨o,e,d⟩:=T.obj _ _ st5 b hb;exact (IB.pin (b,o) (Ky _ (Ky _ (gA hb e)))).2.1
   cases ok with
   |false=>rw[if_neg h_] at q7;obtain⟨m',hm,w7⟩:=hNx _ _ _ q7;rw[if_neg h_];obtain⟨t7,f7⟩:=back I7;exact⟨m',hm,i+1,ys,its,k,σ6,H7,I7.unpinned,rv,t7,f7,w7⟩
   |
    true=>
    rw[if_pos rfl] at q7;rw[if_pos rfl];refine KL (he cl G2.objs.size s2 H2 fp _ s7 σ6 H7 _ I7 q7) (λy s8 zz=>exA zz λyv H8 I8 r8 q8=>?_) λ_ _ z=>z;obtain⟨m',hm,w8⟩:=hNx _ _ _ q8;obtain⟨t8,f8⟩:=back I8;have I9:=I8.unpinned;have hD9:=I9.pin (s2.heap.objs.size,{ cls:=.type "list",dict:=none,data:=.seq its.toArray k }) (Ky _ l_);have e9:s8.heap.get? s2.heap.objs.size=some { cls:=.type "list",dict:=none,data:=.seq its.toArray k }:=hD9.1;have b_:=rv.length;refine call_meets F.slot_list_append ⟨_,e9,rfl⟩ F.entry_list_append (F.args_list_append_2 _ _) (PySem.list_append _ its.toArray k y (by rw[y_];omega)) ⟨e9,?_⟩;have q9:=PySem.IsL.update e9 (λxs=>xs.push y);have ea:its.toArray.push y=(its++[y]).toArray:=by simp
    rw[ea] at q9;have k9:∀b o,b≠s2.heap.objs.size->s8.heap.get? b=some o->(s8.heap.update s2.heap.objs.size (Obj.mapSeq λxs=>xs.push y)).get? b=some o:=λb o hb e=>(Heap.get?_update_other _ _ (Ne.symm hb)).trans e;have I10:Inv Y [] σ6 H8 { s8 with heap:=s8.heap.update s2.heap.objs.size (Obj.mapSeq λxs=>xs.push y) }:=
     (I9.pins_of (pins':=[]) (λp hp=>nomatch hp)).turned (t':=s8.toks) k9 hD9.2.1 hD9.2.2.1 (.inr (m_ _)) (λx c e z=>absurd (cellOld x c e) (by rw[z];exact K4 _))
      (λp hp=>absurd (show p∈([]:Nb) from hp) (by simp))
    refine⟨m',hm,i+1,ys++[yv],its++[y],_,σ6,H8,pinD I10 q9 (λv z=>by cases z) hD9.2.1,rv.append (.cons r8 .nil),?_,f8,w8⟩;exact T.keep _ _ _ t8 λb hb o e=>k9 b o (λz=>hDfp (by rw[<- z];exact hb)) e
 exact codeAny_compStart_list (loop _ rfl) (T.self _ 0 _ _ _ (T.keep _ _ _ st2 λb hb o e=>old b o e) (loop _ rfl))
def Hf{elt iter tg:Expr}{ifs:List Expr}{scope:Scope}{pos:Pos}{wi:TI}{g:TG}{tc:TT}{te:TE}{N:List Str}{sub:Nd}
 (hc:X.calm=true) (hi:PI X tg iter wi)
 (hk:scope.kind=.function) (hnc:∀x∈scope.names,x.2 ≠ .cell) (f_:∀x∈scope.names,x.2=.local->scope.names.lookup x.1=some .local)
 (hfr:∀x∈scope.names,x.2=.free->X.env.kindOf x.1=some .cell\/X.env.kindOf x.1=some .free)
 (hsl:sub.length=N.length) (hsub:∀(j i:Nat) (x:Str),sub[j]?=some (some i)->N[j]?=some x->X.N[i]?=some x/\scope.names.lookup x=some .free)
 (hg:∀cl C s₂ H fp,PG (bN X N scope cl C s₂ H fp) tg g) (ht:∀cl C s₂ H fp,PTs (bN X N scope cl C s₂ H fp) ifs tc) (he:∀cl C s₂ H fp,PE (bN X N scope cl C s₂ H fp) elt te)
 (hs:∀x,foldedSetIterable iter X.env x=pure x):
 PE X (.ListComp elt [⟨tg,iter,ifs,0⟩] scope pos) (rb wi sub g tc te):=by
 intro pins s σ H Q I h;rw[eval_ListComp];refine wg hc hi hk hnc f_ hfr hsl hsub hg ht he hs I h λD C s4 e=>?_;obtain⟨m,hm⟩:=e.ns;obtain⟨H',_,q,i⟩:=e.inv;exact⟨m,hm,λh' hs'=>⟨.ref D,H',i h' hs',rfl,q⟩⟩
noncomputable def rq (M:List Str) (names:List (Str×NameKind)) (sub:Nd) (N:List Str):Bool:=(sub.zip N).all λp=>match p.1 with
 |none=>true
 |some i=>M[i]?==some p.2&&names.lookup p.2==some .free
def tK{M:List Str}{names:List (Str×NameKind)}{sub:Nd}{N:List Str}(h:rq M names sub N=true)(j i:Nat)(x:Str)(h1:sub[j]?=some (some i))(h2:N[j]?=some x):
 M[i]?=some x/\names.lookup x=some .free:=by
 unfold rq at h;rw[D_] at h;have hm:(some i,x)∈sub.zip N:=by refine Ly (i:=j) ?_;rw[List.getElem?_zip_eq_some];exact⟨h1,h2⟩
 have q:=h _ hm;simp only[p_,KH] at q;exact q
noncomputable def wu (kn names:List (Str×NameKind)):Bool:=names.all λx=>x.2 != .free || kn.lookup x.1==some .cell || kn.lookup x.1==some .free
def uY{kn names:List (Str×NameKind)}(h:wu kn names=true):∀x∈names,x.2=.free->kn.lookup x.1=some .cell\/kn.lookup x.1=some .free:=λx hx hf=>by unfold wu at h;rw[D_] at h;have q:=h x hx;rw[hf] at q;simpa using q
end
open PySem PySem.Spec PyProof.Rows PySem.W PySem.Builtin PySem.Builtin.ObjectAttr PySem.Builtin.Getset_descriptor
structure XCls(K:W.Frag)(C:Addr):Prop where
 cls:(clsIn K C).isSome=true
 ga:findIn K (.ref C) "__getattribute__"=some (some (.builtin "BaseException.__getattribute__"))
 gt:findIn K (.ref C) "__getattr__"=some none
 at_:findIn K (.ref C) "__class__"=some (some (.builtin "object.__class__"))
 gs:specialIn K (.builtin "object.__class__") "__get__"=some (some (.builtin "getset_descriptor.__get__"))
 tk:takesIn K (.builtin "object.__class__")=some true
 mo:mroIn K C (.type "object")=some true
 mb:mroIn K C (.type "BaseException")=some true
section
variable{prog:Program}{w:World}{A:Around}{E:Nc}{K:W.Frag}{x C:Addr}{o:Obj}
def jG(hx:h.get? x=some o)(hc:o.cls=.ref C):Looks M h (typeOf (.ref x)) (.ref C):=hc ▸ (Looks.ld hx).andThen .now
def AV(X:K.In h)(T:XCls K C):Looks M h (find (.ref x) (.ref C) "__class__") (.bind (.builtin "getset_descriptor.__get__") (.builtin "object.__class__")):=by have L1:=looks_findIn (M:=M) X T.at_;have L2:Looks M h (getOf (some (.builtin "object.__class__"))) (some (.builtin "getset_descriptor.__get__")):=looks_specialIn X T.gs;have L3:=looks_takesIn (M:=M) X T.tk;refine L1.andThen (L2.andThen ?_);exact (show Looks M h (dataDescriptor? (some (.builtin "object.__class__")) (some (.builtin "getset_descriptor.__get__"))) (some (.builtin "getset_descriptor.__get__",.builtin "object.__class__")) from L3.andThen .now).andThen (Looks.tag .now)
def qK(X:K.In s.heap)(hx:s.heap.get? x=some o)(hc:o.cls=.ref C)(T:XCls K C)
 (h:R (.ok (.ret (.ref C))) s):codeAny (model prog w) A (.call (.builtin "getset_descriptor.__get__") ⟨[.builtin "object.__class__",.ref x,tp],[]⟩) R s:=by
 obtain⟨hh,g,dr,t,os⟩:=s;have L0:=jG (M:=model prog w) hx hc;have L1:=looks_mroIn (M:=model prog w) X T.mo;refine codeAny_call_builtin KF.slot_gs.plain KF.entry_gs (KF.slot_gs.check _ _ _ _ _ _ _ _ KF.type_class (KF.args_gs _ _ _) ?_);unfold Builtin.«getset_descriptor.__get__» descrGet;rw[dga_obj];refine i_ (n_ ?_);unfold descrGetter descrCheckInstance descrNameAndClass isInstance;simp only[KF.owner_class];repeat lk
 refine⟨Code.quiet_builtin _ (by decide),codeAny_builtin KF.entry_class ?_⟩;unfold Builtin.«object.__class__» shownTypeOf;repeat lk
 exact h
def yR(X:K.In s.heap)(hx:s.heap.get? x=some o)(hc:o.cls=.ref C)(T:XCls K C)(hq:Q () s):
 wpAny M A (checkBuiltinCall "BaseException.__getattribute__" ⟨[.ref x,nameV],[]⟩) Q E s:=by
 obtain⟨h,g,dr,t,os⟩:=s;have hk:builtinKind "BaseException.__getattribute__"=some .slot:=by decide
 have hsplit:splitId "BaseException.__getattribute__"=some ("BaseException", "__getattribute__"):=by decide
 have ha:=PySem.F.args_bexc_ga (.ref x) nameV;have L0:=jG (M:=M) hx hc;have LM:=looks_mroIn (M:=M) X T.mb;have LI:Looks M h (isInstance (.ref x) (.type "BaseException")) true:=L0.andThen LM;simp only[checkBuiltinCall,hk,hsplit];refine i_ ?_;refine LI.at ?_;repeat (first |wp_step)
 all_goals exact hq
def G6(X:K.In s.heap)(hx:s.heap.get? x=some o)(hc:o.cls=.ref C)(T:XCls K C)(h:Q (some (.ref C)) { s with toks:=s.toks+1 }):
 wpAny (model prog w) A (getAttr? (.ref x) "__class__") Q E s:=by
 obtain⟨hh,g,d,t,os⟩:=s;have L0:=jG (M:=model prog w) hx hc;have L1:=looks_findIn (M:=model prog w) X T.ga;have L2:=looks_findIn (M:=model prog w) X T.gt;have LF:=AV (M:=model prog w) (x:=x) X T;have f3:=PySem.F.excAttr_ValueError.ga.bind (.ref x);have hx2:(Value.builtin "BaseException.__getattribute__" == Value.builtin "object.__getattribute__")=false:=by decide
 unfold getAttr? getAttrBy? getAttrBy;refine i_ (wpAny_mkText (i_ (MW (Lh (i_ (L0.at (i_ (L1.at ?_))))))));dsimp only;rw[if_neg (by rw[hx2];simp)];unfold getAttrByItsOwn hookBefore;rw[if_pos (show onTheHeap (Value.ref C)=true from rfl)];refine i_ (L2.at ?_);unfold callGetattribute;refine i_ (MW (Lh ?_));rw[if_neg (by simp)];unfold boundAndCalled;refine i_ (wpAny_of_eq f3 ?_);refine wpAny_call (codeAny_call_builtin PySem.F.excAttr_ValueError.ga.plain PySem.F.entry_bexc_ga (yR X hx hc T ?_));unfold Builtin.«object.__getattribute__»;repeat (first |(refine i_ (L0.at ?_)) |(refine i_ (LF.at ?_)) |wp_step)
 refine qK (s:=⟨hh,g,d,t+1,os⟩) X hx hc T ?_;repeat (first |exact h |wp_step)
def xI(x:Addr)(C:Addr)(h:Heap):Prop:=∃o vs,h.get? x=some o/\o.cls=.ref C/\o.data=.fields vs
def BB(T:XCls K C):KitX K (.ref x) (.ref C) (xI x C) where
 ty:=λM h _ ⟨o,_,hx,hc,_⟩=>jG hx hc
 it:=λM h X _=>by
  obtain⟨cd,hcd⟩:=Lc.mp T.cls;unfold clsIn at hcd;split at hcd
  .rename_i c' d' cd' sl' ho;intro A' Q' E' s' k q;unfold isType loadHead;exact i_ (wpAny_loadPart (k _ _ (X _ _ ho)) (n_ q))
  .cases hcd
 ne:=λh tp dd its n sl X htp=>by
  obtain⟨cd,hcd⟩:=Lc.mp T.cls;refine Bool.eq_false_iff.mpr λq=>?_;have e:C=tp:=Value.ref.inj (KH.mp q);subst e;unfold clsIn at hcd;split at hcd
  .rename_i c' d' cd' sl' ho;have z:=(X _ _ ho).symm.trans htp;cases z
  .cases hcd
 ca:=λX ⟨o,_,hx,hc,_⟩ k=>G6 X hx hc T k
end
inductive TyX(K:W.Frag)(H:Hp):V->Value->Prop where
 |of {x:V}{t:Value} (h:TyOf K H x t):TyX K H x t
 |exc {a C:Addr} (e:H a=some (.ext (xI a C))) (T:XCls K C):TyX K H (.ref a) (.ref C)
 |sqT {a:Addr}{xs:List V} (h:SqT K H a xs):TyX K H (.ref a) (.type "tuple")
 |sqL {a:Addr}{xs:List V} (h:SqL K H a xs):TyX K H (.ref a) (.type "list")
section
variable{X:Cx}{pins:Nb}{σ:St}{H:Hp}{s:Shared}{c:Value}
def wd(I:Inv X pins σ H s)(rx:RelV x u)(ty:TyX X.K H x t):∃Hh:Heap->Prop,KitX X.K u t Hh/\Hh s.heap/\u ≠ .builtin "__main__.__loader__#opaque":=by
 cases ty with
 |exc ea T=>cases (show u=Value.ref _ from rx);exact⟨_,BB T,(I.hok _ _ ea).1,λz=>nomatch z⟩
 |sqT h=>cases (show u=Value.ref _ from rx);obtain⟨its,rv,⟨o,e,c,_⟩,_⟩:=I.tuple h;exact⟨_,kitx_tuple,⟨o,e,c⟩,λz=>nomatch z⟩
 |sqL h=>cases (show u=Value.ref _ from rx);obtain⟨its,rv,⟨o,n,e,c,_⟩,_⟩:=I.list h;exact⟨_,kitx_list,⟨o,e,c⟩,λz=>nomatch z⟩
 |
  of ty=>
  cases ty with
  |non=>cases (show u=Value.none from rx);exact⟨_,kitx_none,True.intro,λz=>nomatch z⟩
  |bl y=>cases (show u=Value.bool y from rx);exact⟨_,kitx_bool,True.intro,λz=>nomatch z⟩
  |int i=>obtain⟨t,q⟩:=(show ∃t,u=Value.int i t from rx);cases q;exact⟨_,kitx_int,True.intro,λz=>nomatch z⟩
  |str y=>obtain⟨t,q⟩:=(show ∃t,u=Value.str y t from rx);cases q;exact⟨_,kitx_str,True.intro,λz=>nomatch z⟩
  |flt y=>obtain⟨t,q⟩:=(show ∃t,u=Value.float y t from rx);cases q;exact⟨_,kitx_float,True.intro,λz=>nomatch z⟩
  |@lst a xs ea=>cases (show u=Value.ref a from rx);obtain⟨_,_,n,_,h1⟩:=(show ObjOk X.prog X.w H s.heap a (.lst xs) from I.hok a _ ea);exact⟨_,kitx_list,⟨_,h1,rfl⟩,λz=>nomatch z⟩
  |@frz a ob xs ea=>cases (show u=Value.ref a from rx);obtain⟨_,_,_,n,_,h1⟩:=(show ObjOk X.prog X.w H s.heap a (.frz ob (.lst xs)) from I.hok a _ ea);exact⟨_,kitx_list,⟨_,h1,rfl⟩,λz=>nomatch z⟩
  |@tup a xs ea=>cases (show u=Value.ref a from rx);obtain⟨_,_,_,p⟩:=(show ObjOk X.prog X.w H s.heap a (.tup xs) from I.hok a _ ea);obtain⟨o,h1,h2,_⟩:=p;exact⟨_,kitx_tuple,⟨o,h1,h2⟩,λz=>nomatch z⟩
  |@dK a kvs ea=>cases (show u=Value.ref a from rx);obtain⟨_,_,vs,_,p⟩:=(show ObjOk X.prog X.w H s.heap a (.dK kvs) from I.hok a _ ea);obtain⟨o,es,ep,h1,h2,_⟩:=p;exact⟨_,kitx_dict,⟨o,h1,h2.1⟩,λz=>nomatch z⟩
  |@dT a kvs ea=>cases (show u=Value.ref a from rx);obtain⟨_,_,xs,_,o,es,ep,h1,h2,_⟩:=(show ObjOk X.prog X.w H s.heap a (.dT kvs) from I.hok a _ ea);exact⟨_,kitx_dict,⟨o,h1,h2.1⟩,λz=>nomatch z⟩
  |@ins a C dx fs ea cl ha hn htk hm=>cases (show u=Value.ref a from rx);obtain⟨mA,O,_⟩:=DC I.hok ea;obtain⟨od,J,_⟩:=O.look;exact⟨_,kitx_own (cl.get _) cl.hd ha hn htk hm,J,λz=>nomatch z⟩
end
section
variable{X:Cx}
noncomputable def fY:V->Option Value
 |.ref C=>some (.ref C)
 |.ty T=>some (.type T)
 |_=>none
def tY(h:fY c=some v)(r:RelV c u):u=v:=by
 cases c with
 |ref C=>cases r;exact E_ h
 |ty T=>cases r;exact E_ h
 |_=>cases h
theorem pP:∀{cs:List V}{us vs:List Value},cs.mapM fY=some vs->Vals cs us->us=vs
 |
  [],_,vs,h,.nil=>by
  have h':some ([]:List Value)=some vs:=h;exact E_ h'
 |
  c::cs,_,vs,h,.cons r rr=>by
  rw[List.mapM_cons] at h;cases q:fY c with
  |none=>rw[q] at h;cases h
  |
   some v=>
   rw[q] at h;cases q2:cs.mapM fY with
   |none=>rw[q2] at h;cases h
   |some vs'=>rw[q2] at h;have h':some (v::vs')=some vs:=h;cases h';rw[tY q r,pP q2 rr]
def Ax:CallR X (.builtin "isinstance") (λxs H Q=>∃x c t v b,xs=[x,c]/\TyX X.K H x t/\fY c=some v/\kitOne X.K t v=some b/\Q (.bl b) H):=by intro pins s σ H xs us Q I r h;obtain⟨x,c,t,v,b,rfl,ty,hc,hk,q⟩:=h;obtain⟨u,w',rfl,rx,rc⟩:=CS r;obtain rfl:=tY hc rc;obtain⟨Hh,Z,p,hne⟩:=wd I rx ty;exact kia_one Z I.kIn p hk hne λtk=>⟨.bl b,H,I.tok _,rfl,q⟩
end
def ObjOk.there(x:ObjOk P w H h a o):∃u,h.get? a=some u:=by
 cases o with
 |lst xs=>obtain⟨_,_,_,_,e⟩:=x;exact⟨_,e⟩
 |tup xs=>obtain⟨_,_,_,ob,e,_⟩:=x;exact⟨_,e⟩
 |dK kvs=>obtain⟨_,_,_,_,o,_,_,e,_⟩:=x;exact⟨_,e⟩
 |dT kvs=>obtain⟨_,_,_,_,o,_,_,e,_⟩:=x;exact⟨_,e⟩
 |set S n=>obtain⟨o,_,_,_,e,_⟩:=x;exact⟨_,e⟩
 |ins C dx fs=>obtain⟨_,_,_,e,_⟩:=x;exact⟨_,e⟩
 |own y=>exact x
 |xd fs=>obtain⟨_,⟨_,_,_,e,_⟩,_⟩:=x;exact⟨_,e⟩
 |rng lo hi=>obtain⟨_,_,_,e⟩:=x;exact⟨_,e⟩
 |frz ob u=>obtain⟨e,_⟩:=x;exact⟨_,e⟩
 |tbl ps=>exact⟨_,show h.get? a=some _ from x⟩
 |met f y=>exact⟨_,show h.get? a=some _ from x⟩
 |ext φ=>obtain⟨_,e,_⟩:=x;exact e
structure Fly(P:Program)(w:World)(outer:List Env)(H:Hp)(h₀:Heap)(H':Hp)(ea:Addr)(cls:Value)(h:Heap)(B:Heap)(t:Addr):Prop where
 un:Un (frs outer) [] H H' h₀ h
 hok:HOk P w H' h
 fl:Heap.FlyingW B outer ea cls (.ref t) h
 old:∀b o,h₀.get? b=some o->b∉frs outer->∃o',B.get? b=some o'
 trk:∀b o,H' b=some o->∃o',B.get? b=some o'
def CX1(P:Program)(w:World):CXT:=λouter H s E e s'=>∃(ea t:Addr) (cls:Value) (H':Hp) (B:Heap),e=.ref ea/\s'.os=s.os/\AllBare s'.gens/\Fly P w outer H s.heap H' ea cls s'.heap B t/\E cls none H'
def sd(h:env.frame=some L):frs (env::outer)=L::frs outer:=by unfold frs;rw[K1,h]
section
variable{P:Program}{w:World}{outer:List Env}{H H':Hp}{h₀ h h' B:Heap}{ea t:Addr}{cls:Value}
def Fly.step(F:Fly P w outer H h₀ H' ea cls h B t)(fl':Heap.FlyingW B outer' ea cls (.ref t) h')(up:h.UpToSlots h'):
 Un (frs outer) [] H H' h₀ h'/\HOk P w H' h':=by
 have st:=F.fl.1;have same:∀b o,(∃o',B.get? b=some o')->h.get? b=some o->h'.get? b=some o:=λb o ⟨o',e⟩ q=>by have z:=st b o' e;rw[q] at z;cases z;exact fl'.1 b _ e
 have frame:∀b o,b∈frs outer->h.get? b=some o->∃sl,h'.get? b=some { o with slots:=sl }:=λb o hb q=>by obtain⟨_,o',ho',hd⟩:=F.fl.2.2.1.mem hb;rw[q] at ho';cases ho';exact up b o q hd
 refine⟨⟨λb o e n hb hx=>same b o (F.old b o e hb) (F.un.keep b o e n hb hx),λb o e n hb hx=>?_,F.un.free,λb o e hx=>?_,F.un.tups,F.un.frzs,F.un.tbls⟩,λa o e=>?_⟩
 .obtain⟨sl,q⟩:=F.un.slot b o e n hb hx;obtain⟨sl',q'⟩:=frame b _ hb q;exact⟨sl',q'⟩
 .obtain⟨o',q⟩:=F.un.there b o e hx;by_cases hb:b∈frs outer
  .obtain⟨sl,q'⟩:=frame b _ hb q;exact⟨_,q'⟩
  .exact⟨o',same b o' (F.old b o e hb) q⟩
 .refine (F.hok a o e).stay (λb u hb q=>same b u ?_ q) (λ_ q=>q) λ_ _ q=>q;rcases hb with z |z
  .rw[z];exact F.trk a o e
  .exact F.trk b _ z
end
structure Cx.Top(X:Cx):Prop where
 ex:X.ex=[]
 stk:X.stack=X.env::X.outer
 fr:X.env.frame=some X.env.locals
section
variable{X:Cx}{pins:Nb}{σ:St}{H:Hp}{s s':Shared}{E:XK}{e:Value}
def zj(T:X.Top)(hA:A.frames=some X.stack)(I:Inv X pins σ H s)(h:CX1 X.prog X.w X.stack H s E e s'):
 wpAny (model X.prog X.w) A (leaving X.env e) (λ_ s''=>CX1 X.prog X.w X.outer X.H₀ X.s₀ E e s'') E' s':=by
 obtain⟨ea,t,cls,H',B,rfl,os,bare,F,q⟩:=h;have F0:=F;rw[T.stk] at F;have hf:=sd (outer:=X.outer) T.fr;refine wpAny_leaves_onW (by rw[hA,T.stk]) T.fr F.fl λh'' fl'' up=>?_;obtain⟨un2,hok2⟩:=F.step fl'' up;have exn:∀b,b∉X.ex:=λb z=>by rw[T.ex] at z;cases z
 have neL:∀b o,X.s₀.heap.get? b=some o->b≠X.env.locals:=λb o e=>G_ (w_ (t_ e) I.ok.above);have notin:∀b o,X.s₀.heap.get? b=some o->b∉frs X.outer->b∉frs (X.env::X.outer):=λb o e hb z=>by
  rw[hf] at z;rcases C_.mp z with z |z
  .exact neL b o e z
  .exact hb z
 refine⟨ea,t,cls,H',B,rfl,os.trans I.os,bare,⟨⟨λb o e n hb hx=>?_,λb o e n hb hx=>?_,λb o e n hx=>?_,λb o e hx=>?_,λb xs e=>un2.tups b xs (I.base.tups b xs e),λb o xs e=>un2.frzs b o xs (I.base.frzs b o xs e),λb ps e=>?_⟩,hok2,fl'',λb o e hb=>?_,F.trk⟩,q⟩
 .exact un2.keep b o (I.base.keep b o e n hb (exn b)) (I.base.free b o e n (exn b)) (notin b o e hb) (by simp)
 .obtain⟨sl,e1⟩:=I.base.slot b o e n hb (exn b);obtain⟨sl',e2⟩:=un2.slot b _ e1 (I.base.free b o e n (exn b)) (by rw[hf];exact k_ _ hb) (by simp);exact⟨sl',e2⟩
 .obtain⟨o',e1⟩:=I.base.there b o e (exn b);exact un2.free b o' e1 (I.base.free b o e n (exn b)) (by simp)
 .obtain⟨o',e1⟩:=I.base.there b o e (exn b);exact un2.there b o' e1 (by simp)
 .obtain⟨m1,e1⟩:=I.base.tbls b ps e;obtain⟨m2,e2⟩:=un2.tbls b _ e1;exact⟨m1++m2,by rw[e2,Array.append_assoc]⟩
 .obtain⟨o',e1⟩:=I.base.there b o e (exn b);exact F.old b o' e1 (notin b o e hb)
def Bm(T:X.Top)(hA:A.frames=some X.stack)(I:Inv X pins σ H s)(hx:Heap.MadeExcOf s.heap h' ea cls args)(q:E cls none H):
 wpAny (model X.prog X.w) A (leaving X.env (.ref ea)) (λ_ s''=>CX1 X.prog X.w X.outer X.H₀ X.s₀ E (.ref ea) s'') E' { s with heap:=h' }:=by
 have hf:=sd (outer:=X.outer) T.fr;have stk:=I.stack;rw[T.stk] at stk;have hin:∀env∈(X.env::X.outer),∀b,env.frame=some b->b∈frs (X.env::X.outer):=λenv he b hb=>List.mem_filterMap.mpr ⟨env,he,hb⟩;refine wpAny_leaves_madeW (base:=W.hideAll s.heap (frs (X.env::X.outer))) (h:=s.heap) (by rw[hA,T.stk]) T.fr (λb o q=>W.of_hideAll _ q) (W.funFrames_hide stk hin) hx λh'' t fl tup tn up=>?_;have inB:∀b o,s.heap.get? b=some o->b∉frs (X.env::X.outer)->(W.hideAll s.heap (frs (X.env::X.outer))).get? b=some o:=λb o e hb=>W.hideAll_get _ e hb;have free:∀b∈frs (X.env::X.outer),H b=none:=λb hb=>I.stkFree b (by rw[T.stk];exact hb);have up2:s.heap.UpToSlots h'':=(Heap.UpToSlots.of_keeps hx.keeps).trans up;have exn:∀b,b∉X.ex:=λb z=>by rw[T.ex] at z;cases z
 have neL:∀b o,X.s₀.heap.get? b=some o->b≠X.env.locals:=λb o e=>G_ (w_ (t_ e) I.ok.above);have notin:∀b o,X.s₀.heap.get? b=some o->b∉frs X.outer->b∉frs (X.env::X.outer):=λb o e hb z=>by
  rw[hf] at z;rcases C_.mp z with z |z
  .exact neL b o e z
  .exact hb z
 have trk:∀b o,H b=some o->∃o',(W.hideAll s.heap (frs (X.env::X.outer))).get? b=some o':=λb o e=>by obtain⟨u,hu⟩:=(I.hok b o e).there;exact⟨u,inB b u hu λz=>by rw[free b z] at e;cases e⟩
 refine⟨ea,t,cls,H,_,rfl,I.os,I.bare,⟨⟨λb o e n hb hx=>?_,λb o e n hb hx=>?_,λb o e n hx=>?_,λb o e hx=>?_,I.base.tups,I.base.frzs,I.base.tbls⟩,λa o e=>?_,fl,λb o e hb=>?_,trk⟩,q⟩
 .exact fl.1 b o (inB b o (I.base.keep b o e n hb (exn b)) (notin b o e hb))
 .obtain⟨sl,e1⟩:=I.base.slot b o e n hb (exn b);obtain⟨_,o',ho',hd⟩:=I.ok.funs.mem hb;rw[e] at ho';cases ho';obtain⟨sl',e2⟩:=up2 b _ e1 hd;exact⟨sl',e2⟩
 .exact I.base.free b o e n (exn b)
 .obtain⟨o',e1⟩:=I.base.there b o e (exn b);by_cases hb:b∈frs X.outer
  .obtain⟨_,o2,ho2,hd⟩:=I.funs.mem hb;rw[e1] at ho2;cases ho2;obtain⟨sl',e2⟩:=up2 b _ e1 hd;exact⟨_,e2⟩
  .exact⟨o',fl.1 b o' (inB b o' e1 (notin b o e hb))⟩
 .refine (I.hok a o e).stay (λb u hb q=>?_) (λ_ q=>q) λ_ _ q=>q;refine fl.1 b u (inB b u q λz=>?_);rcases hb with y |y
  .rw[y] at z;rw[free a z] at e;cases e
  .rw[free b z] at y;cases y
 .obtain⟨o',e1⟩:=I.base.there b o e (exn b);exact⟨o',inB b o' e1 (notin b o e hb)⟩
end
section
variable{P:Program}{w:World}{K:W.Frag}{mg:Na}{base:Heap}{N:List Str}{qual:Str}{scope:Scope}{f:Addr}{cd:Value}{A:Around}{outer:List Env}{s:Shared}{H:Hp}{E:XK}
def Cf:(eS (CX1 P w) P w K mg base N qual scope f cd A outer s H E).Top:=⟨rfl,rfl,rfl⟩
def Ic:tF (CX1 P w) (eS (CX1 P w) P w K mg base N qual scope f cd A outer s H E) E:=λpins σ H s e s' I h=>zj Cf I.ok.frames I h
def JC:tF (CX1 P w) X E0:=λpins σ H s e s' I ⟨_,_,_,_,_,_,_,_,_,q⟩=>q.elim
def kQ:PassesOwn (model P w) (eS (CX1 P w) P w K mg base N qual scope f cd A outer s H E).A (eS (CX1 P w) P w K mg base N qual scope f cd A outer s H E).env (eS (CX1 P w) P w K mg base N qual scope f cd A outer s H E).xe:=PassesOwn.leaving
def Rz(X:Cx)(E:XK):Prop:=∀(pins:Nb) (σ:St) (H:Hp) (s:Shared) (h':Heap) (ea:Addr) (cls:Value) (args:List Value),Inv X pins σ H s->Heap.MadeExcOf s.heap h' ea cls args->E cls none H->X.xe (.ref ea) { s with heap:=h' }
def rz1:Rz (eS (CX1 P w) P w K mg base N qual scope f cd A outer s H E) E:=λpins σ H s h' ea cls args I hx q=>Bm Cf I.ok.frames I hx q
def Fun.okR{x qual:Str}{st:Stmt}{f:Addr}{fd:FuncData}{N ps:List Str}{k:Nat}{sp:Sp}(F:Fun K x qual st f fd)(S:FnScope N ps (ar st))(len:∀vs H Q E,sp vs H Q E->vs.length=ps.length)
 (hbody:∀(cdv:Value) (A:Around) (outer:List Env) (s:Shared) (H:Hp) (vs:List V) (Q:VK) (E:XK),Room k (A.deeper (envOfC qual (ar st) s.heap.objs.size f cdv))->sp vs H Q E->
  ∃t,PSs (eS (CX1 P w) P w K mg base N qual (ar st) f cdv A outer s H E) (bS st) t/\t { nx:=λ_ H'=>Q .non H',rt:=Q } (gj N vs) H):FnOk P w K mg base (CX1 P w) (k+1) f fd ps sp:=by
 obtain⟨oc,od,kV,doc,pm,an,cdv,ct,osl,rfl,lk,hcd⟩:=F.ex;exact JY lk hcd S len λA outer s H vs Q E hr hsp=>hbody cdv A outer s H vs Q E hr hsp
end
abbrev o6:List Value:=[.type "ValueError",.type "Exception",.type "BaseException",.type "object"]
def yC{K:W.Frag}{h:Heap}{C:Addr}(X:K.In h)(q:W.excIn K C o6 "ValueError.__new__"=true):
 ∃bm N nm q' bs hdct sn sub ab col dd k0 k1 k2 k3 k5 mN,h.get? C=some (excClassObj nm q' C N bs bm hdct sn sub ab col dd k0 k1 k2 k3 k5 "ValueError.__new__")/\h.Ns N mN/\mN "__init__"=none/\OwnTail h o6 bm:=by
 unfold W.excIn at q;split at q
 .rename_i dd cd sl ho;split at q
  .rename_i C' bm k0 k1 k2 k3 n k5 hm hs;simp only[p_,KH,Bool.not_eq_true'] at q;obtain⟨⟨⟨⟨⟨rfl,rfl⟩,hdel⟩,ht⟩,hok⟩,hni⟩:=q;obtain⟨nm,bs,mro,ns,qn,hd,sn,sub,ab,col,del⟩:=cd;dsimp only at hm hdel hok hni;subst hm hdel;have hsl:sl=#[k0,k1,k2,k3,some (.builtin "ValueError.__new__"),k5]:=by obtain⟨l⟩:=sl;simp only at hs;rw[hs]
   subst hsl;exact⟨bm,ns,nm,qn,bs,hd,sn,sub,ab,col,dd,k0,k1,k2,k3,k5,_,X _ _ ho,.of_isNs (W.isNs_of_in X hok),W.nsMap_none_of_in X hok hni,W.tail_of_in X ht⟩
  .cases q
 .cases q
section
variable{X:Cx}{x:Str}{C:Addr}{E:XK}{np cpos pos:Pos}{e₀:Expr}{es:List Expr}{ta:TA}
def F5(C:Addr)(E:XK)(ta:TA):TS:=λ_ σ H=>ta σ H λvs H1=>vs.length<=sizeLine/\E (.ref C) none H1
def BI(hc:X.calm=true)(hR:Rz X E)(hg:Gl X x)(hm:X.mg x=some (.ref C))(hq:W.excIn X.K C o6 "ValueError.__new__"=true)(ha:PA X (e₀::es) ta)
 (he:starEach (e₀::es) X.env=(false,eval e₀ X.env)::starEach es X.env) (g_:(backTo cpos (starEach es X.env)).any (·.1)=false) (hd:(x==("__debug__" : Str))=false):
 PS X (.Raise (some (.Call (.Name x np) (e₀::es) [] cpos)) none pos) (F5 C E ta):=by
 intro pins s σ H D I h;obtain⟨bm,N,nm,q',bs,hdct,sn,sub,ab,col,dd,k0,k1,k2,k3,k5,mN,hC,hN,hni,T⟩:=yC I.ok.mod.kin hq;refine wpAny_Raise_call_subT (C:=C) (nm:=nm) (q:=q') (N:=N) (bs:=bs) (bm:=bm) (hdct:=hdct) (sn:=sn) (sub:=sub) (ab:=ab) (col:=col) (dd:=dd) (k0:=k0) (k1:=k1) (k2:=k2) (k3:=k3) (k5:=k5)
  PySem.F.excBase_ValueError (mN:=mN) (T.hasType PySem.F.excBase_ValueError.hasBase) (I.ok.hd hc) (by rw[he];show (false || (backTo cpos (starEach es X.env)).any (·.1))=false;rw[g_];rfl) hni (oF I hg hm ⟨rfl,?_⟩ hd)
 have hA:=ha cpos pins s σ H _ I h;rw[he] at hA ⊢;refine Calls.evalArgs_plain (thn hA λus s2 ⟨vs,H2,I2,r2,hz,q2⟩=>⟨rfl,by rw[<- r2.length];exact hz,I2.bk _ _ hC,hN.keeps I2.bk,T.keeps I2.bk,λh' e hm'=>?_⟩);exact hR pins σ H2 s2 h' e _ _ I2 hm' q2
end
abbrev XS:=St->XK
abbrev TEx:=St->Hp->VK->XK->Prop
abbrev TSx:=Ends->XS->St->Hp->Prop
def XP(X:Cx)(pins:Nb)(E:XS)(e:Value)(s':Shared):Prop:=∃σ1 H1 s1,Inv X pins σ1 H1 s1/\CX1 X.prog X.w X.stack H1 s1 (E σ1) e s'
structure XHand(K:W.Frag)(C:Addr):Prop where
 ty:W.typeIn K (.ref C)=some (.type "type")
 cls:(W.clsIn K C).isSome=true
 mb:W.mroIn K C (.type "BaseException")=some true
mutual
inductive Rep(K:W.Frag)(H:Hp):V->PyData->Prop where
 |non:Rep K H .non .none
 |bl (b:Bool):Rep K H (.bl b) (.bool b)
 |int (i:Int):Rep K H (.int i) (.int i)
 |str (x:Str):Rep K H (.str x) (.str x)
 |tup {a:Addr}{xs:List V}{ds:List PyData} (h:SqT K H a xs) (r:Reps K H xs ds):Rep K H (.ref a) (.tuple ds)
 |lst {a:Addr}{xs:List V}{ds:List PyData} (h:SqL K H a xs) (r:Reps K H xs ds):Rep K H (.ref a) (.list ds)
inductive Reps(K:W.Frag)(H:Hp):List V->List PyData->Prop where
 |nil:Reps K H [] []
 |cons {x:V}{d:PyData}{xs:List V}{ds:List PyData} (r:Rep K H x d) (rr:Reps K H xs ds):Reps K H (x::xs) (d::ds)
end
section
variable{X:Cx}{pins:Nb}{σ:St}{H:Hp}{s:Shared}{K:W.Frag}
def Rep.reads(I:Inv X pins σ H s)(r:Rep X.K H v d)(q:RelV v u):∃as,Reads s.heap u d as:=
 Rep.rec (motive_1:=λv d _=>∀u,RelV v u->∃as,Reads s.heap u d as) (motive_2:=λvs ds _=>∀us,Vals vs us->∃as,ReadsAll s.heap us ds as)
  (λu r=>by cases r;exact⟨_,.none⟩) (λb u r=>by cases r;exact⟨_,.bool b⟩) (λi u r=>by obtain⟨t,rfl⟩:=r;exact⟨_,.int i t⟩) (λx u r=>by obtain⟨t,rfl⟩:=r;exact⟨_,.str x t⟩)
  (λh _ ih u r=>by cases r;obtain⟨its,rv,⟨o,e,c,n,d⟩,_⟩:=I.tuple h;obtain⟨as,q⟩:=ih _ rv;exact⟨as,.tuple e c d (by simpa using q)⟩)
  (λh _ ih u r=>by cases r;obtain⟨its,rv,⟨o,n,e,c,_,d⟩,_⟩:=I.list h;obtain⟨as,q⟩:=ih _ rv;exact⟨_,.list e c d (by simpa using q)⟩)
  (λus r=>by cases r;exact⟨_,.nil⟩)
  (λ_ _ a b us q=>by
   cases q with
   |cons q1 q2=>obtain⟨as,h1⟩:=a _ q1;obtain⟨bs,h2⟩:=b _ q2;exact⟨_,.cons h1 h2⟩) r u q
end
section
variable{X:Cx}
noncomputable def shp (d:PyData):Bool:=d.canLay0&&decide (d.depth<=160)
def kW(h:shp d=true):d.canLay0=true:=(Bool.and_eq_true_iff.mp h).1
def uq{A:Around}{d e:PyData}(h:shp d=true)(hu:A.units+180<cLine):A.units+min d.depth e.depth<cLine:=by have h1:d.depth<=160:=Le (Bool.and_eq_true_iff.mp h).2;have h2:min d.depth e.depth<=d.depth:=Nat.min_le_left _ _;omega
def A3(K:W.Frag):R2:=λx y H Q=>∃dx dy,Rep K H x dx/\Rep K H y dy/\shp dx=true/\shp dy=true/\Q (.bl (PyData.eqv dx dy)) H
def AM(K:W.Frag):R2:=λx y H Q=>∃dx dy,Rep K H x dx/\Rep K H y dy/\shp dx=true/\shp dy=true/\Q (.bl (!PyData.eqv dx dy)) H
def FG(hu:X.A.units+180<cLine):OpR X (compareOp .Eq) (A3 X.K):=by intro pins s σ H x y v u Q I rx ry h;obtain⟨dx,dy,r1,r2,h1,h2,q⟩:=h;obtain⟨as,q1⟩:=r1.reads I rx;obtain⟨bs,q2⟩:=r2.reads I ry;exact SeqAt.compareEq_reads q1 q2 (kW h1) (kW h2) (uq h1 hu) (kP I q rfl)
def HS(hu:X.A.units+180<cLine):OpR X (compareOp .NotEq) (AM X.K):=by intro pins s σ H x y v u Q I rx ry h;obtain⟨dx,dy,r1,r2,h1,h2,q⟩:=h;obtain⟨as,q1⟩:=r1.reads I rx;obtain⟨bs,q2⟩:=r2.reads I ry;exact SeqAt.compareNe_reads q1 q2 (kW h1) (kW h2) (uq h1 hu) (kP I q rfl)
open PySem.Builtin.Int (intBits)
def CDivB(i j:Int):Prop:=j≠0/\intBits j<=8000
def CF(i j:Int):Prop:=intBits i<=100000/\intBits j<=100000
def Bj:OpR X (binaryOp .FloorDiv) (rI CDivB λi j=>.int (i.fdiv j)):=opI λi j _ _ _ _ _ hc q=>floordiv_int hc.1 q (.inl (PyProof.noPylong_of_log2 (by
 have h:=hc.2;have h0:=hc.1;unfold intBits at h;have hb:(j==0)=false:=by simpa using h0
 rw[hb] at h;simp only[LJ,Mp] at h;omega)))
def DU:OpR X (binaryOp .Mult) (rI CF λi j=>.int (i*j)):=opI λi j _ _ _ _ _ hc q=>mul_int q (PySem.IntMulOk.of_le hc.1 hc.2 (by decide))
def yN(bs:List Bool):((List.range bs.length).all λi=>bs.getD i false)=bs.all id:=by
 rw[L5,D_,D_];constructor
 .intro h x hx;obtain⟨i,hi,rfl⟩:=List.mem_iff_getElem.mp hx
  have:=h i (LR.mpr hi)
  simpa [KY,hi] using this
 .intro h i hi;have hi':=LR.mp hi
  have:=h bs[i] (LV hi')
  simpa [KY,hi'] using this
def BX(hc:X.calm=true):CallR X (.builtin "all") (λxs H Q=>∃(a:Addr) (bs:List Bool),xs=[.ref a]/\SqL X.K H a (bs.map V.bl)/\Q (.bl (bs.all id)) H):=by
 intro pins s σ H xs us Q I r h;obtain⟨a,bs,rfl,hq,q⟩:=h;obtain⟨u,rfl,ru⟩:=iK r;cases ru;obtain⟨its,rv,p,hz⟩:=I.list hq;have hl:=rv.length;rw[j_] at hl;have hlt:a<s.heap.objs.size:=by obtain⟨o,n,e,_⟩:=p;exact t_ e
 refine call_all_walk (wpAny_pyIter_list p.isList ?_);refine⟨s.heap.objs.size,_,_,_,_,_,λi=>bs.getD i false,rfl,Walks.list (A:=X.A.in1) (I.ok.hd hc) s.heap.objs.size a (G_ hlt) its.toArray,⟨⟨_,A_ _ rfl,rfl,rfl⟩,(p.keeps λb o e=>q_ _ e).isList⟩,λi v s' Q' E' hP hQ=>?_,λh' tk hk=>?_⟩
 .have hP':its[i]?=some v:=by simpa using hP
  have hi:i<bs.length:=by rw[hl];exact (u_.mp hP').1
  have hb:(bs.map V.bl)[i]?=some (V.bl bs[i]):=by simp [hi]
  obtain⟨u,hu,ru⟩:=rv.get hb;rw[hP'] at hu;cases hu;cases ru;refine Lf ?_;have e:bs.getD i false=bs[i]:=by simp [KY,hi]
  show Q' bs[i] s';rw[<- e];exact hQ
 .have e1:its.toArray.size=bs.length:=by rw[y_,hl]
  rw[e1,yN];have hn:H s.heap.objs.size=none:=I.fresh;have I1:Inv X pins σ H { s with heap:=s.heap.push { cls:=.type "list_iterator",dict:=none,data:=.fields #[.ref a,rawInt 0] } }:=I.kept (t':=s.toks) λb o e=>q_ _ e;refine⟨.bl _,H,?_,rfl,q⟩;refine I.kept (t':=tk) λb o e=>?_;have hne:b≠s.heap.objs.size:=G_ (t_ e);exact hk b o (by simpa using hne) (q_ _ e)
end
structure Def(K:W.Frag)(mg:Na)(x:Str)(st:Stmt):Prop where
 ex:∃f fd,Fun K x x st f fd/\mg x=some (.ref f)
def yq{K:W.Frag}{h:Heap}{mg:Na}{x:Str}{st:Stmt}{f:Addr}{oc:Value}{od an:Option Addr}{osl:Array (Option Value)}{kV doc pm cdv ct:Value}(X:K.In h)(G:h.Ns mainGlobals mg)
 (a:W.nsIn K mainGlobals x=some (some (.ref f))) (l:K.lookup f=some ⟨oc,od,.func (W.fnOf x x (dU st) (bS st) (ar st) .none kV doc pm an cdv ct),osl⟩)
 (c:W.codeIn K cdv x=true) (k:W.keepIn K (.ref f)=true):Def K mg x st:=⟨f,_,EY l c k,W.mg_of X G a⟩
def Fun.look{K:W.Frag}{x qual:Str}{st:Stmt}{f:Addr}{fd:FuncData}(F:Fun K x qual st f fd):∃oc od osl,K.lookup f=some ⟨oc,od,.func fd,osl⟩:=by obtain⟨oc,od,kV,doc,pm,an,cdv,ct,osl,rfl,lk,hcd⟩:=F.ex;exact⟨oc,od,osl,lk⟩
structure Callee(P:Program)(w:World)(K:W.Frag)(mg:Na)(base:Heap)(x:Str)(k:Nat)(ps:List Str)(sp:Sp):Prop where
 ex:∃f fd,FnOk P w K mg base (CX1 P w) k f fd ps sp/\mg x=some (.ref f)/\W.keepIn K (.ref f)=true/\Binds K fd ps []/\∃oc od osl,K.lookup f=some ⟨oc,od,.func fd,osl⟩
section
variable{P:Program}{w:World}{K:W.Frag}{mg:Na}{base:Heap}{x:Str}{st:Stmt}{k:Nat}{ps N:List Str}{sp:Sp}
def Callee.imp(C:Callee P w K mg base x k ps sp)(h:∀vs H Q E,sp' vs H Q E->sp vs H Q E):Callee P w K mg base x k ps sp':=by obtain⟨f,fd,F,r⟩:=C.ex;exact⟨f,fd,F.imp h,r⟩
def Def.okR(D:Def K mg x st)(S:FnScope N ps (ar st))
 (hb:∀(kV doc pm:Value) (an:Option Addr) (cdv ct:Value) (us:List Value),us.length=ps.length->bindArgs (W.fnOf x x (dU st) (bS st) (ar st) .none kV doc pm an cdv ct) ⟨us,[]⟩=pure (ps.zip us))
 (len:∀vs H Q E,sp vs H Q E->vs.length=ps.length)
 (hbody:∀(f:Addr) (cdv:Value) (A:Around) (outer:List Env) (s:Shared) (H:Hp) (vs:List V) (Q:VK) (E:XK),Room k (A.deeper (envOfC x (ar st) s.heap.objs.size f cdv))->sp vs H Q E->
  ∃t,PSs (eS (CX1 P w) P w K mg base N x (ar st) f cdv A outer s H E) (bS st) t/\t { nx:=λ_ H'=>Q .non H',rt:=Q } (gj N vs) H):Callee P w K mg base x (k+1) ps sp:=by
 obtain⟨f,fd,F,m⟩:=D.ex;exact⟨f,fd,F.okR S len (hbody f),m,F.kp,F.binds hb,F.look⟩
end
section
variable{X:Cx}{K:W.Frag}
def allK(h:X.K=K)(hc:X.calm=true):CallR X (.builtin "all") (λxs H Q=>∃(a:Addr) (bs:List Bool),xs=[.ref a]/\SqL K H a (bs.map V.bl)/\Q (.bl (bs.all id)) H):=by subst h;exact BX hc
def Room.u180(r:Room k A):A.units+180<cLine:=by have:=r.un;omega
def eqDK(h:X.K=K)(hu:X.A.units+180<cLine):OpR X (compareOp .Eq) (A3 K):=by subst h;exact FG hu
def neDK(h:X.K=K)(hu:X.A.units+180<cLine):OpR X (compareOp .NotEq) (AM K):=by subst h;exact HS hu
def inK(h:X.K=K):OpR X (compareOp .In) (rIn K false):=by subst h;exact xP
def Hg(h:X.K=K):OpR X (compareOp .NotIn) (rIn K true):=by subst h;exact sU
end
section
variable{X:Cx}
def Hm{elt iter tg:Expr}{ifs:List Expr}{scope:Scope}{pos:Pos}{wi:TI}{g:TG}{tc:TT}{te:TE}{N:List Str}{sub:Nd}{iT:Nat}{xT:Str}{px spos:Pos}
 (hc:X.calm=true) (hN:X.N.Nodup) (hix:X.N[iT]?=some xT) (hxl:Loc X.env.scope xT) (hi:PI X tg iter wi)
 (hk:scope.kind=.function) (hnc:∀x∈scope.names,x.2 ≠ .cell) (f_:∀x∈scope.names,x.2=.local->scope.names.lookup x.1=some .local)
 (hfr:∀x∈scope.names,x.2=.free->X.env.kindOf x.1=some .cell\/X.env.kindOf x.1=some .free)
 (hsl:sub.length=N.length) (hsub:∀(j i:Nat) (x:Str),sub[j]?=some (some i)->N[j]?=some x->X.N[i]?=some x/\scope.names.lookup x=some .free)
 (hg:∀cl C s₂ H fp,PG (bN X N scope cl C s₂ H fp) tg g) (ht:∀cl C s₂ H fp,PTs (bN X N scope cl C s₂ H fp) ifs tc) (he:∀cl C s₂ H fp,PE (bN X N scope cl C s₂ H fp) elt te)
 (hsw:swapsWith (.ListComp elt [⟨tg,iter,ifs,0⟩] scope pos) (some (.Name xT px)) spos.line X.env=pure true)
 (hs:∀x,foldedSetIterable iter X.env x=pure x) (hf:X.fn xT=true\/X.env.scope.names.lookup xT=some .local):
 PS X (.Assign [.Name xT px] (.ListComp elt [⟨tg,iter,ifs,0⟩] scope pos) spos) (wL (rb wi sub g tc te) (rn iT)):=by
 intro pins s σ H D0 I h;rw[exec_Assign_Name_used _ _ _ _ hsw];refine i_ (Ml (i_ ?_));show wpAny _ X.A (do let _ <- comprehension (.ListComp elt [⟨tg,iter,ifs,0⟩] scope pos) scope X.env _ (newList []) false (eval iter X.env) (some (assign (.Name xT px) X.env))) _ _ s;refine i_ (KL (wg (use:=some (assign (.Name xT px) X.env)) (R:=λ_ s'=>SP X pins D0 .next s') hc hi hk hnc f_ hfr hsl hsub hg ht he hs I h λD C s4 e=>?_) (λ_ s' hq=>n_ (n_ hq)) λ_ _ e=>e);obtain⟨m,hm⟩:=e.ns;obtain⟨H',hC,q,i⟩:=e.inv;have dc:=e.dc;have fr:=e.fr;refine wpAny_assign_Name (qf (v:=.ref D) (i s4.heap ⟨rfl,λ_ _=>rfl⟩) hN hix hxl rfl (λs7 I7 ⟨a7,sb7,ha7⟩=>?_) hf);have ha:a7<D:=by
  rcases ha7 with z |z
  .rw[z];exact fr
  .exact e.cell xT a7 z
 refine⟨m,hm.sameBut sb7 (Mb (Mw ha dc)),λh8 hs8=>⟨_,_,I7.turned (it:=C) (t':=s7.toks) (λb o hb e=>hs8.extBut b o hb e) hC (Mb (Mw fr dc)) (.inr (F_ e.sz (Nat.le_of_lt dc))) (λx c q=>G_ (Mw (e.cell x c q) dc)) (λp hp=>G_ (Mw (e.pin p hp) dc)),q⟩⟩
end
theorem vy:∀{ns:List Int}{its:List Value},Vals (ns.map V.int) its->IntsAre its ns
 | [],_,h=>by cases h;exact .nil
 |
  i::r,_,h=>by
  cases h with
  |cons h1 h2=>obtain⟨t,rfl⟩:=h1;exact .cons i t (vy h2)
def gv{X:Cx}{K:W.Frag}(hK:X.K=K)(hc:X.calm=true):CallR X (.builtin "sum") (λxs H Q=>∃(a:Addr) (ns:List Int),xs=[.ref a]/\SqL K H a (ns.map V.int)/\Q (.int ns.sum) H):=by
 subst hK;intro pins s σ H xs us Q I r h;obtain⟨a,ns,rfl,hq,q⟩:=h;obtain⟨u,rfl,ru⟩:=iK r;cases ru;obtain⟨its,rv,p,hz⟩:=I.list hq;have hi:=vy rv;obtain⟨ys,hy⟩:=hi.allInts.items;have hn:numsOf its.toArray.toList=ns:=by rw[show its.toArray.toList=its from rfl,hi.numsOf]
 have pl:=p.isList;rw[hy] at pl hn;rw[nums_intItems] at hn;refine sum_intListG (I.ok.hd hc) pl λh' tk t' hk=>?_;rw[preSum_eq,Ln (by simp),hn];exact⟨.int ns.sum,H,I.kept (t':=tk) hk,⟨_,rfl⟩,q⟩
end L2
namespace Fr
noncomputable def dv (a b:Int):Int:=if b<0 then -((Int.gcd a b:Nat):Int) else ((Int.gcd a b:Nat):Int)
def T(a b:Int):Int:=a.fdiv (dv a b)
def B(a b:Int):Int:=b.fdiv (dv a b)
def sR(hb:b≠0):0<Int.gcd a b:=Int.gcd_pos_of_ne_zero_right a hb
def dv_ne(hb:b≠0):dv a b≠0:=by
 have:=sR (a:=a) hb
 unfold dv;split <;> omega
def An(a b:Int):dv a b ∣ a:=by
 have h:((Int.gcd a b:Nat):Int) ∣ a:=Int.gcd_dvd_left a b;unfold dv;split
 .exact Int.neg_dvd.mpr h
 .exact h
def zX(a b:Int):dv a b ∣ b:=by
 have h:((Int.gcd a b:Nat):Int) ∣ b:=Int.gcd_dvd_right a b;unfold dv;split
 .exact Int.neg_dvd.mpr h
 .exact h
def uZ{a d q:Int}(hd:d≠0)(h:a=d*q):a.fdiv d=q:=by rw[h,L_];exact Int.mul_fdiv_cancel q hd
def T_mul(hb:b≠0):T a b*dv a b=a:=by obtain⟨q,h⟩:=An a b;have:T a b=q:=uZ (dv_ne hb) h;rw[this,L_];exact h.symm
def B_mul(hb:b≠0):B a b*dv a b=b:=by obtain⟨q,h⟩:=zX a b;have:B a b=q:=uZ (dv_ne hb) h;rw[this,L_];exact h.symm
def B_pos(hb:b≠0):0<B a b:=by
 have h:=B_mul (a:=a) hb;have hg:=sR (a:=a) hb;generalize hx:B a b=x at h ⊢;unfold dv at h;split at h
 .rename_i hneg;have h2:x*((Int.gcd a b:Nat):Int)=-b:=by rw[Int.mul_neg] at h;omega
  rcases Int.lt_or_le 0 x with z |z
  .exact z
  .have:x*((Int.gcd a b:Nat):Int)<=0:=Int.mul_nonpos_of_nonpos_of_nonneg z (by omega);omega
 .rename_i hpos;rcases Int.lt_or_le 0 x with z |z
  .exact z
  .have:x*((Int.gcd a b:Nat):Int)<=0:=Int.mul_nonpos_of_nonpos_of_nonneg z (by omega);omega
def cross(hb:b≠0):T a b*b=a*B a b:=by have h1:=T_mul (a:=a) hb;have h2:=B_mul (a:=a) hb;generalize T a b=x at *;generalize B a b=y at *;generalize dv a b=d at *;rw[<- h2,<- h1];rw[<- Lg,Ma]
def dv_abs(a b:Int):(dv a b).natAbs=Int.gcd a b:=by unfold dv;split <;> simp
def low(hb:b≠0):Int.gcd (T a b) (B a b)=1:=by
 have h1:=T_mul (a:=a) hb;have h2:=B_mul (a:=a) hb;have hg:=sR (a:=a) hb;have e1:a.natAbs=(T a b).natAbs*Int.gcd a b:=by rw[<- dv_abs a b,<- LA,h1]
 have e2:b.natAbs=(B a b).natAbs*Int.gcd a b:=by rw[<- dv_abs a b,<- LA,h2]
 have e3:Int.gcd a b=Nat.gcd ((T a b).natAbs*Int.gcd a b) ((B a b).natAbs*Int.gcd a b):=by rw[<- e1,<- e2];rfl
 rw[Nat.gcd_mul_right] at e3;show Nat.gcd (T a b).natAbs (B a b).natAbs=1;generalize Nat.gcd (T a b).natAbs (B a b).natAbs=k at *;generalize Int.gcd a b=g at *;have:(1:Nat)*g=k*g:=by omega
 exact (Nat.eq_of_mul_eq_mul_right hg this).symm
def uniq(hy:0<y)(hy':0<y')(h:Int.gcd x y=1)(h':Int.gcd x' y'=1)(e:x*y'=x'*y):x=x'/\y=y':=by
 have c1:Nat.Coprime y.natAbs x.natAbs:=by rw[Nat.coprime_comm];exact h
 have c2:Nat.Coprime y'.natAbs x'.natAbs:=by rw[Nat.coprime_comm];exact h'
 have e1:x.natAbs*y'.natAbs=x'.natAbs*y.natAbs:=by rw[<- LA,<- LA,e]
 have d1:y.natAbs ∣ y'.natAbs:=c1.dvd_of_dvd_mul_left (by rw[e1];exact Nat.dvd_mul_left _ _);have d2:y'.natAbs ∣ y.natAbs:=c2.dvd_of_dvd_mul_left (by rw[<- e1];exact Nat.dvd_mul_left _ _);have ey:y.natAbs=y'.natAbs:=Nat.dvd_antisymm d1 d2;have ey':y=y':=by omega
 subst ey';exact⟨LX (by omega) e,rfl⟩
def same(hb:b≠0)(hd:d≠0)(e:a*d=c*b):T a b=T c d/\B a b=B c d:=by
 refine uniq (B_pos hb) (B_pos hd) (low hb) (low hd) ?_;have h1:=cross (a:=a) hb;have h2:=cross (a:=c) hd;have hbd:b*d≠0:=Lp hb hd;refine LX hbd ?_
 calc T a b*B c d*(b*d)=(T a b*b)*(B c d*d):=by rw[Lg,LN (B c d) b d,<- Lg]
  _=(a*B a b)*(B c d*d):=by rw[h1]
  _=(a*d)*(B c d*B a b):=by rw[Lg a,Lg a,LN (B a b),LN d,L_ (B a b) d]
  _=(c*b)*(B c d*B a b):=by rw[e]
  _=(c*B c d)*(B a b*b):=by rw[Lg c,Lg c,LN b,L_ b (B a b)]
  _=(T c d*d)*(B a b*b):=by rw[<- h2]
  _=T c d*B a b*(b*d):=by rw[Lg,Lg,LN d,L_ d b]
def self(hb:0<b)(h:Int.gcd a b=1):T a b=a/\B a b=b:=
 uniq (B_pos (by omega)) hb (low (by omega)) h (cross (by omega))
def euc(m n:Nat):Nat.gcd n (m % n)=Nat.gcd m n:=by rw[Nat.gcd_comm,<- Nat.gcd_rec,Nat.gcd_comm]
end Fr
set_option maxHeartbeats 1000000
namespace L2
open PySem PySem.Spec PyProof.Rows
def Inv.turnedL{X:Cx}{pins:Nb}{σ:St}{H:Hp}{s:Shared}{h':Heap}{t':Nat}{ch:List Addr}(I:Inv X pins σ H s)(k:∀b o,b∉ch->s.heap.get? b=some o->h'.get? b=some o)(hf:∀b∈ch,FpOk X pins H b):Inv X pins σ H { s with heap:=h',toks:=t' }:=by
 have away:∀b u,H b=some u->b∉ch:=λb u e z=>by have:=(hf b z).1;rw[e] at this;cases this
 refine I.step (g':=s.gens) (d':=s.drawn) (ch:=ch) (λb hb=>⟨(hf b hb).2.2.2.1,(hf b hb).2.1,(hf b hb).2.2.2.2.1,(hf b hb).2.2.2.2.2⟩) (λb o _ _ hc e _=>k b o hc e) (λb o _ _ hc e _=>⟨o.slots,k b o hc e⟩) (λ_ _ _ _ n=>n)
  (λb o hc e=>⟨o,k b o hc e⟩) (λ_ _ e=>e) (λ_ _ _ e=>e) (λb ps e=>⟨#[],by rw[e];simp⟩) (λm hm=>?_) (λb u e=>?_) I.bare
 .obtain⟨o,es,ep,ho,r⟩:=hm;exact⟨o,es,ep,k _ o (λz=>(hf _ z).2.1 rfl) ho,r⟩
 .refine (I.hok b u e).stay (λc v hc q=>k c v ?_ q) (λ_ q=>q) λ_ _ q=>q;rcases hc with z |z
  .rw[z];exact away b u e
  .exact away c _ z
def FpOk.up(f:FpOk X pins H b)(hn:b≠p):FpOk X pins (upd H p o) b:=⟨by rw[aG hn];exact f.1,f.2⟩
def mS(hj:s.heap.IsTupleIter j t n)(ht:s.heap.IsTuple t its)(hv:its[n]?=some v)
 (k:∀h',h'.IsTupleIter j t (n+1)->Heap.SameBut j s.heap h'->Q v { s with heap:=h' }):wpAny (model prog w) A (Builtin.SmallTypes.nextOf (.ref j)) Q E s:=by
 obtain⟨oj,ej,cj,dj⟩:=id hj;obtain⟨ot,et,_,m,dt⟩:=ht;unfold Builtin.SmallTypes.nextOf;refine i_ (KW (name:=Str.ofString "__next__") hj.typeIs Lw (Ll Lw hj.typeIs F.entry_tuple_iterator_next ?_ (F.args_tuple_iterator_next_1 _)));show wpAny _ _ (field (.ref j) 0 >>= _) _ _ s;refine i_ (KN ej dj (x:=.ref t) rfl ?_);show wpAny _ _ (if (Value.ref t==Value.none)=true then _ else _) _ _ s;rw[if_neg (show ¬ ((Value.ref t==Value.none)=true) from h_)];show wpAny _ _ (field (.ref j) 1 >>= _) _ _ s;refine i_ (KN ej dj (x:=.int n 0) rfl ?_);show wpAny _ _ (seqItems? (.ref t) >>= _) _ _ s;refine i_ (Lm et dt ?_);simp only[LO,hv];refine i_ (wpAny_setField ej dj (by simp) (n_ ⟨v,rfl,n_ (k _ ?_ (Heap.SameBut.update ..))⟩));exact⟨_,Heap.get?_update_self _ ej (Obj.isFreed_of_fields (Obj.data_mapFields dj _)),(Obj.cls_mapFields ..).trans cj,by rw[Obj.data_mapFields dj];simp [rawInt]⟩
def jk(hh:A.handled=none)(hj:s.heap.IsTupleIter j t n)(ht:s.heap.IsTuple t its)(hv:its[n]?=none)
 (k:∀h' e,Heap.ExtBut j s.heap h'->(∃o,h'.get? e=some o/\o.cls=.type "StopIteration")->E (.ref e) { s with heap:=h' }):wpAny (model prog w) A (Builtin.SmallTypes.nextOf (.ref j)) Q E s:=by
 obtain⟨oj,ej,cj,dj⟩:=id hj;obtain⟨ot,et,_,m,dt⟩:=ht;unfold Builtin.SmallTypes.nextOf;refine i_ (KW (name:=Str.ofString "__next__") hj.typeIs Lw (Ll Lw hj.typeIs F.entry_tuple_iterator_next ?_ (F.args_tuple_iterator_next_1 _)));show wpAny _ _ (field (.ref j) 0 >>= _) _ _ s;refine i_ (KN ej dj (x:=.ref t) rfl ?_);show wpAny _ _ (if (Value.ref t==Value.none)=true then _ else _) _ _ s;rw[if_neg (show ¬ ((Value.ref t==Value.none)=true) from h_)];show wpAny _ _ (field (.ref j) 1 >>= _) _ _ s;refine i_ (KN ej dj (x:=.int n 0) rfl ?_);show wpAny _ _ (seqItems? (.ref t) >>= _) _ _ s;refine i_ (Lm et dt ?_);simp only[LO,hv];refine i_ (Me (i_ (wpAny_setField ej dj (by simp) ?_)));show wpAny _ _ (newExc (.type "StopIteration") [] >>= _) _ _ _;refine i_ ?_;simp only[newExc,newTuple];refine i_ (KI ?_ (by size_fits));refine i_ (m:=firstArgMember _ _) (wpAny_of_eq (a:=Value.none) (by first |rfl |(simp only[firstArgMember];rfl)) ?_);refine KI ?_ (by size_fits);simp only[raiseNew];refine i_ (wpAny_handled ?_);first |rw[show A.in1.handled=none from hh] |rw[hh]
 refine i_ (n_ (wpAny_throw ?_));exact k _ _ (((Heap.SameBut.update ..).extBut.push _).push _) ⟨_,A_ _ rfl,rfl⟩
def Fm(hh:A.handled=none)(j t:Addr)(ne:t≠j)(its:Array Value):Draws prog w A j [j,t] its.size (λi v=>its[i]?=some v) (λi h=>h.IsTupleIter j t i/\h.IsTuple t its) where
 live:=λ_ _ z=>let ⟨o,e,_⟩:=z.1;⟨o,e⟩
 frame:=λ_ _ _ z k=>⟨z.1.at λo e=>k j (by simp) o e,let ⟨o,e,r⟩:=z.2;⟨o,k t (by simp) o e,r⟩⟩
 item:=λi s Q E hi z k=>mS z.1 z.2 (v:=its[i]) (by simp [hi]) λh' z' sb=>k _ h' s.toks (by simp [hi]) ⟨z',let ⟨o,e,r⟩:=z.2;⟨o,(sb.2 t ne).trans e,r⟩⟩ sb
 done:=λs Q E z k=>jk hh z.1 z.2 (by simp) k
def xZ(l:Addr)(its:Array Value)(n:Nat)(dc:Option Addr)(sl:Array (Option Value)):
 Meets (Builtin.«enumerate.__new__» ⟨[.type "enumerate",.ref l],[]⟩) (λ_ R s=>s.heap.get? l=some { cls:=.type "tuple",dict:=dc,data:=.seq its n,slots:=sl }/\
  R
   (.ok (.ret (.ref (s.heap.push { cls:=.type "tuple_iterator",data:=.fields #[.ref l,.int 0 0] }).objs.size)))
   { s with heap:=(s.heap.push { cls:=.type "tuple_iterator",data:=.fields #[.ref l,.int 0 0] }).push { cls:=.type "enumerate",data:=.fields #[.none,.bool false,.ref s.heap.objs.size,rawInt 0,.none,.none] } }):=
 .of_wp λprog w A R s h=>by
  obtain⟨hp,g,d,tk,os⟩:=s;obtain⟨hl,h⟩:=h;have hsub:=sub_enumerate;have hT:Heap.IsTuple (Shared.heap ⟨hp,g,d,tk,os⟩) l its:=⟨_,hl,rfl,n,rfl⟩
  wp_walk using L9 hl
  refine wpAny_stack_any λst=>n_ ?_;split
  .rename_i c _ _ _ _ _;cases (c==Value.type "enumerate") <;> (wp_walk using L9 hl,Md hT;exact⟨_,rfl,h⟩)
  .wp_walk using L9 hl,Md hT;exact⟨_,rfl,h⟩
def xJ(hT:s.heap.IsTuple l its)
 (k:∀h',IsEnum h' (s.heap.objs.size+1) s.heap.objs.size 0 .none->h'.IsTupleIter s.heap.objs.size l 0->h'.objs.size=s.heap.objs.size+2->(∀b o,s.heap.get? b=some o->h'.get? b=some o)->Q (.ref (s.heap.objs.size+1)) { s with heap:=h' }):
 wpAny (model prog w) A (call (.type "enumerate") [.ref l]) Q E s:=by
 obtain⟨⟨c,dc,dt,sl⟩,hl,hc,n,hd⟩:=hT;have hc':c=.type "tuple":=hc;have hd':dt=.seq its n:=hd;subst hc' hd';refine callType_new F.called_enumerate (by decide) (F.typeCall_enumerate_1 _) (F.newCall_enumerate_1 _) (λobj=>F.args_object_init_2 obj _) F.entry_enumerate_new (xZ l its n dc sl) ⟨hl,?_⟩;have z1:(s.heap.push { cls:=.type "tuple_iterator",data:=.fields #[.ref l,.int 0 0] }).objs.size=s.heap.objs.size+1:=Lz ..;show _/\_;rw[z1];have he:IsEnum ((s.heap.push { cls:=.type "tuple_iterator",data:=.fields #[.ref l,.int 0 0] }).push { cls:=.type "enumerate",data:=.fields #[.none,.bool false,.ref s.heap.objs.size,rawInt 0,.none,.none] }) (s.heap.objs.size+1) s.heap.objs.size 0 .none:=by have z2:=A_ (s.heap.push { cls:=.type "tuple_iterator",data:=.fields #[.ref l,.int 0 0] }) (o:={ cls:=.type "enumerate",data:=.fields #[.none,.bool false,.ref s.heap.objs.size,rawInt 0,.none,.none] }) rfl;rw[z1] at z2;exact z2
 exact⟨⟨_,he,rfl⟩,k _ he ⟨_,q_ _ (A_ _ rfl),rfl,rfl⟩ (by rw[Lz,z1]) λb o x=>q_ _ (q_ _ x)⟩
def SqB(K:W.Frag)(b:Bool)(H:Hp)(a:Addr)(xs:List V):Prop:=match b with
 |true=>SqL K H a xs
 |false=>SqT K H a xs
def ItB(b:Bool)(h:Heap)(j a:Addr)(i:Nat):Prop:=match b with
 |true=>h.IsListIter j a i
 |false=>h.IsTupleIter j a i
def SqB.inj(I:Inv X pins σ H s)(x:SqB X.K b H a xs)(y:SqB X.K b H a ys):xs=ys:=by
 cases b with
 |true=>exact I.list_inj x y
 |false=>exact I.tuple_inj x y
noncomputable def Bp (K:W.Frag) (b:Bool) (a:Addr):It:=
 ⟨λi H=>∃xs x,SqB K b H a xs/\xs[i]?=some x,λi H x H'=>∃p u,x=.ref p/\H p=none/\H'=upd H p (.tup [.int (i:Nat),u])/\∀xs,SqB K b H a xs->xs[i]?=some u,λi H=>∃xs,SqB K b H a xs/\xs.length=i⟩
def vM(I:Inv X pins σ H s)(hh:X.A.handled=none)(hq:SqB X.K b H a xs)(hj:ItB b s.heap j a i):
 ∃(its:List Value) (St:Nat->Heap->Prop),Vals xs its/\Draws X.prog X.w X.A.in1 j [j,a] its.length (λi v=>its[i]?=some v) St/\St i s.heap/\(∀i h,St i h->ItB b h j a i)/\∃o n,s.heap.get? a=some o/\o.cls=.type (if b then "list" else "tuple")/\o.data=.seq its.toArray n:=by
 cases b with
 |
  true=>
  obtain⟨its,rv,p,hz⟩:=I.list hq;obtain⟨o,n,e,c,d,ds⟩:=p;have hL:s.heap.IsList a its.toArray:=⟨o,e,c,n,ds⟩;have hj':s.heap.IsListIter j a i:=hj;have ne:a≠j:=λz=>by subst z;obtain⟨o',e',c',_⟩:=hj';rw[e] at e';cases e';rw[c] at c';exact absurd (Value.type.inj c') (by decide)
  have D:=Draws.list (prog:=X.prog) (w:=X.w) (A:=X.A.in1) hh j a ne its.toArray;refine⟨its,λi h=>h.IsListIter j a i/\h.IsList a its.toArray,rv,?_,⟨hj',hL⟩,λ_ _ z=>z.1,o,n,e,c,ds⟩;have e1:its.toArray.size=its.length:=by simp
  have e2:(λ(i:Nat) (v:Value)=>its.toArray[i]?=some v)=λi v=>its[i]?=some v:=by funext i v;simp
  rw[e1,e2] at D;exact D
 |
  false=>
  obtain⟨its,rv,p,hz⟩:=I.tuple hq;have hT:s.heap.IsTuple a its.toArray:=p;obtain⟨o,e,c,n,ds⟩:=id hT;have hj':s.heap.IsTupleIter j a i:=hj;have ne:a≠j:=λz=>by subst z;obtain⟨o',e',c',_⟩:=hj';rw[e] at e';cases e';rw[c] at c';exact absurd (Value.type.inj c') (by decide)
  have D:=Fm (prog:=X.prog) (w:=X.w) (A:=X.A.in1) hh j a ne its.toArray;refine⟨its,λi h=>h.IsTupleIter j a i/\h.IsTuple a its.toArray,rv,?_,⟨hj',hT⟩,λ_ _ z=>z.1,o,n,e,c,ds⟩;have e1:its.toArray.size=its.length:=by simp
  have e2:(λ(i:Nat) (v:Value)=>its.toArray[i]?=some v)=λi v=>its[i]?=some v:=by funext i v;simp
  rw[e1,e2] at D;exact D
def gL(z:ItB b h j a i):∃o,h.get? j=some o/\(∀v,o.data ≠ .cell v)/\o.cls=.type (if b then "list_iterator" else "tuple_iterator"):=by
 cases b with
 |true=>obtain⟨o,e,c,d⟩:=z;exact⟨o,e,(λv y=>by rw[d] at y;cases y),c⟩
 |false=>obtain⟨o,e,c,d⟩:=z;exact⟨o,e,(λv y=>by rw[d] at y;cases y),c⟩
def bz(z:ItB b h j a i)(k:∀o,h.get? j=some o->h'.get? j=some o):ItB b h' j a i:=by
 cases b with
 |true=>obtain⟨o,e,r⟩:=z;exact⟨o,k o e,r⟩
 |false=>obtain⟨o,e,r⟩:=z;exact⟨o,k o e,r⟩
def zw{P:Program}{w:World}{K:W.Frag}{elts:List Expr}{x1:Nat}{tp:Pos}(b:Bool)(a e j:Addr)(hej:e≠j):Turn P w K (.Tuple elts x1 tp) (Bp K b a) [e,j] e (λi h=>(∃old,IsEnum h e j ((i:Nat):Int) old)/\ItB b h j a i) where
 mem:=by simp
 obj
  := λi h st c hc=>by
  rcases C_.mp hc with rfl |hc
  .obtain⟨old,he⟩:=st.1;exact⟨_,he,λv z=>by cases z⟩
  .have:c=j:=by simpa using hc
   subst this;obtain⟨o,q1,q2,_⟩:=gL st.2;exact⟨o,q1,q2⟩
 keep:=λi h h' st k=>⟨let ⟨old,he⟩:=st.1;⟨old,k e (by simp) _ he⟩,bz st.2 λo q=>k j (by simp) o q⟩
 item:=
  by
  intro X hP hw hK hc i pins s σ H E I hf st hg;subst hP hw hK;obtain⟨xs,x,hq,hx⟩:=hg;obtain⟨⟨old,he⟩,hj⟩:=st;obtain⟨its,St,rv,D,hst,hSt,oa,na,ea,ca,da⟩:=vM I (I.ok.hd hc) hq hj;obtain⟨u,hu,ru⟩:=rv.get hx;have hlt:i<its.length:=(u_.mp hu).1;have hea:e≠a:=λz=>by subst z;rw[he] at ea;cases ea;cases b <;> exact absurd (Value.type.inj ca) (by decide)
  refine wpAny_pyNext_enum_itemD D he hst hlt hej (by simp [hej,hea]) λy h' tk hy heo hst' ht hsz hk=>?_;have:y=u:=by rw[hu] at hy;exact (E_ hy).symm
  subst this;refine⟨_,rfl,wpAny_letOwnedTupleGo_enum (s:={ s with heap:=h',toks:=tk+1 }) heo λh2 he2 sb=>?_⟩;have hT:H s.heap.objs.size=none:=I.hok.fresh (m_ _);have hef:=t_ he;obtain⟨oj,q1,_,_⟩:=gL hj;have hjf:=t_ q1;have I1:Inv X pins σ (upd H s.heap.objs.size (.tup [.int (i:Nat),x])) { s with heap:=s.heap.push { cls:=.type "tuple",data:=.seq #[.int (i:Nat) tk,y] },toks:=s.toks }:=
   I.laid (t':=s.toks) (λc o q=>q_ _ q) (m_ _) ⟨by show 2<=sizeLine;decide,[.int (i:Nat) tk,y],.cons ⟨tk,rfl⟩ (.cons ru .nil),⟨_,A_ _ rfl,rfl,_,rfl⟩⟩
  have sb':Heap.SameBut e h' h2:=sb;have I2:Inv X pins σ (upd H s.heap.objs.size (.tup [.int (i:Nat),x])) { s with heap:=h2,toks:=tk+1 }:=
   Inv.turnedL (s:={ s with heap:=s.heap.push { cls:=.type "tuple",data:=.seq #[.int (i:Nat) tk,y] },toks:=s.toks }) (ch:=[e,j]) (t':=tk+1) I1 (λc o hc' q=>by
    have c1:c≠e:=λz=>hc' (by simp [z]);have c2:c≠j:=λz=>hc' (by simp [z]);rw[sb'.2 c c1];by_cases z:c=s.heap.objs.size
    .subst z;have q':(s.heap.push { cls:=.type "tuple",data:=.seq #[.int (i:Nat) tk,y] }).get? s.heap.objs.size=some o:=q;rw[A_ _ rfl] at q';cases q';exact ht
    .refine hk c o c1 c2 ?_;have q':(s.heap.push { cls:=.type "tuple",data:=.seq #[.int (i:Nat) tk,y] }).get? c=some o:=q;rw[Heap.get?_push_ne _ _ _ z] at q';exact q') λc hc'=>by
    rcases C_.mp hc' with rfl |hc'
    .exact (hf c (by simp)).up (G_ hef)
    .have:c=j:=by simpa using hc'
     subst this;exact (hf c (by simp)).up (G_ hjf)
  refine⟨.ref s.heap.objs.size,_,I2,rfl,⟨_,x,rfl,hT,rfl,λys hy'=>by rw[SqB.inj I hy' hq];exact hx⟩,⟨⟨y,he2⟩,bz (hSt _ _ hst') λo q=>(sb'.2 j (Ne.symm hej)).trans q⟩,λc hc'=>?_⟩;rcases C_.mp hc' with rfl |hc'
  .exact ((hf c (by simp)).up (G_ hef)).1
  .have:c=j:=by simpa using hc'
   subst this;exact ((hf c (by simp)).up (G_ hjf)).1
 done:=by
  intro X hP hw hK hc i pins s σ H E I hf st hg;subst hP hw hK;obtain⟨xs,hq,hx⟩:=hg;obtain⟨⟨old,he⟩,hj⟩:=st;obtain⟨its,St,rv,D,hst,hSt,oa,na,ea,ca,da⟩:=vM I (I.ok.hd hc) hq hj;have hl:=rv.length;subst hx;rw[hl] at hst;refine wpAny_pyNext_enum_endD D he hst λh' eb=>⟨rfl,Inv.turnedL (ch:=[j]) (t':=s.toks) I (λc o hc' q=>eb c o (λz=>hc' (by simp [z])) q) λc hc'=>?_⟩;have:c=j:=by simpa using hc'
  subst this;exact hf c (by simp)
 self:=λ_ _ _ _ _ st h=>let ⟨_,he⟩:=st.1;wpAny_pyIter_enum he h
def Eg(hg:Gl X "enumerate")(hm:X.mg "enumerate"=none)(ha:PA X [l] tl)(hs:starEach [l] X.env=[(false,eval l X.env)]):
 PI X (.Tuple elts x1 tp) (.Call (.Name "enumerate" p) [l] [] pos) (λσ H R=>tl σ H λvs H1=>∃(b:Bool) (a:Addr) (xs:List V),vs=[.ref a]/\SqB X.K b H1 a xs/\R (Bp X.K b a) H1):=by
 intro pins s σ H R I h;refine Call_ (fC I hg hm boot_enumerate (KR (thn (ha pos pins s σ H _ I h) λus s1 zz=>exA zz λvs H1 I1 r1 q1=>?_) hs rfl));obtain⟨b,a,xs,e,hq,q⟩:=q1;subst e;cases r1 with
 |
  cons r rr=>
  cases rr;cases r;have d_:∀h',IsEnum h' (s1.heap.objs.size+1) s1.heap.objs.size 0 .none->ItB b h' s1.heap.objs.size a 0->(∀c o,s1.heap.get? c=some o->h'.get? c=some o)->
   wpAny (model X.prog X.w) X.A (pyIter (.ref (s1.heap.objs.size+1))) (PIE X pins σ (.Tuple elts x1 tp) R) X.xe { s1 with heap:=h' }:=λh' he hj hk=>by
   refine wpAny_pyIter_enum he ⟨s1.heap.objs.size+1,[s1.heap.objs.size+1,s1.heap.objs.size],_,_,H1,rfl,I1.kept (t':=s1.toks) λc o z=>hk c o z,zw b a _ _ (Nat.succ_ne_self _),⟨⟨.none,he⟩,hj⟩,λc hc=>?_,q⟩;rcases C_.mp hc with rfl |hc
   .exact I1.fpOk (Nat.le_succ _) (I1.hok.fresh (Nat.le_succ _))
   .have:c=s1.heap.objs.size:=by simpa using hc
    subst this;exact I1.fpOk (m_ _) (I1.hok.fresh (m_ _))
  cases b with
  |true=>obtain⟨its,rv,pp,hz⟩:=I1.list hq;exact call_enumerate_list pp.isList λh' he hit _ hk=>d_ h' he hit hk
  |false=>obtain⟨its,rv,pp,hz⟩:=I1.tuple hq;exact xJ (show s1.heap.IsTuple a its.toArray from pp) λh' he hit _ hk=>d_ h' he hit hk
def LsB(b:Bool)(h:Heap)(a:Addr)(its:Array Value):Prop:=match b with
 |true=>h.IsList a its
 |false=>h.IsTuple a its
def LsB.keep(z:LsB b h a its)(k:∀o,h.get? a=some o->h'.get? a=some o):LsB b h' a its:=by cases b <;> (obtain⟨o,e,r⟩:=z;exact⟨o,k o e,r⟩)
def wK(hj:ItB b s.heap j a n)(ht:LsB b s.heap a its)(hv:its[n]?=some v)
 (k:∀h',ItB b h' j a (n+1)->Heap.SameBut j s.heap h'->Q v { s with heap:=h' }):wpAny (model prog w) A (Builtin.SmallTypes.nextOf (.ref j)) Q E s:=by
 cases b with
 |true=>exact wpAny_nextOf_list_item hj ht hv k
 |false=>exact mS hj ht hv k
def qb(hh:A.handled=none)(hj:ItB b s.heap j a n)(ht:LsB b s.heap a its)(hv:its[n]?=none)
 (k:∀h' e,Heap.ExtBut j s.heap h'->(∃o,h'.get? e=some o/\o.cls=.type "StopIteration")->E (.ref e) { s with heap:=h' }):wpAny (model prog w) A (Builtin.SmallTypes.nextOf (.ref j)) Q E s:=by
 cases b with
 |true=>exact wpAny_nextOf_list_end hh hj ht hv k
 |false=>exact jk hh hj ht hv k
section
variable{prog:Program}{w:World}{A:Around}{E:Nc}{s:Shared}{b1 b2:Bool}{z p q j1 j2 a1 a2:Addr}{n:Nat}{xs ys:Array Value}{x y u v:Value}
def zipN{Q:Nc}(D:ZipApart z p q j1 j2 a1 a2)(hz:IsZip s.heap z p q .none)(hp:IsPair s.heap p (.ref j1) (.ref j2))(hq:IsPair s.heap q u v)
 (i1:ItB b1 s.heap j1 a1 n) (i2:ItB b2 s.heap j2 a2 n) (l1:LsB b1 s.heap a1 xs) (l2:LsB b2 s.heap a2 ys) (ex:xs[n]?=some x) (ey:ys[n]?=some y)
 (k:∀h',IsZip h' z p q (rawInt s.heap.objs.size)->IsPair h' q x y->ItB b1 h' j1 a1 (n+1)->ItB b2 h' j2 a2 (n+1)->IsPair h' s.heap.objs.size x y->(∀c o,c≠z->c≠q->c≠j1->c≠j2->s.heap.get? c=some o->h'.get? c=some o)->Q (.ref s.heap.objs.size) { s with heap:=h' }):
 wpAny (model prog w) A (Builtin.«zip.__next__» ⟨[.ref z],[]⟩) (λd_ s'=>∃v,d_=.done (.ret v)/\Q v s') E s:=by
 show wpAny _ _ (field (.ref z) 2 >>= _) _ _ _;refine i_ (KN hz rfl (x:=.bool false) rfl ?_);show wpAny _ _ (field (.ref z) 3 >>= _) _ _ _;refine i_ (KN hz rfl (x:=.ref p) rfl ?_);refine i_ (Lm hp rfl ?_);show wpAny _ _ (Builtin.SmallTypes.ownedTupleIsFree (.ref z) >>= _) _ _ _;refine i_ ?_;unfold Builtin.SmallTypes.ownedTupleIsFree;refine i_ (KN hz rfl (x:=.none) rfl (n_ ?_));simp only[LH];refine i_ (Me ?_);refine i_ (KN hz rfl (x:=.ref q) rfl ?_);refine i_ (Lo hz (by simp) λg1 (y1:IsZip g1 z p q .ellipsis) t1=>?_);refine i_ ?_;simp only[List.zipIdx_cons,List.zipIdx_nil,Ms,MM];refine i_ (i_ (MX ?_));show wpAny _ _ (Builtin.SmallTypes.nextOf (.ref j1) >>= _) _ _ _;refine i_ (wK (bz i1 λo e=>t1.extBut _ _ D.i1z e) (l1.keep λo e=>t1.extBut _ _ D.l1z e) ex λg2 m1 t2=>n_ ?_);have q2:IsPair g2 q u v:=t2.extBut _ _ D.TOi1 (t1.extBut _ _ D.TOz hq);refine i_ (Lm q2 rfl ?_);refine i_ (MF q2 λg3 (q3:IsPair g3 q x v) t3=>?_);refine i_ (wpAny_letGo (n_ ?_));refine i_ (i_ (MX ?_));show wpAny _ _ (Builtin.SmallTypes.nextOf (.ref j2) >>= _) _ _ _;refine i_ (wK (bz i2 λo e=>t3.extBut _ _ D.TOi2.symm (t2.extBut _ _ D.i12.symm (t1.extBut _ _ D.i2z e))) (l2.keep λo e=>t3.extBut _ _ D.l2TO (t2.extBut _ _ D.l2i1 (t1.extBut _ _ D.l2z e))) ey λg4 m2 t4=>n_ ?_);have q4:IsPair g4 q x v:=t4.extBut _ _ D.TOi2 q3;refine i_ (Lm q4 rfl ?_);refine i_ (MF q4 λg5 (q5:IsPair g5 q x y) t5=>?_);refine i_ (wpAny_letGo (n_ (n_ ?_)));refine i_ (Lm q5 rfl ?_);refine i_ (wpAny_newTuple ?_);have sz:g5.objs.size=s.heap.objs.size:=by rw[t5.1,t4.1,t3.1,t2.1,t1.1]
 have y5:IsZip g5 z p q .ellipsis:=t5.extBut _ _ D.TOz.symm (t4.extBut _ _ D.i2z.symm (t3.extBut _ _ D.TOz.symm (t2.extBut _ _ D.i1z.symm y1)));have all5:∀c o,c≠z->c≠q->c≠j1->c≠j2->s.heap.get? c=some o->g5.get? c=some o:=λc o c1 c2 c3 c4 e=>t5.extBut _ _ c2 (t4.extBut _ _ c4 (t3.extBut _ _ c2 (t2.extBut _ _ c3 (t1.extBut _ _ c1 e))));have n1:ItB b1 g5 j1 a1 (n+1):=bz m1 λo e=>t5.extBut _ _ D.TOi1.symm (t4.extBut _ _ D.i12 (t3.extBut _ _ D.TOi1.symm e));have n2:ItB b2 g5 j2 a2 (n+1):=bz m2 λo e=>t5.extBut _ _ D.TOi2.symm e;have zl:z<g5.objs.size:=t_ y5;show wpAny _ _ (Builtin.SmallTypes.ownedTupleHandOut (.ref z) (.ref g5.objs.size) >>= _) _ _ _;refine i_ ?_;unfold Builtin.SmallTypes.ownedTupleHandOut;have y6:IsZip (g5.push { cls:=.type "tuple",data:=.seq #[x,y] }) z p q .ellipsis:=q_ _ y5;refine i_ (Lo y6 (by simp) λg7 (y7:IsZip g7 z p q (rawInt g5.objs.size)) t7=>?_);refine Lo y7 (by simp) λg8 (y8:IsZip g8 z p q (rawInt g5.objs.size)) t8=>?_;have up:∀c o,c≠z->g5.get? c=some o->g8.get? c=some o:=λc o c1 e=>t8.extBut _ _ c1 (t7.extBut _ _ c1 (q_ _ e));have w8:IsPair g8 g5.objs.size x y:=t8.extBut _ _ (Mb zl) (t7.extBut _ _ (Mb zl) (A_ _ rfl));rw[sz] at y8 w8;refine n_ ⟨_,rfl,?_⟩;show Q (.ref g5.objs.size) _;rw[sz];exact k g8 y8 (up _ _ D.TOz q5) (bz n1 λo e=>up _ o D.i1z e) (bz n2 λo e=>up _ o D.i2z e) w8 λc o c1 c2 c3 c4 e=>up c o c1 (all5 c o c1 c2 c3 c4 e)
def Az(hh:A.handled=none)(D:ZipApart z p q j1 j2 a1 a2)(hz:IsZip s.heap z p q .none)(hp:IsPair s.heap p (.ref j1) (.ref j2))(hq:IsPair s.heap q u v)
 (i1:ItB b1 s.heap j1 a1 n) (i2:ItB b2 s.heap j2 a2 n) (l1:LsB b1 s.heap a1 xs) (l2:LsB b2 s.heap a2 ys) (en:xs[n]?=none\/ys[n]?=none)
 (k:∀h' e,(∀c o,c≠z->c≠q->c≠j1->c≠j2->s.heap.get? c=some o->h'.get? c=some o)->(∃o,h'.get? e=some o/\o.cls=.type "StopIteration")->E (.ref e) { s with heap:=h' }):wpAny (model prog w) A (Builtin.«zip.__next__» ⟨[.ref z],[]⟩) Q E s:=by
 show wpAny _ _ (field (.ref z) 2 >>= _) _ _ _;refine i_ (KN hz rfl (x:=.bool false) rfl ?_);show wpAny _ _ (field (.ref z) 3 >>= _) _ _ _;refine i_ (KN hz rfl (x:=.ref p) rfl ?_);refine i_ (Lm hp rfl ?_);show wpAny _ _ (Builtin.SmallTypes.ownedTupleIsFree (.ref z) >>= _) _ _ _;refine i_ ?_;unfold Builtin.SmallTypes.ownedTupleIsFree;refine i_ (KN hz rfl (x:=.none) rfl (n_ ?_));simp only[LH];refine i_ (Me ?_);refine i_ (KN hz rfl (x:=.ref q) rfl ?_);refine i_ (Lo hz (by simp) λg1 (y1:IsZip g1 z p q .ellipsis) t1=>?_);refine i_ ?_;simp only[List.zipIdx_cons,List.zipIdx_nil,Ms,MM];refine i_ (i_ (MX ?_));show wpAny _ _ (Builtin.SmallTypes.nextOf (.ref j1) >>= _) _ _ _;cases ex:xs[n]? with
 |
  none=>
  refine i_ (qb hh (bz i1 λo e=>t1.extBut _ _ D.i1z e) (l1.keep λo e=>t1.extBut _ _ D.l1z e) ex λg2 e t2 ⟨oe,he,ce⟩=>?_);have y2:IsZip g2 z p q .ellipsis:=t2 _ _ D.i1z.symm y1;have ez:e≠z:=λw=>by subst w;rw[y2] at he;cases he;simp at ce
  exact Lo y2 (by simp) λg3 _ t3=>k g3 e (λc o c1 _ c3 _ w=>t3.extBut _ _ c1 (t2 _ _ c3 (t1.extBut _ _ c1 w))) ⟨oe,t3.extBut _ _ ez he,ce⟩
 |
  some x=>
  have ey:ys[n]?=none:=en.resolve_left λw=>by rw[ex] at w;cases w
  refine i_ (wK (bz i1 λo e=>t1.extBut _ _ D.i1z e) (l1.keep λo e=>t1.extBut _ _ D.l1z e) ex λg2 m1 t2=>n_ ?_);have q2:IsPair g2 q u v:=t2.extBut _ _ D.TOi1 (t1.extBut _ _ D.TOz hq);refine i_ (Lm q2 rfl ?_);refine i_ (MF q2 λg3 q3 t3=>?_);refine i_ (wpAny_letGo (n_ ?_));refine i_ (i_ (MX ?_));show wpAny _ _ (Builtin.SmallTypes.nextOf (.ref j2) >>= _) _ _ _;refine i_ (qb hh (bz i2 λo e=>t3.extBut _ _ D.TOi2.symm (t2.extBut _ _ D.i12.symm (t1.extBut _ _ D.i2z e))) (l2.keep λo e=>t3.extBut _ _ D.l2TO (t2.extBut _ _ D.l2i1 (t1.extBut _ _ D.l2z e))) ey λg4 e t4 ⟨oe,he,ce⟩=>?_);have y4:IsZip g4 z p q .ellipsis:=t4 _ _ D.i2z.symm (t3.extBut _ _ D.TOz.symm (t2.extBut _ _ D.i1z.symm y1));have ez:e≠z:=λw=>by subst w;rw[y4] at he;cases he;simp at ce
  exact Lo y4 (by simp) λg5 _ t5=>k g5 e (λc o c1 c2 c3 c4 w=>t5.extBut _ _ c1 (t4 _ _ c4 (t3.extBut _ _ c2 (t2.extBut _ _ c3 (t1.extBut _ _ c1 w))))) ⟨oe,t5.extBut _ _ ez he,ce⟩
end
noncomputable def zY (b:Bool):String:=if b then "list_iterator" else "tuple_iterator"
def vG(h:LsB b s.heap a its)(k:Q (.ref s.heap.objs.size) { s with heap:=s.heap.push { cls:=.type (zY b),data:=.fields #[.ref a,.int 0 0] } }):wpAny (model prog w) A (pyIter (.ref a)) Q E s:=by
 cases b with
 |true=>exact wpAny_pyIter_list h k
 |false=>exact Md h k
abbrev zp1(h:Heap)(b:Bool)(a:Addr):Heap:=h.push { cls:=.type (zY b),data:=.fields #[.ref a,.int 0 0] }
abbrev zp2(h:Heap)(b c:Bool)(a d:Addr):Heap:=zp1 (zp1 h b a) c d
abbrev zp3(h:Heap)(b c:Bool)(a d:Addr):Heap:=(zp2 h b c a d).push { cls:=.type "tuple",data:=.seq #[.ref h.objs.size,.ref (zp1 h b a).objs.size] }
abbrev zp4(h:Heap)(b c:Bool)(a d:Addr):Heap:=(zp3 h b c a d).push { cls:=.type "tuple",data:=.seq #[.none,.none] }
abbrev zp5(h:Heap)(b c:Bool)(a d:Addr):Heap:=(zp4 h b c a d).push { cls:=.type "zip",data:=.fields #[.none,.bool false,.bool false,.ref (zp2 h b c a d).objs.size,.ref (zp3 h b c a d).objs.size] }
def Bz(b c:Bool)(a d:Addr)(xs ys:Array Value):Meets (Builtin.«zip.__new__» ⟨[.type "zip",.ref a,.ref d],[]⟩) (λ_ R s=>LsB b s.heap a xs/\LsB c s.heap d ys/\R (.ok (.ret (.ref (zp4 s.heap b c a d).objs.size))) { s with heap:=zp5 s.heap b c a d }):=
 .of_wp λprog w A R s h=>by
  obtain⟨hp,g,dr,tk,os⟩:=s;obtain⟨la,ld,h⟩:=h;have hsub:=sub_zip;have L1:LsB b (Shared.heap ⟨hp,g,dr,tk,os⟩) a xs:=la;have L2':LsB c (Shared.heap ⟨hp.push { cls:=.type (zY b),data:=.fields #[.ref a,.int 0 0] },g,dr,tk,os⟩) d ys:=ld.keep λo e=>q_ _ e
  wp_walk using vG L1,vG L2'
  exact⟨_,rfl,h⟩
def zM(la:LsB b s.heap a xs)(ld:LsB c s.heap d ys)
 (k:∀h',IsZip h' (s.heap.objs.size+4) (s.heap.objs.size+2) (s.heap.objs.size+3) .none->IsPair h' (s.heap.objs.size+2) (.ref s.heap.objs.size) (.ref (s.heap.objs.size+1))->IsPair h' (s.heap.objs.size+3) .none .none->
  ItB b h' s.heap.objs.size a 0->ItB c h' (s.heap.objs.size+1) d 0->(∀c o,s.heap.get? c=some o->h'.get? c=some o)->Q (.ref (s.heap.objs.size+4)) { s with heap:=h' }):wpAny (model prog w) A (call (.type "zip") [.ref a,.ref d]) Q E s:=by
 refine callType_new F.called_zip (by decide) (F.typeCall_zip_2 _ _) (F.newCall_zip_2 _ _) (λobj=>F.args_object_init_3 obj _ _) F.entry_zip_new (Bz b c a d xs ys) ⟨la,ld,?_⟩;have n1:(zp1 s.heap b a).objs.size=s.heap.objs.size+1:=Lz ..;have n2:(zp2 s.heap b c a d).objs.size=s.heap.objs.size+2:=by rw[Lz,n1]
 have n3:(zp3 s.heap b c a d).objs.size=s.heap.objs.size+3:=by rw[Lz,n2]
 have n4:(zp4 s.heap b c a d).objs.size=s.heap.objs.size+4:=by rw[Lz,n3]
 have up:=λ{h:Heap}{x:Addr}{o:Obj} (o':Obj) (e:h.get? x=some o)=>q_ o' e;have e5:(zp5 s.heap b c a d).get? (zp4 s.heap b c a d).objs.size=some _:=A_ _ rfl;have e4:(zp5 s.heap b c a d).get? (zp3 s.heap b c a d).objs.size=some _:=up _ (A_ _ rfl);have e3:(zp5 s.heap b c a d).get? (zp2 s.heap b c a d).objs.size=some _:=up _ (up _ (A_ _ rfl));have e2:(zp5 s.heap b c a d).get? (zp1 s.heap b a).objs.size=some _:=up _ (up _ (up _ (A_ _ rfl)));have e1:(zp5 s.heap b c a d).get? s.heap.objs.size=some _:=up _ (up _ (up _ (up _ (A_ _ rfl))));show _/\_;rw[n2,n3,n4] at e5;rw[n1,n2] at e3;rw[n3] at e4;rw[n1] at e2;rw[n4];have i1:ItB b (zp5 s.heap b c a d) s.heap.objs.size a 0:=by cases b <;> exact⟨_,e1,rfl,rfl⟩
 have i2:ItB c (zp5 s.heap b c a d) (s.heap.objs.size+1) d 0:=by cases c <;> exact⟨_,e2,rfl,rfl⟩
 exact⟨⟨_,e5,rfl⟩,k _ e5 e3 e4 i1 i2 λx o e=>up _ (up _ (up _ (up _ (up _ e))))⟩
noncomputable def ItZ (K:W.Frag) (b c:Bool) (a d:Addr):It:=
 ⟨λi H=>∃xs ys x y,SqB K b H a xs/\SqB K c H d ys/\xs[i]?=some x/\ys[i]?=some y,
  λi H x H'=>∃p u v,x=.ref p/\H p=none/\H'=upd H p (.tup [u,v])/\(∀xs,SqB K b H a xs->xs[i]?=some u)/\∀ys,SqB K c H d ys->ys[i]?=some v,
  λi H=>∃xs ys,SqB K b H a xs/\SqB K c H d ys/\(xs[i]?=none\/ys[i]?=none)⟩
def jf(I:Inv X pins σ H s)(hq:SqB X.K b H a xs):∃its:List Value,Vals xs its/\LsB b s.heap a its.toArray:=by
 cases b with
 |true=>obtain⟨its,rv,p,_⟩:=I.list hq;exact⟨its,rv,p.isList⟩
 |false=>obtain⟨its,rv,p,_⟩:=I.tuple hq;exact⟨its,rv,p⟩
def AY{P:Program}{w:World}{K:W.Frag}{elts:List Expr}{x1:Nat}{tp:Pos}(b c:Bool)(a d z p q j1 j2:Addr)(D:ZipApart z p q j1 j2 a d):
 Turn P w K (.Tuple elts x1 tp) (ItZ K b c a d) [z,p,q,j1,j2] z (λi h=>IsZip h z p q .none/\IsPair h p (.ref j1) (.ref j2)/\(∃u v,IsPair h q u v)/\ItB b h j1 a i/\ItB c h j2 d i) where
 mem:=by simp
 obj:=λi h st e he=>by
  obtain⟨s1,s2,⟨u,v,s3⟩,s4,s5⟩:=st;obtain⟨o4,k4,l4,_⟩:=gL s4;obtain⟨o5,k5,l5,_⟩:=gL s5;simp only[C_,List.not_mem_nil,or_false] at he;rcases he with rfl |rfl |rfl |rfl |rfl
  .exact⟨_,s1,λv y=>by cases y⟩
  .exact⟨_,s2,λv y=>by cases y⟩
  .exact⟨_,s3,λv y=>by cases y⟩
  .exact⟨o4,k4,l4⟩
  .exact⟨o5,k5,l5⟩
 keep:=λi h h' st k=>by obtain⟨s1,s2,⟨u,v,s3⟩,s4,s5⟩:=st;exact⟨k z (by simp) _ s1,k p (by simp) _ s2,⟨u,v,k q (by simp) _ s3⟩,bz s4 λo e=>k j1 (by simp) o e,bz s5 λo e=>k j2 (by simp) o e⟩
 item:=
  by
  intro X hP hw hK hc i pins s σ H E I hf st hg;subst hP hw hK;obtain⟨xs,ys,x,y,qx,qy,ex,ey⟩:=hg;obtain⟨s1,s2,⟨u,v,s3⟩,s4,s5⟩:=st;obtain⟨ix,rx,lx⟩:=jf I qx;obtain⟨iy,ry,ly⟩:=jf I qy;obtain⟨ux,hux,rux⟩:=rx.get ex;obtain⟨uy,huy,ruy⟩:=ry.get ey;have hTy:s.TypeIs (.ref z) "zip":=⟨_,s1,rfl⟩;have zl:=t_ s1;have pl:=t_ s2;have ql:=t_ s3;obtain⟨o4,k4,_,_⟩:=gL s4;obtain⟨o5,k5,_,_⟩:=gL s5;have j1l:=t_ k4;have j2l:=t_ k5;unfold pyNext;refine i_ (MW (KW (name:=Str.ofString "__next__") hTy Mq (Ll Mq hTy F.entry_zip_next (zipN D s1 s2 s3 s4 s5 lx ly (by simpa using hux) (by simpa using huy) λh' y1 y3 y4 y5 yT hk=>n_ ?_) (F.args_zip_next_1 _))));refine⟨_,rfl,wpAny_letOwnedTupleGo_zip (s:={ s with heap:=h' }) y1 λh2 z2 sb=>?_⟩;have sb':Heap.SameBut z h' h2:=sb;have hT:H s.heap.objs.size=none:=I.hok.fresh (m_ _);have I1:Inv X pins σ (upd H s.heap.objs.size (.tup [x,y])) { s with heap:=s.heap.push { cls:=.type "tuple",data:=.seq #[ux,uy] },toks:=s.toks }:=
   I.laid (t':=s.toks) (λc o q=>q_ _ q) (m_ _) ⟨by show 2<=sizeLine;decide,[ux,uy],.cons rux (.cons ruy .nil),⟨_,A_ _ rfl,rfl,_,rfl⟩⟩
  have fp':∀e∈[z,p,q,j1,j2],FpOk X pins (upd H s.heap.objs.size (.tup [x,y])) e:=λe he=>by
   have:=hf e he
   simp only[C_,List.not_mem_nil,or_false] at he;rcases he with rfl |rfl |rfl |rfl |rfl
   .exact this.up (G_ zl)
   .exact this.up (G_ pl)
   .exact this.up (G_ ql)
   .exact this.up (G_ j1l)
   .exact this.up (G_ j2l)
  have I2:Inv X pins σ (upd H s.heap.objs.size (.tup [x,y])) { s with heap:=h2,toks:=s.toks }:=
   Inv.turnedL (s:={ s with heap:=s.heap.push { cls:=.type "tuple",data:=.seq #[ux,uy] },toks:=s.toks }) (ch:=[z,p,q,j1,j2]) (t':=s.toks) I1 (λe o he qe=>by
    have c1:e≠z:=λw=>he (by simp [w]);have c2:e≠q:=λw=>he (by simp [w]);have c3:e≠j1:=λw=>he (by simp [w]);have c4:e≠j2:=λw=>he (by simp [w]);rw[sb'.2 e c1];have q':(s.heap.push { cls:=.type "tuple",data:=.seq #[ux,uy] }).get? e=some o:=qe;by_cases w:e=s.heap.objs.size
    .subst w;rw[A_ _ rfl] at q';cases q';exact yT
    .rw[Heap.get?_push_ne _ _ _ w] at q';exact hk e o c1 c2 c3 c4 q') fp'
  refine⟨.ref s.heap.objs.size,_,I2,rfl,⟨_,x,y,rfl,hT,rfl,λzs hz=>by rw[SqB.inj I hz qx];exact ex,λzs hz=>by rw[SqB.inj I hz qy];exact ey⟩,⟨z2,?_,⟨ux,uy,?_⟩,bz y4 λo e=>(sb'.2 j1 D.i1z).trans e,bz y5 λo e=>(sb'.2 j2 D.i2z).trans e⟩,λe he=>(fp' e he).1⟩
  .exact (sb'.2 p D.TIz).trans (hk p _ D.TIz D.TITO D.TIi1 D.TIi2 s2)
  .exact (sb'.2 q D.TOz).trans y3
 done:=by
  intro X hP hw hK hc i pins s σ H E I hf st hg;subst hP hw hK;obtain⟨xs,ys,qx,qy,en⟩:=hg;obtain⟨s1,s2,⟨u,v,s3⟩,s4,s5⟩:=st;obtain⟨ix,rx,lx⟩:=jf I qx;obtain⟨iy,ry,ly⟩:=jf I qy;have hTy:s.TypeIs (.ref z) "zip":=⟨_,s1,rfl⟩;have en':ix.toArray[i]?=none\/iy.toArray[i]?=none:=by
   rcases en with e |e
   .left;rw[L6] at e;simp;rw[<- rx.length];exact e
   .right;rw[L6] at e;simp;rw[<- ry.length];exact e
  unfold pyNext;refine i_ (MW (KW (name:=Str.ofString "__next__") hTy Mq (Ll Mq hTy F.entry_zip_next (Az (I.ok.hd hc) D s1 s2 s3 s4 s5 lx ly en' λh' e hk ⟨o,ho,co⟩=>?_) (F.args_zip_next_1 _))));refine i_ (wpAny_isInstance (T:="StopIteration") (b:=true) ⟨o,ho,co⟩ isSubtype_stop (n_ ⟨rfl,?_⟩));exact Inv.turnedL (ch:=[z,p,q,j1,j2]) (t':=s.toks) I (λe o he qe=>hk e o (λw=>he (by simp [w])) (λw=>he (by simp [w])) (λw=>he (by simp [w])) (λw=>he (by simp [w])) qe) hf
 self:=λ_ _ _ _ _ st h=>wpAny_pyIter_zip st.1 h
def yg:bootBuiltins "zip"=some (.type "zip"):=by decide
def FA(hg:Gl X "zip")(hm:X.mg "zip"=none)(ha:PA X [l,m] tl)(hs:starEach [l,m] X.env=[(false,eval l X.env),(false,eval m X.env)])(hs2:starEach [m] X.env=[(false,eval m X.env)]):
 PI X (.Tuple elts x1 tp) (.Call (.Name "zip" p) [l,m] [] pos) (λσ H R=>tl σ H λvs H1=>∃(b c:Bool) (a d:Addr) (xs ys:List V),vs=[.ref a,.ref d]/\SqB X.K b H1 a xs/\SqB X.K c H1 d ys/\R (ItZ X.K b c a d) H1):=by
 intro pins s σ H R I h;refine Call_ (fC I hg hm yg (KR (thn (ha pos pins s σ H _ I h) λus s1 zz=>exA zz λvs H1 I1 r1 q1=>?_) (by rw[hs,hs2]) (by rw[hs2];rfl)));obtain⟨b,c,a,d,xs,ys,e,qx,qy,q⟩:=q1;subst e;cases r1 with
 |
  cons r rr=>
  cases rr with
  |
   cons r' rr=>
   cases rr;cases r;cases r';obtain⟨ix,rx,lx⟩:=jf I1 qx;obtain⟨iy,ry,ly⟩:=jf I1 qy;have la:a<s1.heap.objs.size:=by cases b <;> (obtain⟨o,e,_⟩:=lx;exact t_ e)
   have ld:d<s1.heap.objs.size:=by cases c <;> (obtain⟨o,e,_⟩:=ly;exact t_ e)
   refine zM lx ly λh' y1 y2 y3 y4 y5 hk=>wpAny_pyIter_zip y1 ⟨s1.heap.objs.size+4,[s1.heap.objs.size+4,s1.heap.objs.size+2,s1.heap.objs.size+3,s1.heap.objs.size,s1.heap.objs.size+1],_,_,H1,rfl,I1.kept (t':=s1.toks) λc o z=>hk c o z,AY b c a d _ _ _ _ _ (W.ktu_apart _ _ _ la ld),⟨y1,y2,⟨_,_,y3⟩,y4,y5⟩,λe he=>?_,q⟩;have hge:s1.heap.objs.size<=e:=by
    simp only[C_,List.not_mem_nil,or_false] at he;rcases he with rfl |rfl |rfl |rfl |rfl
    .exact Mm _ _
    .exact Mm _ _
    .exact Mm _ _
    .exact m_ _
    .exact Mm _ _
   exact I1.fpOk hge (I1.hok.fresh hge)
inductive D where
 |non |bl (b:Bool) |int (i:Int) |str (x:Str) |ty (n:String) |glb (x:Str) |exc (x:Str) |tup (xs:List D) |ref (n:Nat) |kl (xs:List D)
 deriving Inhabited
inductive Ob where
 |lst (xs:List D) |fz (xs:List D) |set (xs:List Int) |dct (kvs:List (Key×D)) |any
 deriving Inhabited
abbrev AH:=List Ob
abbrev AE:=List (Option D)
inductive R(α:Type) where
 |ok (a:α) (h:AH) |exc (c:Str) (h:AH) |stuck
inductive SR where
 |nx (ae:AE) (h:AH) |rt (d:D) (h:AH) |bk (ae:AE) (h:AH) |ct (ae:AE) (h:AH) |exc (c:Str) (ae:AE) (h:AH) |stuck
abbrev ME:=AE->AH->R D
abbrev MT:=AE->AH->R Bool
abbrev MA:=AE->AH->R (List D)
abbrev MS:=AE->AH->SR
section
variable(K:W.Frag)(mg:Na)
def codO(c:Addr)(q:Str):Heap->Prop:=λh=>h.CodeRec (.ref c) q
noncomputable def Aj:List Str:=["by_falling_weights", "least_around"]
def A2(P:Addr)(q:Str):Prop:=∃(x:Str) (f:Addr) (oc:Value) (od:Option Addr) (fd:FuncData) (sl:Array (Option Value)) (c:Addr),x∈Aj/\(∀y∈Aj,y≠x->mg y=none)/\mg x=some (.ref f)/\K.lookup f=some ⟨oc,od,.func fd,sl⟩/\fd.code=.ref c/\W.codeHdIn K c P=true/\q=fd.qualname ++ ".<locals>." ++ "<lambda>"
def bmP(o:Obj):Prop:=o.cls=.type "module" /\ o.dict=some builtinsNs/\o.data=.plain
def BK(H:Hp):Prop:=∃b o,mg "__builtins__"=some (.ref b)/\b≠builtinsNs/\b≠mainGlobals/\bmP o/\(K.lookup b=some o\/∃u,H b=some (.frz o u))
end
section
variable{X:Cx}{e:Expr}{es:List Expr}{st:Stmt}{sts:List Stmt}
def PE.imp(h:PE X e t)(k:∀σ H Q,t' σ H Q->t σ H Q):PE X e t':=λpins s σ H Q I w=>h pins s σ H Q I (k σ H Q w)
def PT.imp(h:PT X e t)(k:∀σ H Q,t' σ H Q->t σ H Q):PT X e t':=λpins s σ H Q I w=>h pins s σ H Q I (k σ H Q w)
def PW.imp(h:PW X e t)(k:∀σ H Q,t' σ H Q->t σ H Q):PW X e t':=λwh pins s σ H Q I w=>h wh pins s σ H Q I (k σ H Q w)
def PA.imp(h:PA X es t)(k:∀σ H Q,t' σ H Q->t σ H Q):PA X es t':=λpos pins s σ H Q I w=>h pos pins s σ H Q I (k σ H Q w)
def PS.imp(h:PS X st t)(k:∀D σ H,t' D σ H->t D σ H):PS X st t':=λpins s σ H D I w=>h pins s σ H D I (k D σ H w)
def PSs.imp(h:PSs X sts t)(k:∀D σ H,t' D σ H->t D σ H):PSs X sts t':=λpins s σ H D I w=>h pins s σ H D I (k D σ H w)
def PG.imp(h:PG X e t)(k:∀v σ H Q,t' v σ H Q->t v σ H Q):PG X e t':=λpins s σ H v u Q I r w=>h pins s σ H v u Q I r (k v σ H Q w)
def PGs.imp(h:PGs X es t)(k:∀v σ H Q,t' v σ H Q->t v σ H Q):PGs X es t':=λpins s σ H v u Q I r w=>h pins s σ H v u Q I r (k v σ H Q w)
def PO.imp(h:PO X o t)(k:∀σ H Q,t' σ H Q->t σ H Q):PO X o t':=λpins s σ H Q I w=>h pins s σ H Q I (k σ H Q w)
end
abbrev MG:=D->AE->AH->R AE
abbrev MGs:=List D->AE->AH->R AE
noncomputable def g2 (f:Int->Int->R D) (x y:D):R D:=match x,y with
 |.int i,.int j=>f i j
 |_,_=>.stuck
section
variable{K:W.Frag}{X:Cx}
def nT(K:W.Frag):R2:=λx y H Q=>∃a b ys,x=.ref a/\y=.ref b/\SqT K H a []/\SqT K H b ys/\Q (.ref b) H
def DX:OpR X (binaryOp .Add) (nT X.K):=by
 intro pins s σ H x y v u Q I rx ry h;obtain⟨a,b,ys,rfl,rfl,ha,hb,q⟩:=h;cases rx;cases ry;obtain⟨its,r1,p1,_⟩:=I.tuple ha;obtain⟨its2,r2,p2,_⟩:=I.tuple hb;have e:its=[]:=r1.nil_iff.mpr rfl;subst e;obtain⟨⟨cls,dd,data,sl⟩,ho,hc,n,hd⟩:=id p1;obtain⟨⟨cls2,dd2,data2,sl2⟩,ho2,hc2,n2,hd2⟩:=id p2;simp only at hc hd hc2 hd2;subst hc hd hc2 hd2;exact concat_meets ⟨_,ho,rfl⟩ ⟨_,ho2,rfl⟩ noFill_tuple_add seq_tuple_add Mi Mg (Mc _ _)
  (tuple_addW0 _ _ _ _ n n2 dd dd2 sl sl2 rfl) ⟨ho,ho2,⟨.ref b,H,I,rfl,q⟩⟩
def ixK(h:X.K=K):IxR X (λx y H Q=>BD K x y H Q\/AO K x y H Q):=by subst h;exact CV.or Hv
def catK(h:X.K=K):OpR X (binaryOp .Add) (λx y H Q=>sf x y H Q\/(nR K x y H Q\/nT K x y H Q)):=by subst h;exact Gx.or (Dp.or DX)
end
inductive AIt where
 |lst (n:Nat) (xs:List D) |tup (xs:List D) |rng (lo:Int) (k:Nat) |rgd (lo:Int) (k:Nat) |txt (x:Str) |enm (s:AIt) |zip (s t:AIt)
abbrev MI:=AE->AH->R AIt
section
variable{K:W.Frag}{X:Cx}{tg iter e a b:Expr}{I:MI}
def PI.imp(h:PI X tg iter t)(k:∀σ H Q,t' σ H Q->t σ H Q):PI X tg iter t':=λpins s σ H Q I w=>h pins s σ H Q I (k σ H Q w)
def E2(hl:PE X l tl):PI X tg l (λσ H R=>tl σ H λx H1=>(∃a,x=.ref a/\(∃xs,SqL X.K H1 a xs)/\R (Itl X.K a) H1)\/(∃a,x=.ref a/\(∃xs,SqT X.K H1 a xs)/\R (Itt X.K a) H1)):=by
 intro pins s σ H R I h;refine thn (hl pins s σ H _ I h) λv s1 zz=>exA zz λx H1 I1 r1 q1=>?_;rcases q1 with ⟨a,e,⟨xs,hq⟩,q⟩ |⟨a,e,⟨xs,hq⟩,q⟩
 .subst e;cases r1;obtain⟨its,rv,p,hz⟩:=I1.list hq;refine wpAny_pyIter_list p.isList ?_;refine⟨s1.heap.objs.size,[s1.heap.objs.size],_,_,H1,rfl,I1.kept (t':=s1.toks) λb o e=>q_ _ e,zI a _,⟨_,A_ _ rfl,rfl,rfl⟩,λb hb=>?_,q⟩;have e:b=s1.heap.objs.size:=by simpa using hb
  subst e;exact I1.fpOk (m_ _) (I1.hok.fresh (m_ _))
 .subst e;cases r1;obtain⟨its,rv,p,hz⟩:=I1.tuple hq;refine Md (show s1.heap.IsTuple a its.toArray from p) ?_;refine⟨s1.heap.objs.size,[s1.heap.objs.size],_,_,H1,rfl,I1.kept (t':=s1.toks) λb o e=>q_ _ e,xE a _,⟨_,A_ _ rfl,rfl,rfl⟩,λb hb=>?_,q⟩;have e:b=s1.heap.objs.size:=by simpa using hb
  subst e;exact I1.fpOk (m_ _) (I1.hok.fresh (m_ _))
end
section
variable{K:W.Frag}{X:Cx}
def Ke(h:X.K=K):CallR X (.builtin "len") (λxs H Q=>(∃p ys,xs=[.ref p]/\(SqL K H p ys\/SqT K H p ys)/\Q (.int ys.length) H)\/(∃z,xs=[.str z]/\z.length<=sizeLine/\Q (.int z.length) H)):=by subst h;exact tE.or uf
def yX(h:X.K=K):CallR X (.type "list") (λxs H Q=>∃p ys,xs=[.ref p]/\(SqL K H p ys\/SqT K H p ys)/\∀l,H l=none->Q (.ref l) (upd H l (.lst ys))):=by subst h;exact sY
def D3(h:X.K=K):CallR X (.type "tuple") (λxs H Q=>∃p ys,xs=[.ref p]/\((SqL K H p ys/\∀l,H l=none->Q (.ref l) (upd H l (.tup ys)))\/(SqT K H p ys/\Q (.ref p) H))):=by subst h;exact qU
end
inductive Cl where
 |b (n:String) |o (x:Str)
 deriving DecidableEq
def ClV(mg:Na):Cl->Value->Prop
 |.b n,v=>v=.type n
 |.o x,v=>∃a,v=.ref a/\mg x=some (.ref a)
abbrev jB:=List (Cl×Cl×Bool)
structure KitsOk(K:W.Frag)(mg:Na)(kt:jB):Prop where
 one:∀p∈kt,∀t v,ClV mg p.1 t->ClV mg p.2.1 v->W.kitOne K t v=some p.2.2
 xc:∀p∈kt,∀x C,p.1=.o x->mg x=some (.ref C)->XCls K C
noncomputable def kit (kt:jB) (t c:Cl):Option Bool:=(kt.find? λp=>decide (p.1=t)&&decide (p.2.1=c)).map (·.2.2)
noncomputable def gJ (kt:jB) (t:Cl):List Cl->Option Bool
 | []=>some false
 |c::r=>match kit kt t c with
  |some true=>some true
  |some false=>gJ kt t r
  |none=>none
def oz(e:kit kt t c=some b):(t,c,b)∈kt:=by
 unfold kit at e;cases q:kt.find? (λp=>decide (p.1=t)&&decide (p.2.1=c)) with
 |none=>rw[q] at e;cases e
 |some p=>rw[q] at e;have h1:=List.find?_some q;have h2:=L7 q;simp only[p_,Ld] at h1;obtain⟨p1,p2,p3⟩:=p;have e3:p3=b:=E_ e;obtain⟨rfl,rfl⟩:=h1;subst e3;exact h2
section
variable{K:W.Frag}{mg:Na}{X:Cx}{H:Hp}{h:AH}
def zF(ok:KitsOk K mg kt)(ht:ClV mg t tv):∀{cs:List Cl}{cvs:List Value}{b:Bool},Paired (ClV mg) cs cvs->gJ kt t cs=some b->W.kitAny K tv cvs=some b:=by
 intro cs;induction cs with
 |nil=>intro cvs b r e;cases r;cases e;rfl
 |
  cons c cs ih=>
  intro cvs b r e;cases r with
  |
   cons r rr=>
   unfold gJ at e;unfold W.kitAny;cases q:kit kt t c with
   |none=>rw[q] at e;cases e
   |
    some z=>
    rw[q] at e;rw[ok.one _ (oz q) _ _ ht r];cases z with
    |true=>exact e
    |false=>exact ih rr e
def yc:CallR X (.builtin "isinstance") (λxs H Q=>∃x tp cs t vs b,xs=[x,.ref tp]/\SqT X.K H tp cs/\TyX X.K H x t/\cs.mapM fY=some vs/\W.kitAny X.K t vs=some b/\Q (.bl b) H):=by intro pins s σ H xs us Q I r h;obtain⟨x,tp,cs,t,vs,b,rfl,ht,ty,hc,hk,q⟩:=h;obtain⟨u,w',rfl,rx,rc⟩:=CS r;cases rc;obtain⟨its,rv,⟨o,e,c,n,d⟩,_⟩:=I.tuple ht;obtain rfl:=pP hc rv;obtain⟨Hh,Z,p,hne⟩:=wd I rx ty;obtain⟨oc,od,odt,osl⟩:=o;have c':oc=.type "tuple":=c;have d':odt=.seq its.toArray n:=d;subst c' d';exact W.kia_tup Z I.kIn p e hk hne λtk=>⟨.bl b,H,I.tok _,rfl,q⟩
def JX(hK:X.K=K):CallR X (.builtin "isinstance") (λxs H Q=>(∃x c t v b,xs=[x,c]/\TyX K H x t/\fY c=some v/\W.kitOne K t v=some b/\Q (.bl b) H)\/
 (∃x tp cs t vs b,xs=[x,.ref tp]/\SqT K H tp cs/\TyX K H x t/\cs.mapM fY=some vs/\W.kitAny K t vs=some b/\Q (.bl b) H)):=by subst hK;exact Ax.or yc
end
abbrev MO:=AE->AH->R (Option Int)
section
variable{K:W.Frag}{X:Cx}{F:ME}{lo hi:Option Expr}
def wm:V->Option Int->Option Int->Hp->VK->Prop:=λx lo hi H Q=>∃z,x=.str z/\z.length<=16777216/\Q (.str (Txt.slice z lo hi)) H
def HQ:SlR X wm:=by
 intro pins s σ H x v vl vu lo hi sl Q I rx hs pl pu h;obtain⟨z,rfl,hz,q⟩:=h;obtain⟨t,rfl⟩:=rx;refine⟨"str",_,PySem.F.slot_str_getitem.lookup,typeIs_str _ _ _,?_⟩;have key:∀t' k,EP X pins σ Q (.str (Txt.slice z lo hi) t') { s with toks:=k }:=λt' k=>⟨.str (Txt.slice z lo hi),H,I.tok _,⟨_,rfl⟩,q⟩;cases pl <;> cases pu
 .exact LD (l:=none) (u:=none) (st:=none) hs rfl (MC ⟨F_ (Txt.slice_le z _ _) hz,λt' k=>key t' k⟩)
 .exact LD (l:=none) (u:=some (_,_)) (st:=none) hs rfl (MC ⟨F_ (Txt.slice_le z _ _) hz,λt' k=>key t' k⟩)
 .exact LD (l:=some (_,_)) (u:=none) (st:=none) hs rfl (MC ⟨F_ (Txt.slice_le z _ _) hz,λt' k=>key t' k⟩)
 .exact LD (l:=some (_,_)) (u:=some (_,_)) (st:=none) hs rfl (MC ⟨F_ (Txt.slice_le z _ _) hz,λt' k=>key t' k⟩)
def slK(h:X.K=K):SlR X (λx lo hi H Q=>(xq K x lo hi H Q\/w9 K x lo hi H Q)\/wm x lo hi H Q):=by subst h;exact (D4.or FR).or HQ
end
def walk_lawD{l:W.OpenLaw}{q:Program}{loose:List Str}{XP:(Str->Option Value)->Heap->Prop}{YP:World->Heap->Prop}{d:DefRec}{K:Params->W.Frag}{x:Str}{k:Nat}(hn:l.most=some 63)(hdf:d.params.defaults=[])(hr:Room k callerA)
 (hY:∀(w:World) (h:Heap),YP w h->(K w.params).In h)
 (F:∀(w:World) (mg:Na) (h:Heap),(K w.params).In h->h.Ns mainGlobals mg->∀base:Heap,(K w.params).In base->base.Ns mainGlobals mg->Callee l.prog w (K w.params) mg base d.name k [x] (λvs H Q _=>∃(a:Addr) (ns:List Int),vs=[.ref a]/\oU H/\SqL (K w.params) H a (ns.map V.int)/\ns.length<=63/\∀H',Q (.bl true) H'))
 (D:∀(w:World) (mg:Na) (h:Heap),(K w.params).In h->h.Ns mainGlobals mg->∃st,Def (K w.params) mg d.name st/\∀(kV doc pm:Value) (an:Option Addr) (cdv ct:Value) (us:List Value),us.length=1->bindArgs (W.fnOf d.name d.name (dU st) (bS st) (ar st) .none kV doc pm an cdv ct) ⟨us,[]⟩=pure ([x].zip us)):
 W.WalkO q loose XP YP l.row.toRowW d [] (λf vs=>PySem.call f vs):=by
 refine L2.walk_of (n:=63) (k:=k) (x:=x) (CX:=λw=>CX1 l.prog w) (sp:=λw=>λvs H Q _=>∃(a:Addr) (ns:List Int),vs=[.ref a]/\oU H/\SqL (K w.params) H a (ns.map V.int)/\ns.length<=63/\∀H',Q (.bl true) H') hn (by decide) hdf hr hY (λw mg fa h KX G hmg=>?_) (λ_ _ a ns hl hO hS=>⟨a,ns,rfl,hO,hS,hl,λ_=>rfl⟩) λ_ _ _ _ _ ⟨_,_,_,_,_,_,_,_,_,z⟩=>z;obtain⟨st,Dd,hbind⟩:=D w mg h KX G;obtain⟨f,fd,Ff,m⟩:=Dd.ex;have e:=hmg.symm.trans m;cases e;obtain⟨oc,od,kV,doc,pm,an,cdv,ct,osl,rfl,lk,hcd⟩:=Ff.ex;refine⟨_,λs u=>.of_eq (hbind kV doc pm an cdv ct [u] rfl),λbase kb nb=>?_⟩;obtain⟨f',fd',F',m',kp',b',oc',od',osl',lk'⟩:=(F w mg h KX G base kb nb).ex;rw[m] at m';cases m';rw[lk] at lk';cases lk';exact F'
def CMulA(i j:Int):Prop:=CF i j\/CMul i j
section
variable{K:W.Frag}{X:Cx}
def Hz(h:X.K=K):OpR X (binaryOp .Add) (λx y H Q=>rI0 (λi j=>.int (i+j)) x y H Q\/(sf x y H Q\/(nR K x y H Q\/nT K x y H Q))):=FF.or (catK h)
def Fc:OpR X (binaryOp .Mult) (rI CMulA λi j=>.int (i*j)):=by
 intro pins s σ H x y v u Q I rx ry h;obtain⟨i,j,e1,e2,hc,q⟩:=h;rcases hc with hc |hc
 .exact DU pins s σ H x y v u Q I rx ry ⟨i,j,e1,e2,hc,q⟩
 .exact Gj pins s σ H x y v u Q I rx ry ⟨i,j,e1,e2,hc,q⟩
end
def iD(h1:pd.canLay0=true)(h2:pd.depth<=160):shp pd=true:=by unfold shp;rw[h1,x_ h2];rfl
def Sm(n:Nat)(x:Int):Prop:=x.natAbs<2^n
def Sm.mono(h:Sm n x)(l:n<=m):Sm m x:=w_ h (Em (by omega) l)
def Sm.mul(h:Sm n x)(k:Sm m y):Sm (n+m) (x*y):=by unfold Sm at *;rw[LA,Nat.pow_add];exact Nat.mul_lt_mul'' h k
def Sm.add'(h:Sm n x)(k:Sm n y):Sm (n+1) (x+y):=by
 unfold Sm at *;have h3:2^(n+1)=2^n+2^n:=by rw[Nat.pow_succ];omega
 have h4:(x+y).natAbs<=x.natAbs+y.natAbs:=Int.natAbs_add_le x y;omega
def Sm.bits(h:Sm n x):Builtin.Int.intBits x<=n:=intBits_le_iff.mpr h
def Sm.of_le(h:Sm n y)(l:x.natAbs<=y.natAbs):Sm n x:=Nat.lt_of_le_of_lt l h
def CMulA.of(h:Sm n x)(k:Sm m y)(hn:n<=100000)(hm:m<=100000):CMulA x y:=.inl ⟨F_ h.bits hn,F_ k.bits hm⟩
def CMulA.left(h:-(2^64)<x)(k:x<2^64):CMulA x y:=.inr (.inl ⟨h,k⟩)
def CMulA.right(h:-(2^64)<y)(k:y<2^64):CMulA x y:=.inr (.inr ⟨h,k⟩)
def CDivB.of(h0:y≠0)(h:Sm 8000 y):CDivB x y:=⟨h0,h.bits⟩
structure Sz(n:Nat)(q:Rat):Prop where
 top:Sm n q.num
 bot:Sm n (q.den:Int)
def Sz.mono(h:Sz n q)(l:n<=m):Sz m q:=⟨h.top.mono l,h.bot.mono l⟩
def yZ{a b:Int}(hb:b≠0):((a:Rat)/(b:Rat)).num*b=a*((a:Rat)/(b:Rat)).den:=by
 have h2:=Rat.num_divInt_den ((a:Rat)/(b:Rat));have h3:Rat.divInt ((a:Rat)/(b:Rat)).num (((a:Rat)/(b:Rat)).den:Int)=Rat.divInt a b:=by rw[h2,Rat.divInt_eq_div]
 exact (Rat.divInt_eq_divInt_iff (by have:=((a:Rat)/(b:Rat)).den_nz;omega) hb).mp h3
def vD(q:Rat):Int.gcd q.num q.den=1:=by
 have:=q.reduced
 exact this
def nC(hb:b≠0):Fr.T a b=((a:Rat)/(b:Rat)).num/\Fr.B a b=(((a:Rat)/(b:Rat)).den:Int):=by
 refine Fr.uniq (Fr.B_pos hb) (by have:=((a:Rat)/(b:Rat)).den_pos;omega) (Fr.low hb) (vD _) ?_;have h1:=Fr.cross (a:=a) hb;have h2:=yZ (a:=a) hb;generalize ((a:Rat)/(b:Rat)).num=n at *;generalize (((a:Rat)/(b:Rat)).den:Int)=d at *;generalize Fr.T a b=x at *;generalize Fr.B a b=y at *;have h3:(x*d)*b=(n*y)*b:=by
  calc x*d*b=(x*b)*d:=by rw[Ma]
   _=a*y*d:=by rw[h1]
   _=(a*d)*y:=by rw[Ma]
   _=n*b*y:=by rw[h2]
   _=n*y*b:=by rw[Ma]
 exact LX hb h3
def wG{a b:Int}(hb:b≠0):((a:Rat)/(b:Rat)).num.natAbs<=a.natAbs:=by
 have h:=(nC (a:=a) hb).1;rw[<- h];have h1:=Fr.T_mul (a:=a) hb;have h2:=Fr.dv_ne (a:=a) hb;have h3:(Fr.T a b).natAbs*(Fr.dv a b).natAbs=a.natAbs:=by rw[<- LA,h1]
 have h4:1<=(Fr.dv a b).natAbs:=by omega
 calc (Fr.T a b).natAbs=(Fr.T a b).natAbs*1:=by omega
  _<=(Fr.T a b).natAbs*(Fr.dv a b).natAbs:=L4 _ h4
  _=a.natAbs:=h3
def xH{a b:Int}(hb:b≠0):((((a:Rat)/(b:Rat)).den:Int)).natAbs<=b.natAbs:=by
 have h:=(nC (a:=a) hb).2;rw[<- h];have h1:=Fr.B_mul (a:=a) hb;have h2:=Fr.dv_ne (a:=a) hb;have h3:(Fr.B a b).natAbs*(Fr.dv a b).natAbs=b.natAbs:=by rw[<- LA,h1]
 have h4:1<=(Fr.dv a b).natAbs:=by omega
 calc (Fr.B a b).natAbs=(Fr.B a b).natAbs*1:=by omega
  _<=(Fr.B a b).natAbs*(Fr.dv a b).natAbs:=L4 _ h4
  _=b.natAbs:=h3
def Sz.div(hb:b≠0)(ha:Sm n a)(hb':Sm m b)(k:Nat)(h1:n<=k)(h2:m<=k):Sz k ((a:Rat)/(b:Rat)):=
 ⟨(ha.of_le (wG hb)).mono h1,(hb'.of_le (xH hb)).mono h2⟩
def bU(q:Rat):(q.den:Int)≠0:=by have:=q.den_nz;omega
def gK(q:Rat):q=(q.num:Rat)/((q.den:Int):Rat):=by
 have:=Rat.num_divInt_den q
 rw[Rat.divInt_eq_div] at this;exact this.symm
def ia{b:Int}(h:b≠0):(b:Rat)≠0:=by intro z;exact h (by exact_mod_cast z)
def pf(p q:Rat):p+q=((p.num*q.den+q.num*p.den:Int):Rat)/((p.den*q.den:Int):Rat):=by
 have h1:=ia (bU p);have h2:=ia (bU q)
 conv=>lhs;rw[gK p,gK q]
 simp only[Rat.intCast_add,Mz];grind
def oh(p q:Rat):p*q=((p.num*q.num:Int):Rat)/((p.den*q.den:Int):Rat):=by
 have h1:=ia (bU p);have h2:=ia (bU q)
 conv=>lhs;rw[gK p,gK q]
 simp only[Mz];grind
def Sz.add(hp:Sz n p)(hq:Sz m q):Sz (n+m+1) (p+q):=by rw[pf];have h1:=(hp.top.mul hq.bot);have h2:=(hq.top.mul hp.bot);exact Sz.div (by have:=bU p;have:=bU q;exact Lp ‹_› ‹_›) (h1.add' (by rw[Nat.add_comm n m];exact h2)) (hp.bot.mul hq.bot) _ (by omega) (by omega)
def Sz.mul(hp:Sz n p)(hq:Sz m q):Sz (n+m) (p*q):=by rw[oh];exact Sz.div (by have:=bU p;have:=bU q;exact Lp ‹_› ‹_›) (hp.top.mul hq.top) (hp.bot.mul hq.bot) _ (by omega) (by omega)
def vv{q:Rat}:0<q.num ↔ 0<q:=by
 have h1:=Rat.num_nonneg (q:=q);have h2:=MB (q:=q);constructor
 .intro h;refine Rat.lt_of_le_of_ne (h1.mp (by omega)) λz=>?_
  have:=h2.mpr z.symm
  omega
 .intro h;have h3:=h1.mpr (Rat.le_of_lt h);have h4:q.num≠0:=λz=>(Rat.ne_of_lt h) (h2.mp z).symm;omega
def yk(p q:Rat):p<q ↔ p.num*q.den<q.num*p.den:=Rat.lt_iff p q
def B1{P:Program}{w:World}{H:Hp}(h:Heap)(hb:sysModules<h.objs.size):ObjOk P w H (h.push { cls:=.type "dict",data:=.dict #[] }) h.objs.size (.dK []):=
 ⟨K9 _,r_.mpr (Ne.symm (G_ hb)),[],.nil,Heap.DictOf.new h⟩
def Inv.big{X:Cx}{pins:Nb}{σ:St}{H:Hp}{s:Shared}(I:Inv X pins σ H s):sysModules<s.heap.objs.size:=by have h:mainGlobals<s.heap.objs.size:=(I.mod.glob.keeps I.bk).lt;exact Mw (by decide) h
variable{K:W.Frag}{mg:Na}
section
variable{κ:Type}[DecidableEq κ]
noncomputable def fN (kvs:List (κ×V)) (k:κ):Option V:=(kvs.find? λkv=>decide (kv.1=k)).map (·.2)
noncomputable def dX (kvs:List (κ×V)) (k:κ) (v:V):List (κ×V):=
 if (kvs.any λkv=>decide (kv.1=k))=true then kvs.map (λkv=>if kv.1=k then (kv.1,v) else kv) else kvs++[(k,v)]
def lW{p:κ×V}{r:List (κ×V)}{k:κ}(e:p.1=k):fN (p::r) k=some p.2:=by simp [fN,K_,e]
def ma{p:κ×V}{r:List (κ×V)}{k:κ}(e:¬ p.1=k):fN (p::r) k=fN r k:=by simp [fN,K_,e]
theorem mm(k:κ):∀kvs:List (κ×V),(kvs.any λkv=>decide (kv.1=k))=(fN kvs k).isSome
 | []=>rfl
 |
  p::r=>by
  rw[K7];by_cases e:p.1=k
  .simp only[lW e,x_ e,Bool.true_or,Option.isSome_some]
  .rw[ma e,v_ e,Bool.false_or];exact mm k r
def iY(kvs:List (κ×V))(k:κ)(v:V):(dX kvs k v).length<=kvs.length+1:=by
 unfold dX;split
 .rw[j_];omega
 .rw[z_,o_,KG];omega
def Ao{kvs:List (κ×V)}{k:κ}(v:V)(h:fN kvs k=none):dX kvs k v=kvs++[(k,v)]:=by unfold dX;rw[mm,h];exact if_neg (by decide)
def RelO.isSome_eq(r:RelO o u):o.isSome=u.isSome:=by
 cases o with
 |none=>cases u with
  |none=>rfl
  |some _=>exact (show False from r).elim
 |some _=>cases u with
  |none=>exact (show False from r).elim
  |some _=>rfl
def KV.val(r:KV kvs vs)(k:κ):RelO (fN kvs k) (valueAt vs k):=by
 unfold KV at r;induction r with
 |nil=>exact True.intro
 |
  @cons p q ps qs h t ih=>
  obtain⟨h1,h2⟩:=h;by_cases e:p.1=k
  .have e':q.1=k:=h1.symm.trans e;have b:valueAt (q::qs) k=some q.2:=by simp [valueAt,K_,e']
   rw[lW e,b];exact h2
  .have e':¬ q.1=k:=λz=>e (h1.trans z);have b:valueAt (q::qs) k=valueAt qs k:=by simp [valueAt,K_,e']
   rw[ma e,b];exact ih
def KV.any(r:KV kvs vs)(k:κ):(kvs.any λkv=>decide (kv.1=k))=vs.any λkv=>decide (kv.1=k):=by
 unfold KV at r;induction r with
 |nil=>rfl
 |cons h t ih=>rw[K7,K7,ih,h.1]
def KV.repl(r:KV kvs vs)(k:κ)(ry:RelV y u):
 KV (kvs.map λkv=>if kv.1=k then (kv.1,y) else kv) (vs.map λkv=>if kv.1=k then (kv.1,u) else kv):=by
 unfold KV at r ⊢;induction r with
 |nil=>exact .nil
 |
  @cons p q ps qs h t ih=>
  rw[s_,s_];refine .cons ?_ ih;obtain⟨h1,h2⟩:=h;by_cases e:p.1=k
  .rw[if_pos e,if_pos (h1.symm.trans e)];exact⟨h1,ry⟩
  .rw[if_neg e,if_neg (λz=>e (h1.trans z))];exact⟨h1,h2⟩
def KV.put(r:KV kvs vs)(k:κ)(ry:RelV y u):KV (dX kvs k y) (stored vs k u):=by
 unfold dX stored;rw[r.any k];by_cases e:(vs.any λkv=>decide (kv.1=k))=true
 .rw[if_pos e,if_pos e];exact r.repl k ry
 .rw[if_neg e,if_neg e];exact Paired.snoc r ⟨rfl,ry⟩
def KV.length(r:KV kvs vs):kvs.length=vs.length:=Paired.length r
end
def lp(r:RelV (kV k) u):(bg P w).is k u=true:=by
 cases k with
 |inl i=>obtain⟨t,e⟩:=(show ∃t,u=Value.int i t from r);subst e;exact uS P w i t
 |inr x=>obtain⟨t,e⟩:=(show ∃t,u=Value.str x t from r);subst e;exact lK P w x t
theorem pE:∀{ks:List Key}{us:List Value},Vals (ks.map kV) us->ItemsAre (bg P w) ks us
 | [],_,r=>by rw[KD] at r;cases r;exact .nil
 |
  k::ks,_,r=>by
  rw[s_] at r;cases r with
  |cons h t=>exact .cons (lp h) (pE t)
abbrev KT(H:Hp):List (List Key×V)->List (List Key×Addr×Value)->Prop:=Paired λp q=>p.1=q.1/\H q.2.1=some (.tup (p.1.map kV))/\RelV p.2 q.2.2
def KT.val(r:KT H kvs xs)(k:List Key):RelO (fN kvs k) ((atKey xs k).map (·.2)):=by
 induction r with
 |nil=>exact True.intro
 |
  @cons p q ps qs h t ih=>
  obtain⟨h1,_,h2⟩:=h;by_cases e:p.1=k
  .have e':q.1=k:=h1.symm.trans e;have b:atKey (q::qs) k=some q.2:=by simp [atKey,K_,e']
   rw[lW e,b];exact h2
  .have e':¬ q.1=k:=λz=>e (h1.trans z);have b:atKey (q::qs) k=atKey qs k:=by simp [atKey,K_,e']
   rw[ma e,b];exact ih
def KT.repl(r:KT H kvs xs)(k:List Key)(ry:RelV y u):
 KT H (kvs.map λkv=>if kv.1=k then (kv.1,y) else kv) (xs.map (putAt k u)):=by
 induction r with
 |nil=>exact .nil
 |
  @cons p q ps qs h t ih=>
  rw[s_,s_];refine .cons ?_ ih;obtain⟨h1,h2,h3⟩:=h;unfold putAt;by_cases e:p.1=k
  .rw[if_pos e,if_pos (h1.symm.trans e)];exact⟨h1,h2,ry⟩
  .rw[if_neg e,if_neg (λz=>e (h1.trans z))];exact⟨h1,h2,h3⟩
def KT.put(r:KT H kvs xs)(k:List Key)(hb:H b=some (.tup (k.map kV)))(ry:RelV y u):
 KT H (dX kvs k y) (storedH xs k b u):=by
 have e:(kvs.any λkv=>decide (kv.1=k))=(atKey xs k).isSome:=by rw[mm,(r.val k).isSome_eq,Option.isSome_map]
 unfold dX storedH;rw[e];by_cases q:(atKey xs k).isSome=true
 .rw[if_pos q,if_pos q];exact r.repl k ry
 .rw[if_neg q,if_neg q];exact Paired.snoc r ⟨rfl,hb,ry⟩
def KT.keeps(r:KT H kvs xs)(ht:∀b ys,H b=some (.tup ys)->H' b=some (.tup ys)):KT H' kvs xs:=
 Paired.mapP r λ_ _ z=>⟨z.1,ht _ _ z.2.1,z.2.2⟩
section
variable{P:Program}{w:World}{H:Hp}{h:Heap}{a:Addr}
def Cn(ok:HOk P w H h)(e:Rd H a u):ObjOk P w H h a u:=e.ok ok
def wD(ok:HOk P w H h)(e:Rd H a (.dK kvs)):kvs.length<=sizeLine/\(a==sysModules)=false/\∃vs,KV kvs vs/\h.DictOf (bg P w) a vs:=
 show ObjOk P w H h a (.dK kvs) from Cn ok e
def Cv(ok:HOk P w H h)(e:H a=some (.dK kvs)):kvs.length<=sizeLine/\(a==sysModules)=false/\∃vs,KV kvs vs/\h.DictOf (bg P w) a vs:=wD ok (.inl e)
def tU(ok:HOk P w H h)(e:H a=some (.tup (ks.map kV))):(tupleKind (bg P w)).is h ks a:=by obtain⟨_,its,r,o,h1,h2,n,h3⟩:=(show ObjOk P w H h a (.tup (ks.map kV)) from ok a _ e);exact⟨o,its.toArray,n,h1,h2,h3,by simpa using pE r⟩
def wA(ok:HOk P w H h)(e:Rd H a (.dT kvs)):kvs.length<=sizeLine/\(a==sysModules)=false/\
 ∃xs,KT H kvs xs/\h.DictOfH (tupleKind (bg P w)) a xs:=by
 obtain⟨z,y,xs,r,o,es,ep,h1,h2,h3,h4,h5⟩:=(show ObjOk P w H h a (.dT kvs) from Cn ok e);refine⟨z,y,xs,r,o,es,ep,h1,h2,h3,h4,λx hx=>?_,h5⟩;have all:∀{l:List (List Key×V)}{m:List (List Key×Addr×Value)},KT H l m->∀x∈m,(tupleKind (bg P w)).is h x.1 x.2.1:=by
  intro l m q;induction q with
  |nil=>intro x hx;exact nomatch hx
  |
   @cons p q ps qs hq t ih=>
   intro x hx;rcases C_.mp hx with e |hx
   .subst e;exact tU ok (by rw[<- hq.1];exact hq.2.1)
   .exact ih x hx
 exact all r x hx
def IG(ok:HOk P w H h)(e:H a=some (.dT kvs)):kvs.length<=sizeLine/\(a==sysModules)=false/\
 ∃xs,KT H kvs xs/\h.DictOfH (tupleKind (bg P w)) a xs:=wA ok (.inl e)
end
def DGet(H:Hp)(a:Addr)(y:V)(r:Option V):Prop:=
 (∃kvs k,Rd H a (.dK kvs)/\y=kV k/\r=fN kvs k)\/∃kvs k b,Rd H a (.dT kvs)/\y=.ref b/\H b=some (.tup (k.map kV))/\r=fN kvs k
def DPut(H:Hp)(a:Addr)(y v:V)(H':Hp):Prop:=
 (∃kvs k,H a=some (.dK kvs)/\y=kV k/\kvs.length<sizeLine/\H'=upd H a (.dK (dX kvs k v)))\/
 ∃kvs k b,H a=some (.dT kvs)/\y=.ref b/\H b=some (.tup (k.map kV))/\kvs.length<sizeLine/\H'=upd H a (.dT (dX kvs k v))
def DGet.k{H:Hp}{a:Addr}{kvs:List (Key×V)}{k:Key}(e:H a=some (.dK kvs)):DGet H a (kV k) (fN kvs k):=.inl ⟨kvs,k,.inl e,rfl,rfl⟩
def DPut.k{H:Hp}{a:Addr}{kvs:List (Key×V)}{k:Key}{v:V}(e:H a=some (.dK kvs))(hl:kvs.length<sizeLine):DPut H a (kV k) v (upd H a (.dK (dX kvs k v))):=.inl ⟨kvs,k,e,rfl,hl,rfl⟩
section
variable{X:Cx}{pins:Nb}{σ:St}{H:Hp}{s:Shared}{a:Addr}{y v:V}{u r:Value}{o:Option V}{A:Around}{E:Nc}
def xQ(hu:A.units+1<cLine)(I:Inv X pins σ H s)(g:DGet H a y (some v))(ry:RelV y u)(h:∀w' s',Inv X pins σ H s'->RelV v w'->Q w' s'):
 wpAny (model X.prog X.w) A (getItem (.ref a) u) Q E s:=by
 rcases g with ⟨kvs,k,e,ey,l⟩ |⟨kvs,k,b,e,ey,eb,l⟩
 .subst ey;obtain⟨z,hd,vs,rel,dd⟩:=wD I.hok e;obtain⟨w',hw,rw'⟩:=RelO.some_of (v:=v) (o:=valueAt vs k) (by rw[l];exact rel.val k);exact wpAny_getItem_of (lp ry) dd.mapOf hw (h w' _ (I.tok _) rw')
 .subst ey;cases (show u=Value.ref b from ry);obtain⟨z,hd,xs,rel,dd⟩:=wA I.hok e;obtain⟨w',hw,rw'⟩:=RelO.some_of (v:=v) (o:=(atKey xs k).map (·.2)) (by rw[l];exact rel.val k);obtain⟨p,hp,hp2⟩:=H_.mp hw;refine wpAny_getItem_heap (tupleKind_room_in1 hu) (tU I.hok eb) dd hp ?_;rw[hp2];exact h w' _ (I.tok _) rw'
def nX(I:Inv X pins σ H s)(mu:Mut (H a))(hs:Heap.SameBut a s.heap h')(he:∃q,h'.get? a=some q)(new:ObjOk X.prog X.w (upd H a ob) h' a ob):
 Inv X pins σ (upd H a ob) { s with heap:=h',toks:=t' }:=
 I.write (x:=a) (e:=a) mu (.inl rfl) (λb q hb z=>(hs.2 b hb).trans z) he new
def yG(z:kvs.length<=sizeLine)(hd:(a==sysModules)=false)(rel:KV kvs vs)(dd:h'.DictOf (bg P w) a vs):
 ObjOk P w H' h' a (.dK kvs):=⟨z,hd,vs,rel,dd⟩
def yB(hu:A.units+1<cLine)(I:Inv X pins σ H s)(g:DPut H a y v H')(ry:RelV y u)(rv:RelV v r)(h:∀s',Inv X pins σ H' s'->Q () s'):
 wpAny (model X.prog X.w) A (setItem (.ref a) u r) Q E s:=by
 rcases g with ⟨kvs,k,e,ey,l,eH⟩ |⟨kvs,k,b,e,ey,eb,l,eH⟩
 .subst ey eH;obtain⟨z,hd,vs,rel,dd⟩:=Cv I.hok e;have hz:vs.length<=sizeLine:=by rw[<- rel.length];exact z
  have hl:(dX kvs k v).length<=sizeLine:=by have:=iY kvs k v;omega
  refine wpAny_setItem_pairs (hsz:=hz) (lp ry) dd λh' dd' hs=>h _ ?_;have he:∃q,h'.get? a=some q:=let ⟨q,_,_,hq,_⟩:=dd';⟨q,hq⟩;exact nX I (by rw[e];exact True.intro) hs he (yG hl hd (rel.put k rv) dd')
 .subst ey eH;cases (show u=Value.ref b from ry);obtain⟨z,hd,xs,rel,dd⟩:=IG I.hok e;have hz:xs.length<=sizeLine:=by rw[<- Paired.length rel];exact z
  have hl:(dX kvs k v).length<=sizeLine:=by have:=iY kvs k v;omega
  refine wpAny_setItem_heap (hsz:=hz) (tupleKind_room_in1 hu) (tU I.hok eb) dd λh' dd' hs=>h _ ?_;obtain⟨q,es,ep,hq,h2,h3,h4,_,h5⟩:=dd';refine nX I (by rw[e];exact True.intro) hs ⟨q,hq⟩ ⟨hl,hd,_,(rel.put k eb rv).keeps λc ys ec=>?_,q,es,ep,hq,h2,h3,h4,h5⟩;rw[aG (JU ec e (λz=>nomatch z))];exact ec
end
def Bi(i:Expr):Prop:=∀ov iv,subscripted i false ov iv=operate [ov,iv] (getItem ov iv)
def DH{prog:Program}{w:World}{A:Around}{E:Nc}{s:Shared}{env:Env}{value slice:Expr}{pos:Pos}{T id:String}{Q:Nc}
 (hl:typeLookup (.type T) "__getitem__"=pure (some (.builtin id))) (hs:Bi slice)
 (h:wpAny (model prog w) A (eval value env) (λo s₁=>wpAny (model prog w) A (eval slice env) (λi s₂=>s₂.TypeIs o T/\wpAny (model prog w) A (getItem o i) Q E s₂) E s₁) E s):
 wpAny (model prog w) A (eval (.Subscript value slice pos) env) Q E s:=by
 refine Subscript_ (KL h (λo s₁ h₁=>KL h₁ (λi s₂ h₂=>?_) λ_ _ x=>x) λ_ _ x=>x);obtain⟨hT,h₂⟩:=h₂;unfold subscriptTail;refine i_ ?_;rw[getitemInPython_of_ne hT.not_modules];refine i_ (wpAny_specialOf hT hl ?_);have d_:wpAny (model prog w) A (subscripted slice false o i) (λr s₃=>wpAny (model prog w) A (letTemporaryGo value o r >>= λ_=>pure r) Q E s₃) E s₂:=by rw[hs o i];exact wpAny_operating (KL h₂ (λr s₃ h₃=>i_ (wpAny_letTemporaryGo (n_ h₃))) λ_ _ x=>x)
 first
  |exact n_ (i_ d_)
  |exact i_ (n_ (i_ d_))
  |exact i_ d_
def uT(I:Inv X pins σ H s)(g:DGet H a y o):s.TypeIs (.ref a) "dict":=by
 rcases g with ⟨kvs,k,e,_,_⟩ |⟨kvs,k,b,e,_,_,_⟩
 .obtain⟨_,_,vs,_,dd⟩:=wD I.hok e;exact dd.typeIs
 .obtain⟨_,_,xs,_,dd⟩:=wA I.hok e;exact dd.typeIs
def I0(td ty:TE):TE:=λσ H Q=>td σ H λx H1=>ty σ H1 λy H2=>∃a v,x=.ref a/\DGet H2 a y (some v)/\Q v H2
section
variable{X:Cx}{o i:Expr}{pos:Pos}{td ty:TE}
def Dr(hu:X.A.units+1<cLine)(ho:PE X o td)(hi:PE X i ty)(hs:Bi i):PE X (.Subscript o i pos) (I0 td ty):=by intro pins s σ H Q I h;refine DH PySem.F.slot_dict_getitem.lookup hs (thn (ho pins s σ H _ I h) λu s1 zz=>exA zz λx H1 I1 rx q1=>thn (hi pins s1 σ H1 _ I1 q1) λiv s2 ⟨y,H2,I2,ry,a,v,ex,g,q2⟩=>?_);subst ex;obtain rfl:u=Value.ref a:=rx;exact⟨uT I2 g,xQ hu I2 g ry λw' s3 I3 rw'=>⟨v,H2,I3,rw',q2⟩⟩
end
def m8:List (TE×TE)->St->Hp->(List (V×V)->Hp->Prop)->Prop
 | [],_,H,Q=>Q [] H
 |(tk,tv)::r,σ,H,Q=>tk σ H λx H1=>tv σ H1 λy H2=>m8 r σ H2 λps H3=>Q ((x,y)::ps) H3
abbrev VV:List (V×V)->List (Value×Value)->Prop:=Paired λp q=>RelV p.1 q.1/\RelV p.2 q.2
def PPs(X:Cx)(pos:Pos)(keys:List (Option Expr))(values:List Expr)(trs:List (TE×TE)):Prop:=
 ∀
  (pins:Nb) (s:Shared) (σ:St) (H:Hp) (Q:List (V×V)->Hp->Prop),Inv X pins σ H s->m8 trs σ H Q->
  wpAny (model X.prog X.w) X.A (evalPairs (pairTrees keys values X.env pos)) (λvs s'=>∃ps H',Inv X pins σ H' s'/\VV ps vs/\Q ps H') X.xe s
def Ei:PPs X pos [] [] []:=λpins s σ H Q I h=>pairTrees_nil_walk ⟨[],H,I,.nil,h⟩
def Bo(hk:PE X k tk)(hv:PE X v tv)(hr:PPs X pos ks vs trs):
 PPs X pos (some k::ks) (v::vs) ((tk,tv)::trs):=λpins s σ H Q I h=>
 pairTrees_cons_walk (thn (hk pins s σ H _ I h) λu s1 zz=>exA zz λx H1 I1 rx q1=>thn (hv pins s1 σ H1 _ I1 q1) λw2 s2 zz=>exA zz λy H2 I2 ry q2=>
  thn (hr pins s2 σ H2 _ I2 q2) λws s3 zz=>exA zz λps H3 I3 rel q3=>⟨(x,y)::ps,H3,I3,.cons ⟨rx,ry⟩ rel,q3⟩)
noncomputable def hJ (kvs more:List (Key×V)):List (Key×V):=more.foldl (λacc kv=>dX acc kv.1 kv.2) kvs
def KV.merge:∀{more:List (Key×V)}{rs:List (Key×Value)}{kvs:List (Key×V)}{vs:List (Key×Value)},KV more rs->KV kvs vs->KV (hJ kvs more) (merged vs rs):=by
 intro more rs kvs vs r;unfold KV at r;induction r generalizing kvs vs with
 |nil=>intro q;exact q
 |
  @cons p q ps qs h t ih=>
  intro r0;have e:KV (dX kvs p.1 p.2) (stored vs q.1 q.2):=by
   have:=r0.put p.1 h.2
   rw[<- h.1];exact this
  exact ih e
theorem j5:∀(more kvs:List (Key×V)),(hJ kvs more).length<=kvs.length+more.length
 | [],kvs=>by show kvs.length<=kvs.length+0;omega
 |
  p::r,kvs=>by
  have h1:=j5 r (dX kvs p.1 p.2);have h2:=iY kvs p.1 p.2;show (hJ (dX kvs p.1 p.2) r).length<=_;rw[o_];omega
theorem mV:∀{kvs:List (Key×V)}{ws:List (Value×Value)},VV (kvs.map λkv=>(kV kv.1,kv.2)) ws->∃rs,Carries (bg P w) ws rs/\KV kvs rs
 | [],_,r=>by rw[KD] at r;cases r;exact⟨[],True.intro,.nil⟩
 |
  p::kvs,_,r=>by
  rw[s_] at r;cases r with
  |@cons a b as bs h t=>obtain⟨rs,c,q⟩:=mV (P:=P) (w:=w) t;obtain⟨b1,b2⟩:=b;exact⟨(p.1,b2)::rs,⟨lp h.1,rfl,c⟩,.cons ⟨rfl,h.2⟩ q⟩
def IM(trs:List (TE×TE)):TE:=λσ H Q=>∀p,H p=none->m8 trs σ (upd H p (.dK [])) λps H2=>H2 p=some (.dK [])/\∃kvs:List (Key×V),ps=kvs.map (λkv=>(kV kv.1,kv.2))/\kvs.length<=15/\Q (.ref p) (upd H2 p (.dK (hJ [] kvs)))
def Ed(h:PPs X pos keys values trs)(hall:keys.all (·.isSome)=true)(hl:keys.length=values.length)(h0:keys≠[])
 (h15:keys.length<=15):PE X (.Dict keys values pos) (IM trs):=by
 intro pins s σ H Q I q;have hn:=I.hok.fresh (m_ s.heap.objs.size);have I1:=I.laid (a:=s.heap.objs.size) (o:=.dK []) (h':=s.heap.push { cls:=.type "dict",data:=.dict #[] }) (t':=s.toks) (λ_ _ q=>q_ _ q) (m_ _) (B1 s.heap I.big);refine wpAny_Dict_walk (knd:=bg X.prog X.w) hall hl h0 h15 (thn (h pins _ σ _ _ I1 (q _ hn)) λws s2 ⟨ps,H2,I2,rel,e,kvs,ep,lk,q2⟩=>?_);subst ep;obtain⟨rs,c,rk⟩:=mV (P:=X.prog) (w:=X.w) rel;obtain⟨z,hd,vs0,r0,dd⟩:=Cv I2.hok e;cases r0;refine⟨rs,c,dd,λh' dd' hs=>⟨.ref s.heap.objs.size,_,?_,rfl,q2⟩⟩;have hz:(hJ [] kvs).length<=sizeLine:=by have h1:=j5 kvs [];rw[KG] at h1;rw[sizeLine_eq];omega
 have he:∃q,h'.get? s.heap.objs.size=some q:=let ⟨q,_,_,hq,_⟩:=dd';⟨q,hq⟩;exact nX I2 (by rw[e];exact True.intro) hs he (yG hz hd (rk.merge .nil) dd')
section
variable[DecidableEq κ]
noncomputable def lkD (kvs:List (κ×α)) (k:κ):Option α:=(kvs.find? λkv=>decide (kv.1=k)).map (·.2)
noncomputable def wq (kvs:List (κ×α)) (k:κ) (v:α):List (κ×α):=if (kvs.any λkv=>decide (kv.1=k))=true then kvs.map λkv=>if kv.1=k then (kv.1,v) else kv else kvs++[(k,v)]
end
section
variable{H:Hp}
def B0[DecidableEq κ]:∀{kvs:List (κ×α)}{ws:List (κ×β)},ws.map (·.1)=kvs.map (·.1)->(ws.any λkv=>decide (kv.1=k))=kvs.any λkv=>decide (kv.1=k):=by
 intro kvs;induction kvs with
 |
  nil=>
  intro ws e;cases ws with
  |nil=>rfl
  |cons _ _=>cases e
 |
  cons p kvs ih=>
  intro ws e;cases ws with
  |nil=>cases e
  |cons w ws=>rw[s_,s_] at e;injection e with e1 e2;rw[K7,K7,ih e2,e1]
def CC:sV:=λo i v H Q=>∃a H4,o=.ref a/\DPut H a i v H4/\Q H4
variable{X:Cx}{a:Expr}
def Bk(hu:X.A.units+1<cLine):BJ X CC:=λpins s σ H o i v ov iv u Q I ro ri rv ⟨a,H4,eo,g,q⟩=>by subst eo;obtain rfl:ov=Value.ref a:=ro;exact yB hu I g ri rv λs4 I4=>⟨H4,I4,q⟩
theorem sQ:∀(more acc:List (Key×V)),((acc++more).map (·.1)).Nodup->hJ acc more=acc++more
 | [],acc,_=>(K2 _).symm
 |
  (k,v)::more,acc,h=>by
  show hJ (dX acc k v) more=_;have hk:fN acc k=none:=by unfold fN;rw[Option.map_eq_none_iff,List.find?_eq_none];intro p hp z;have z:=Le z;rw[La,List.nodup_append] at h;exact h.2.2 p.1 (MK hp) k (l_ ..) z
  rw[Ao v hk,sQ more (acc++[(k,v)]) (by rw[KZ];exact h),KZ];rfl
theorem sL:∀(ks:List Str) (vs:List V),(ks.map V.str).zip vs=((ks.map Sum.inr).zip vs).map λkv:Key×V=>(kV kv.1,kv.2)
 | [],_=>rfl
 |_::_,[]=>rfl
 |
  k::ks,v::vs=>by
  show (V.str k,v)::(ks.map V.str).zip vs=_;rw[sL ks vs];rfl
end
open PySem PySem.Spec PySem.Calls PyProof.Rows
section
variable{X:Cx}{K:W.Frag}{es:List Expr}{pos:Pos}
def gUnp(K:W.Frag)(n:Nat)(t:TGs):TG:=λv σ H Q=>∃a xs,v=.ref a/\(SqT K H a xs\/SqL K H a xs)/\xs.length=n/\t xs σ H Q
def HH{k:Nat}{t:TGs}{n:Nat}(hc:X.calm=true)(h:PGs X es t)
 (hn:(assignEach es X.env).length=n) (hst:(assignEach es X.env).findIdx? (·.1)=none):PG X (.Tuple es k pos) (gUnp X.K n t):=by
 intro pins s σ H v u Q I r hw;obtain⟨a,xs,e1,hq,hl,hw⟩:=hw;rcases hq with hq |hq
 .exact za hc h hn hst pins s σ H v u Q I r ⟨a,xs,e1,hq,hl,hw⟩
 .subst e1;cases r;obtain⟨its,rv,⟨o,m,ho,oc,od,os⟩,hz⟩:=I.list hq;have ht:s.heap.IsList a its.toArray:=⟨o,ho,oc,m,os⟩;rw[assign_Tuple];refine i_ (Ml ?_);unfold unpack;rw[hst,hn,show n=its.toArray.size by simp [<- hl,rv.length]];refine i_ (Lh (W.kun_itemsOf (I.ok.hd hc) ht λh' hx=>?_));have I1:Inv X pins σ H { s with heap:=h' }:=I.kept (t':=s.toks) λb o e=>hx b o (G_ (t_ e)) e;exact h pins _ σ H xs _ Q I1 (by simpa using rv) hw
end
section
variable{X:Cx}{mg:Na}{a:Expr}{pos q2 p1 p2:Pos}
noncomputable def rY (j:Int):List V:=(List.range j.toNat).map λi=>V.int ((i:Nat):Int)
def rLrg:List V->Hp->VK->Prop:=λxs H Q=>∃j:Int,xs=[.int j]/\-(2^62)<=j/\j<=16777216/\∀l,H l=none->Q (.ref l) (upd H l (.lst (rY j)))
theorem vH:∀(n:Nat) (f:Nat->Int) (is:List Nat) (ys:List Value),CarriedAll ys (is.map λi=>PyData.int (f i))->Vals (is.map λi=>V.int (f i)) ys
 |n,f,[],ys,h=>by cases h;exact .nil
 |
  n,f,i::is,ys,h=>by
  cases h with
  |cons c r=>cases c;exact .cons ⟨_,rfl⟩ (vH n f is _ r)
def G4(hc:X.calm=true)(hl:Gl X "list")(hml:X.mg "list"=none)(hg:Gl X "range")(hm:X.mg "range"=none)(ha:PA X [a] ta)(hs:starEach [a] X.env=[(false,eval a X.env)])
 (hs1:starEach [.Call (.Name "range" p2) [a] [] q2] X.env=[(false,eval (.Call (.Name "range" p2) [a] [] q2) X.env)]):
 PE X (.Call (.Name "list" p1) [.Call (.Name "range" p2) [a] [] q2] [] pos) (tCB rLrg ta):=by
 intro pins s σ H Q I h;refine LL (fC I hl hml (show bootBuiltins "list"=some (.type "list") from rfl) ?_ (by decide) (by decide));refine KR ?_ hs1 rfl;rw[hs1];show wpAny _ _ (spliced ((false,eval (.Call (.Name "range" p2) [a] [] q2) X.env)::[])) _ _ s;refine Calls.spliced_cons ?_;refine LL (fC I hg hm (show bootBuiltins "range"=some (.type "range") from rfl) ?_ (by decide) (by decide));refine KR (thn (ha q2 pins s σ H _ I h) λus s1 zz=>exA zz λvs H1 I1 r1 q1=>?_) hs rfl;obtain⟨j,e,h1,h2,q⟩:=q1;subst e;cases r1 with
 |
  cons r rr=>
  cases rr;obtain⟨t,rfl⟩:=r;refine call_range_1 (Calls.spliced_nil ?_);have I2:Inv X pins σ H1 { s1 with heap:=s1.heap.push { cls:=.type "range",data:=.fields #[.int 0 s1.toks,.int j t,.int 1 (s1.toks+1)] },toks:=s1.toks+1+1 }:=I1.kept λb o e=>q_ _ e;obtain⟨m,hns,_⟩:=I2.loc;refine list_rangeD (I.ok.hd hc) (Att.fr_all hns) (news:=[]) (λp hp=>nomatch hp) (IsRange.new ..) (small_one (by omega) (by omega) (by omega) (by omega)) (n:=j.toNat) (by rw[rangeSize_one];split <;> omega) (by omega) ?_;intro h' tk ys hf hn hk _ _ ⟨⟨c,hpl⟩,_⟩ hcar;have rv:Vals (rY j) ys:=vH 0 (λi=>((i:Nat):Int)) (List.range j.toNat) ys (by
   unfold rangeInts at hcar;rw[LC] at hcar;have e:((λi=>PyData.int i) ∘ λ(i:Nat)=>(0:Int)+(i:Int)*1)=λi:Nat=>PyData.int (i:Int):=by funext i;simp
   rw[show (PyData.int ∘ λ(i:Nat)=>(0:Int)+(i:Int)*1)=λi:Nat=>PyData.int (i:Int) from e] at hcar;exact hcar)
  have hz:(rY j).length<=sizeLine:=by unfold rY;rw[j_,K0];have:sizeLine=16777216:=rfl;omega
  exact⟨.ref _,_,I2.laid (t':=tk) hk (m_ _) (show ObjOk X.prog X.w _ h' _ (.lst (rY j)) from ⟨hz,ys,c,rv,hpl⟩),rfl,q _ (I2.hok.fresh (m_ _))⟩
end
inductive EntOk(w:World):List DictEntry->List (Str×Int)->Prop
 |nil:EntOk w [] []
 |cons {e:DictEntry}{es:List DictEntry}{k:Str}{i:Int}{t t':Tok}{kvs:List (Str×Int)} (h:e.hash=hashStr w k) (hk:e.key=.str k t) (hv:e.val=.int i t') (r:EntOk w es kvs):EntOk w (e::es) ((k,i)::kvs)
noncomputable def lkS (kvs:List (Str×Int)) (k:Str):Option Int:=(kvs.find? λp=>decide (p.1=k)).map (·.2)
def KDict(w:World)(K:W.Frag)(mg:Na)(n:Str)(kvs:List (Str×Int)):Prop:=
 ∃a o es ep,mg n=some (.ref a)/\(a==sysModules)=false/\List.lookup a K=some o/\o.ExactDict/\o.data=.dict es ep/\EntOk w es.toList kvs/\(kvs.map (·.1)).Nodup
theorem pL:∀{es:List DictEntry}{kvs:List (Str×Int)},EntOk w es kvs->(∀e∈es,∃k,(bg P w).is k e.key=true/\e.hash=(bg P w).hash k)/\∃vs:List (Key×Value),Pairs (bg P w) es vs/\vs.map (·.1)=kvs.map (λp=>.inr p.1)/\∀k:Str,(lkS kvs k=none/\valueAt vs (.inr k)=none)\/∃i t,lkS kvs k=some i/\valueAt vs (.inr k)=some (.int i t)
 |_,_,.nil=>⟨(λe h=>nomatch h),[],.nil,rfl,λk=>.inl ⟨rfl,rfl⟩⟩
 |
  _,_,.cons (e:=e) (es:=es) (k:=k) (i:=i) (t:=t) (t':=t') (kvs:=kvs) h hk hv r=>by
  obtain⟨h1,vs,h2,h3,h4⟩:=pL (P:=P) r;have is:(bg P w).is (.inr k) e.key=true:=by rw[hk];exact lK P w k t
  refine⟨λe' he=>?_,(.inr k,.int i t')::vs,.cons is hv h2,by simp [h3],λk'=>?_⟩
  .rcases C_.mp he with rfl |he
   .exact⟨.inr k,is,h⟩
   .exact h1 e' he
  .by_cases e:k=k'
   .subst e;exact .inr ⟨i,t',by simp [lkS],by simp [valueAt]⟩
   .have n1:¬ (Sum.inr k:Key)=.inr k':=λz=>e (Sum.inr.inj z);have a1:lkS ((k,i)::kvs) k'=lkS kvs k':=by simp [lkS,e]
    have a2:valueAt ((Sum.inr k,Value.int i t')::vs) (.inr k':Key)=valueAt vs (.inr k'):=by simp [valueAt,n1]
    rw[a1,a2];exact h4 k'
theorem pO:∀{l:List (Str×Int)},(l.map (·.1)).Nodup->(l.map (λp=>(Sum.inr p.1:Key))).Nodup
 | [],_=>.nil
 |
  p::l,h=>by
  rw[s_,Lb] at h;rw[s_,Lb];refine⟨λz=>h.1 ?_,pO h.2⟩;obtain⟨q,hq,e⟩:=KP.mp z;exact KP.mpr ⟨q,hq,Sum.inr.inj e⟩
section
variable{X:Cx}{K:W.Frag}{mg:Na}{w:World}{n:Str}{kvs:List (Str×Int)}
def Cy(I:Inv X pins σ H s)(g:KDict X.w X.K X.mg n kvs):∃a vs,X.mg n=some (.ref a)/\(a==sysModules)=false/\s.heap.DictOf (bg X.prog X.w) a vs/\∀k:Str,(lkS kvs k=none/\valueAt vs (.inr k)=none)\/∃i t,lkS kvs k=some i/\valueAt vs (.inr k)=some (.int i t):=by obtain⟨a,o,es,ep,h1,h2,h3,h4,h5,h6,h7⟩:=g;obtain⟨q1,vs,q2,q3,q4⟩:=pL (P:=X.prog) h6;refine⟨a,vs,h1,h2,⟨o,es,ep,I.kIn a o h3,h4,h5,λe he=>q1 e (by simpa using he),q2,?_⟩,q4⟩;rw[q3];exact pO h7
def B4(neg:Bool)(mg:Na)(n:Str)(kvs:List (Str×Int)):R2:=λx y H Q=>∃k a,x=.str k/\y=.ref a/\mg n=some (.ref a)/\Q (.bl (neg ^^ (lkS kvs k).isSome)) H
def Cr(mg:Na)(n:Str)(kvs:List (Str×Int)):R2:=λx y H Q=>∃k a i,y=.str k/\x=.ref a/\mg n=some (.ref a)/\lkS kvs k=some i/\Q (.int i) H
def DR(hw:X.w=w)(hK:X.K=K)(hm:X.mg=mg)(g:KDict w K mg n kvs):OpR X (compareOp .NotIn) (B4 true mg n kvs):=by
 subst hw hK hm;intro pins s σ H x y v u Q I rx ry ⟨k,a,ex,ey,e1,q⟩;subst ex ey;cases ry;obtain⟨a',vs,h1,h2,dd,h4⟩:=Cy I g;have:a'=a:=by rw[h1] at e1;cases e1;rfl
 subst this;refine wpAny_notIn_of (lp (k:=.inr k) rx) h2 dd.mapOf ⟨.bl (!(valueAt vs (.inr k)).isSome),H,I.tok _,rfl,?_⟩;rcases h4 k with ⟨z1,z2⟩ |⟨i,t,z1,z2⟩
 .rw[z2];rw[z1] at q;exact q
 .rw[z2];rw[z1] at q;exact q
def ED(hw:X.w=w)(hK:X.K=K)(hm:X.mg=mg)(g:KDict w K mg n kvs):IxR X (Cr mg n kvs):=by
 subst hw hK hm;intro value slice pins s σ H x y v u Q I rx ry ⟨k,a,i,ey,ex,e1,e2,q⟩ hs;subst ex ey;cases rx;obtain⟨a',vs,h1,h2,dd,h4⟩:=Cy I g;have:a'=a:=by rw[h1] at e1;cases e1;rfl
 subst this;rcases h4 k with ⟨z1,z2⟩ |⟨i',t,z1,z2⟩
 .rw[e2] at z1;cases z1
 .rw[e2] at z1;cases z1;exact Mj (x:=.int i t) dd.typeIs PySem.F.slot_dict_getitem.lookup (wpAny_getItem_of (lp (k:=.inr k) ry) dd.mapOf z2 ⟨rfl,.int i,H,I.tok _,⟨t,rfl⟩,q⟩) hs
end
def AF{K:W.Frag}{h:Heap}{mg:Na}{w:World}{n:Str}{kvs:List (Str×Int)}{a:Addr}{es:Array DictEntry}{ep:Nat}(X:K.In h)(G:h.Ns mainGlobals mg)(e1:W.nsIn K mainGlobals n=some (some (.ref a)))(e2:List.lookup a K=some { cls:=.type "dict",data:=.dict es ep })(hs:(a==sysModules)=false)(he:EntOk w es.toList kvs)(hn:(kvs.map (·.1)).Nodup):KDict w K mg n kvs:=
 ⟨a,_,es,ep,W.mg_of X G e1,hs,e2,⟨rfl,rfl,rfl⟩,rfl,he,hn⟩
def KDict.ex(g:KDict w K mg n kvs):∃a,mg n=some (.ref a):=let ⟨a,_,_,_,e,_⟩:=g;⟨a,e⟩
section
variable{X:Cx}{K:W.Frag}
def rInD(neg:Bool)(K:W.Frag):R2:=λx y H Q=>∃d ds,Rep K H x d/\Rep K H y (.list ds)/\SeqAt.shaped d=true/\SeqAt.shaped (.list ds)=true/\(ds.all λe=>SeqAt.noMix e d)=true/\Q (.bl (neg ^^ decide (Spec.countIn d ds≠0))) H
def JH(h:X.K=K)(hu:X.A.units+190<cLine):OpR X (compareOp .NotIn) (rInD true K):=by subst h;intro pins s σ H x y v u Q I rx ry h;obtain⟨d,ds,r1,r2,h1,h2,h3,q⟩:=h;obtain⟨as,q1⟩:=r1.reads I rx;obtain⟨bs,q2⟩:=r2.reads I ry;rw[D_] at h3;rw[Bool.true_xor] at q;exact notIn_list_dataH q2 q1 h2 h1 (by omega) h3 (kP I q rfl)
end
open PySem PySem.W PyProof.Rows
abbrev Ask:=Nat->Nat->(Bool->Shared->Prop)->Shared->Prop
variable{lt:Nat->Nat->Bool}{N:Nat}{cmp:Ask}{s:Shared}
noncomputable def lexP (x y:Int×Int):Bool:=decide (x.1<y.1\/(x.1=y.1/\x.2<y.2))
noncomputable def ltP (ks:List (Int×Int)) (i j:Nat):Bool:=lexP (ks.getD i (0,0)) (ks.getD j (0,0))
set_option maxHeartbeats 4000000
noncomputable def ltS (x y:Str):Bool:=decide (x.cps.toList<y.cps.toList)
end L2
namespace HT
open PySem PySem.Spec PyProof.Rows
section
variable{prog:Program}{w:World}{A:Around}{E:Nc}{s:Shared}
def getItem_tuple_whole{t sl:Addr}{items:Array Value}{vl vu:Value}{lo hi:Option Int}{Q:Nc}(ht:IsTup s.heap t items)(hs:s.heap.IsSliceOf sl vl vu .none)(pl:IsPart vl lo)(pu:IsPart vu hi)
 (hw:sIx items.size 0 lo=0/\sIx items.size items.size hi=items.size) (h:Q (.ref t) s):wpAny (model prog w) A (getItem (.ref t) (.ref sl)) Q E s:=by
 obtain⟨os,hos,hcs,hds⟩:=id hs;have hTs:s.TypeIs (.ref sl) "slice":=⟨os,hos,hcs⟩;unfold getItem;try with_reducible refine Lh ?_
 first |refine i_ (n_ ?_) |skip
 refine i_ (wpAny_sequenceKey ht.typeIs (by decide) ?_);refine i_ (KW (name:=Str.ofString "__getitem__") ht.typeIs KS
  (Ll KS ht.typeIs ML ?_ (args_tuple_getitem _ _)))
 show wpAny _ _ (Builtin.Tuple.tupleItemsOf (.ref t) >>= _) _ _ s;refine i_ (tupleItemsOf_ ht ?_);refine i_ (wpAny_typeOf hTs ?_);rw[if_pos (by decide)];refine i_ (ik hs pl pu ?_);have hyes:(((sIx items.size 0 lo:Nat):Int)==0&&(1:Int)==1&&(sIx items.size items.size hi-sIx items.size 0 lo)==items.size)=true:=by rw[hw.1,hw.2];simp
 show wpAny _ _ (if (((sIx items.size 0 lo:Nat):Int)==0&&(1:Int)==1&&(sIx items.size items.size hi-sIx items.size 0 lo)==items.size)=true then _ else _) _ _ s;rw[if_pos hyes];refine i_ (m:=Builtin.Tuple.tupleIsExact _) (i_ (wpAny_typeOf ht.typeIs (n_ ?_)));rw[if_pos (by decide)];first
  |exact Me (n_ ⟨_,rfl,n_ h⟩)
  |exact i_ (Me (n_ ⟨_,rfl,n_ h⟩))
  |exact i_ (Me (n_ (n_ ⟨_,rfl,n_ h⟩)))
def l8{sl:Addr}{t:Tok}{n:Nat}{Q:Int×Int×Nat->Shared->Prop}(hs:s.heap.IsSliceOf sl .none .none (.int (-1) t))(h:Q ((n:Int)-1,-1,n) s):wpAny (model prog w) A (Builtin.Slice.sliceApplied (.ref sl) (pure (n:Int))) Q E s:=by
 obtain⟨os,hos,hcs,hds⟩:=id hs;unfold Builtin.Slice.sliceApplied Builtin.Slice.sliceFields;refine i_ (i_ (KN hos hds (x:=.none) rfl (i_ (KN hos hds (x:=.none) rfl (i_ (KN hos hds (x:=.int (-1) t) rfl (n_ ?_)))))));refine i_ (slicePart_int ?_);show wpAny _ _ (if ((-1:Int)==0)=true then _ else _) _ _ s;rw[if_neg (by decide)];refine i_ (MN (i_ (MN (i_ (n_ ?_)))));show wpAny _ _ (pure ((n:Int)-1,(-1:Int),Builtin.Slice.slicePlaces ((n:Int)-1) (-1) (-1))) _ _ s;have e:Builtin.Slice.slicePlaces ((n:Int)-1) (-1) (-1)=n:=by
  unfold Builtin.Slice.slicePlaces;rw[if_neg (by decide)];by_cases hn:(n:Int)-1 > -1
  .rw[if_pos hn,show (-(-1:Int))=1 by decide,Int.ediv_one];omega
  .rw[if_neg hn];omega
 rw[e];exact n_ h
theorem sI{α β:Type}{f g:α->Option β}:∀{l:List α},(∀a∈l,f a=g a)->l.filterMap f=l.filterMap g
 | [],_=>rfl
 |a::l,h=>by rw[K1,K1,h a (l_ ..),sI λb hb=>h b (k_ _ hb)]
def B5(xs:Array Value):((List.range xs.size).filterMap λ(m:Nat)=>xs[(((xs.size:Int)-1)+(m:Int)*(-1)).toNat]?).toArray=xs.toList.reverse.toArray:=by
 congr 1;rw[<- W.krv_all,<- List.filterMap_reverse,<- W.krv_range,List.filterMap_map];refine sI λm hm=>?_
 have:=LR.mp hm
 show xs[_]?=xs[xs.size-1-m]?;congr 1;omega
def getItem_tuple_rev{t sl:Addr}{u:Tok}{items:Array Value}{Q:Nc}(ht:IsTup s.heap t items)(hs:s.heap.IsSliceOf sl .none .none (.int (-1) u))
 (h:Q (.ref s.heap.objs.size) { s with heap:=s.heap.push { cls:=.type "tuple",data:=.seq items.toList.reverse.toArray } }) (hsz:items.size<=sizeLine):wpAny (model prog w) A (getItem (.ref t) (.ref sl)) Q E s:=by
 have htake:sizeOk (.seq items.toList.reverse.toArray):=by show items.toList.reverse.toArray.size<=sizeLine;rw[y_,MJ,LZ];omega
 obtain⟨os,hos,hcs,hds⟩:=id hs;have hTs:s.TypeIs (.ref sl) "slice":=⟨os,hos,hcs⟩;unfold getItem;try with_reducible refine Lh ?_
 first |refine i_ (n_ ?_) |skip
 refine i_ (wpAny_sequenceKey ht.typeIs (by decide) ?_);refine i_ (KW (name:=Str.ofString "__getitem__") ht.typeIs KS
  (Ll KS ht.typeIs ML ?_ (args_tuple_getitem _ _)))
 show wpAny _ _ (Builtin.Tuple.tupleItemsOf (.ref t) >>= _) _ _ s;refine i_ (tupleItemsOf_ ht ?_);refine i_ (wpAny_typeOf hTs ?_);rw[if_pos (by decide)];refine i_ (l8 hs ?_);show wpAny _ _ (if ((((items.size:Nat):Int)-1)==0&&(-1:Int)==1&&items.size==items.size)=true then _ else _) _ _ s;rw[if_neg (by rw[show ((-1:Int)==1)=false from rfl,Bool.and_false,LQ];exact h_),B5];first
  |exact i_ (m:=Builtin.Tuple.tupleExact _) (KI (n_ ⟨_,rfl,n_ h⟩) htake)
  |exact i_ (m:=Builtin.Tuple.tupleExact _) (KI (i_ (n_ (n_ ⟨_,rfl,n_ h⟩))) htake)
  |exact i_ (i_ (m:=Builtin.Tuple.tupleExact _) (KI (n_ (n_ ⟨_,rfl,n_ h⟩)) htake))
  |exact i_ (i_ (m:=Builtin.Tuple.tupleExact _) (KI (n_ ⟨_,rfl,n_ h⟩) htake))
end
end HT
namespace L2
open PySem PySem.Spec PyProof.Rows
section
variable{X:Cx}{K:W.Frag}{e st:Expr}{te tst:TE}{pos p2:Pos}
def Bc(K:W.Frag):V->Option Int->Option Int->Hp->VK->Prop:=λx lo hi H Q=>∃a xs,x=.ref a/\SqT K H a xs/\(HT.sIx xs.length 0 lo=0/\HT.sIx xs.length xs.length hi=xs.length)/\Q (.ref a) H
def BE:SlR X (Bc X.K):=by
 intro pins s σ H x v vl vu lo hi sl Q I rx hs pl pu h;obtain⟨a,xs,rfl,hx,hw,q⟩:=h;cases rx;obtain⟨its,r,ht,hz⟩:=I.tuple hx;have b_:its.toArray.size=xs.length:=by rw[y_];exact r.length.symm
 refine⟨"tuple",_,PyProof.Rows.slot_tuple_getitem.lookup,ht.typeIs,?_⟩;exact HT.getItem_tuple_whole ht hs pl pu (by rw[b_];exact hw) ⟨.ref a,H,I,rfl,q⟩
def slKW(h:X.K=K):SlR X (λx lo hi H Q=>((xq K x lo hi H Q\/w9 K x lo hi H Q)\/wm x lo hi H Q)\/Bc K x lo hi H Q):=by subst h;exact (slK rfl).or BE
def Cq(K:W.Frag):R2:=λx y H Q=>y=.int (-1)/\∃a xs,x=.ref a/\((SqL K H a xs/\∀p,H p=none->Q (.ref p) (upd H p (.lst xs.reverse)))\/(SqT K H a xs/\∀p,H p=none->Q (.ref p) (upd H p (.tup xs.reverse))))
def CY(he:PE X e te)(hst:PE X st tst):PE X (.Subscript e (.Slice none none (some st) p2) pos) (tOp (Cq X.K) te tst):=by
 intro pins s σ H Q I h;refine Subscript_ (thn (he pins s σ H _ I h) λv s1 zz=>exA zz λx H1 I1 r1 q1=>?_);refine wpAny_Slice ?_;rw[evalPart_none];refine n_ ?_;refine n_ ?_;rw[evalPart_some];refine thn (hst pins s1 σ H1 _ I1 q1) λu s2 zz=>exA zz λy H2 I2 r2 q2=>?_;obtain⟨rfl,a,xs,rfl,hq⟩:=q2;obtain⟨t,rfl⟩:=r2;cases r1;have I3:Inv X pins σ H2 { s2 with heap:=s2.heap.push { cls:=.type "slice",data:=.fields #[.none,.none,.int (-1) t] } }:=I2.kept (t':=s2.toks) λb ob q=>q_ _ q;have hs:(s2.heap.push { cls:=.type "slice",data:=.fields #[.none,.none,.int (-1) t] }).IsSliceOf s2.heap.objs.size .none .none (.int (-1) t):=Heap.IsSliceOf.new ..;show wpAny (model X.prog X.w) X.A (subscriptTail e (.Slice none none (some st) p2) (.ref a) (.ref s2.heap.objs.size)) (EP X pins σ Q) X.xe { s2 with heap:=s2.heap.push { cls:=.type "slice",data:=.fields #[.none,.none,.int (-1) t] } };rcases hq with ⟨hq,q⟩ |⟨hq,q⟩
 .obtain⟨its,rv,pl,hz⟩:=I3.list hq;have hl:=rv.length;refine tail_any (ops:=[.ref a,.ref s2.heap.objs.size]) pl.isList.typeIs slot_list_getitem.lookup ?_ (by with_unfolding_all rfl);refine wpAny_getItem_list_slice pl.isList hs .none .none (.int (-1) t) (by decide) ?_ (by rw[y_];omega);rw[W.krv_pick];exact⟨.ref _,_,I3.lnew (t':=s2.toks) (ys:=xs.reverse) rv.reverse (by rw[MJ];exact hz),rfl,q _ I3.fresh⟩
 .obtain⟨its,rv,ht,hz⟩:=I3.tuple hq;have b_:its.toArray.size=xs.length:=by rw[y_];exact rv.length.symm
  refine tail_any (ops:=[.ref a,.ref s2.heap.objs.size]) ht.typeIs PyProof.Rows.slot_tuple_getitem.lookup ?_ (by with_unfolding_all rfl);refine HT.getItem_tuple_rev ht hs ?_ (by rw[b_];exact hz);refine⟨.ref _,_,I3.laid (t':=s2.toks) (o:=.tup xs.reverse) (λb ob q=>q_ _ q) (m_ _) ?_,rfl,q _ (I3.hok.fresh (m_ _))⟩;exact⟨by rw[MJ];exact hz,_,rv.reverse,IsTup.new _ _⟩
noncomputable def wB:PyData->Str
 |.str x=>x
 |d=>d.shown
def Ci(K:W.Frag):List V->Hp->VK->Prop:=λxs H Q=>∃x d,xs=[x]/\Rep K H x d/\d.showable=true/\d.hasDict=false/\d.depth<=100/\d.shown.length<=16777216/\Q (.str (wB d)) H
def zg{k:Nat}(hr:Room k X.A):CallR X (.type "str") (Ci X.K):=by
 intro pins s σ H xs us Q I r h;obtain⟨x,d,rfl,rd,hs,hd,hk,hz,q⟩:=h;obtain⟨u,rfl,ru⟩:=iK r;obtain⟨as,rr⟩:=Rep.reads I rd ru;have hu:=hr.un;cases rd with
 |non=>cases ru;exact PySem.P.str_of_none ⟨.str _,H,I.tok _,⟨_,rfl⟩,q⟩
 |bl b=>cases ru;exact PySem.P.str_of_bool ⟨.str _,H,I.tok _,⟨_,rfl⟩,q⟩
 |int i=>obtain⟨t,rfl⟩:=ru;exact PySem.P.str_of_int (Le hs) ⟨.str _,H,I.tok _,⟨_,rfl⟩,q⟩
 |str x=>obtain⟨t,rfl⟩:=ru;exact PySem.P.str_of_str ⟨.str _,H,I,⟨_,rfl⟩,q⟩
 |tup h1 h2=>cases ru;exact str_of_reads rr hs (λz=>by rw[hd] at z;cases z) hr.gd (by omega) (λ_ _ e=>e) (λh' u tk hk=>⟨.str _,H,I.kept hk,⟨_,rfl⟩,q⟩) hz
 |lst h1 h2=>cases ru;exact str_of_reads rr hs (λz=>by rw[hd] at z;cases z) hr.gd (by omega) (λ_ _ e=>e) (λh' u tk hk=>⟨.str _,H,I.kept hk,⟨_,rfl⟩,q⟩) hz
def wQ:R2:=λx y H Q=>∃(b:Bool) (i:Int),x=.bl b/\y=.int i/\Q (.int ((if b=true then (1:Int) else 0)+i)) H
def Ee:OpR X (binaryOp .Add) wQ:=by intro pins s σ H x y v u Q I rx ry h;obtain⟨b,i,rfl,rfl,q⟩:=h;cases rx;obtain⟨t,rfl⟩:=ry;exact PySem.IntBool.add_bool_int ⟨.int _,H,I.tok _,⟨_,rfl⟩,q⟩
def ou(h:X.K=K):OpR X (binaryOp .Add) (λx y H Q=>(rI0 (λi j=>.int (i+j)) x y H Q\/(sf x y H Q\/(nR K x y H Q\/nT K x y H Q)))\/wQ x y H Q):=(Hz h).or Ee
end
end L2
namespace L3
open PySem PySem.Spec PyProof.Rows L2
set_option genInjectivity true in
inductive Val where
 |non |bl (b:Bool) |int (i:Int) |str (x:Str) |ty (n:String) |glb (x:Str) |exc (x:Str)
 |tup (xs:List Val) |lst (xs:List Val) |kl (xs:List Val) |dct (kvs:List (Key×Val)) |set (xs:List Int)
 deriving Inhabited
abbrev St:=L2.St
structure LeH(H H':Hp):Prop where
 tup:∀b xs,H b=some (.tup xs)->H' b=some (.tup xs)
 frz:∀b o u,H b=some (.frz o u)->H' b=some (.frz o u)
 ext:∀b φ,H b=some (.ext φ)->H' b=some (.ext φ)
def LeH.refl:LeH H H:=⟨λ_ _ e=>e,λ_ _ _ e=>e,λ_ _ e=>e⟩
def LeH.trans(a:LeH H H1)(b:LeH H1 H2):LeH H H2:=⟨λx y e=>b.tup x y (a.tup x y e),λx y z e=>b.frz x y z (a.frz x y z e),λx y e=>b.ext x y (a.ext x y e)⟩
def Gr(H H':Hp):Prop:=∀a o,H a=some o->H' a=some o
def Gr.le(g:Gr H H'):LeH H H':=⟨λ_ _=>g _ _,λ_ _ _=>g _ _,λ_ _=>g _ _⟩
def Gr.refl:Gr H H:=λ_ _ e=>e
def Gr.upd(h:H p=none):Gr H (upd H p u):=λa o e=>by rw[aG (eE e h)];exact e
def Gr.none(g:Gr H H')(h:H' a=none):H a=none:=by
 cases q:H a with
 |none=>rfl
 |some o=>rw[g a o q] at h;cases h
def LeH.sqT{K:W.Frag}(l:LeH H H')(q:SqT K H a xs):SqT K H' a xs:=by
 rcases q with (q |⟨o,q⟩) |q
 .exact .inl (.inl (l.tup _ _ q))
 .exact .inl (.inr ⟨o,l.frz _ _ _ q⟩)
 .exact .inr q
section
variable(K:W.Frag)(mg:Na)
def KlR(a:Addr)(vs:List V):Prop:=∃(o:Obj) (its:Array Value) (n:Nat),K.lookup a=some o/\o.cls=.type "list" /\ o.dict=none/\o.data=.seq its n/\its.size<=sizeLine/\Vals vs its.toList
mutual
inductive Rd(P:Addr->Prop)(H:Hp):V->Val->Prop where
 |non:Rd P H .non .non
 |bl (b:Bool):Rd P H (.bl b) (.bl b)
 |int (i:Int):Rd P H (.int i) (.int i)
 |str (x:Str):Rd P H (.str x) (.str x)
 |ty (n:String):Rd P H (.ty n) (.ty n)
 |glb {x:Str}{a:Addr} (m:mg x=some (.ref a)):Rd P H (.ref a) (.glb x)
 |exc {x:Str}{a C:Addr} (m:mg x=some (.ref C)) (e:H a=some (.ext (xI a C))):Rd P H (.ref a) (.exc x)
 |tup {p:Addr}{vs:List V}{us:List Val} (h:SqT K H p vs) (r:Rds P H vs us):Rd P H (.ref p) (.tup us)
 |kl {a:Addr}{vs:List V}{us:List Val} (h:KlR K a vs) (r:Rds P H vs us):Rd P H (.ref a) (.kl us)
 |cell {a:Addr}{o:HO}{v:Val} (p:P a) (e:H a=some o) (r:Rc P H o v):Rd P H (.ref a) v
inductive Rc(P:Addr->Prop)(H:Hp):HO->Val->Prop where
 |lst {vs:List V}{us:List Val} (r:Rds P H vs us):Rc P H (.lst vs) (.lst us)
 |fz {o:Obj}{vs:List V}{us:List Val} (r:Rds P H vs us):Rc P H (.frz o (.lst vs)) (.kl us)
 |dct {ws:List (Key×V)}{us:List (Key×Val)} (r:Rk P H ws us):Rc P H (.dK ws) (.dct us)
 |set (xs:List Int) (nd:xs.Nodup):Rc P H (.set (λi=>decide (i∈xs)) xs.length) (.set xs)
inductive Rds(P:Addr->Prop)(H:Hp):List V->List Val->Prop where
 |nil:Rds P H [] []
 |cons {d:V}{v:Val}{ds:List V}{vs:List Val} (r:Rd P H d v) (rr:Rds P H ds vs):Rds P H (d::ds) (v::vs)
inductive Rk(P:Addr->Prop)(H:Hp):List (Key×V)->List (Key×Val)->Prop where
 |nil:Rk P H [] []
 |cons {k:Key}{d:V}{v:Val}{ds:List (Key×V)}{vs:List (Key×Val)} (r:Rd P H d v) (rr:Rk P H ds vs):Rk P H ((k,d)::ds) ((k,v)::vs)
end
end
def sF(o:HO):Prop:=∀ps,o ≠ .tbl ps
structure Mov(P P':Addr->Prop)(H H':Hp):Prop where
 le:LeH H H'
 cl:∀a o,P a->H a=some o->sF o->P' a/\H' a=some o
def Gr.mov(g:Gr H H'):Mov P P H H':=⟨g.le,λa o p e _=>⟨p,g a o e⟩⟩
def Mov.of(h:∀a,P a->P' a):Mov P P' H H:=⟨.refl,λa o p e _=>⟨h a p,e⟩⟩
section
variable{K:W.Frag}{mg:Na}{P P':Addr->Prop}{H H':Hp}
def Rc.nt(r:Rc K mg P H o v):sF o:=by cases r <;> exact λ_ z=>nomatch z
def Rd.mono(m:Mov P P' H H')(r:Rd K mg P H d v):Rd K mg P' H' d v:=@Rd.rec K mg P H (λd v _=>Rd K mg P' H' d v) (λo v _=>Rc K mg P' H' o v) (λds vs _=>Rds K mg P' H' ds vs) (λws us _=>Rk K mg P' H' ws us) .non (λb=>.bl b) (λi=>.int i) (λx=>.str x) (λn=>.ty n) (λe=>.glb e) (λq e=>.exc q (m.le.ext _ _ e)) (λh _ ih=>.tup (m.le.sqT h) ih) (λh _ ih=>.kl h ih) (λp e r ih=>.cell (m.cl _ _ p e r.nt).1 (m.cl _ _ p e r.nt).2 ih) (λ_ ih=>.lst ih) (λ_ ih=>.fz ih) (λ_ ih=>.dct ih) (λxs nd=>.set xs nd) .nil (λ_ _ a b=>.cons a b) .nil (λ_ _ a b=>.cons a b) d v r
def Rds.ind{M:List V->List Val->Prop}(h0:M [] [])(h1:∀{d v ds vs},Rd K mg P H d v->Rds K mg P H ds vs->M ds vs->M (d::ds) (v::vs)){ds:List V}{vs:List Val}(r:Rds K mg P H ds vs):M ds vs:=by
 induction ds generalizing vs with
 |nil=>cases r;exact h0
 |
  cons d ds ih=>
  cases r with
  |cons r rr=>exact h1 r rr (ih rr)
def Rk.ind{M:List (Key×V)->List (Key×Val)->Prop}(h0:M [] [])(h1:∀{k d v ds vs},Rd K mg P H d v->Rk K mg P H ds vs->M ds vs->M ((k,d)::ds) ((k,v)::vs)){ds:List (Key×V)}{vs:List (Key×Val)}(r:Rk K mg P H ds vs):M ds vs:=by
 induction ds generalizing vs with
 |nil=>cases r;exact h0
 |
  cons d ds ih=>
  cases r with
  |cons r rr=>exact h1 r rr (ih rr)
def Rds.mono(m:Mov P P' H H'){d:List V}{v:List Val}(r:Rds K mg P H d v):Rds K mg P' H' d v:=r.ind .nil λr _ ih=>.cons (r.mono m) ih
def Rk.mono(m:Mov P P' H H'){d:List (Key×V)}{v:List (Key×Val)}(r:Rk K mg P H d v):Rk K mg P' H' d v:=r.ind .nil λr _ ih=>.cons (r.mono m) ih
def Rc.mono(m:Mov P P' H H')(r:Rc K mg P H d v):Rc K mg P' H' d v:=by
 cases r with
 |lst r=>exact .lst (r.mono m)
 |fz r=>exact .fz (r.mono m)
 |dct r=>exact .dct (r.mono m)
 |set xs nd=>exact .set xs nd
def Rds.len{ds:List V}{vs:List Val}(r:Rds K mg P H ds vs):ds.length=vs.length:=r.ind (M:=λds vs=>ds.length=vs.length) rfl λ_ _ ih=>K3 (· + 1) ih
def Rds.get{ds:List V}{vs:List Val}{i:Nat}{v:Val}(r:Rds K mg P H ds vs)(e:vs[i]?=some v):∃d,ds[i]?=some d/\Rd K mg P H d v:=
 r.ind (M:=λds vs=>∀i,vs[i]?=some v->∃d,ds[i]?=some d/\Rd K mg P H d v) (λ_ e=>by rw[List.getElem?_nil] at e;cases e) (λr _ ih i e=>match i,e with
  |0,e=>by cases e;exact⟨_,rfl,r⟩
  |i+1,e=>ih i e) i e
def Rds.append{ds es:List V}{vs ws:List Val}(r:Rds K mg P H ds vs)(q:Rds K mg P H es ws):Rds K mg P H (ds++es) (vs++ws):=r.ind (M:=λds vs=>Rds K mg P H (ds++es) (vs++ws)) q λr _ ih=>.cons r ih
def Rds.take{ds:List V}{vs:List Val}(n:Nat)(r:Rds K mg P H ds vs):Rds K mg P H (ds.take n) (vs.take n):=
 r.ind (M:=λds vs=>∀n:Nat,Rds K mg P H (ds.take n) (vs.take n)) (λn=>by rw[Mk,Mk];exact .nil) (λr _ ih n=>by cases n with |zero=>exact .nil |succ n=>exact .cons r (ih n)) n
def Rds.drop{ds:List V}{vs:List Val}(n:Nat)(r:Rds K mg P H ds vs):Rds K mg P H (ds.drop n) (vs.drop n):=
 r.ind (M:=λds vs=>∀n:Nat,Rds K mg P H (ds.drop n) (vs.drop n)) (λn=>by rw[MU,MU];exact .nil) (λr rr ih n=>by cases n with |zero=>exact .cons r rr |succ n=>exact ih n) n
def Rds.erase{ds:List V}{vs:List Val}(i:Nat)(q:Rds K mg P H ds vs):Rds K mg P H (ds.eraseIdx i) (vs.eraseIdx i):=
 q.ind (M:=λds vs=>∀i:Nat,Rds K mg P H (ds.eraseIdx i) (vs.eraseIdx i)) (λ_=>.nil) (λq qq ih i=>by cases i with |zero=>exact qq |succ i=>exact .cons q (ih i)) i
def Rds.reverse(r:Rds K mg P H ds vs):Rds K mg P H ds.reverse vs.reverse:=by
 induction ds generalizing vs with
 |nil=>cases r;exact .nil
 |
  cons d ds ih=>
  cases r with
  |cons q rr=>rw[LP,LP];exact (ih rr).append (.cons q .nil)
def ShR(K:W.Frag)(mg:Na)(P:Addr->Prop)(H:Hp)(d:V)(v:Val):Prop:=Rd K mg P H d v\/∃a o,d=.ref a/\H a=some o/\Rc K mg P H o v
inductive ShRs(K:W.Frag)(mg:Na)(P:Addr->Prop)(H:Hp):List V->List Val->Prop where
 |nil:ShRs K mg P H [] []
 |cons {d:V}{v:Val}{ds:List V}{vs:List Val} (r:ShR K mg P H d v) (rr:ShRs K mg P H ds vs):ShRs K mg P H (d::ds) (v::vs)
def ShR.mono(m:Mov P P' H H')(g:Gr H H')(r:ShR K mg P H d v):ShR K mg P' H' d v:=by
 rcases r with r |⟨a,o,rfl,e,r⟩
 .exact .inl (r.mono m)
 .exact .inr ⟨a,o,rfl,g a o e,r.mono m⟩
def ShR.int(r:ShR K mg P H d (.int i)):d=.int i:=by
 rcases r with r |⟨n,o,rfl,e,r⟩
 .cases r with
  |int=>rfl
  |cell p e r=>cases r
 .cases r
def ShR.str(r:ShR K mg P H d (.str i)):d=.str i:=by
 rcases r with r |⟨n,o,rfl,e,r⟩
 .cases r with
  |str=>rfl
  |cell p e r=>cases r
 .cases r
def ShR.bl(r:ShR K mg P H d (.bl i)):d=.bl i:=by
 rcases r with r |⟨n,o,rfl,e,r⟩
 .cases r with
  |bl=>rfl
  |cell p e r=>cases r
 .cases r
def ShR.non(r:ShR K mg P H d .non):d=.non:=by
 rcases r with r |⟨n,o,rfl,e,r⟩
 .cases r with
  |non=>rfl
  |cell p e r=>cases r
 .cases r
def ShR.exc(r:ShR K mg P H d (.exc x)):∃a C,d=.ref a/\mg x=some (.ref C)/\H a=some (.ext (xI a C)):=by
 rcases r with r |⟨n,o,rfl,e,r⟩
 .cases r with
  |exc m e=>exact⟨_,_,rfl,m,e⟩
  |cell p e r=>cases r
 .cases r
def ShR.ty(r:ShR K mg P H d (.ty x)):d=.ty x:=by
 rcases r with r |⟨n,o,rfl,e,r⟩
 .cases r with
  |ty=>rfl
  |cell p e r=>cases r
 .cases r
def ShR.glb(r:ShR K mg P H d (.glb x)):∃a,d=.ref a/\mg x=some (.ref a):=by
 rcases r with r |⟨n,o,rfl,e,r⟩
 .cases r with
  |glb m=>exact⟨_,rfl,m⟩
  |cell p e r=>cases r
 .cases r
def ShR.tup(r:ShR K mg P H d (.tup us)):∃p vs,d=.ref p/\SqT K H p vs/\Rds K mg P H vs us:=by
 rcases r with r |⟨n,o,rfl,e,r⟩
 .cases r with
  |tup h r=>exact⟨_,_,rfl,h,r⟩
  |cell p e r=>cases r
 .cases r
def ShR.lst(r:ShR K mg P H d (.lst us)):∃a vs,d=.ref a/\H a=some (.lst vs)/\Rds K mg P H vs us:=by
 rcases r with r |⟨n,o,rfl,e,r⟩
 .cases r with
  |cell p e r=>cases r with |lst r=>exact⟨_,_,rfl,e,r⟩
 .cases r with |lst r=>exact⟨_,_,rfl,e,r⟩
def ShR.dct(r:ShR K mg P H d (.dct us)):∃a ws,d=.ref a/\H a=some (.dK ws)/\Rk K mg P H ws us:=by
 rcases r with r |⟨n,o,rfl,e,r⟩
 .cases r with
  |cell p e r=>cases r with |dct r=>exact⟨_,_,rfl,e,r⟩
 .cases r with |dct r=>exact⟨_,_,rfl,e,r⟩
def ShR.kl(r:ShR K mg P H d (.kl us)):∃a vs,d=.ref a/\SqL K H a vs/\Rds K mg P H vs us:=by
 rcases r with r |⟨n,o,rfl,e,r⟩
 .cases r with
  |kl h r=>exact⟨_,_,rfl,.inr h,r⟩
  |cell p e r=>cases r with |fz r=>exact⟨_,_,rfl,.inl (.inr ⟨_,e⟩),r⟩
 .cases r with |fz r=>exact⟨_,_,rfl,.inl (.inr ⟨_,e⟩),r⟩
def ShR.lstL(r:ShR K mg P H d (.lst us)):∃a vs,d=.ref a/\SqL K H a vs/\Rds K mg P H vs us:=by obtain⟨a,vs,e,h,q⟩:=r.lst;exact⟨a,vs,e,SqL.of h,q⟩
end
noncomputable def Val.items:Val->Option (List Val)
 |.tup xs=>some xs
 |.lst xs=>some xs
 |.kl xs=>some xs
 |_=>none
def ShR.items{K:W.Frag}{mg:Na}{P:Addr->Prop}{H:Hp}{d:V}{v:Val}{us:List Val}(r:ShR K mg P H d v)(e:v.items=some us):∃a vs,d=.ref a/\(SqL K H a vs\/SqT K H a vs)/\Rds K mg P H vs us:=by
 cases v with
 |tup xs=>cases e;obtain⟨a,vs,h1,h2,h3⟩:=r.tup;exact⟨a,vs,h1,.inr h2,h3⟩
 |lst xs=>cases e;obtain⟨a,vs,h1,h2,h3⟩:=r.lstL;exact⟨a,vs,h1,.inl h2,h3⟩
 |kl xs=>cases e;obtain⟨a,vs,h1,h2,h3⟩:=r.kl;exact⟨a,vs,h1,.inl h2,h3⟩
 |_=>cases e
inductive Sl where
 |no |sh (v:Val) |ow (v:Val) |mu (v:Val) |lo (v:Val) |lm (v:Val)
 deriving Inhabited
abbrev E3:=List Sl
noncomputable def Sl.val:Sl->Option Val
 |.no=>none
 |.sh v=>some v
 |.ow v=>some v
 |.mu v=>some v
 |.lo v=>some v
 |.lm v=>some v
noncomputable def Sl.mt:Sl->Bool
 |.ow _=>true
 |.mu _=>true
 |_=>false
noncomputable def Sl.lk:Sl->Bool
 |.lo _=>true
 |.lm _=>true
 |_=>false
abbrev Ns:=List (Option Addr)
def Oc(X:Addr->Prop)(ns:Ns)(n:Addr):Prop:=¬ X n/\some n∉ns
def NotFz:HO->Prop
 |.lst _=>True
 |.dK _=>True
 |.set _ _=>True
 |_=>False
def TbQ(H:Hp)(P:Addr)(q:Str):Prop:=∃ps:Array Value,H P=some (.tbl ps)/\TriplesOk ps.toList/\∀pos cv,codeAmong pos ps.toList=some cv->∃c,cv=.ref c/\H c=some (.ext (codO c q))
section
variable(K:W.Frag)(mg:Na)
def Bs(H:Hp):Prop:=∀P q,A2 K mg P q->TbQ H P q/\BK K mg H
def SlR(P:Addr->Prop)(N0:Addr->Prop)(n:Option (Option Addr))(d:Option (Option V))(H:Hp):Sl->Prop
 |.no=>n=some none
 |.sh v=>n=some none/\∃x,d=some (some x)/\Rd K mg P H x v
 |.ow v=>∃m o,n=some (some m)/\d=some (some (.ref m))/\N0 m/\H m=some o/\NotFz o/\Rc K mg P H o v
 |.lo v=>∃m o,n=some (some m)/\d=some (some (.ref m))/\N0 m/\H m=some o/\NotFz o/\Rc K mg P H o v
 |.mu v=>∃m o,n=some (some m)/\d=some (some (.ref m))/\H m=some o/\NotFz o/\Rc K mg P H o v
 |.lm v=>∃m o,n=some (some m)/\d=some (some (.ref m))/\H m=some o/\NotFz o/\Rc K mg P H o v
structure Sat(X:Addr->Prop)(N0:Addr->Prop)(ns:Ns)(e:E3)(σ:St)(H:Hp):Prop where
 l1:σ.length=e.length
 l2:ns.length=e.length
 lh:∀a,H a=none->N0 a
 xl:∀a,X a->∃o,H a=some o
 inj:∀(i j:Nat) (n:Addr),ns[i]?=some (some n)->ns[j]?=some (some n)->i=j
 nx:∀(i:Nat) (n:Addr),ns[i]?=some (some n)->¬ X n
 sl:∀(i:Nat) (s:Sl),e[i]?=some s->SlR K mg (Oc X ns) N0 (ns[i]?) (σ[i]?) H s
 bs:Bs K mg H
end
def Mt(ns:Ns)(e:E3)(n:Addr):Prop:=∃(i:Nat) (s:Sl),ns[i]?=some (some n)/\e[i]?=some s/\s.mt=true
structure Stp(ns:Ns)(e:E3)(H:Hp)(ns':Ns)(e':E3)(H':Hp):Prop where
 le:LeH H H'
 dom:∀a,H' a=none->H a=none
 keep:∀(m:Addr) (o:HO),H m=some o->sF o->¬ Mt ns e m->H' m=some o
 nw:∀(i:Nat) (n:Addr),ns'[i]?=some (some n)->ns[i]?=some (some n)\/H n=none
 lk:∀(i:Nat) (s:Sl),e[i]?=some s->s.lk=true->e'[i]?=some s/\ns'[i]?=ns[i]?
 lk':∀(i:Nat) (s:Sl),e'[i]?=some s->s.lk=true->e[i]?=some s/\ns'[i]?=ns[i]?
 mu:∀(i:Nat) (v:Val),e'[i]?=some (.mu v)->∃u,e[i]?=some (.mu u)/\ns'[i]?=ns[i]?
 mu':∀(i:Nat) (u:Val),e[i]?=some (.mu u)->∃v,e'[i]?=some (.mu v)/\ns'[i]?=ns[i]?
section
variable{K:W.Frag}{mg:Na}{X Y N0 P P':Addr->Prop}{ns ns1 e_:Ns}{e e1 e2:E3}{σ:St}{H H' H1 H2:Hp}
def NotFz.nt(h:NotFz o):sF o:=λps z=>by subst z;exact h
def NotFz.no(h:NotFz o):(∀xs,o ≠ .tup xs)/\(∀x y,o ≠ .frz x y)/\(∀φ,o ≠ .ext φ)/\∀ps,o ≠ .tbl ps:=
 ⟨λ_ z=>by subst z;exact h,λ_ _ z=>by subst z;exact h,λ_ z=>by subst z;exact h,λ_ z=>by subst z;exact h⟩
def LeH.wr(q:H a=some u)(hf:NotFz u):LeH H (upd H a o):=by
 have n:∀b w,H b=some w->w≠u->upd H a o b=some w:=λb w e z=>by rw[aG λy=>?_];exact e;subst y;rw[q] at e;exact z (E_ e).symm
 exact⟨λb xs e=>n b _ e λz=>hf.no.1 _ z.symm,λb x y e=>n b _ e λz=>hf.no.2.1 _ _ z.symm,λb φ e=>n b _ e λz=>hf.no.2.2.1 _ z.symm⟩
def Ko(b:BK K mg H)(l:LeH H H'):BK K mg H':=by
 obtain⟨x,o,h1,h2,h3,h4,h5⟩:=b;refine⟨x,o,h1,h2,h3,h4,?_⟩;rcases h5 with z |⟨u,z⟩
 .exact .inl z
 .exact .inr ⟨u,l.frz _ _ _ z⟩
def Bs.of(b:Bs K mg H)(l:LeH H H')(t:∀a ps,H a=some (.tbl ps)->H' a=some (.tbl ps)):Bs K mg H':=λP q h=>by obtain⟨⟨ps,h1,h2,h3⟩,m⟩:=b P q h;exact⟨⟨ps,t _ _ h1,h2,λpos cv z=>by obtain⟨c,y1,y2⟩:=h3 pos cv z;exact⟨c,y1,l.ext _ _ y2⟩⟩,Ko m l⟩
def Bs.gr(b:Bs K mg H)(g:Gr H H'):Bs K mg H':=b.of g.le λa _=>g a _
def Bs.wr(b:Bs K mg H)(q:H a=some u)(hf:NotFz u):Bs K mg (upd H a o):=b.of (LeH.wr q hf) λc ps e=>by rw[aG λy=>?_];exact e;subst y;rw[q] at e;exact hf.no.2.2.2 _ (E_ e)
def aW{n:Addr}:some n∈ns ↔ ∃i:Nat,ns[i]?=some (some n):=by
 constructor
 .intro m;exact List.getElem?_of_mem m
 .rintro⟨i,e⟩;exact Ly e
def Sat.own(S:Sat K mg X N0 ns e σ H){i:Nat}{n:Addr}(q:ns[i]?=some (some n)):∃s v o,e[i]?=some s/\(s.mt=true\/s.lk=true)/\s.val=some v/\σ[i]?=some (some (.ref n))/\H n=some o/\NotFz o/\Rc K mg (Oc X ns) H o v:=by
 have hi:i<e.length:=by rw[<- S.l2];exact (u_.mp q).1
 have hs:=S.sl i e[i] (B_ hi);refine⟨e[i],?_⟩;have he:=B_ hi;generalize e[i]=s at *;rw[q] at hs;cases s with
 |no=>cases hs
 |sh v=>cases hs.1
 |ow v=>obtain⟨m,o,e1,e2,_,e3,e4,e5⟩:=hs;cases e1;exact⟨v,o,he,.inl rfl,rfl,e2,e3,e4,e5⟩
 |lo v=>obtain⟨m,o,e1,e2,_,e3,e4,e5⟩:=hs;cases e1;exact⟨v,o,he,.inr rfl,rfl,e2,e3,e4,e5⟩
 |mu v=>obtain⟨m,o,e1,e2,e3,e4,e5⟩:=hs;cases e1;exact⟨v,o,he,.inl rfl,rfl,e2,e3,e4,e5⟩
 |lm v=>obtain⟨m,o,e1,e2,e3,e4,e5⟩:=hs;cases e1;exact⟨v,o,he,.inr rfl,rfl,e2,e3,e4,e5⟩
def Stp.gr(g:Gr H H'):Stp ns e H ns e H':=⟨g.le,λ_=>g.none,λ_ _ q _ _=>g _ _ q,λ_ _ q=>.inl q,λ_ _ q _=>⟨q,rfl⟩,λ_ _ q _=>⟨q,rfl⟩,λ_ _ q=>⟨_,q,rfl⟩,λ_ _ q=>⟨_,q,rfl⟩⟩
def Stp.refl:Stp ns e H ns e H:=.gr .refl
def Stp.trans(S:Sat K mg X N0 ns e σ H)(a:Stp ns e H ns1 e1 H1)(b:Stp ns1 e1 H1 e_ e2 H2):Stp ns e H e_ e2 H2:=by
 refine⟨a.le.trans b.le,λx z=>a.dom x (b.dom x z),λm o q ht hm=>?_,λi n q=>?_,λi s q hl=>?_,λi s q hl=>?_,λi v q=>?_,λi v q=>?_⟩
 .refine b.keep m o (a.keep m o q ht hm) ht λ⟨i,s,z1,z2,z3⟩=>hm ?_;rcases a.nw i m z1 with z |z
  .obtain⟨s0,v,o',q1,q2,_⟩:=S.own z;rcases q2 with q2 |q2
   .exact⟨i,s0,z,q1,q2⟩
   .have:=(a.lk i s0 q1 q2).1
    rw[z2] at this;cases this;exfalso;cases s <;> first |cases z3;done |cases q2;done
  .rw[q] at z;cases z
 .rcases b.nw i n q with z |z
  .exact a.nw i n z
  .exact .inr (a.dom n z)
 .obtain⟨q1,q2⟩:=a.lk i s q hl;obtain⟨q3,q4⟩:=b.lk i s q1 hl;exact⟨q3,q4.trans q2⟩
 .obtain⟨q1,q2⟩:=b.lk' i s q hl;obtain⟨q3,q4⟩:=a.lk' i s q1 hl;exact⟨q3,q2.trans q4⟩
 .obtain⟨u,q1,q2⟩:=b.mu i v q;obtain⟨u',q3,q4⟩:=a.mu i u q1;exact⟨u',q3,q2.trans q4⟩
 .obtain⟨u,q1,q2⟩:=a.mu' i v q;obtain⟨u',q3,q4⟩:=b.mu' i u q1;exact⟨u',q3,q4.trans q2⟩
def Stp.mov(a:Stp ns e H ns1 e1 H1):Mov (Oc X ns) (Oc X ns1) H H1:=⟨a.le,λn o p q ht=>by
 have hm:¬ Mt ns e n:=λ⟨i,s,z,_⟩=>p.2 (aW.mpr ⟨i,z⟩);refine⟨⟨p.1,λz=>?_⟩,a.keep n o q ht hm⟩;obtain⟨i,z⟩:=aW.mp z;rcases a.nw i n z with z |z
 .exact p.2 (aW.mpr ⟨i,z⟩)
 .rw[q] at z;cases z⟩
def SlR.mono(m:Mov P P' H H')(k:∀j o,n=some (some j)->H j=some o->NotFz o->H' j=some o)(r:SlR K mg P N0 n d H s):SlR K mg P' N0 n d H' s:=by
 cases s with
 |no=>exact r
 |sh v=>obtain⟨q,x,q1,q2⟩:=r;exact⟨q,x,q1,q2.mono m⟩
 |ow v=>obtain⟨j,o,q1,q2,q3,q4,q5,q6⟩:=r;exact⟨j,o,q1,q2,q3,k j o q1 q4 q5,q5,q6.mono m⟩
 |lo v=>obtain⟨j,o,q1,q2,q3,q4,q5,q6⟩:=r;exact⟨j,o,q1,q2,q3,k j o q1 q4 q5,q5,q6.mono m⟩
 |mu v=>obtain⟨j,o,q1,q2,q4,q5,q6⟩:=r;exact⟨j,o,q1,q2,k j o q1 q4 q5,q5,q6.mono m⟩
 |lm v=>obtain⟨j,o,q1,q2,q4,q5,q6⟩:=r;exact⟨j,o,q1,q2,k j o q1 q4 q5,q5,q6.mono m⟩
def Xn(X:Addr->Prop)(n:Addr):Addr->Prop:=λm=>X m\/m=n
def Sat.gr(S:Sat K mg X N0 ns e σ H)(g:Gr H H'):Sat K mg X N0 ns e σ H':=
 ⟨S.l1,S.l2,λa z=>S.lh a (g.none z),λa z=>by obtain⟨o,q⟩:=S.xl a z;exact⟨o,g a o q⟩,S.inj,S.nx,λi s q=>(S.sl i s q).mono g.mov λj o _ q _=>g j o q,S.bs.gr g⟩
def Sat.grow(S:Sat K mg X N0 ns e σ H)(g:Gr H H')(hp:H p=none)(q:H' p=some o):Sat K mg (Xn X p) N0 ns e σ H':=by
 have S':=S.gr g;have np:∀b u,H b=some u->b≠p:=λb u y z=>by subst z;rw[hp] at y;cases y
 refine⟨S.l1,S.l2,S'.lh,λa z=>?_,S.inj,λi n q' z=>?_,λi s q=>(S.sl i s q).mono ⟨g.le,λa o p q _=>⟨⟨λz=>?_,p.2⟩,g a o q⟩⟩ λj o _ q _=>g j o q,S'.bs⟩
 .rcases z with z |rfl
  .exact S'.xl a z
  .exact⟨o,q⟩
 .rcases z with z |rfl
  .exact S.nx i n q' z
  .obtain⟨_,_,_,_,_,_,_,y,_⟩:=S.own q';exact np _ _ y rfl
 .rcases z with z |z
  .exact p.1 z
  .exact np _ _ q z
def Sat.weak(S:Sat K mg Y N0 ns e σ H)(hx:∀n,X n->Y n):Sat K mg X N0 ns e σ H:=
 ⟨S.l1,S.l2,S.lh,λn z=>S.xl n (hx n z),S.inj,λi n q z=>S.nx i n q (hx n z),λi s q=>(S.sl i s q).mono (.of λn p=>⟨λz=>p.1 (hx n z),p.2⟩) λ_ _ _ q _=>q,S.bs⟩
end
section
variable{K:W.Frag}{mg:Na}{X N0:Addr->Prop}{ns ns0:Ns}{e e0:E3}{σ:St}{H Hs:Hp}
def bG{α:Type}{l:List α}{i j:Nat}{a b:α}(hi:i<l.length)(q:(l.set i a)[j]?=some b):(j=i/\b=a)\/(j≠i/\l[j]?=some b):=by
 rw[List.getElem?_set] at q;by_cases z:i=j
 .subst z;rw[if_pos rfl,if_pos hi] at q;exact .inl ⟨rfl,(E_ q).symm⟩
 .rw[if_neg z] at q;exact .inr ⟨λy=>z y.symm,q⟩
def cZ{α:Type}{l:List α}{i:Nat}{a:α}(hi:i<l.length):(l.set i a)[i]?=some a:=by rw[List.getElem?_set,if_pos rfl,if_pos hi]
def cD{α:Type}{l:List α}{i j:Nat}{a:α}(hi:j≠i):(l.set i a)[j]?=l[j]?:=by rw[Mv (λy=>hi y.symm)]
def fT{n:Addr}(p:Oc X ns n):Oc X (ns.set i none) n:=⟨p.1,λz=>by
 rcases List.mem_or_eq_of_mem_set z with z |z
 .exact p.2 z
 .cases z⟩
def Sat.putN(S:Sat K mg X N0 ns e σ H)(hi:i<e.length)(q:SlR K mg (Oc X (ns.set i none)) N0 (some none) (some d) H s):Sat K mg X N0 (ns.set i none) (e.set i s) (σ.set i d) H:=by
 have hn:i<ns.length:=by rw[S.l2];exact hi
 have ha:i<σ.length:=by rw[S.l1];exact hi
 refine⟨by rw[KO,KO];exact S.l1,by rw[KO,KO];exact S.l2,S.lh,S.xl,λj k n q1 q2=>?_,λj n q1=>?_,λj s' q1=>?_,S.bs⟩
 .rcases bG hn q1 with ⟨_,z⟩ |⟨_,z⟩
  .cases z
  rcases bG hn q2 with ⟨_,y⟩ |⟨_,y⟩
  .cases y
  exact S.inj j k n z y
 .rcases bG hn q1 with ⟨_,z⟩ |⟨_,z⟩
  .cases z
  exact S.nx j n z
 .rcases bG hi q1 with ⟨rfl,rfl⟩ |⟨z,q2⟩
  .rw[cZ hn,cZ ha];exact q
  .rw[cD z,cD z];exact (S.sl j s' q2).mono (.of λn p=>fT p) λ_ _ _ q _=>q
def Sat.putN'(S:Sat K mg X N0 ns e σ H)(hi:i<e.length)(q:SlR K mg (Oc X (ns.set i none)) N0 (some none) (σ[i]?) H s):Sat K mg X N0 (ns.set i none) (e.set i s) σ H:=by
 have ha:i<σ.length:=by rw[S.l1];exact hi
 have:=S.putN hi (s:=s) (d:=σ[i]) (by rw[B_ ha] at q;exact q)
 rw[List.set_getElem_self] at this;exact this
def Sat.putO(S:Sat K mg (Xn X n) N0 ns e σ H)(hx:¬ X n)(hi:i<e.length)(hn0:N0 n)(eo:H n=some o)(hf:NotFz o)(r:Rc K mg (Oc (Xn X n) ns) H o v):Sat K mg X N0 (ns.set i (some n)) (e.set i (.ow v)) (σ.set i (some (.ref n))) H:=by
 have hn:i<ns.length:=by rw[S.l2];exact hi
 have ha:i<σ.length:=by rw[S.l1];exact hi
 have nn:∀j:Nat,ns[j]?≠some (some n):=λj q=>S.nx j n q (.inr rfl);have mv:Mov (Oc (Xn X n) ns) (Oc X (ns.set i (some n))) H H:=.of λm p=>⟨λz=>p.1 (.inl z),λz=>by
  rcases List.mem_or_eq_of_mem_set z with z |z
  .exact p.2 z
  .cases z;exact p.1 (.inr rfl)⟩
 refine⟨by rw[KO,KO];exact S.l1,by rw[KO,KO];exact S.l2,S.lh,λm z=>S.xl m (.inl z),λj k m q1 q2=>?_,λj m q1 z=>?_,λj s' q1=>?_,S.bs⟩
 .rcases bG hn q1 with ⟨z1,z⟩ |⟨z1,z⟩ <;> rcases bG hn q2 with ⟨y1,y⟩ |⟨y1,y⟩
  .rw[z1,y1]
  .cases z;exact absurd y (nn k)
  .cases y;exact absurd z (nn j)
  .exact S.inj j k m z y
 .rcases bG hn q1 with ⟨_,y⟩ |⟨_,y⟩
  .cases y;exact hx z
  .exact S.nx j m y (.inl z)
 .rcases bG hi q1 with ⟨rfl,rfl⟩ |⟨z,q2⟩
  .rw[cZ hn,cZ ha];exact⟨n,o,rfl,rfl,hn0,eo,hf,r.mono mv⟩
  .rw[cD z,cD z];exact (S.sl j s' q2).mono mv λ_ _ _ q _=>q
noncomputable def Sl.pl:Sl->Bool
 |.no=>true
 |.sh _=>true
 |.ow _=>true
 |_=>false
def Stp.put(A:Stp ns0 e0 Hs ns e H)(hi:i<e.length)(hx:∀n,x=some n->Hs n=none)(q0:e[i]?=some s0)(p0:s0.pl=true)(p:s.pl=true)(l2:ns.length=e.length):Stp ns0 e0 Hs (ns.set i x) (e.set i s) H:=by
 have hn:i<ns.length:=by rw[l2];exact hi
 refine⟨A.le,A.dom,A.keep,λj n q=>?_,λj s' q hl=>?_,λj s' q hl=>?_,λj v q=>?_,λj v q=>?_⟩
 .rcases bG hn q with ⟨_,z⟩ |⟨_,z⟩
  .exact .inr (hx n z.symm)
  .exact A.nw j n z
 .obtain⟨q1,q2⟩:=A.lk j s' q hl;have z:j≠i:=λz=>by subst z;rw[q0] at q1;cases q1;cases s0 <;> first |cases p0;done |cases hl;done
  rw[cD z,cD z];exact⟨q1,q2⟩
 .rcases bG hi q with ⟨_,z⟩ |⟨z,q1⟩
  .subst z;cases s' <;> first |cases p;done |cases hl;done
  .rw[cD z];exact A.lk' j s' q1 hl
 .rcases bG hi q with ⟨_,z⟩ |⟨z,q1⟩
  .subst z;cases p
  .rw[cD z];exact A.mu j v q1
 .obtain⟨u,q1,q2⟩:=A.mu' j v q;have z:j≠i:=λz=>by subst z;rw[q0] at q1;cases q1;cases p0
  exact⟨u,by rw[cD z];exact q1,by rw[cD z];exact q2⟩
end
inductive Tm where
 |val (v:Val) |new (v:Val) |bor (i:Nat)
inductive R3(α:Type) where
 |ok (a:α) (e:E3) |exc (c:Str) (e:E3) |stuck
noncomputable def R3.bind {α β:Type} (r:R3 α) (f:α->E3->R3 β):R3 β:=match r with
 |.ok a e=>f a e
 |.exc c e=>.exc c e
 |.stuck=>.stuck
abbrev ME3:=E3->R3 Tm
abbrev MT3:=E3->R3 Bool
abbrev MA3:=E3->R3 (List Tm)
section
variable(K:W.Frag)(mg:Na)
def PG3{α:Type}(X N0:Addr->Prop)(ns:Ns)(e:E3)(σ:St)(H:Hp)(E:XK)(k:α->E3->Ns->Hp->Prop):R3 α->Prop
 |.ok t e'=>∀H' ns',Stp ns e H ns' e' H'->Sat K mg X N0 ns' e' σ H'->k t e' ns' H'
 |.exc c e'=>∀H' ns' C,Stp ns e H ns' e' H'->Sat K mg X N0 ns' e' σ H'->mg c=some (.ref C)->E (.ref C) none H'
 |.stuck=>False
def relE(X N0 L:Addr->Prop)(σ:St)(ns:Ns)(e:E3)(H:Hp)(d:V):Tm->Prop
 |.val v=>Rd K mg (Oc X ns) H d v
 |.new v=>∃n o,d=.ref n/\L n/\¬ X n/\H n=some o/\NotFz o/\Sat K mg (Xn X n) N0 ns e σ H/\Rc K mg (Oc (Xn X n) ns) H o v
 |.bor i=>σ[i]?=some (some d)
inductive TsR(X:Addr->Prop)(ns:Ns)(σ:St)(H:Hp):List V->List Tm->Prop where
 |nil:TsR X ns σ H [] []
 |val {d:V}{v:Val}{ds:List V}{ts:List Tm} (r:Rd K mg (Oc X ns) H d v) (rr:TsR X ns σ H ds ts):TsR X ns σ H (d::ds) (.val v::ts)
 |bor {d:V}{i:Nat}{ds:List V}{ts:List Tm} (q:σ[i]?=some (some d)) (rr:TsR X ns σ H ds ts):TsR X ns σ H (d::ds) (.bor i::ts)
abbrev KE(X N0 L:Addr->Prop)(σ:St)(Q:VK):Tm->E3->Ns->Hp->Prop:=λt e' ns' H'=>∀v,relE K mg X N0 L σ ns' e' H' v t->Q v H'
abbrev KA(X:Addr->Prop)(σ:St)(Q:List V->Hp->Prop):List Tm->E3->Ns->Hp->Prop:=λts _ ns' H'=>∀vs,TsR K mg X ns' σ H' vs ts->Q vs H'
abbrev KT(Q:Bool->Hp->Prop):Bool->E3->Ns->Hp->Prop:=λb _ _ H'=>Q b H'
def rdE(ES:St->XK)(G:ME3):TE:=λσ H Q=>∃X N0 L ns e,Sat K mg X N0 ns e σ H/\(∀a,H a=none->L a)/\PG3 K mg X N0 ns e σ H (ES σ) (KE K mg X N0 L σ Q) (G e)
def rdT(ES:St->XK)(G:MT3):TT:=λσ H Q=>∃X N0 ns e,Sat K mg X N0 ns e σ H/\PG3 K mg X N0 ns e σ H (ES σ) (KT Q) (G e)
def rdA(ES:St->XK)(G:MA3):TA:=λσ H Q=>∃X N0 ns e,Sat K mg X N0 ns e σ H/\PG3 K mg X N0 ns e σ H (ES σ) (KA K mg X σ Q) (G e)
end
section
variable{K:W.Frag}{mg:Na}{ES:St->XK}{σ:St}{H:Hp}{Z:Prop}
def rdE.el{G:ME3}(h:rdE K mg ES G σ H Q)(k:∀X N0 L ns e,Sat K mg X N0 ns e σ H->(∀a,H a=none->L a)->PG3 K mg X N0 ns e σ H (ES σ) (KE K mg X N0 L σ Q) (G e)->Z):Z:=by obtain⟨X,N0,L,ns,e,S,hl,p⟩:=h;exact k X N0 L ns e S hl p
def rdT.el{G:MT3}(h:rdT K mg ES G σ H Q)(k:∀X N0 ns e,Sat K mg X N0 ns e σ H->PG3 K mg X N0 ns e σ H (ES σ) (KT Q) (G e)->Z):Z:=by obtain⟨X,N0,ns,e,S,p⟩:=h;exact k X N0 ns e S p
def rdA.el{G:MA3}(h:rdA K mg ES G σ H Q)(k:∀X N0 ns e,Sat K mg X N0 ns e σ H->PG3 K mg X N0 ns e σ H (ES σ) (KA K mg X σ Q) (G e)->Z):Z:=by obtain⟨X,N0,ns,e,S,p⟩:=h;exact k X N0 ns e S p
end
noncomputable def rs (e:E3):Tm->Option Val
 |.val v=>some v
 |.new v=>some v
 |.bor i=>(e[i]?).bind Sl.val
noncomputable def Tm.drop:Tm->Tm
 |.new v=>.val v
 |t=>t
noncomputable def rss (e:E3):List Tm->Option (List Val)
 | []=>some []
 |t::ts=>match rs e t,rss e ts with
  |some v,some vs=>some (v::vs)
  |_,_=>none
section
variable{K:W.Frag}{mg:Na}{X N0 L:Addr->Prop}{ns ns':Ns}{e e':E3}{σ:St}{H H':Hp}{E:XK}
def PG3.ret{α:Type}{k:α->E3->Ns->Hp->Prop}{t:α}(p:PG3 K mg X N0 ns e σ H E k (.ok t e))(S:Sat K mg X N0 ns e σ H):k t e ns H:=p H ns .refl S
def PG3.after{α:Type}{r:R3 α}{k:α->E3->Ns->Hp->Prop}(p:PG3 K mg X N0 ns e σ H E k r)(S:Sat K mg X N0 ns e σ H)(a:Stp ns e H ns' e' H'):PG3 K mg X N0 ns' e' σ H' E k r:=by
 cases r with
 |stuck=>exact p
 |exc c e2=>exact λH2 e_ C b S2 m=>p H2 e_ C (a.trans S b) S2 m
 |ok t2 e2=>exact λH2 e_ b S2=>p H2 e_ (a.trans S b) S2
def PG3.imp{α β:Type}{r:R3 α}{f:α->E3->R3 β}{k:β->E3->Ns->Hp->Prop}{k':α->E3->Ns->Hp->Prop}(p:PG3 K mg X N0 ns e σ H E k (r.bind f))(S:Sat K mg X N0 ns e σ H)
 (i:∀t e1 ns1 H1,Stp ns e H ns1 e1 H1->Sat K mg X N0 ns1 e1 σ H1->PG3 K mg X N0 ns1 e1 σ H1 E k (f t e1)->k' t e1 ns1 H1):PG3 K mg X N0 ns e σ H E k' r:=by
 cases r with
 |stuck=>exact p
 |exc c e'=>exact p
 |ok t e1=>intro H1 ns1 a S1;exact i t e1 ns1 H1 a S1 (PG3.after (show PG3 K mg X N0 ns e σ H E k (f t e1) from p) S a)
def TsR.stp(a:Stp ns e H ns' e' H')(r:TsR K mg X ns σ H ds ts):TsR K mg X ns' σ H' ds ts:=by
 induction r with
 |nil=>exact .nil
 |val r _ ih=>exact .val (r.mono a.mov) ih
 |bor q _ ih=>exact .bor q ih
def Sat.bor(S:Sat K mg X N0 ns e σ H){i:Nat}{d:V}{v:Val}(q:σ[i]?=some (some d))(r:(e[i]?).bind Sl.val=some v):ShR K mg (Oc X ns) H d v:=by
 cases z:e[i]? with
 |none=>rw[z] at r;cases r
 |
  some s=>
  rw[z] at r;have y:=S.sl i s z;rw[q] at y;have r':s.val=some v:=r;cases s with
  |no=>cases r'
  |sh u=>cases r';obtain⟨_,x,e1,e2⟩:=y;cases e1;exact .inl e2
  |ow u=>cases r';obtain⟨m,o,_,e2,_,e3,_,e4⟩:=y;cases e2;exact .inr ⟨m,o,rfl,e3,e4⟩
  |lo u=>cases r';obtain⟨m,o,_,e2,_,e3,_,e4⟩:=y;cases e2;exact .inr ⟨m,o,rfl,e3,e4⟩
  |mu u=>cases r';obtain⟨m,o,_,e2,e3,_,e4⟩:=y;cases e2;exact .inr ⟨m,o,rfl,e3,e4⟩
  |lm u=>cases r';obtain⟨m,o,_,e2,e3,_,e4⟩:=y;cases e2;exact .inr ⟨m,o,rfl,e3,e4⟩
def relE.new(r:relE K mg X N0 L σ ns e H d (.new v)):Rd K mg (Oc X ns) H d v:=by obtain⟨n,o,rfl,_,hx,eo,_,S,rc⟩:=r;exact .cell ⟨hx,λz=>by obtain⟨i,z⟩:=aW.mp z;exact S.nx i n z (.inr rfl)⟩ eo (rc.mono (.of λm p=>⟨λz=>p.1 (.inl z),p.2⟩))
def relE.sh{d:V}{t:Tm}{v:Val}(S:Sat K mg X N0 ns e σ H)(r:relE K mg X N0 L σ ns e H d t)(q:rs e t=some v):ShR K mg (Oc X ns) H d v:=by
 cases t with
 |val u=>cases q;exact .inl r
 |new u=>cases q;exact .inl r.new
 |bor i=>exact S.bor r q
def relE.drop(r:relE K mg X N0 L σ ns e H d t)(a:Stp ns e H ns' e' H'):relE K mg X N0 L σ ns' e' H' d t.drop:=by
 cases t with
 |val u=>exact Rd.mono a.mov r
 |new u=>exact Rd.mono a.mov r.new
 |bor i=>exact r
def TsR.sh{ds:List V}{ts:List Tm}{vs:List Val}(S:Sat K mg X N0 ns e σ H)(r:TsR K mg X ns σ H ds ts)(q:rss e ts=some vs):ShRs K mg (Oc X ns) H ds vs:=by
 induction r generalizing vs with
 |nil=>cases q;exact .nil
 |
  val r _ ih=>
  unfold rss at q;split at q
  .rename_i e1 e2;cases q;cases e1;exact .cons (.inl r) (ih e2)
  .cases q
 |
  bor q' _ ih=>
  unfold rss at q;split at q
  .rename_i e1 e2;cases q;exact .cons (S.bor q' e1) (ih e2)
  .cases q
end
inductive Bv where
 |val (v:Val) |new (v:Val) |stuck
noncomputable def Bv.at (b:Bv) (e:E3):R3 Tm:=match b with
 |.val v=>.ok (.val v) e
 |.new v=>.ok (.new v) e
 |.stuck=>.stuck
def BvP(K:W.Frag)(mg:Na)(P:Addr->Prop)(H:Hp)(Q:VK):Bv->Prop
 |.val v=>∀H1 x,Gr H H1->Rd K mg P H1 x v->Q x H1
 |.new v=>∀H1 a o,Gr H H1->H1 a=none->NotFz o->Rc K mg P H1 o v->Q (.ref a) (upd H1 a o)
 |.stuck=>False
section
variable{K:W.Frag}{mg:Na}{X N0 L:Addr->Prop}{ns:Ns}{e:E3}{σ:St}{H:Hp}{E:XK}{Q:VK}
def PG3.bv(p:PG3 K mg X N0 ns e σ H E (KE K mg X N0 L σ Q) (b.at e))(S:Sat K mg X N0 ns e σ H)(hl:∀a,H a=none->L a):BvP K mg (Oc X ns) H Q b:=by
 cases b with
 |stuck=>exact p
 |val v=>exact λH1 x g r=>p H1 ns (.gr g) (S.gr g) x r
 |
  new v=>
  intro H1 a o g ha hf r;have g2:Gr H (upd H1 a o):=λc u q=>Gr.upd ha c u (g c u q);have S':=S.grow g2 (g.none ha) aU;refine p _ ns (.gr g2) (S.gr g2) _ ⟨a,o,rfl,hl a (g.none ha),λz=>?_,aU,hf,S',r.mono ⟨(Gr.upd ha).le,λc u q z _=>⟨⟨λy=>?_,q.2⟩,Gr.upd ha c u z⟩⟩⟩
  .obtain⟨u,q⟩:=S.xl a z;rw[g.none ha] at q;cases q
  .rcases y with y |rfl
   .exact q.1 y
   .rw[ha] at z;cases z
end
section
variable(K:W.Frag)(mg:Na)
def UnD(r:V->Hp->VK->Prop)(g:Val->Bv):Prop:=∀P H x v Q,ShR K mg P H x v->BvP K mg P H Q (g v)->r x H Q
def OpD(r:R2)(g:Val->Val->Bv):Prop:=∀P H x y v u Q,ShR K mg P H x v->ShR K mg P H y u->BvP K mg P H Q (g v u)->r x y H Q
def eN(r:List V->Hp->VK->Prop)(g:List Val->Bv):Prop:=∀P H xs vs Q,ShRs K mg P H xs vs->BvP K mg P H Q (g vs)->r xs H Q
end
noncomputable def lZ (i:Nat) (e:E3):R3 Tm:=match e[i]? with
 |some (.sh v)=>.ok (.val v) e
 |some .no=>.stuck
 |some _=>.ok (.bor i) e
 |none=>.stuck
noncomputable def vC (v:Val) (e:E3):R3 Tm:=.ok (.val v) e
noncomputable def vUn (g:Val->Bv) (F:ME3) (e:E3):R3 Tm:=(F e).bind λt e1=>match rs e1 t with
 |some v=>(g v).at e1
 |none=>.stuck
noncomputable def vOp (g:Val->Val->Bv) (F G:ME3) (e:E3):R3 Tm:=(F e).bind λt1 e1=>(G e1).bind λt2 e2=>match rs e2 t1.drop,rs e2 t2 with
 |some v1,some v2=>(g v1 v2).at e2
 |_,_=>.stuck
noncomputable def vNil (e:E3):R3 (List Tm):=.ok [] e
noncomputable def IP (F:ME3) (A:MA3) (e:E3):R3 (List Tm):=(F e).bind λt e1=>(A e1).bind λts e2=>.ok (t.drop::ts) e2
noncomputable def vFn (g:List Val->Bv) (A:MA3) (e:E3):R3 Tm:=(A e).bind λts e1=>match rss e1 ts with
 |some vs=>(g vs).at e1
 |none=>.stuck
noncomputable def cE (e:E3):Tm->Option (E3×Val)
 |.val v=>some (e,v)
 |.new v=>some (e,v)
 |.bor i=>match e[i]? with
  |some (.sh v)=>some (e,v)
  |some (.ow v)=>some (e.set i (.sh v),v)
  |_=>none
noncomputable def dem (e:E3):List Tm->Option (E3×List Val)
 | []=>some (e,[])
 |t::ts=>match cE e t with
  |some (e1,v)=>match dem e1 ts with
   |some (e2,vs)=>some (e2,v::vs)
   |none=>none
  |none=>none
noncomputable def vTup (A:MA3) (e:E3):R3 Tm:=(A e).bind λts e1=>match dem e1 ts with
 |some (e2,vs)=>if vs.length<=16777216 then .ok (.val (.tup vs)) e2 else .stuck
 |none=>.stuck
noncomputable def vLst (A:MA3) (e:E3):R3 Tm:=(A e).bind λts e1=>match dem e1 ts with
 |some (e2,vs)=>if vs.length<=16777216 then .ok (.new (.lst vs)) e2 else .stuck
 |none=>.stuck
noncomputable def bOf:Option Val->Option Bool
 |some (.bl b)=>some b
 |_=>none
noncomputable def vAnd (F G:ME3) (e:E3):R3 Tm:=(F e).bind λt e1=>match bOf (rs e1 t) with
 |some true=>G e1
 |some false=>.ok (.val (.bl false)) e1
 |none=>.stuck
noncomputable def vNot (F:ME3) (e:E3):R3 Tm:=(F e).bind λt e1=>match bOf (rs e1 t) with
 |some b=>.ok (.val (.bl (!b))) e1
 |none=>.stuck
noncomputable def vIf (c:MT3) (F G:ME3) (e:E3):R3 Tm:=(c e).bind λb e1=>if b=true then F e1 else G e1
noncomputable def cOf (F:ME3) (e:E3):R3 Bool:=(F e).bind λt e1=>match bOf (rs e1 t) with
 |some b=>.ok b e1
 |none=>.stuck
noncomputable def cAn (c d:MT3) (e:E3):R3 Bool:=(c e).bind λb e1=>if b=true then d e1 else .ok false e1
noncomputable def cO (c d:MT3) (e:E3):R3 Bool:=(c e).bind λb e1=>if b=true then .ok true e1 else d e1
noncomputable def cNo (c:MT3) (e:E3):R3 Bool:=(c e).bind λb e1=>.ok (!b) e1
noncomputable def cY (e:E3):R3 Bool:=.ok true e
section
variable{K:W.Frag}{mg:Na}{X N0 L:Addr->Prop}{ns:Ns}{e:E3}{σ:St}{H:Hp}
def F8(S:Sat K mg X N0 ns e σ H)(q:e[i]?=some (.ow v)):∃n,σ[i]?=some (some (.ref n))/\Sat K mg X N0 (ns.set i none) (e.set i (.sh v)) σ H/\Stp ns e H (ns.set i none) (e.set i (.sh v)) H/\Rd K mg (Oc X (ns.set i none)) H (.ref n) v:=by
 obtain⟨n,o,q1,q2,_,q3,_,q4⟩:=S.sl i _ q;have hi:=(u_.mp q).1;have hn:i<ns.length:=by rw[S.l2];exact hi
 have r:Rd K mg (Oc X (ns.set i none)) H (.ref n) v:=.cell ⟨S.nx i n q1,λz=>by
  obtain⟨j,z⟩:=aW.mp z;rcases bG hn z with ⟨_,y⟩ |⟨y,z⟩
  .cases y
  .exact y (S.inj j i n z q1)⟩ q3 (q4.mono (.of λm p=>fT p))
 exact⟨n,q2,S.putN' hi ⟨rfl,_,q2,r⟩,Stp.refl.put (x:=none) hi (λ_ z=>by cases z) q rfl rfl S.l2,r⟩
def fS{d:V}{t:Tm}{v:Val}{e':E3}(S:Sat K mg X N0 ns e σ H)(r:relE K mg X N0 L σ ns e H d t)(q:cE e t=some (e',v)):∃ns',Sat K mg X N0 ns' e' σ H/\Stp ns e H ns' e' H/\Rd K mg (Oc X ns') H d v:=by
 cases t with
 |val u=>cases q;exact⟨ns,S,.refl,r⟩
 |new u=>cases q;exact⟨ns,S,.refl,r.new⟩
 |
  bor i=>
  unfold cE at q;dsimp only at q;have r':σ[i]?=some (some d):=r;split at q
  .rename_i u q1;cases q;obtain⟨_,x,e1,e2⟩:=S.sl i _ q1;rw[r'] at e1;cases e1;exact⟨ns,S,.refl,e2⟩
  .rename_i u q1;cases q;obtain⟨n,e1,S',a',e2⟩:=F8 S q1;rw[r'] at e1;cases e1;exact⟨_,S',a',e2⟩
  .cases q
def i5:∀{ds:List V}{vs:List Val}{ns:Ns}{e e':E3},Sat K mg X N0 ns e σ H->TsR K mg X ns σ H ds ts->dem e ts=some (e',vs)->∃ns',Sat K mg X N0 ns' e' σ H/\Stp ns e H ns' e' H/\Rds K mg (Oc X ns') H ds vs:=by
 induction ts with
 |nil=>intro ds vs ns e e' S r q;cases r;cases q;exact⟨ns,S,.refl,.nil⟩
 |
  cons t ts ih=>
  intro ds vs ns e e' S r q;unfold dem at q;split at q
  .rename_i e1 v q1;split at q
   .rename_i e2 vs' q2;cases q;have hr:∃d ds',ds=d::ds'/\relE K mg X N0 X σ ns e H d t/\TsR K mg X ns σ H ds' ts:=by
     cases r with
     |val r rr=>exact⟨_,_,rfl,r,rr⟩
     |bor r rr=>exact⟨_,_,rfl,r,rr⟩
    obtain⟨d,ds',rfl,hr⟩:=hr;obtain⟨ns1,S1,a1,r1⟩:=fS S hr.1 q1;obtain⟨e_,S2,a2,r2⟩:=ih S1 (hr.2.stp a1) q2;exact⟨e_,S2,a1.trans S a2,.cons (r1.mono a2.mov) r2⟩
   .cases q
  .cases q
end
structure PEx where
 t:Nat
 G:ME3
structure PTs where
 t:Nat
 G:MT3
structure PAs where
 t:Nat
 G:MA3
structure PO2 where
 G:Val->Val->Bv
structure PU1 where
 G:Val->Bv
structure PBf where
 G:List Val->Bv
noncomputable def af (i:Nat):PEx:=⟨1,lZ i⟩
noncomputable def ah (i:Int):PEx:=⟨2,vC (.int i)⟩
noncomputable def pBl (i:Bool):PEx:=⟨3,vC (.bl i)⟩
noncomputable def aC (i:Str):PEx:=⟨4,vC (.str i)⟩
noncomputable def gx:PEx:=⟨5,vC .non⟩
noncomputable def pTy (i:String):PEx:=⟨6,vC (.ty i)⟩
noncomputable def wY (i:Str):PEx:=⟨7,vC (.glb i)⟩
noncomputable def ui (v:Val):PEx:=⟨8,vC v⟩
noncomputable def pUn (o:PU1) (a:PEx):PEx:=⟨9,vUn o.G a.G⟩
noncomputable def pOp (o:PO2) (a b:PEx):PEx:=⟨10,vOp o.G a.G b.G⟩
noncomputable def ag:PAs:=⟨1,vNil⟩
noncomputable def aa (a:PEx) (r:PAs):PAs:=⟨2,IP a.G r.G⟩
noncomputable def pFn (o:PBf) (a:PAs):PEx:=⟨11,vFn o.G a.G⟩
noncomputable def aH (a:PAs):PEx:=⟨12,vTup a.G⟩
noncomputable def aY (a:PAs):PEx:=⟨13,vLst a.G⟩
noncomputable def fE (a b:PEx):PEx:=⟨14,vAnd a.G b.G⟩
noncomputable def lX (a:PEx):PEx:=⟨16,vNot a.G⟩
noncomputable def pIf (c:PTs) (a b:PEx):PEx:=⟨17,vIf c.G a.G b.G⟩
noncomputable def qOf (a:PEx):PTs:=⟨1,cOf a.G⟩
noncomputable def qAn (a b:PTs):PTs:=⟨3,cAn a.G b.G⟩
noncomputable def qO (a b:PTs):PTs:=⟨4,cO a.G b.G⟩
noncomputable def qNo (a:PTs):PTs:=⟨5,cNo a.G⟩
noncomputable def qY:PTs:=⟨6,cY⟩
section
variable(K:W.Frag)(mg:Na)(X:Cx)(ES:St->XK)
structure DE(e:Expr)(F:PEx):Prop where
 ok:PE X e (rdE K mg ES F.G)
structure DT(e:Expr)(F:PTs):Prop where
 ok:PT X e (rdT K mg ES F.G)
structure DW(e:Expr)(F:PTs):Prop where
 ok:PW X e (rdT K mg ES F.G)
structure DA(es:List Expr)(F:PAs):Prop where
 ok:PA X es (rdA K mg ES F.G)
end
structure GC(K:W.Frag)(mg:Na)(x:Str)(d:Val):Prop where
 ex:∃u v,mg x=some u/\RelV v u/\∀P H,Rd K mg P H v d
section
variable{K:W.Frag}{mg:Na}{X:Cx}{ES:St->XK}{e a b c:Expr}{es:List Expr}{F G p q:PEx}{A:PAs}{t u:PTs}{pos:Pos}{k:PO2}
def ub(i:Nat){x:Str}(hN:X.N[i]?=some x:=by rfl)(hv:Vis X.env.scope x:=by first |exact Or.inl rfl |exact Or.inr (Or.inl rfl) |exact Or.inr (Or.inr rfl))(hd:(x==("__debug__" : Str))=false:=by decide)(hcd:(x==("__classdict__" : Str))=false:=by decide):DE K mg X ES (.Name x pos) (af i):=
 ⟨PE.imp (yu hN hv hd hcd) λσ H Q zz=>zz.el λY N0 L ns e S hl p=>by
  have p:PG3 K mg Y N0 ns e σ H (ES σ) (KE K mg Y N0 L σ Q) (lZ i e):=p;unfold lZ at p;split at p
  .rename_i v q;obtain⟨_,x,e1,r⟩:=S.sl i _ q;exact⟨x,e1,p.ret S x r⟩
  .exact p.elim
  .rename_i s h1 h2 q;have y:=S.sl i s q;have:∃x,σ[i]?=some (some x):=by
    cases s with
    |no=>exact absurd rfl h2
    |sh v=>exact absurd rfl (h1 v)
    |ow v=>obtain⟨m,_,_,y,_⟩:=y;exact⟨_,y⟩
    |lo v=>obtain⟨m,_,_,y,_⟩:=y;exact⟨_,y⟩
    |mu v=>obtain⟨m,_,_,y,_⟩:=y;exact⟨_,y⟩
    |lm v=>obtain⟨m,_,_,y,_⟩:=y;exact⟨_,y⟩
   obtain⟨x,e1⟩:=this;exact⟨x,e1,p.ret S x e1⟩
  .exact p.elim⟩
def l9{v:V}{d:Val}{tg:Nat}(hp:PE X e (tC v))(r:∀P H,Rd K mg P H v d):DE K mg X ES e ⟨tg,vC d⟩:=⟨PE.imp hp λσ H Q zz=>zz.el λY N0 L ns e S hl p=>PG3.ret p S v (r _ _)⟩
def jx:DE K mg X ES (.Constant (.int i) j pos) (ah i):=l9 sN λ_ _=>.int i
def Kd:DE K mg X ES (.Constant (.bool i) j pos) (pBl i):=l9 IU λ_ _=>.bl i
def HV:DE K mg X ES (.Constant .none j pos) gx:=l9 E1 λ_ _=>.non
def Fn:DE K mg X ES (.Constant (.str x) j pos) (aC x):=l9 zq λ_ _=>.str x
def Gh{x:Str}(hg:Gl X x)(ha:∃a,mg x=some (.ref a))(hm:X.mg=mg:=by rfl)(hd:(x==("__debug__" : Str))=false:=by decide):DE K mg X ES (.Name x pos) (wY x):=by subst hm;obtain⟨a,ha⟩:=ha;exact l9 (wj hg ha (v:=.ref a) rfl hd) λ_ _=>.glb ha
def JW{x:Str}{d:Val}(hg:Gl X x)(ha:GC K mg x d)(hm:X.mg=mg:=by rfl)(hd:(x==("__debug__" : Str))=false:=by decide):DE K mg X ES (.Name x pos) (ui d):=by subst hm;obtain⟨u,v,h1,h2,h3⟩:=ha.ex;exact l9 (wj hg h1 h2 hd) h3
def Kq{x:Str}{n:String}(hg:Gl X x)(hm:mg x=none)(hv:bootBuiltins x=some (.type n))(he:X.mg=mg:=by rfl)(hn:x ≠ "__name__":=by decide)(hd:(x==("__debug__" : Str))=false:=by decide):DE K mg X ES (.Name x pos) (pTy n):=by subst he;exact l9 (DP hg hm hv (v:=.ty n) rfl hn hd) λ_ _=>.ty n
def mU(hd:OpD K mg r k.G)(σ:St)(H:Hp)(Q:VK):rdE K mg ES (pOp k F G).G σ H Q->tOp r (rdE K mg ES F.G) (rdE K mg ES G.G) σ H Q:=λzz=>zz.el λY N0 L ns e S hl p=>
 ⟨Y,
  N0,L,ns,e,S,hl,PG3.imp p S λt1 e1 ns1 H1 a1 S1 p1 x r1=>⟨Y,N0,L,ns1,e1,S1,λa z=>hl a (a1.dom a z),PG3.imp p1 S1 λt2 e2 e_ H2 a2 S2 p2 y r2=>by
  try dsimp only at p2
  split at p2
  .rename_i v u q1 q2;exact hd _ _ _ _ _ _ _ ((r1.drop a2).sh S2 q1) (r2.sh S2 q2) (p2.bv S2 λa z=>hl a (a1.dom a (a2.dom a z)))
  .exact p2.elim⟩⟩
def wO(ho:OpR X (binaryOp op) r)(hd:OpD K mg r k.G)(ha:DE K mg X ES a p)(hb:DE K mg X ES b q):DE K mg X ES (.BinOp a op b pos) (pOp k p q):=⟨PE.imp (Kn ho ha.ok hb.ok) (mU hd)⟩
def Jg(hr:IxR X r)(hd:OpD K mg r k.G)(ha:DE K mg X ES a p)(hb:DE K mg X ES b q)(hs:vk b:=by exact λ_ _=>rfl):DE K mg X ES (.Subscript a b pos) (pOp k p q):=⟨PE.imp (Jz hr ha.ok hb.ok hs) (mU hd)⟩
def HL(ho:OpR X (compareOp op) r)(hd:OpD K mg r k.G)(ha:DE K mg X ES a p)(hb:DE K mg X ES b q)(hm:behindInMarks op b=false:=by first |exact zd _ |with_unfolding_all rfl):DE K mg X ES (.Compare a [op] [b] pos) (pOp k p q):=⟨PE.imp (Eu ho ha.ok hb.ok hm) (mU hd)⟩
def nV{Y N0 L:Addr->Prop}{b:Bool}(S1:Sat K mg Y N0 ns1 e1 σ H1)(r1:relE K mg Y N0 L σ ns1 e1 H1 d1 t1)(q:bOf (rs e1 t1)=some b):d1=.bl b:=by
 unfold bOf at q;split at q
 .rename_i b' q';cases q;exact (r1.sh S1 q').bl
 .cases q
def vt(σ:St)(H:Hp)(Q:Bool->Hp->Prop):rdT K mg ES (qOf F).G σ H Q->rdE K mg ES F.G σ H λx H'=>∃k,x=.bl k/\Q k H':=λzz=>zz.el λY N0 ns e S p=>
 ⟨Y,
  N0,λ_=>True,ns,e,S,λ_ _=>trivial,PG3.imp p S λt1 e1 ns1 H1 a1 S1 p1 x r1=>by
  try dsimp only at p1
  split at p1
  .rename_i b q;exact⟨b,nV S1 r1 q,p1.ret S1⟩
  .exact p1.elim⟩
def Fj(ho:OpR X (compareOp op) r)(hd:OpD K mg r k.G)(ha:DE K mg X ES a p)(hb:DE K mg X ES b q)(hm:behindInMarks op b=false:=by first |exact zd _ |with_unfolding_all rfl):DT K mg X ES (.Compare a [op] [b] pos) (qOf (pOp k p q)):=
 ⟨PT.imp (C5 ho ha.ok hb.ok hm) λσ H Q z=>mU hd σ H _ (vt σ H Q z)⟩
def se(ha:DE K mg X ES a p)(he:∀whole,isTrue a X.env whole=(do let v <- whole;standAt a.pos;holding [v] (truthy v)):=by intro _;rfl):DT K mg X ES a (qOf p):=⟨PT.imp (Fb ha.ok he) λσ H Q z=>vt σ H Q z⟩
def nB(ha:DT K mg X ES a t):DT K mg X ES (.UnaryOp .Not a pos) (qNo t):=⟨PT.imp (HJ ha.ok) λσ H Q zz=>zz.el λY N0 ns e S p=>⟨Y,N0,ns,e,S,PG3.imp p S λb e1 ns1 H1 a1 S1 p1=>p1.ret S1⟩⟩
def EJ(ha:DT K mg X ES a t):DW K mg X ES (.BoolOp .And [a] pos) t:=⟨Ez ha.ok⟩
def xO(ha:DT K mg X ES a t):DW K mg X ES (.BoolOp .Or [a] pos) t:=⟨Ha ha.ok⟩
def Hq(ha:DT K mg X ES a t)(hb:DW K mg X ES (.BoolOp .And (b::es) pos) u):DW K mg X ES (.BoolOp .And (a::b::es) pos) (qAn t u):=⟨PW.imp (Gs ha.ok hb.ok) λσ H Q zz=>zz.el λY N0 ns e S p=>
 ⟨Y,N0,ns,e,S,PG3.imp p S λb e1 ns1 H1 a1 S1 p1=>by
  cases b with
  |true=>exact⟨Y,N0,ns1,e1,S1,p1⟩
  |false=>exact p1.ret S1⟩⟩
def wI(ha:DT K mg X ES a t)(hb:DW K mg X ES (.BoolOp .Or (b::es) pos) u):DW K mg X ES (.BoolOp .Or (a::b::es) pos) (qO t u):=⟨PW.imp (Ki ha.ok hb.ok) λσ H Q zz=>zz.el λY N0 ns e S p=>
 ⟨Y,N0,ns,e,S,PG3.imp p S λb e1 ns1 H1 a1 S1 p1=>by
  cases b with
  |true=>exact p1.ret S1
  |false=>exact⟨Y,N0,ns1,e1,S1,p1⟩⟩⟩
def ZW.dt(h:DW K mg X ES a t):DT K mg X ES a t:=⟨h.ok.pt⟩
def zt_w{op}(h:DW K mg X ES (.BoolOp op es pos) t):DT K mg X ES (.BoolOp op es pos) t:=ZW.dt h
def FL{op}(h:DE K mg X ES a p):DE K mg X ES (.BoolOp op [a] pos) p:=⟨HZ h.ok⟩
def Hn(ha:DE K mg X ES a p)(hb:DE K mg X ES (.BoolOp .And (b::es) pos) q):DE K mg X ES (.BoolOp .And (a::b::es) pos) (fE p q):=⟨PE.imp (HG ha.ok hb.ok) λσ H Q zz=>zz.el λY N0 L ns e S hl p=>
 ⟨Y,N0,L,ns,e,S,hl,PG3.imp p S λt e1 ns1 H1 a1 S1 p1 x r1=>by
  try dsimp only at p1
  split at p1
  .rename_i z;exact⟨true,nV S1 r1 z,Y,N0,L,ns1,e1,S1,λa z=>hl a (a1.dom a z),p1⟩
  .rename_i z;exact⟨false,nV S1 r1 z,p1.ret S1 _ (.bl false)⟩
  .exact p1.elim⟩⟩
def GW(ha:DE K mg X ES a p):DE K mg X ES (.UnaryOp .Not a pos) (lX p):=⟨PE.imp (FU ha.ok) λσ H Q zz=>zz.el λY N0 L ns e S hl p=>
 ⟨Y,N0,L,ns,e,S,hl,PG3.imp p S λt e1 ns1 H1 a1 S1 p1 x r1=>by
  try dsimp only at p1
  split at p1
  .rename_i z;exact⟨_,nV S1 r1 z,p1.ret S1 _ (.bl _)⟩
  .exact p1.elim⟩⟩
def IT(hc:DT K mg X ES c t)(ha:DE K mg X ES a p)(hb:DE K mg X ES b q):DE K mg X ES (.IfExp c a b pos) (pIf t p q):=⟨PE.imp (BN hc.ok ha.ok hb.ok) λσ H Q zz=>zz.el λY N0 L ns e S hl p=>
 ⟨Y,N0,ns,e,S,PG3.imp p S λb e1 ns1 H1 a1 S1 p1=>by
  cases b with
  |true=>exact⟨Y,N0,L,ns1,e1,S1,λa z=>hl a (a1.dom a z),p1⟩
  |false=>exact⟨Y,N0,L,ns1,e1,S1,λa z=>hl a (a1.dom a z),p1⟩⟩⟩
def JQ{k:PU1}(ho:UnR X (unaryOp op) r)(hd:UnD K mg r k.G)(ha:DE K mg X ES a p):DE K mg X ES (.UnaryOp op a pos) (pUn k p):=⟨PE.imp (Ik ho ha.ok) λσ H Q zz=>zz.el λY N0 L ns e S hl p=>
 ⟨Y,N0,L,ns,e,S,hl,PG3.imp p S λt e1 ns1 H1 a1 S1 p1 x r1=>by
  try dsimp only at p1
  split at p1
  .rename_i v z;exact hd _ _ _ _ _ (r1.sh S1 z) (p1.bv S1 λa z=>hl a (a1.dom a z))
  .exact p1.elim⟩⟩
def yA:DA K mg X ES [] ag:=⟨PA.imp Gw λσ H Q zz=>zz.el λY N0 ns e S p=>PG3.ret p S _ .nil⟩
def bq(ha:DE K mg X ES e p)(hr:DA K mg X ES es A)(hs:starEach (e::es) X.env=(false,eval e X.env)::starEach es X.env:=by rfl):DA K mg X ES (e::es) (aa p A):=⟨PA.imp (EL ha.ok hr.ok hs) λσ H Q zz=>zz.el λY N0 ns e S p=>
 ⟨Y,N0,λ_=>True,ns,e,S,λ_ _=>trivial,PG3.imp p S λt e1 ns1 H1 a1 S1 p1 x r1=>⟨Y,N0,ns1,e1,S1,PG3.imp p1 S1 λts e2 e_ H2 a2 S2 p2 xs r2=>p2.ret S2 _ (by
  have r3:=r1.drop a2;generalize hg:t.drop=t' at *;cases t' with
  |val v=>exact .val r3 r2
  |new v=>cases t <;> cases hg
  |bor i=>exact .bor r3 r2)⟩⟩⟩
def zB{x1}(h:DA K mg X ES es A):DE K mg X ES (.Tuple es x1 pos) (aH A):=⟨PE.imp (Fi h.ok) λσ H Q zz=>zz.el λY N0 L ns e S hl p=>
 ⟨Y,
  N0,ns,e,S,PG3.imp p S λts e1 ns1 H1 a1 S1 p1 xs r1=>by
  try dsimp only at p1
  split at p1
  .rename_i e2 vs q;split at p1
   .rename_i hv;obtain⟨e_,S2,a2,r2⟩:=i5 S1 r1 q;exact⟨by rw[r2.len];exact hv,λp hp=>p1 _ e_ (a2.trans S1 (.gr (Gr.upd hp))) (S2.gr (Gr.upd hp)) _ (.tup (SqT.of aU) (r2.mono (Gr.upd hp).mov))⟩
   .exact p1.elim
  .exact p1.elim⟩⟩
def yr(h:DA K mg X ES es A):DE K mg X ES (.List es pos) (aY A):=⟨PE.imp (HU h.ok) λσ H Q zz=>zz.el λY N0 L ns e S hl p=>
 ⟨Y,
  N0,ns,e,S,PG3.imp p S λts e1 ns1 H1 a1 S1 p1 xs r1=>by
  try dsimp only at p1
  split at p1
  .rename_i e2 vs q;split at p1
   .rename_i hv;obtain⟨e_,S2,a2,r2⟩:=i5 S1 r1 q;refine⟨by rw[r2.len];exact hv,λp hp=>PG3.bv (b:=.new (.lst vs)) (e:=e2) (X:=Y) (N0:=N0) (L:=L) (E:=ES σ) (λH' ns' a' S'=>p1 H' ns' (a2.trans S1 a') S') S2 (λa z=>hl a (a1.dom a z)) H1 p _ .refl hp trivial (.lst r2)⟩
   .exact p1.elim
  .exact p1.elim⟩⟩
def xD{g:PBf}(hd:eN K mg r g.G)(σ:St)(H:Hp)(Q:VK):rdE K mg ES (pFn g A).G σ H Q->tCB r (rdA K mg ES A.G) σ H Q:=λzz=>zz.el λY N0 L ns e S hl p=>
 ⟨Y,
  N0,ns,e,S,PG3.imp p S λts e1 ns1 H1 a1 S1 p1 xs r1=>by
  try dsimp only at p1
  split at p1
  .rename_i vs q;exact hd _ _ _ _ _ (r1.sh S1 q) (p1.bv S1 λa z=>hl a (a1.dom a z))
  .exact p1.elim⟩
def eP{id:String}{r:List V->Hp->VK->Prop}{k:PBf}{x:Str}{p0:Pos}(hc:CallR X (.builtin id) r)(hd:eN K mg r k.G)(hg:Gl X x)(hm:mg x=none)(hv:bootBuiltins x=some (.builtin id))(ha:DA K mg X ES (e::es) A)(hk:X.mg=mg:=by rfl)(hn:x ≠ "__name__":=by decide)(hdb:(x==("__debug__" : Str))=false:=by decide)
 (he:starEach (e::es) X.env=(false,eval e X.env)::starEach es X.env:=by rfl) (hpl:(backTo pos (starEach es X.env)).any (·.1)=false:=by rfl):DE K mg X ES (.Call (.Name x p0) (e::es) [] pos) (pFn k A):=by
 subst hk;exact⟨PE.imp (Bh hc hg hm hv ha.ok hn hdb he hpl) (xD hd)⟩
def qH{id:String}{r:List V->Hp->VK->Prop}{k:PBf}{x:Str}{p0:Pos}(hc:CallR X (.type id) r)(hd:eN K mg r k.G)(hg:Gl X x)(hm:mg x=none)(hv:bootBuiltins x=some (.type id))(ha:DA K mg X ES (e::es) A)(hk:X.mg=mg:=by rfl)(hn:x ≠ "__name__":=by decide)(hdb:(x==("__debug__" : Str))=false:=by decide)
 (he:starEach (e::es) X.env=(false,eval e X.env)::starEach es X.env:=by rfl) (hpl:(backTo pos (starEach es X.env)).any (·.1)=false:=by rfl):DE K mg X ES (.Call (.Name x p0) (e::es) [] pos) (pFn k A):=by
 subst hk;exact⟨PE.imp (zf hc hg hm hv ha.ok hn hdb he hpl) (xD hd)⟩
end
inductive Rt where
 |val (v:Val) |new (v:Val) |par (i:Nat) |pr (v u:Val)
inductive SR3 where
 |nx (e:E3) |rt (r:Rt) (e:E3) |bk (e:E3) |ct (e:E3) |exc (c:Str) (e:E3) |stuck
abbrev MS3:=E3->SR3
section
variable(K:W.Frag)(mg:Na)
def RtR(X N0:Addr->Prop)(ns:Ns)(e:E3)(σ:St)(H:Hp)(d:V):Rt->Prop
 |.val v=>Sat K mg X N0 ns e σ H/\Rd K mg (Oc X ns) H d v
 |.new v=>∃n o,d=.ref n/\N0 n/\¬ X n/\H n=some o/\NotFz o/\Sat K mg (Xn X n) N0 ns e σ H/\Rc K mg (Oc (Xn X n) ns) H o v
 |.par i=>Sat K mg X N0 ns e σ H/\σ[i]?=some (some d)/\∃v,e[i]?=some (.mu v)
 |.pr v u=>∃p d1 n o,d=.ref p/\SqT K H p [d1,.ref n]/\N0 n/\¬ X n/\H n=some o/\NotFz o/\Sat K mg (Xn X n) N0 ns e σ H/\Rd K mg (Oc (Xn X n) ns) H d1 v/\Rc K mg (Oc (Xn X n) ns) H o u
def PS3(X N0:Addr->Prop)(ns:Ns)(e:E3)(H:Hp)(D:Ends)(ES:St->XK):SR3->Prop
 |.nx e'=>∀H' σ' ns',Stp ns e H ns' e' H'->Sat K mg X N0 ns' e' σ' H'->D.nx σ' H'
 |.bk e'=>∀H' σ' ns',Stp ns e H ns' e' H'->Sat K mg X N0 ns' e' σ' H'->D.bk σ' H'
 |.ct e'=>∀H' σ' ns',Stp ns e H ns' e' H'->Sat K mg X N0 ns' e' σ' H'->D.ct σ' H'
 |.rt r e'=>∀H' σ' ns' x,Stp ns e H ns' e' H'->RtR K mg X N0 ns' e' σ' H' x r->D.rt x H'
 |.exc c e'=>∀H' σ' ns' C,Stp ns e H ns' e' H'->Sat K mg X N0 ns' e' σ' H'->mg c=some (.ref C)->ES σ' (.ref C) none H'
 |.stuck=>False
def rdS(ES:St->XK)(G:MS3):TS:=λD σ H=>∃X N0 ns e,Sat K mg X N0 ns e σ H/\PS3 K mg X N0 ns e H D ES (G e)
end
def rdS.el{K:W.Frag}{mg:Na}{ES:St->XK}{σ:St}{H:Hp}{Z:Prop}{G:MS3}{D:Ends}(h:rdS K mg ES G D σ H)(k:∀X N0 ns e,Sat K mg X N0 ns e σ H->PS3 K mg X N0 ns e H D ES (G e)->Z):Z:=by obtain⟨X,N0,ns,e,S,p⟩:=h;exact k X N0 ns e S p
noncomputable def R3.toS {α:Type} (r:R3 α) (f:α->E3->SR3):SR3:=match r with
 |.ok a e=>f a e
 |.exc c e=>.exc c e
 |.stuck=>.stuck
noncomputable def SR3.then (r:SR3) (f:E3->SR3):SR3:=match r with
 |.nx e=>f e
 |r=>r
noncomputable def wSeq (F G:MS3) (e:E3):SR3:=(F e).then G
noncomputable def wIf (c:MT3) (F G:MS3) (e:E3):SR3:=(c e).toS λb e1=>if b=true then F e1 else G e1
noncomputable def oo (t:Tm) (e:E3):SR3:=match t with
 |.val v=>.rt (.val v) e
 |.new v=>.rt (.new v) e
 |.bor i=>match e[i]? with
  |some (.sh v)=>.rt (.val v) e
  |some (.ow v)=>.rt (.new v) (e.set i .no)
  |some (.mu _)=>.rt (.par i) e
  |_=>.stuck
noncomputable def jV (o:Bool) (i:Nat) (t:Tm) (e:E3):SR3:=match e[i]? with
 |some s0=>if s0.pl=true then (match t with
  |.val v=>.nx (e.set i (.sh v))
  |.new v=>.nx (e.set i (if o=true then .ow v else .sh v))
  |.bor j=>match cE e (.bor j) with
   |some (e2,v)=>.nx (e2.set i (.sh v))
   |none=>.stuck) else .stuck
 |none=>.stuck
abbrev MG3:=Val->E3->Option E3
abbrev km:=List Val->E3->Option E3
noncomputable def pN (i:Nat):MG3:=λv e=>match e[i]? with
 |some s=>if s.pl=true then some (e.set i (.sh v)) else none
 |none=>none
noncomputable def psN:km:=λvs e=>match vs with
 | []=>some e
 |_=>none
noncomputable def psC (g:MG3) (u:km):km:=λvs e=>match vs with
 |v::r=>(g v e).bind λe1=>u r e1
 | []=>none
noncomputable def pT (n:Nat) (u:km):MG3:=λv e=>match v with
 |.tup vs=>if vs.length=n then u vs e else none
 |_=>none
noncomputable def Jt (F:ME3) (g:MG3) (e:E3):SR3:=(F e).toS λt e1=>match cE e1 t with
 |some (e2,v)=>match g v e2 with
  |some e3=>.nx e3
  |none=>.stuck
 |none=>.stuck
noncomputable def wPar (i j:Nat) (A:MA3) (e:E3):SR3:=(A e).toS λts e1=>match dem e1 ts with
 |some (e2,[v,u])=>match (pN i v e2).bind (pN j u) with
  |some e3=>.nx e3
  |none=>.stuck
 |_=>.stuck
noncomputable def AA (i:Nat) (g:Val->Val->Bv) (F:ME3) (e:E3):SR3:=match e[i]? with
 |some (.sh x)=>(F e).toS λt e1=>match rs e1 t with
  |some y=>match g x y with
   |.val z=>match pN i z e1 with
    |some e2=>.nx e2
    |none=>.stuck
   |_=>.stuck
  |none=>.stuck
 |_=>.stuck
noncomputable def Gp (c:Str) (A:MA3) (e:E3):SR3:=(A e).toS λts e1=>if ts.length<=16777216 then .exc c e1 else .stuck
structure PSt where
 t:Nat
 G:MS3
structure PGt where
 t:Nat
 G:MG3
structure PGs where
 t:Nat
 G:km
noncomputable def xNx:PSt:=⟨1,.nx⟩
noncomputable def xCt:PSt:=⟨3,.ct⟩
noncomputable def ak (a:PEx):PSt:=⟨5,λe=>(a.G e).toS oo⟩
noncomputable def cB (a:PEx):PSt:=⟨6,λe=>(a.G e).toS λ_ e1=>.nx e1⟩
noncomputable def aj (a b:PSt):PSt:=⟨7,wSeq a.G b.G⟩
noncomputable def xIf (c:PTs) (a b:PSt):PSt:=⟨8,wIf c.G a.G b.G⟩
noncomputable def ax (o:Bool) (i:Nat) (a:PEx):PSt:=⟨9,λe=>(a.G e).toS (jV o i)⟩
noncomputable def gtN (i:Nat):PGt:=⟨1,pN i⟩
noncomputable def cQ:PGs:=⟨1,psN⟩
noncomputable def aM (a:PGt) (b:PGs):PGs:=⟨2,psC a.G b.G⟩
noncomputable def gtT (n:Nat) (a:PGs):PGt:=⟨2,pT n a.G⟩
noncomputable def eu (a:PEx) (g:PGt):PSt:=⟨10,Jt a.G g.G⟩
noncomputable def iS (i j:Nat) (a:PAs):PSt:=⟨11,wPar i j a.G⟩
noncomputable def B3 (i:Nat) (o:PO2) (a:PEx):PSt:=⟨12,AA i o.G a.G⟩
noncomputable def eM (c:Str) (a:PAs):PSt:=⟨13,Gp c a.G⟩
noncomputable def xNo:PSt:=⟨14,λ_=>.stuck⟩
section
variable{K:W.Frag}{mg:Na}{X N0:Addr->Prop}{ns ns1:Ns}{e e1:E3}{σ:St}{H H1:Hp}{De:Ends}{ES:St->XK}
def PS3.after(p:PS3 K mg X N0 ns e H De ES r)(S:Sat K mg X N0 ns e σ H)(a:Stp ns e H ns1 e1 H1):PS3 K mg X N0 ns1 e1 H1 De ES r:=by
 cases r with
 |stuck=>exact p
 |nx e'=>exact λH' σ' ns' b S'=>p H' σ' ns' (a.trans S b) S'
 |bk e'=>exact λH' σ' ns' b S'=>p H' σ' ns' (a.trans S b) S'
 |ct e'=>exact λH' σ' ns' b S'=>p H' σ' ns' (a.trans S b) S'
 |exc c e'=>exact λH' σ' ns' C b S'=>p H' σ' ns' C (a.trans S b) S'
 |rt r e'=>exact λH' σ' ns' x b S'=>p H' σ' ns' x (a.trans S b) S'
def PS3.toS{α:Type}{r:R3 α}{f:α->E3->SR3}{k:α->E3->Ns->Hp->Prop}(p:PS3 K mg X N0 ns e H De ES (r.toS f))(S:Sat K mg X N0 ns e σ H)
 (i:∀t e1 ns1 H1,Stp ns e H ns1 e1 H1->Sat K mg X N0 ns1 e1 σ H1->PS3 K mg X N0 ns e H De ES (f t e1)->k t e1 ns1 H1):PG3 K mg X N0 ns e σ H (ES σ) k r:=by
 cases r with
 |stuck=>exact p
 |exc c e'=>exact λH' ns' C a S' m=>p H' σ ns' C a S' m
 |ok t e'=>exact λH' ns' a S'=>i t e' ns' H' a S' p
def PS3.then{r:SR3}{f:E3->SR3}{N:St->Hp->Prop}(p:PS3 K mg X N0 ns e H De ES (r.then f))(S:Sat K mg X N0 ns e σ H)
 (i:∀e1 ns1 σ1 H1,Stp ns e H ns1 e1 H1->Sat K mg X N0 ns1 e1 σ1 H1->PS3 K mg X N0 ns1 e1 H1 De ES (f e1)->N σ1 H1):PS3 K mg X N0 ns e H { De with nx:=N } ES r:=by
 cases r with
 |nx e'=>exact λH' σ' ns' a S'=>i e' ns' σ' H' a S' (PS3.after p S a)
 |stuck=>exact p
 |bk e'=>exact p
 |ct e'=>exact p
 |exc c e'=>exact p
 |rt r e'=>exact p
def PS3.nx(p:PS3 K mg X N0 ns e H De ES (.nx e))(S:Sat K mg X N0 ns e σ H):De.nx σ H:=p H σ ns .refl S
def mQ{d:V}{v:Val}{e':E3}(S:Sat K mg X N0 ns e σ H)(r:Rd K mg (Oc X ns) H d v)(q:pN i v e=some e'):Sat K mg X N0 (ns.set i none) e' (σ.set i (some d)) H/\Stp ns e H (ns.set i none) e' H:=by
 unfold pN at q;split at q
 .rename_i s q0;split at q
  .rename_i p0;cases q;have hi:=(u_.mp q0).1;exact⟨S.putN hi ⟨rfl,d,rfl,Rd.mono (.of λm p=>fT p) r⟩,Stp.refl.put (x:=none) (s:=.sh v) hi (λ_ z=>by cases z) q0 p0 rfl S.l2⟩
  .cases q
 .cases q
end
section
variable(K:W.Frag)(mg:Na)(X:Cx)(ES:St->XK)
structure DS(st:Stmt)(F:PSt):Prop where
 ok:PS X st (rdS K mg ES F.G)
structure DSs(st:List Stmt)(F:PSt):Prop where
 ok:PSs X st (rdS K mg ES F.G)
def rdG(g:MG3):TG:=λv σ H Q=>∃Y N0 ns e u e',Sat K mg Y N0 ns e σ H/\Rd K mg (Oc Y ns) H v u/\g u e=some e'/\∀σ' ns',Stp ns e H ns' e' H->Sat K mg Y N0 ns' e' σ' H->Q σ' H
def rdGs(g:km):TGs:=λvs σ H Q=>∃Y N0 ns e us e',Sat K mg Y N0 ns e σ H/\Rds K mg (Oc Y ns) H vs us/\g us e=some e'/\∀σ' ns',Stp ns e H ns' e' H->Sat K mg Y N0 ns' e' σ' H->Q σ' H
def rdG.el{K:W.Frag}{mg:Na}{g:MG3}(h:rdG K mg g v σ H Q){Z:Prop}(k:∀Y N0 ns e u e',Sat K mg Y N0 ns e σ H->Rd K mg (Oc Y ns) H v u->g u e=some e'->(∀σ' ns',Stp ns e H ns' e' H->Sat K mg Y N0 ns' e' σ' H->Q σ' H)->Z):Z:=by obtain⟨Y,N0,ns,e,u,e',S,r,q,p⟩:=h;exact k Y N0 ns e u e' S r q p
def rdGs.el{K:W.Frag}{mg:Na}{g:km}(h:rdGs K mg g v σ H Q){Z:Prop}(k:∀Y N0 ns e us e',Sat K mg Y N0 ns e σ H->Rds K mg (Oc Y ns) H v us->g us e=some e'->(∀σ' ns',Stp ns e H ns' e' H->Sat K mg Y N0 ns' e' σ' H->Q σ' H)->Z):Z:=by obtain⟨Y,N0,ns,e,u,e',S,r,q,p⟩:=h;exact k Y N0 ns e u e' S r q p
structure DG(e:Expr)(g:PGt):Prop where
 ok:PG X e (rdG K mg g.G)
structure DGs(es:List Expr)(g:PGs):Prop where
 ok:L2.PGs X es (rdGs K mg g.G)
def rf:Prop:=∀(pins:Nb) (σ:St) (H:Hp) (s:Shared) (e:Value) (s':Shared),Inv X pins σ H s->CX1 X.prog X.w X.stack H s (ES σ) e s'->X.xe e s'
end
section
variable{K:W.Frag}{mg:Na}{X:Cx}{ES:St->XK}{e a b c o i:Expr}{es:List Expr}{st:Stmt}{sts sts':List Stmt}{p q:PEx}{A:PAs}{t:PTs}{x y:PSt}{g:PGt}{gs:PGs}{pos:Pos}
def Dq:DSs K mg X ES [] xNx:=⟨PSs.imp Dm λD σ H zz=>zz.el λY N0 ns e S p=>PS3.nx p S⟩
def cJ(h1:DS K mg X ES st x):DSs K mg X ES [st] x:=⟨DV h1.ok⟩
def ao(h1:DS K mg X ES st x)(h2:DSs K mg X ES sts y):DSs K mg X ES (st::sts) (aj x y):=⟨PSs.imp (AD h1.ok h2.ok) λD σ H zz=>zz.el λY N0 ns e S p=>
 ⟨Y,N0,ns,e,S,PS3.then p S λe1 ns1 σ1 H1 a1 S1 p1=>⟨Y,N0,ns1,e1,S1,p1⟩⟩⟩
def uu:DS K mg X ES (.Continue pos) xCt:=⟨PS.imp uw λD σ H zz=>zz.el λY N0 ns e S p=>p H σ ns .refl S⟩
def u7(he:DE K mg X ES e p)(hs:swapsWith e none pos.line X.env=pure false:=by rfl):DS K mg X ES (.Expr e pos) (cB p):=⟨PS.imp (C7 he.ok hs) λD σ H zz=>zz.el λY N0 ns e S p=>
 ⟨Y,N0,λ_=>True,ns,e,S,λ_ _=>trivial,PS3.toS p S λt e1 ns1 H1 a1 S1 p1 x r1=>p1 H1 σ ns1 a1 S1⟩⟩
def jN(hc:DT K mg X ES c t)(ha:DSs K mg X ES sts x)(hb:DSs K mg X ES sts' y):DS K mg X ES (.If c sts sts' pos) (xIf t x y):=⟨PS.imp (Kh hc.ok ha.ok hb.ok) λD σ H zz=>zz.el λY N0 ns e S p=>
 ⟨Y,N0,ns,e,S,PS3.toS p S λb e1 ns1 H1 a1 S1 p1=>by
  cases b with
  |true=>exact⟨Y,N0,ns1,e1,S1,PS3.after p1 S a1⟩
  |false=>exact⟨Y,N0,ns1,e1,S1,PS3.after p1 S a1⟩⟩⟩
def iu(he:DE K mg X ES e p):DS K mg X ES (.Return (some e) pos) (ak p):=⟨PS.imp (HC he.ok) λD σ H zz=>zz.el λY N0 ns e S p=>
 ⟨Y,
  N0,N0,ns,e,S,S.lh,PS3.toS p S λt e1 ns1 H1 a1 S1 p1 x r1=>by
  cases t with
  |val v=>exact p1 H1 σ ns1 x a1 ⟨S1,r1⟩
  |new v=>exact p1 H1 σ ns1 x a1 r1
  |
   bor i=>
   have r':σ[i]?=some (some x):=r1;unfold oo at p1;try dsimp only at p1
   split at p1
   .rename_i v q;obtain⟨_,x',e1',e2⟩:=S1.sl i _ q;rw[r'] at e1';cases e1';exact p1 H1 σ ns1 x a1 ⟨S1,e2⟩
   .rename_i v q;obtain⟨n,o,q1,q2,q3,q4,q5,q6⟩:=S1.sl i _ q;rw[r'] at q2;cases q2;have hi:=(u_.mp q).1;have hn:i<ns1.length:=by rw[S1.l2];exact hi
    have mv:Mov (Oc Y ns1) (Oc (Xn Y n) (ns1.set i none)) H1 H1:=.of λm p=>⟨λz=>by
     rcases z with z |rfl
     .exact p.1 z
     .exact p.2 (aW.mpr ⟨i,q1⟩),(fT p).2⟩
    have S2:=S1.putN' hi (s:=.no) rfl;refine p1 H1 σ (ns1.set i none) _ (a1.put (x:=none) hi (λ_ z=>by cases z) q rfl rfl S1.l2) ⟨n,o,rfl,q3,S1.nx i n q1,q4,q5,⟨S2.l1,S2.l2,S2.lh,λm z=>?_,S2.inj,λj m qj z=>?_,λj s qj=>?_,S2.bs⟩,q6.mono mv⟩
    .rcases z with z |rfl
     .exact S2.xl m z
     .exact⟨_,q4⟩
    .rcases z with z |rfl
     .exact S2.nx j m qj z
     .rcases bG hn qj with ⟨_,y⟩ |⟨y,z⟩
      .cases y
      .exact y (S1.inj j i _ z q1)
    .rcases bG hi qj with ⟨rfl,rfl⟩ |⟨z,qj'⟩
     .rw[cZ hn];rfl
     .rw[cD z];exact (S1.sl j s qj').mono mv λ_ _ _ q _=>q
   .rename_i v q;exact p1 H1 σ ns1 x a1 ⟨S1,r',v,q⟩
   .exact p1.elim⟩⟩
def zO{ow:Bool}{i:Nat}(D:Ends)(σ:St)(H:Hp):rdS K mg ES (ax ow i p).G D σ H->wL (rdE K mg ES p.G) (rn i) D σ H:=λzz=>zz.el λY N0 ns e S p=>
 ⟨Y,
  N0,λa=>H a=none,ns,e,S,λ_ z=>z,PS3.toS p S λt e1 ns1 H1 a1 S1 p1 d r1=>by
  unfold jV at p1;split at p1
  .rename_i s0 q0;split at p1
   .rename_i p0;have hi:=(u_.mp q0).1;cases t with
    |val v=>exact p1 H1 _ _ (a1.put (x:=none) (s:=.sh v) hi (λ_ z=>by cases z) q0 p0 rfl S1.l2) (S1.putN hi ⟨rfl,d,rfl,Rd.mono (.of λm p=>fT p) r1⟩)
    |
     new v=>
     cases ow with
     |true=>obtain⟨n,ob,rfl,q1,q2,q3,q4,q5,q6⟩:=r1;exact p1 H1 _ _ (a1.put (x:=some n) (s:=.ow v) hi (λm z=>by cases z;exact q1) q0 p0 rfl S1.l2) (Sat.putO q5 q2 hi (S.lh n q1) q3 q4 q6)
     |false=>exact p1 H1 _ _ (a1.put (x:=none) (s:=.sh v) hi (λ_ z=>by cases z) q0 p0 rfl S1.l2) (S1.putN hi ⟨rfl,d,rfl,Rd.mono (.of λm p=>fT p) r1.new⟩)
    |
     bor j=>
     try dsimp only at p1
     split at p1
     .rename_i e2 v q2;obtain⟨e_,S2,a2,r2⟩:=fS S1 r1 q2;have hq:∃s2,e2[i]?=some s2/\s2.pl=true:=by
       unfold cE at q2;dsimp only at q2;split at q2
       .cases q2;exact⟨s0,q0,p0⟩
       .rename_i u q3;cases q2;by_cases z:i=j
        .subst z;exact⟨_,cZ hi,rfl⟩
        .exact⟨s0,by rw[cD z];exact q0,p0⟩
       .cases q2
      obtain⟨s2,hq1,hq2⟩:=hq;have hi2:=(u_.mp hq1).1;exact p1 H1 _ _ ((a1.trans S a2).put (x:=none) (s:=.sh v) hi2 (λ_ z=>by cases z) hq1 hq2 rfl S2.l2) (S2.putN hi2 ⟨rfl,d,rfl,Rd.mono (.of λm p=>fT p) r2⟩)
     .exact p1.elim
   .exact p1.elim
  .exact p1.elim⟩
def GJ{ow:Bool}{i:Nat}{x:Str}{pos':Pos}(hN:X.N.Nodup)(hi:X.N[i]?=some x)(hx:Loc X.env.scope x)(he:DE K mg X ES e p)(hs:swapsWith e (some (.Name x pos')) pos.line X.env=pure false)(hf:X.fn x=true\/X.env.scope.names.lookup x=some .local):
 DS K mg X ES (.Assign [.Name x pos'] e pos) (ax ow i p):=⟨PS.imp (Fy hN hi hx he.ok hs hf) zO⟩
def Ew{i:Nat}{x:Str}(hN:X.N.Nodup)(hi:X.N[i]?=some x)(hx:Loc X.env.scope x)(hf:X.fn x=true\/X.env.scope.names.lookup x=some .local):DG K mg X (.Name x pos) (gtN i):=
 ⟨PG.imp (Ds hN hi hx hf) λv σ H Q zz=>zz.el λY N0 ns e u e' S r q k=>by obtain⟨S',a⟩:=mQ S r q;exact k _ _ a S'⟩
def DD:DGs K mg X [] cQ:=⟨PGs.imp CZ λvs σ H Q zz=>zz.el λY N0 ns e us e' S r q k=>by
 cases r with
 |nil=>cases q;exact⟨rfl,k _ _ .refl S⟩
 |cons _ _=>cases q⟩
def AJ(h1:DG K mg X e g)(h2:DGs K mg X es gs)(hs:(assignEach (e::es) X.env).map (·.2)=assign e X.env::(assignEach es X.env).map (·.2):=by rfl):DGs K mg X (e::es) (aM g gs):=
 ⟨PGs.imp (BH h1.ok h2.ok hs) λvs σ H Q zz=>zz.el λY N0 ns e us e' S r q k=>by
  cases r with
  |nil=>cases q
  |cons r rr=>obtain⟨e1,q1,q2⟩:=KU.mp q;exact⟨_,_,rfl,Y,N0,ns,e,_,e1,S,r,q1,λσ1 ns1 a1 S1=>⟨Y,N0,ns1,e1,_,e',S1,rr.mono a1.mov,q2,λσ2 e_ a2 S2=>k σ2 e_ (a1.trans S a2) S2⟩⟩⟩
def GP(hK:X.K=K)(hc:X.calm=true)(h:DGs K mg X es gs)(hn:(assignEach es X.env).length=n:=by rfl)(hst:(assignEach es X.env).findIdx? (·.1)=none:=by rfl):DG K mg X (.Tuple es k pos) (gtT n gs):=by
 subst hK;exact
  ⟨PG.imp (za hc h.ok hn hst) λv σ H Q zz=>zz.el λY N0 ns e u e' S r q k=>by
  have q:pT n gs.G u e=some e':=q;unfold pT at q;split at q
  .split at q
   .rename_i hl;obtain⟨a,vs,rfl,z,rr⟩:=ShR.tup (.inl r);exact⟨a,vs,rfl,z,by rw[rr.len];exact hl,Y,N0,ns,e,_,e',S,rr,q,k⟩
   .cases q
  .cases q⟩
def pj(he:DE K mg X ES e p)(hg:DG K mg X a g)(hs:swapsWithSole [a] e pos.line X.env=pure false:=by rfl)(hw:swappedStores [a] e X.env=pure none:=by rfl)(h1:(assignEach [a] X.env).map (·.2)=[assign a X.env]:=by rfl):DS K mg X ES (.Assign [a] e pos) (eu p g):=
 ⟨PS.imp (yM he.ok hg.ok hs hw h1) λD σ H zz=>zz.el λY N0 ns e S p=>⟨Y,N0,λ_=>True,ns,e,S,λ_ _=>trivial,PS3.toS p S λt e1 ns1 H1 a1 S1 p1 x r1=>by
  try dsimp only at p1
  split at p1
  .rename_i e2 v q;obtain⟨e_,S2,a2,r2⟩:=fS S1 r1 q;split at p1
   .rename_i e3 q3;exact⟨Y,N0,e_,e2,v,e3,S2,r2,q3,λσ' ns' a3 S3=>p1 H1 σ' ns' ((a1.trans S a2).trans S a3) S3⟩
   .exact p1.elim
  .exact p1.elim⟩⟩
def G1{i j:Nat}{x y:Str}{px py pt:Pos}{kt k2 pt2}(hN:X.N.Nodup)(ha:DA K mg X ES [a,b] A)(hc:X.calm=true:=by rfl)(hi:X.N[i]?=some x:=by rfl)(hj:X.N[j]?=some y:=by rfl)(hij:i≠j:=by decide)(hx:X.env.scope.names.lookup x=some .local:=by rfl)(hy:X.env.scope.names.lookup y=some .local:=by rfl)(hw:swappedStores [.Tuple [.Name x px,.Name y py] kt pt] (.Tuple [a,b] k2 pt2) X.env=pure (some [x,y]):=by rfl)(hs:swapsWithSole [.Tuple [.Name x px,.Name y py] kt pt] (.Tuple [a,b] k2 pt2) pos.line X.env=pure false:=by rfl):DS K mg X ES (.Assign [.Tuple [.Name x px,.Name y py] kt pt] (.Tuple [a,b] k2 pt2) pos) (iS i j A):=
 ⟨PS.imp
  (GO hc hN hi hj hij hx hy ha.ok hw hs) λD σ H zz=>zz.el λY N0 ns e S p=>⟨Y,N0,ns,e,S,PS3.toS p S λts e1 ns1 H1 a1 S1 p1 xs r1=>by
  try dsimp only at p1
  split at p1
  .rename_i e2 v u q;obtain⟨e_,S2,a2,r2⟩:=i5 S1 r1 q;split at p1
   .rename_i e3 q3;obtain⟨e4,q4,q5⟩:=KU.mp q3;cases r2 with
    |
     cons r rr=>
     cases rr with
     |cons r' rr=>cases rr;obtain⟨S3,a3⟩:=mQ S2 r q4;obtain⟨S4,a4⟩:=mQ S3 (r'.mono a3.mov) q5;exact⟨_,_,rfl,p1 H1 _ _ (((a1.trans S a2).trans S a3).trans S a4) S4⟩
   .exact p1.elim
  .exact p1.elim⟩⟩
def IpD(K:W.Frag)(mg:Na)(r:TIp)(g:Val->Val->Bv):Prop:=∀P H x y v u Q,ShR K mg P H x v->ShR K mg P H y u->BvP K mg P H Q (g v u)->r x y H Q
def Gf{i:Nat}{x:Str}{op:Operator}{ti:TIp}{pos':Pos}{k:PO2}(hN:X.N.Nodup)(he:DE K mg X ES e p)(ho:PIp X op ti)(hd:IpD K mg ti k.G)(hi:X.N[i]?=some x:=by rfl)(hx:Loc X.env.scope x:=by first |exact Or.inl rfl |exact Or.inr rfl)(hf:X.fn x=true\/X.env.scope.names.lookup x=some .local:=by first |exact .inl rfl |exact .inr rfl |assumption):DS K mg X ES (.AugAssign (.Name x pos') op e pos) (B3 i k p):=
 ⟨PS.imp
  (FQ hN hi hx he.ok ho hf) λD σ H zz=>zz.el λY N0 ns e S p=>by
  have p:PS3 K mg Y N0 ns e H D ES (AA i k.G _ e):=p;unfold AA at p;split at p
  .rename_i v q0;obtain⟨_,dx,e1,r0⟩:=S.sl i _ q0;refine⟨dx,e1,Y,N0,λ_=>True,ns,e,S,λ_ _=>trivial,PS3.toS p S λt e1 ns1 H1 a1 S1 p1 y r1=>?_⟩;try dsimp only at p1
   split at p1
   .rename_i u q1;refine hd _ _ _ _ _ _ _ (.inl (r0.mono a1.mov)) (r1.sh S1 q1) ?_;split at p1
    .rename_i z q2;rw[q2];split at p1
     .rename_i e2 q3;intro H2 dz g2 r2;obtain⟨S3,a3⟩:=mQ (S1.gr g2) r2 q3;exact p1 H2 _ _ ((a1.trans S (.gr g2)).trans S a3) S3
     .exact p1.elim
    .exact p1.elim
   .exact p1.elim
  .exact p.elim⟩
def TsR.len{Y:Addr->Prop}(r:TsR K mg Y ns σ H ds ts):ds.length=ts.length:=by
 induction r with
 |nil=>rfl
 |val _ _ ih=>rw[o_,o_,ih]
 |bor _ _ ih=>rw[o_,o_,ih]
def Ah{x:Str}{C:Addr}{E:XK}{np cpos:Pos}(hc:X.calm=true)(hR:Rz X E)(hg:Gl X x)(hm:mg x=some (.ref C))(hq:W.excIn X.K C o6 "ValueError.__new__"=true)(ha:DA K mg X (λ_=>E) (e::es) A)(hk:X.mg=mg:=by rfl)(he:starEach (e::es) X.env=(false,eval e X.env)::starEach es X.env:=by rfl)(g_:(backTo cpos (starEach es X.env)).any (·.1)=false:=by rfl)(hd:(x==("__debug__" : Str))=false:=by decide):DS K mg X (λ_=>E) (.Raise (some (.Call (.Name x np) (e::es) [] cpos)) none pos) (eM x A):=by
 subst hk;exact⟨PS.imp (BI hc hR hg hm hq ha.ok he g_ hd) λD σ H zz=>zz.el λY N0 ns e S p=>⟨Y,N0,ns,e,S,PS3.toS p S λts e1 ns1 H1 a1 S1 p1 xs r1=>by
  try dsimp only at p1
  split at p1
  .rename_i hl;exact⟨by rw[r1.len];exact hl,p1 H1 σ ns1 C a1 S1 hm⟩
  .exact p1.elim⟩⟩
end
noncomputable def Sl.re (s:Sl) (u:Val):Sl:=match s with
 |.ow _=>.ow u
 |.mu _=>.mu u
 |s=>s
noncomputable def Sl.mv:Sl->Option Val
 |.ow v=>some v
 |.mu v=>some v
 |_=>none
section
variable{K:W.Frag}{mg:Na}{X N0:Addr->Prop}{ns:Ns}{e:E3}{σ:St}{H:Hp}
def Sat.write(S:Sat K mg X N0 ns e σ H)(q:e[i]?=some s)(hm:s.mv=some u):∃n o,σ[i]?=some (some (.ref n))/\ns[i]?=some (some n)/\H n=some o/\NotFz o/\Rc K mg (Oc X ns) H o u/\
 ∀o' u',NotFz o'->Rc K mg (Oc X ns) H o' u'->Mov (Oc X ns) (Oc X ns) H (upd H n o')/\Sat K mg X N0 ns (e.set i (s.re u')) σ (upd H n o')/\Stp ns e H ns (e.set i (s.re u')) (upd H n o'):=by
 have hi:=(u_.mp q).1;have key:∃n o,ns[i]?=some (some n)/\σ[i]?=some (some (.ref n))/\H n=some o/\NotFz o/\Rc K mg (Oc X ns) H o u/\s.mt=true/\(∀o' u',NotFz o'->Rc K mg (Oc X ns) (upd H n o') o' u'->SlR K mg (Oc X ns) N0 (some (some n)) (some (some (.ref n))) (upd H n o') (s.re u')):=by
  have y:=S.sl i s q;cases s with
  |ow v=>cases hm;obtain⟨n,o,q1,q2,q3,q4,q5,q6⟩:=y;exact⟨n,o,q1,q2,q4,q5,q6,rfl,λo' u' hf r=>⟨n,o',rfl,rfl,q3,aU,hf,r⟩⟩
  |mu v=>cases hm;obtain⟨n,o,q1,q2,q4,q5,q6⟩:=y;exact⟨n,o,q1,q2,q4,q5,q6,rfl,λo' u' hf r=>⟨n,o',rfl,rfl,aU,hf,r⟩⟩
  |_=>cases hm
 obtain⟨n,o,k1,k2,k3,k4,k5,k6,k7⟩:=key;refine⟨n,o,k2,k1,k3,k4,k5,λo' u' hf r=>?_⟩;have up:∀m,m≠n->upd H n o' m=H m:=λm z=>aG z;have mv:Mov (Oc X ns) (Oc X ns) H (upd H n o'):=⟨LeH.wr k3 k4,λm ob p q' _=>⟨p,by rw[up m λz=>p.2 (aW.mpr ⟨i,by rw[z];exact k1⟩)];exact q'⟩⟩;have dom:∀a,upd H n o' a=none->H a=none:=λa z=>by rw[up a λy=>by subst y;rw[aU] at z;cases z] at z;exact z
 refine⟨mv,⟨by rw[KO];exact S.l1,by rw[KO];exact S.l2,λa z=>S.lh a (dom a z),λm z=>?_,S.inj,S.nx,λj s' qj=>?_,S.bs.wr k3 k4⟩,?_⟩
 .by_cases y:m=n
  .subst y;exact⟨o',aU⟩
  .rw[up m y];exact S.xl m z
 .rcases bG hi qj with ⟨rfl,rfl⟩ |⟨z,qj'⟩
  .rw[k1,k2];exact k7 o' u' hf (r.mono mv)
  .refine (S.sl j s' qj').mono mv λm ob qm qo _=>?_;rw[up m λy=>by subst y;exact z (S.inj j i m qm k1)];exact qo
 .refine⟨mv.le,dom,λm ob qm _ hM=>?_,λ_ _ q=>.inl q,λj s' qj hl=>?_,λj s' qj hl=>?_,λj v qj=>?_,λj v qj=>?_⟩
  .rw[up m λy=>by subst y;exact hM ⟨i,s,k1,q,k6⟩];exact qm
  .have z:j≠i:=λz=>by subst z;rw[q] at qj;cases qj;cases s <;> first |cases hl;done |cases k6;done
   rw[cD z];exact⟨qj,rfl⟩
  .rcases bG hi qj with ⟨_,y⟩ |⟨z,qj'⟩
   .subst y;cases s <;> first |cases hl;done |cases k6;done
   .exact⟨qj',rfl⟩
  .rcases bG hi qj with ⟨rfl,y⟩ |⟨z,qj'⟩
   .cases s with
    |mu w=>exact⟨w,q,rfl⟩
    |ow w=>cases y
    |_=>cases k6
   .exact⟨v,qj',rfl⟩
  .by_cases z:j=i
   .subst z;rw[q] at qj;cases qj;exact⟨u',cZ hi,rfl⟩
   .exact⟨v,by rw[cD z];exact qj,rfl⟩
end
noncomputable def wSet (i:Nat) (G:ME3) (F:ME3) (w:Val->Val->Val->Option Val) (e:E3):SR3:=(F e).toS λt e1=>match (e1[i]?).bind Sl.mv with
 |none=>.stuck
 |some _=>(G e1).toS λt2 e2=>match rs e2 t2 with
  |none=>.stuck
  |some vi=>match cE e2 t.drop with
   |none=>.stuck
   |some (e3,v)=>match e3[i]? with
    |none=>.stuck
    |some s=>match s.mv with
     |none=>.stuck
     |some u=>match w u vi v with
      |some u'=>.nx (e3.set i (s.re u'))
      |none=>.stuck
noncomputable def kJ:Val->Bool
 |.lst _=>true
 |_=>false
noncomputable def xu (i:Nat) (m:Val->List Val->Option (Val×Val)) (vs:List Val) (e2:E3):R3 Tm:=match e2[i]? with
 |some s2=>match s2.mv with
  |some u=>match m u vs with
   |some (u',v)=>.ok (.val v) (e2.set i (s2.re u'))
   |none=>.stuck
  |none=>.stuck
 |none=>.stuck
noncomputable def A1 (i:Nat) (m:Val->List Val->Option (Val×Val)) (A:MA3) (e:E3):R3 Tm:=match e[i]? with
 |some s=>if (s.mv.map kJ)=some true then (A e).bind λts e1=>match dem e1 ts with
  |some (e2,vs)=>xu i m vs e2
  |none=>.stuck else .stuck
 |none=>.stuck
structure PSe where
 G:Val->Val->Val->Option Val
structure PMm where
 G:Val->List Val->Option (Val×Val)
noncomputable def sH (i:Nat) (w:PSe) (k a:PEx):PSt:=⟨15,wSet i k.G a.G w.G⟩
noncomputable def iQ (i:Nat) (m:PMm) (a:PAs):PEx:=⟨18,A1 i m.G a.G⟩
section
variable(K:W.Frag)(mg:Na)
def SetD(r:sV)(w:Val->Val->Val->Option Val):Prop:=∀P H n o u di vi d v u' Q,¬ P n->H n=some o->NotFz o->Rc K mg P H o u->ShR K mg P H di vi->Rd K mg P H d v->w u vi v=some u'->(∀o',NotFz o'->Rc K mg P H o' u'->Q (upd H n o'))->r (.ref n) di d H Q
def MmD(r:V->List V->Hp->VK->Prop)(m:Val->List Val->Option (Val×Val)):Prop:=∀P H n o u ds vs u' v Q,¬ P n->H n=some o->NotFz o->Rc K mg P H o u->Rds K mg P H ds vs->m u vs=some (u',v)->(∀o' y,NotFz o'->Rc K mg P H o' u'->Rd K mg P H y v->Q y (upd H n o'))->r (.ref n) ds H Q
end
section
variable{K:W.Frag}{mg:Na}{X:Cx}{ES:St->XK}{e o i:Expr}{es:List Expr}{p q:PEx}{A:PAs}{pos p1:Pos}
def yS{j:Nat}{e:E3}{s:Sl}{u:Val}(q:e[j]?=some s)(h:s.mv=some u):lZ j e=.ok (.bor j) e:=by unfold lZ;rw[q];cases s <;> first |rfl |cases h
def C8{w:PSe}{r:sV}(he:DE K mg X ES e p)(ho:DE K mg X ES o (af j))(hi:DE K mg X ES i q)(hs':BJ X r)(hd:SetD K mg r w.G)(hs:swapsWithSole [.Subscript o i p1] e pos.line X.env=pure false:=by rfl)(hw:swappedStores [.Subscript o i p1] e X.env=pure none:=by rfl)(h1:(assignEach [.Subscript o i p1] X.env).map (·.2)=[assign (.Subscript o i p1) X.env]:=by rfl)
 (ha:∀v,assign (.Subscript o i p1) X.env v=(do
  let ov <- holding [v] (eval o X.env)
  let iv <- holding [v,ov] (eval i X.env)
  standAt p1
  holding [v,ov,iv] (setItem ov iv v)
  release [v,ov,iv] []):=by intro _;rfl):DS K mg X ES (.Assign [.Subscript o i p1] e pos) (sH j w q p):=
 ⟨PS.imp
  (yM he.ok (Hb ho.ok hi.ok hs' ha) hs hw h1) λD σ H zz=>zz.el λY N0 ns e S p=>⟨Y,N0,λ_=>True,ns,e,S,λ_ _=>trivial,PS3.toS p S λt e1 ns1 H1 a1 S1 p1 x r1=>by
  try dsimp only at p1
  split at p1
  .exact p1.elim
  .rename_i u0 qm;obtain⟨s0,y1,y2⟩:=KU.mp qm;refine⟨Y,N0,λ_=>True,ns1,e1,S1,λ_ _=>trivial,?_⟩;show PG3 K mg Y N0 ns1 e1 σ H1 (ES σ) _ (lZ j e1);rw[yS y1 y2];intro H2 e_ a2 S2 ov ro;refine⟨Y,N0,λ_=>True,e_,e1,S2,λ_ _=>trivial,PS3.toS (PS3.after p1 S (a1.trans S a2)) S2 λt2 e2 ns3 H3 a3 S3 p3 iv r3=>?_⟩;try dsimp only at p3
   split at p3
   .exact p3.elim
   .rename_i vi qi;split at p3
    .exact p3.elim
    .rename_i e3 v qd;obtain⟨ns4,S4,a4,r4⟩:=fS S3 (r1.drop (a2.trans S1 a3)) qd;split at p3
     .exact p3.elim
     .rename_i s q3;split at p3
      .exact p3.elim
      .rename_i u q4;split at p3
       .rename_i u' q5;obtain⟨n,ob,k1,k0,k2,k3,k4,k5⟩:=S4.write q3 q4;have ro':σ[j]?=some (some ov):=ro;rw[k1] at ro';cases ro';refine hd (Oc Y ns4) _ _ _ _ _ _ _ _ _ _ (λz=>z.2 (aW.mpr ⟨j,k0⟩)) k2 k3 k4 ((r3.sh S3 qi).mono a4.mov .refl) r4 q5 λo' f' rc'=>?_;obtain⟨_,S5,a5⟩:=k5 o' u' f' rc';exact p3 _ _ _ ((a3.trans S2 a4).trans S2 a5) S5
       .exact p3.elim⟩⟩
def JR{P:Addr->Prop}(r:ShR K mg P H d v)(q:kJ v=true):tyV K "list" d H:=by
 cases v with
 |lst xs=>obtain⟨a,vs,rfl,h,_⟩:=r.lstL;exact .inl ⟨rfl,vs,h⟩
 |_=>cases q
def C1{Y N0 L:Addr->Prop}{ns:Ns}{e2:E3}{σ:St}{H:Hp}{k:PMm}{r:V->List V->Hp->VK->Prop}{vs:List Val}{E:XK}{Q:VK}(hd:MmD K mg r k.G)(S:Sat K mg Y N0 ns e2 σ H)(ro:σ[j]?=some (some ov))(rx:Rds K mg (Oc Y ns) H xs vs)(p:PG3 K mg Y N0 ns e2 σ H E (KE K mg Y N0 L σ Q) (xu j k.G vs e2)):r ov xs H Q:=by
 unfold xu at p;split at p
 .rename_i s2 q2;split at p
  .rename_i u q3;split at p
   .rename_i u' v q4;obtain⟨n,ob,k1,k0,k2,k3,k4,k5⟩:=S.write q2 q3;rw[k1] at ro;cases ro;refine hd (Oc Y ns) _ _ _ _ _ _ _ _ _ (λz=>z.2 (aW.mpr ⟨j,k0⟩)) k2 k3 k4 rx q4 λo' y f' rc' ry=>?_;obtain⟨mv,S4,a4⟩:=k5 o' u' f' rc';exact p _ _ a4 S4 _ (ry.mono mv)
   .exact p.elim
  .exact p.elim
 .exact p.elim
theorem C4{Y N0 L:Addr->Prop}{ns:Ns}{e:E3}{σ:St}{H:Hp}{m:Val->List Val->Option (Val×Val)}{A:MA3}{E:XK}{Q:VK}{R:V->Hp->Prop}(S:Sat K mg Y N0 ns e σ H)(p:PG3 K mg Y N0 ns e σ H E (KE K mg Y N0 L σ Q) (A1 j m A e))
 (i:∀ov ns1 H1,Stp ns e H ns1 e H1->Sat K mg Y N0 ns1 e σ H1->σ[j]?=some (some ov)->tyV K "list" ov H1->PG3 K mg Y N0 ns1 e σ H1 E (KE K mg Y N0 L σ Q) ((A e).bind λts e1=>match dem e1 ts with
 |some (e2,vs)=>xu j m vs e2
 |none=>.stuck)->R ov H1):PG3 K mg Y N0 ns e σ H E (KE K mg Y N0 L σ R) (lZ j e):=by
 unfold A1 at p;split at p
 .rename_i s0 q0;split at p
  .rename_i hz;obtain⟨u0,z1,z2⟩:=H_.mp hz;rw[yS q0 z1];exact λH1 ns1 a1 S1 ov ro=>i ov ns1 H1 a1 S1 ro (JR (v:=u0) (S1.bor ro (by rw[q0];cases s0 <;> first |exact z1 |cases z1)) z2) (p.after S a1)
  .exact p.elim
 .exact p.elim
def xV{j:Nat}{name:Str}{id:String}{apos cpos:Pos}{r:V->List V->Hp->VK->Prop}{k:PMm}(hK:X.K=K)(slot:Slot "list" name id)(hty:typeOf (.builtin id)=pure (.type "method_descriptor"))(hm:MtM X id r)(hd:MmD K mg r k.G)(ho:DE K mg X ES o (af j))(ha:DA K mg X ES (e::es) A)(hbase:attributeBase o name X.env (eval o X.env)=eval o X.env:=by rfl)(hfew:((backTo cpos (starEach (e::es) X.env)).all (λx=>!x.1)&&(backToKw cpos (keywordEach [] X.env)).all (λx=>x.1.isSome)&&decide ((e::es).length+([]:List Keyword).length+(if ([]:List Keyword).isEmpty then 0 else 1)<30))=true:=by rfl)(hline:(apos.endLine==cpos.line)=true:=by rfl)(hs:starEach (e::es) X.env=(false,eval e X.env)::starEach es X.env:=by rfl)(g_:(backTo cpos (starEach es X.env)).any (·.1)=false:=by rfl):DE K mg X ES (.Call (.Attribute o name apos) (e::es) [] cpos) (iQ j k A):=by
 subst hK;exact
  ⟨PE.imp (IF PySem.F.plainAttrs_list slot hty hm ho.ok ha.ok hbase hfew hline hs g_) λσ H Q zz=>zz.el λY N0 L ns e S hl p=>
  ⟨Y,
   N0,L,ns,e,S,hl,C4 S p λov ns1 H1 a1 S1 ro ty p1=>⟨ty,Y,N0,ns1,e,S1,PG3.imp p1 S1 λts e1 e_ H2 a2 S2 p2 xs r2=>by
   try dsimp only at p2
   split at p2
   .rename_i e2 vs q1;obtain⟨ns3,S3,a3,r3⟩:=i5 S2 r2 q1;exact C1 hd S3 ro r3 (p2.after S2 a3)
   .exact p2.elim⟩⟩⟩
end
noncomputable def iH:Sl->Sl
 |.ow v=>.lo v
 |.mu v=>.lm v
 |s=>s
noncomputable def jy:Sl->Sl
 |.lo v=>.ow v
 |.lm v=>.mu v
 |s=>s
noncomputable def lock (e:E3) (k:Nat):E3:=match e[k]? with
 |some s=>e.set k (iH s)
 |none=>e
noncomputable def unlock (e:E3) (k:Nat):E3:=match e[k]? with
 |some s=>e.set k (jy s)
 |none=>e
noncomputable def lockO (e:E3):Option Nat->E3
 |some k=>lock e k
 |none=>e
noncomputable def eZ (e:E3):Option Nat->E3
 |some k=>unlock e k
 |none=>e
section
variable{K:W.Frag}{mg:Na}{X N0:Addr->Prop}{ns ns':Ns}{e e':E3}{σ:St}{H H':Hp}
def SlR.lock(r:SlR K mg P N0 n d H s):SlR K mg P N0 n d H (iH s):=by cases s <;> exact r
def SlR.unlock(r:SlR K mg P N0 n d H s):SlR K mg P N0 n d H (jy s):=by cases s <;> exact r
def Sat.setS(S:Sat K mg X N0 ns e σ H)(q:e[k]?=some s)(f:Sl->Sl)(hf:SlR K mg (Oc X ns) N0 (ns[k]?) (σ[k]?) H s->SlR K mg (Oc X ns) N0 (ns[k]?) (σ[k]?) H (f s)):Sat K mg X N0 ns (e.set k (f s)) σ H:=by
 have hi:=(u_.mp q).1;refine⟨by rw[KO];exact S.l1,by rw[KO];exact S.l2,S.lh,S.xl,S.inj,S.nx,λj s' qj=>?_,S.bs⟩;rcases bG hi qj with ⟨rfl,rfl⟩ |⟨z,qj'⟩
 .exact hf (S.sl j s q)
 .exact S.sl j s' qj'
def Sat.lock(S:Sat K mg X N0 ns e σ H)(k:Nat):Sat K mg X N0 ns (lock e k) σ H:=by
 unfold L3.lock;split
 .rename_i s q;exact S.setS q iH SlR.lock
 .exact S
def Sat.unlock(S:Sat K mg X N0 ns e σ H)(k:Nat):Sat K mg X N0 ns (unlock e k) σ H:=by
 unfold L3.unlock;split
 .rename_i s q;exact S.setS q jy SlR.unlock
 .exact S
def Sat.lockO(S:Sat K mg X N0 ns e σ H)(k:Option Nat):Sat K mg X N0 ns (lockO e k) σ H:=by
 cases k with
 |none=>exact S
 |some k=>exact S.lock k
def jg(z:j≠k):(lock e k)[j]?=e[j]?:=by
 unfold lock;split
 .rw[cD z]
 .rfl
def gn(z:j≠k):(unlock e k)[j]?=e[j]?:=by
 unfold unlock;split
 .rw[cD z]
 .rfl
def om(q:e[k]?=some s):(lock e k)[k]?=some (iH s):=by unfold lock;rw[q];exact cZ (u_.mp q).1
def iB(q:e[k]?=some s):(unlock e k)[k]?=some (jy s):=by unfold unlock;rw[q];exact cZ (u_.mp q).1
def Stp.unlock(q:e[k]?=some s)(hs:s.mt=true)(a:Stp ns (L3.lock e k) H ns' e' H'):Stp ns e H ns' (L3.unlock e' k) H':=by
 have hl:(iH s).lk=true:=by cases s <;> first |rfl |cases hs
 have hu:jy (iH s)=s:=by cases s <;> first |rfl |cases hs
 obtain⟨qk,nk⟩:=a.lk k _ (om q) hl;refine⟨a.le,a.dom,λm o qm ht hM=>a.keep m o qm ht λ⟨j,s',z1,z2,z3⟩=>hM ?_,a.nw,λj s' qj hj=>?_,λj s' qj hj=>?_,λj v qj=>?_,λj v qj=>?_⟩
 .by_cases z:j=k
  .subst z;exact⟨j,s,z1,q,hs⟩
  .rw[jg z] at z2;exact⟨j,s',z1,z2,z3⟩
 .have z:j≠k:=λz=>by subst z;rw[q] at qj;cases qj;cases s <;> first |cases hs;done |cases hj;done
  rw[gn z];exact a.lk j s' (by rw[jg z];exact qj) hj
 .have z:j≠k:=λz=>by subst z;rw[iB qk,hu] at qj;cases qj;cases s <;> first |cases hs;done |cases hj;done
  rw[gn z] at qj;obtain⟨y1,y2⟩:=a.lk' j s' qj hj;rw[jg z] at y1;exact⟨y1,y2⟩
 .by_cases z:j=k
  .subst z;rw[iB qk,hu] at qj;cases qj;exact⟨v,q,nk⟩
  .rw[gn z] at qj;obtain⟨u,y1,y2⟩:=a.mu j v qj;rw[jg z] at y1;exact⟨u,y1,y2⟩
 .by_cases z:j=k
  .subst z;rw[q] at qj;cases qj;exact⟨v,by rw[iB qk,hu],nk⟩
  .obtain⟨u,y1,y2⟩:=a.mu' j v (by rw[jg z];exact qj);exact⟨u,by rw[gn z];exact y1,y2⟩
end
abbrev MI3:=E3->R3 (List Val×Option Nat)
noncomputable def fM:Val->Option (List Val)
 |.tup xs=>some xs
 |.lst xs=>some xs
 |_=>none
noncomputable def fK (t:Tm) (e:E3):Option (List Val×Option Nat):=match t with
 |.val v=>(fM v).map λxs=>(xs,none)
 |.new v=>(fM v).map λxs=>(xs,none)
 |.bor k=>match e[k]? with
  |some (.sh v)=>(fM v).map λxs=>(xs,none)
  |some (.ow (.lst xs))=>some (xs,some k)
  |some (.mu (.lst xs))=>some (xs,some k)
  |_=>none
noncomputable def IJ (F:ME3) (e:E3):R3 (List Val×Option Nat):=(F e).bind λt e1=>match fK t e1 with
 |some p=>.ok p e1
 |none=>.stuck
noncomputable def iO:Nat->List Val->List Val
 |_,[]=>[]
 |i,d::ds=>.tup [.int (i:Nat),d]::iO (i+1) ds
noncomputable def JO (A:MA3) (e:E3):R3 (List Val×Option Nat):=(A e).bind λts e1=>match ts with
 | [t]=>(match fK t e1 with
  |some p=>.ok (iO 0 p.1,p.2) e1
  |none=>.stuck)
 |_=>.stuck
noncomputable def Kb (A:MA3) (e:E3):R3 (List Val×Option Nat):=(A e).bind λts e1=>match ts with
 | [t,u]=>(match fK t e1,fK u e1 with
  |some (xs,k),some (ys,none)=>.ok (List.zipWith (λx y=>.tup [x,y]) xs ys,k) e1
  |_,_=>.stuck)
 |_=>.stuck
noncomputable def ud (lo:Int) (k:Nat):List Val:=(List.range k).map λi=>Val.int (lo+(i:Nat))
structure RgB(j:Int):Prop where
 lo:-(2^62)<=j
 hi:j<2^62
def gW:List Val->Option (List Val)
 | [.int j]=>@ite _ (RgB j) (Classical.propDecidable _) (some (ud 0 j.toNat)) none
 |_=>none
def tX:List Val->Option (List Val)
 | [.int i,.int j]=>@ite _ (RgB i/\RgB j) (Classical.propDecidable _) (some (ud i (j-i).toNat)) none
 |_=>none
noncomputable def viRg (f:List Val->Option (List Val)) (A:MA3) (e:E3):R3 (List Val×Option Nat):=(A e).bind λts e1=>match (rss e1 ts).bind f with
 |some xs=>.ok (xs,none) e1
 |none=>.stuck
noncomputable def SR3.loop (r:SR3) (f:E3->SR3):SR3:=match r with
 |.nx e=>f e
 |.ct e=>f e
 |.bk e=>.nx e
 |.rt d e=>.rt d e
 |.exc c e=>.exc c e
 |.stuck=>.stuck
noncomputable def bQ (g:MG3) (B:MS3):List Val->MS3
 | [],e=>.nx e
 |v::vs,e=>match g v e with
  |some e1=>(B e1).loop (bQ g B vs)
  |none=>.stuck
noncomputable def SR3.unl (k:Option Nat) (r:SR3):SR3:=match r with
 |.nx e=>.nx (eZ e k)
 |.ct e=>.ct (eZ e k)
 |.bk e=>.bk (eZ e k)
 |.rt d e=>.rt d (eZ e k)
 |.exc c e=>.exc c (eZ e k)
 |.stuck=>.stuck
noncomputable def wFor (I:MI3) (g:MG3) (B:MS3) (e:E3):SR3:=(I e).toS λp e1=>(bQ g B p.1 (lockO e1 p.2)).unl p.2
noncomputable def whV (c:MT3) (B:MS3):Nat->MS3
 |0,_=>.stuck
 |k+1,e=>(c e).toS λb e1=>if b=true then (B e1).loop (whV c B k) else .nx e1
open Classical in
def wWh(c:MT3)(B:MS3):MS3:=λe=>if q:∃k,whV c B k e ≠ .stuck then whV c B q.choose e else .stuck
theorem mh{c:MT3}{B:MS3}:∀{k:Nat}{e:E3},whV c B k e ≠ .stuck->whV c B (k+1) e=whV c B k e
 |0,_,q=>absurd rfl q
 |
  k+1,e,q=>by
  have e1:whV c B (k+2) e=(c e).toS λb e1=>if b=true then (B e1).loop (whV c B (k+1)) else .nx e1:=rfl
  have e2:whV c B (k+1) e=(c e).toS λb e1=>if b=true then (B e1).loop (whV c B k) else .nx e1:=rfl
  rw[e2] at q;rw[e1,e2];cases r:c e with
  |exc _ _=>rfl
  |stuck=>rfl
  |
   ok b h1=>
   rw[r] at q;cases b with
   |false=>rfl
   |
    true=>
    have q':(B h1).loop (whV c B k) ≠ .stuck:=q;show (B h1).loop (whV c B (k+1))=(B h1).loop (whV c B k);cases s:B h1 with
    |nx a2=>rw[s] at q';exact mh q'
    |ct a2=>rw[s] at q';exact mh q'
    |_=>rfl
def zG{c:MT3}{B:MS3}{k j:Nat}{e:E3}(q:whV c B k e ≠ .stuck)(hj:k<=j):whV c B j e=whV c B k e:=by
 induction hj with
 |refl=>rfl
 |step _ ih=>rw[mh (by rw[ih];exact q),ih]
def ng{c:MT3}{B:MS3}{k:Nat}{e:E3}(q:whV c B k e ≠ .stuck):wWh c B e=whV c B k e:=by
 have hq:∃k,whV c B k e ≠ .stuck:=⟨k,q⟩;unfold wWh;rw[dif_pos hq];rcases Nat.le_total hq.choose k with z |z
 .exact (zG hq.choose_spec z).symm
 .exact zG q z
def Ba(c:MT3)(B:MS3)(e:E3):wWh c B e=(c e).toS λb e1=>if b=true then (B e1).loop (wWh c B) else .nx e1:=by
 by_cases q:∃k,whV c B k e ≠ .stuck
 .obtain⟨k,q⟩:=q;rw[ng q];cases k with
  |zero=>exact absurd rfl q
  |
   succ k=>
   have e2:whV c B (k+1) e=(c e).toS λb e1=>if b=true then (B e1).loop (whV c B k) else .nx e1:=rfl
   rw[e2] at q ⊢;cases r:c e with
   |exc _ _=>rfl
   |stuck=>rfl
   |
    ok b h1=>
    rw[r] at q;cases b with
    |false=>rfl
    |
     true=>
     have q':(B h1).loop (whV c B k) ≠ .stuck:=q;show (B h1).loop (whV c B k)=(B h1).loop (wWh c B);cases s:B h1 with
     |nx a2=>rw[s] at q';exact (ng q').symm
     |ct a2=>rw[s] at q';exact (ng q').symm
     |_=>rfl
 .have e0:wWh c B e=.stuck:=by unfold wWh;rw[dif_neg q]
  rw[e0];have hs:∀k,whV c B (k+1) e=.stuck:=λk=>Classical.byContradiction λz=>q ⟨_,z⟩;cases r:c e with
  |stuck=>rfl
  |
   exc c' h'=>
   have:=hs 0
   unfold whV at this;rw[r] at this;cases this
  |
   ok b h1=>
   cases b with
   |
    false=>
    have:=hs 0
    unfold whV at this;rw[r] at this;cases this
   |
    true=>
    have h2:∀k,(B h1).loop (whV c B k)=.stuck:=λk=>by
     have:=hs k
     unfold whV at this;rw[r] at this;exact this
    show SR3.stuck=(B h1).loop (wWh c B);have lim:∀a2,(∀k,whV c B k a2=.stuck)->wWh c B a2=.stuck:=λa2 z=>by unfold wWh;rw[dif_neg (λ⟨k,y⟩=>y (z k))]
    cases s:B h1 with
    |nx a2=>rw[s] at h2;exact (lim a2 h2).symm
    |ct a2=>rw[s] at h2;exact (lim a2 h2).symm
    |stuck=>rfl
    |_=>have:=h2 0;rw[s] at this;cases this
structure PIt where
 t:Nat
 G:MI3
noncomputable def ba (a:PEx):PIt:=⟨1,IJ a.G⟩
def jD(a:PAs):PIt:=⟨2,viRg gW a.G⟩
def rC(a:PAs):PIt:=⟨3,viRg tX a.G⟩
noncomputable def wW (a:PAs):PIt:=⟨4,JO a.G⟩
noncomputable def xK (a:PAs):PIt:=⟨5,Kb a.G⟩
noncomputable def cS (i:PIt) (g:PGt) (b:PSt):PSt:=⟨16,wFor i.G g.G b.G⟩
def xWh(c:PTs)(b:PSt):PSt:=⟨17,wWh c.G b.G⟩
section
variable(K:W.Frag)(mg:Na)
structure Kp(X:Addr->Prop)(ns:Ns)(k:Option Nat)(H0:Hp)(P:Addr->Prop)(H:Hp):Prop where
 mov:Mov (Oc X ns) P H0 H
 lk:∀(j:Nat) (a:Addr) (o:HO),k=some j->ns[j]?=some (some a)->H0 a=some o->sF o->H a=some o
def Kp.refl:Kp X ns k H (Oc X ns) H:=⟨.of λ_ z=>z,λ_ _ _ _ _ q _=>q⟩
def ItS(X:Addr->Prop)(ns:Ns)(k:Option Nat)(H0:Hp)(J:It)(us:List Val):Prop:=∀P H,Kp X ns k H0 P H->(∀(i:Nat) v,us[i]?=some v->J.go i H/\∀x H',J.yld i H x H'->Gr H H'/\Rd K mg P H' x v)/\J.stop us.length H
def gP(X:Addr->Prop)(ns:Ns)(k:Option Nat)(H0:Hp)(b:Bool)(a:Addr)(us:List Val):Prop:=∀P H,Kp X ns k H0 P H->∃vs,SqB K b H a vs/\Rds K mg P H vs us
def rdI(ES:St->XK)(I:MI3):TI:=λσ H R=>∃X N0 ns e,Sat K mg X N0 ns e σ H/\PG3 K mg X N0 ns e σ H (ES σ) (λp e' ns' H'=>∀J,ItS K mg X ns' p.2 H' J p.1->(∀k,p.2=some k->∃s,e'[k]?=some s/\s.mt=true)->R J H') (I e)
def rdI.el{K:W.Frag}{mg:Na}{I:MI3}{R:It->Hp->Prop}(h:rdI K mg ES I σ H R){Z:Prop}(k:∀X N0 ns e,Sat K mg X N0 ns e σ H->PG3 K mg X N0 ns e σ H (ES σ) (λp e' ns' H'=>∀J,ItS K mg X ns' p.2 H' J p.1->(∀k,p.2=some k->∃s,e'[k]?=some s/\s.mt=true)->R J H') (I e)->Z):Z:=by obtain⟨X,N0,ns,e,S,p⟩:=h;exact k X N0 ns e S p
structure DI(X:Cx)(ES:St->XK)(tg iter:Expr)(F:PIt):Prop where
 ok:PI X tg iter (rdI K mg ES F.G)
end
noncomputable def ItA (K:W.Frag) (b:Bool) (a:Addr):It:=match b with
 |true=>Itl K a
 |false=>Itt K a
section
variable{K:W.Frag}{mg:Na}{X N0 L:Addr->Prop}{ns ns1 ns':Ns}{e e1 e':E3}{σ:St}{H H1 H':Hp}{De:Ends}{ES:St->XK}
def Dx{x:V}{v:Val}(r:Rd K mg (Oc X ns) H x v)(q:fM v=some us):∃b a,x=.ref a/\∀k,gP K mg X ns k H b a us:=by
 cases v with
 |tup ys=>cases q;obtain⟨a,vs,rfl,h,rr⟩:=ShR.tup (.inl r);exact⟨false,a,rfl,λ_ P H' st=>⟨vs,st.mov.le.sqT h,rr.mono st.mov⟩⟩
 |
  lst ys=>
  cases q;cases r with
  |cell p eo rc=>cases rc with |lst rr=>exact⟨true,_,rfl,λ_ P H' st=>⟨_,SqL.of (st.mov.cl _ _ p eo (λ_ z=>nomatch z)).2,rr.mono st.mov⟩⟩
 |_=>cases q
def nK{x:V}{t:Tm}{p:List Val×Option Nat}(S:Sat K mg X N0 ns e σ H)(r:relE K mg X N0 L σ ns e H x t)(q:fK t e=some p):∃b a,x=.ref a/\gP K mg X ns p.2 H b a p.1/\(p.2=none->∀k,gP K mg X ns k H b a p.1)/\∀k:Nat,p.2=some k->∃s,e[k]?=some s/\s.mt=true:=by
 have fv:∀{v us},Rd K mg (Oc X ns) H x v->fM v=some us->∃b a,x=.ref a/\gP K mg X ns none H b a us/\((none:Option Nat)=none->∀k,gP K mg X ns k H b a us)/\∀k:Nat,none=some k->∃s,e[k]?=some s/\s.mt=true:=λr q=>by obtain⟨b,a,h1,h2⟩:=Dx r q;exact⟨b,a,h1,h2 _,λ_=>h2,λ_ z=>nomatch z⟩
 cases t with
 |val v=>obtain⟨xs,q1,rfl⟩:=H_.mp q;exact fv r q1
 |new v=>obtain⟨xs,q1,rfl⟩:=H_.mp q;exact fv r.new q1
 |
  bor k=>
  have r':σ[k]?=some (some x):=r;have own:∀{s xs},e[k]?=some s->s.mv=some (.lst xs)->∃b a,x=.ref a/\gP K mg X ns (some k) H b a xs/\(some k=none->∀k,gP K mg X ns k H b a xs)/\∀j:Nat,some k=some j->∃s,e[j]?=some s/\s.mt=true:=λ{s xs} q qm=>by
   obtain⟨n,o,k1,k0,k2,k3,k4,_⟩:=S.write q qm;rw[r'] at k1;cases k1;have hm:s.mt=true:=by cases s <;> first |rfl |cases qm
   refine⟨true,n,rfl,λP H' st=>?_,λz=>(nomatch z),λj z=>by cases z;exact⟨s,q,hm⟩⟩;cases k4 with
   |lst rr=>exact⟨_,SqL.of (st.lk k n _ rfl k0 k2 λ_ z=>nomatch z),rr.mono st.mov⟩
  unfold fK at q;dsimp only at q;split at q
  .rename_i v qs;obtain⟨_,x',e2,r2⟩:=S.sl k _ qs;rw[r'] at e2;cases e2;obtain⟨xs,q1,rfl⟩:=H_.mp q;exact fv r2 q1
  .rename_i xs qs;cases q;exact own qs rfl
  .rename_i xs qs;cases q;exact own qs rfl
  .cases q
def ItS.seq(s:gP K mg X ns k H b a us):ItS K mg X ns k H (ItA K b a) us:=λP H' st=>by
 obtain⟨vs,h,r⟩:=s P H' st;cases b with
 |true=>refine⟨λi v q=>?_,vs,h,by rw[r.len];exact m_ _⟩;obtain⟨x,ex,rx⟩:=r.get q;exact⟨⟨vs,x,h,ex⟩,λy H2 ⟨e1,z⟩=>by subst e1;have:=(z vs h).symm.trans ex;cases this;exact⟨.refl,rx⟩⟩
 |false=>refine⟨λi v q=>?_,vs,h,by rw[r.len];exact m_ _⟩;obtain⟨x,ex,rx⟩:=r.get q;exact⟨⟨vs,x,h,ex⟩,λy H2 ⟨e1,z⟩=>by subst e1;have:=(z vs h).symm.trans ex;cases this;exact⟨.refl,rx⟩⟩
theorem sy:∀{us:List Val}{k i:Nat}{v:Val},(iO k us)[i]?=some v->∃u,us[i]?=some u/\v=.tup [.int ((k+i:Nat):Int),u]
 | [],_,_,_,q=>by simp [iO] at q
 |u::us,k,0,v,q=>⟨u,rfl,by simpa [iO] using q.symm⟩
 |
  u::us,k,i+1,v,q=>by
  obtain⟨u',q1,q2⟩:=sy (us:=us) (k:=k+1) (i:=i) (by simpa [iO] using q);exact⟨u',by simpa using q1,by rw[q2,show k+1+i=k+(i+1) by omega]⟩
theorem rV:∀(us:List Val) (k:Nat),(iO k us).length=us.length
 | [],_=>rfl
 |_::us,k=>K3 (· + 1) (rV us (k+1))
def ItS.enm(s:gP K mg X ns k H b a us):ItS K mg X ns k H (Bp K b a) (iO 0 us):=λP H' st=>by
 obtain⟨vs,h,r⟩:=s P H' st;refine⟨λi v q=>?_,vs,h,by rw[rV,r.len]⟩;obtain⟨u,q1,rfl⟩:=sy q;obtain⟨x,ex,rx⟩:=r.get q1;refine⟨⟨vs,x,h,ex⟩,λy H2 ⟨p,w,e1,hp,e2,hw⟩=>?_⟩;subst e1 e2
 have:=(hw vs h).symm.trans ex
 cases this;rw[Nat.zero_add];exact⟨.upd hp,.tup (SqT.of aU) (.cons (.int _) (.cons (rx.mono (Gr.upd hp).mov) .nil))⟩
def ItS.zip(s:gP K mg X ns k H b a us)(t:gP K mg X ns k H c d ws):ItS K mg X ns k H (ItZ K b c a d) (List.zipWith (λx y=>.tup [x,y]) us ws):=λP H' st=>by
 obtain⟨vs,h,r⟩:=s P H' st;obtain⟨xs,h',r'⟩:=t P H' st;refine⟨λi v q=>?_,vs,xs,h,h',?_⟩
 .rw[Lq] at q;cases k1:us[i]? with
  |none=>rw[k1] at q;cases q
  |
   some u=>
   cases k2:ws[i]? with
   |none=>rw[k1,k2] at q;cases q
   |
    some w=>
    rw[k1,k2] at q;cases q;obtain⟨x,ex,rx⟩:=r.get k1;obtain⟨x',ex',rx'⟩:=r'.get k2;refine⟨⟨vs,xs,x,x',h,h',ex,ex'⟩,λy H2 ⟨p,f,f',e1,hp,e2,hf,hf'⟩=>?_⟩;subst e1 e2
    have:=(hf vs h).symm.trans ex
    cases this
    have:=(hf' xs h').symm.trans ex'
    cases this;exact⟨.upd hp,.tup (SqT.of aU) (.cons (rx.mono (Gr.upd hp).mov) (.cons (rx'.mono (Gr.upd hp).mov) .nil))⟩
 .rw[Lj,<- r.len,<- r'.len];rcases Nat.le_total vs.length xs.length with z |z
  .left;rw[L8 z];exact List.getElem?_eq_none (m_ _)
  .right;rw[Nat.min_eq_right z];exact List.getElem?_eq_none (m_ _)
def ItS.nums{f:Nat->Int}{k:Nat}{J:It}(h1:∀i H,i<k->J.go i H/\∀x H',J.yld i H x H'->H'=H/\x=V.int (f i))(h2:∀H,J.stop k H):ItS K mg X ns kk H J ((List.range k).map λi=>Val.int (f i)):=λP H' st=>by refine⟨λi v q=>?_,by rw[j_,K0];exact h2 _⟩;rw[Kz] at q;obtain⟨j,hj,rfl⟩:=H_.mp q;obtain⟨hj1,hj2⟩:=u_.mp hj;rw[List.getElem_range] at hj2;subst hj2;rw[K0] at hj1;obtain⟨g,y⟩:=h1 i H' hj1;exact⟨g,λx H2 z=>by obtain⟨rfl,rfl⟩:=y x H2 z;exact⟨.refl,.int _⟩⟩
def ItS.rng(lo:Int)(k:Nat):ItS K mg X ns kk H (Itr lo k) (ud lo k):=ItS.nums (λi H hi=>⟨hi,λx H' z=>z⟩) λH=>m_ _
def CJ{k:Option Nat}(S:Sat K mg X N0 ns e σ H)(hk:∀j:Nat,k=some j->∃s,e[j]?=some s/\s.mt=true)(a:Stp ns (lockO e k) H ns' e' H'):Kp X ns k H (Oc X ns') H':=⟨a.mov,λj n o hj hn q ht=>by
 subst hj;refine a.keep n o q ht λ⟨i,s,z1,z2,z3⟩=>?_
 have:=S.inj i j n z1 hn
 subst this;obtain⟨s',y1,y2⟩:=hk i rfl;have:(lockO e (some i))[i]?=some (iH s'):=om y1;rw[this] at z2;cases z2;cases s' <;> first |cases y2;done |cases z3;done⟩
def PS3.unl{k:Option Nat}{r:SR3}(hk:∀j:Nat,k=some j->∃s,e[j]?=some s/\s.mt=true)(p:PS3 K mg X N0 ns e H De ES (r.unl k)):PS3 K mg X N0 ns (lockO e k) H De ES r:=by
 cases k with
 |none=>cases r <;> exact p
 |
  some j=>
  obtain⟨s,y1,y2⟩:=hk j rfl;cases r with
  |stuck=>exact p
  |nx e'=>exact λH' σ' ns' a S=>p H' σ' ns' (a.unlock y1 y2) (S.unlock j)
  |bk e'=>exact λH' σ' ns' a S=>p H' σ' ns' (a.unlock y1 y2) (S.unlock j)
  |ct e'=>exact λH' σ' ns' a S=>p H' σ' ns' (a.unlock y1 y2) (S.unlock j)
  |exc c e'=>exact λH' σ' ns' C a S=>p H' σ' ns' C (a.unlock y1 y2) (S.unlock j)
  |
   rt r e'=>
   refine λH' σ' ns' x a q2=>p H' σ' ns' x (a.unlock y1 y2) ?_;cases r with
   |val v=>exact⟨q2.1.unlock j,q2.2⟩
   |new v=>obtain⟨n,o,z1,z2,z3,z4,z5,z6,z7⟩:=q2;exact⟨n,o,z1,z2,z3,z4,z5,z6.unlock j,z7⟩
   |
    par i=>
    obtain⟨z1,z2,v,z3⟩:=q2;refine⟨z1.unlock j,z2,v,?_⟩;by_cases z:i=j
    .subst z;exact iB z3
    .exact (gn z).trans z3
   |pr v u=>obtain⟨p,d1,n,o,z1,z2,z3,z4,z5,z6,z7,z8⟩:=q2;exact⟨p,d1,n,o,z1,z2,z3,z4,z5,z6,z7.unlock j,z8⟩
def PS3.toB{α:Type}{r:R3 α}{f:α->E3->SR3}{k:α->E3->Ns->Hp->Prop}{ns0:Ns}{e0:E3}{σ0:St}{H0:Hp}(p:PS3 K mg X N0 ns0 e0 H0 De ES (r.toS f))(S0:Sat K mg X N0 ns0 e0 σ0 H0)(a0:Stp ns0 e0 H0 ns e H)
 (i:∀t e1 ns1 H1,Stp ns0 e0 H0 ns1 e1 H1->Sat K mg X N0 ns1 e1 σ H1->PS3 K mg X N0 ns0 e0 H0 De ES (f t e1)->k t e1 ns1 H1):PG3 K mg X N0 ns e σ H (ES σ) k r:=by
 cases r with
 |stuck=>exact p
 |exc c e'=>exact λH' ns' C a S' m=>p H' σ ns' C (a0.trans S0 a) S' m
 |ok t e'=>exact λH' ns' a S'=>i t e' ns' H' (a0.trans S0 a) S' p
def PS3.loop{ns0:Ns}{e0:E3}{σ0:St}{H0:Hp}{r:SR3}{f:E3->SR3}{N:St->Hp->Prop}(p:PS3 K mg X N0 ns0 e0 H0 De ES (r.loop f))(S0:Sat K mg X N0 ns0 e0 σ0 H0)(a0:Stp ns0 e0 H0 ns e H)
 (i:∀e1 ns1 σ1 H1,Stp ns0 e0 H0 ns1 e1 H1->Sat K mg X N0 ns1 e1 σ1 H1->PS3 K mg X N0 ns0 e0 H0 De ES (f e1)->N σ1 H1):PS3 K mg X N0 ns e H { De with nx:=N,ct:=N,bk:=De.nx } ES r:=by
 cases r with
 |nx e'=>exact λH' σ' ns' b S'=>i e' ns' σ' H' (a0.trans S0 b) S' p
 |ct e'=>exact λH' σ' ns' b S'=>i e' ns' σ' H' (a0.trans S0 b) S' p
 |bk e'=>exact λH' σ' ns' b S'=>p H' σ' ns' (a0.trans S0 b) S'
 |exc c e'=>exact λH' σ' ns' C b S'=>p H' σ' ns' C (a0.trans S0 b) S'
 |rt r e'=>exact λH' σ' ns' x b S'=>p H' σ' ns' x (a0.trans S0 b) S'
 |stuck=>exact p
end
section
variable{K:W.Frag}{mg:Na}{X:Cx}{ES:St->XK}{e a b c tg iter:Expr}{elts:List Expr}{sts:List Stmt}{p:PEx}{A:PAs}{t:PTs}{x:PSt}{g:PGt}{I:PIt}{pos p0 tp:Pos}
def FY(hK:X.K=K)(he:DE K mg X ES e p):DI K mg X ES tg e (ba p):=by
 subst hK;exact⟨PI.imp (E2 he.ok) λσ H R zz=>rdI.el zz λY N0 ns e S q=>⟨Y,N0,λ_=>True,ns,e,S,λ_ _=>trivial,PG3.imp q S λt e1 ns1 H1 a1 S1 p1 x r1=>by
  try dsimp only at p1
  split at p1
  .rename_i w z;obtain⟨b,a,rfl,s,_,hk⟩:=nK S1 r1 z;have k:=p1.ret S1 _ (ItS.seq s) hk;obtain⟨vs,hv,_⟩:=s _ _ .refl;cases b with
   |true=>exact .inl ⟨a,rfl,⟨vs,hv⟩,k⟩
   |false=>exact .inr ⟨a,rfl,⟨vs,hv⟩,k⟩
  .exact p1.elim⟩⟩
def Bd{Y:Addr->Prop}{ns:Ns}{σ:St}{H:Hp}{xs:List V}{t:Tm}(N0 L:Addr->Prop)(e:E3)(r:TsR K mg Y ns σ H xs [t]):∃x,xs=[x]/\relE K mg Y N0 L σ ns e H x t:=by
 cases r with
 |val r rr=>cases rr;exact⟨_,rfl,r⟩
 |bor r rr=>cases rr;exact⟨_,rfl,r⟩
def tsr2{Y:Addr->Prop}{ns:Ns}{σ:St}{H:Hp}{xs:List V}{t u:Tm}(N0 L:Addr->Prop)(e:E3)(r:TsR K mg Y ns σ H xs [t,u]):∃x y,xs=[x,y]/\relE K mg Y N0 L σ ns e H x t/\relE K mg Y N0 L σ ns e H y u:=by
 cases r with
 |val r rr=>obtain⟨y,rfl,r'⟩:=Bd N0 L e rr;exact⟨_,_,rfl,r,r'⟩
 |bor r rr=>obtain⟨y,rfl,r'⟩:=Bd N0 L e rr;exact⟨_,_,rfl,r,r'⟩
def ER(hK:X.K=K)(hg:Gl X "enumerate")(hm:mg "enumerate"=none)(ha:DA K mg X ES [a] A)(hk:X.mg=mg:=by rfl)(hs:starEach [a] X.env=[(false,eval a X.env)]:=by rfl):DI K mg X ES (.Tuple elts x1 tp) (.Call (.Name "enumerate" p0) [a] [] pos) (wW A):=by
 subst hk hK;exact
  ⟨PI.imp (Eg hg hm ha.ok hs) λσ H R zz=>rdI.el zz λY N0 ns e S q=>⟨Y,N0,ns,e,S,PG3.imp q S λts e1 ns1 H1 a1 S1 p1 xs r1=>by
  try dsimp only at p1
  split at p1
  .rename_i t;obtain⟨x,rfl,r⟩:=Bd N0 N0 e1 r1;split at p1
   .rename_i w z;obtain⟨b,a,rfl,s,_,hk⟩:=nK S1 r z;obtain⟨vs,hv,_⟩:=s _ _ .refl;exact⟨b,a,vs,rfl,hv,p1.ret S1 _ (ItS.enm s) hk⟩
   .exact p1.elim
  .exact p1.elim⟩⟩
def Gq(hK:X.K=K)(hg:Gl X "zip")(hm:mg "zip"=none)(ha:DA K mg X ES [a,b] A)(hk:X.mg=mg:=by rfl)(hs:starEach [a,b] X.env=[(false,eval a X.env),(false,eval b X.env)]:=by rfl)(hs2:starEach [b] X.env=[(false,eval b X.env)]:=by rfl):DI K mg X ES (.Tuple elts x1 tp) (.Call (.Name "zip" p0) [a,b] [] pos) (xK A):=by
 subst hk hK;exact
  ⟨PI.imp (FA hg hm ha.ok hs hs2) λσ H R zz=>rdI.el zz λY N0 ns e S q=>⟨Y,N0,ns,e,S,PG3.imp q S λts e1 ns1 H1 a1 S1 p1 xs r1=>by
  try dsimp only at p1
  split at p1
  .rename_i t u;obtain⟨x,y,rfl,r,r'⟩:=tsr2 N0 N0 e1 r1;split at p1
   .rename_i us k ws z z';obtain⟨b,a,rfl,s,_,hk⟩:=nK S1 r z;obtain⟨c,d,rfl,_,s',_⟩:=nK S1 r' z';have s2:=s' rfl k;obtain⟨vs,hv,_⟩:=s _ _ .refl;obtain⟨vs',hv',_⟩:=s2 _ _ .refl;exact⟨b,c,a,d,vs,vs',rfl,hv,hv',p1.ret S1 _ (ItS.zip s s2) hk⟩
   .exact p1.elim
  .exact p1.elim⟩⟩
def gH{P:Addr->Prop}(r:ShRs K mg P H xs [v]):∃x,xs=[x]/\ShR K mg P H x v:=by cases r with |cons r rr=>cases rr;exact⟨_,rfl,r⟩
def B8{P:Addr->Prop}(r:ShRs K mg P H xs [v,u]):∃x y,xs=[x,y]/\ShR K mg P H x v/\ShR K mg P H y u:=by cases r with |cons r rr=>cases rr with |cons r' rr=>cases rr;exact⟨_,_,rfl,r,r'⟩
def zo(hg:Gl X "range")(hm:mg "range"=none)(ha:DA K mg X ES [a] A)(hk:X.mg=mg:=by rfl)(hs:starEach [a] X.env=[(false,eval a X.env)]:=by rfl):DI K mg X ES tg (.Call (.Name "range" p0) [a] [] pos) (jD A):=by
 subst hk;exact
  ⟨PI.imp (yn hg hm ha.ok hs) λσ H R zz=>rdI.el zz λY N0 ns e S q=>⟨Y,N0,ns,e,S,PG3.imp q S λts e1 ns1 H1 a1 S1 p1 xs r1=>by
  try dsimp only at p1
  split at p1
  .rename_i us z;obtain⟨vs,z1,z2⟩:=KU.mp z;have rr:=r1.sh S1 z1;unfold gW at z2;split at z2
   .split at z2
    .rename_i hb;cases z2;obtain⟨x,rfl,r⟩:=gH rr;obtain rfl:=r.int;exact⟨_,rfl,hb.lo,hb.hi,p1.ret S1 _ (ItS.rng _ _) λ_ z=>nomatch z⟩
    .cases z2
   .cases z2
  .exact p1.elim⟩⟩
def yf(hg:Gl X "range")(hm:mg "range"=none)(ha:DA K mg X ES [a,b] A)(hk:X.mg=mg:=by rfl)(hs:starEach [a,b] X.env=[(false,eval a X.env),(false,eval b X.env)]:=by rfl)(hs2:starEach [b] X.env=[(false,eval b X.env)]:=by rfl):DI K mg X ES tg (.Call (.Name "range" p0) [a,b] [] pos) (rC A):=by
 subst hk;exact
  ⟨PI.imp (yV hg hm ha.ok hs hs2) λσ H R zz=>rdI.el zz λY N0 ns e S q=>⟨Y,N0,ns,e,S,PG3.imp q S λts e1 ns1 H1 a1 S1 p1 xs r1=>by
  try dsimp only at p1
  split at p1
  .rename_i us z;obtain⟨vs,z1,z2⟩:=KU.mp z;have rr:=r1.sh S1 z1;unfold tX at z2;split at z2
   .split at z2
    .rename_i hb;cases z2;obtain⟨x,y,rfl,r,r'⟩:=B8 rr;obtain rfl:=r.int;obtain rfl:=r'.int;exact⟨_,_,rfl,⟨hb.1.lo,hb.1.hi,hb.2.lo,hb.2.hi⟩,p1.ret S1 _ (ItS.rng _ _) λ_ z=>nomatch z⟩
    .cases z2
   .cases z2
  .exact p1.elim⟩⟩
def gu(hp:PassesOwn (model X.prog X.w) X.A X.env X.xe)(hc:X.calm=true)(hi:DI K mg X ES tg iter I)(hg:DG K mg X tg g)(hb:DSs K mg X ES sts x)(hs:∀x,foldedSetIterable iter X.env x=pure x:=by intro _;rfl):DS K mg X ES (.For tg iter sts [] pos) (cS I g x):=
 ⟨PS.imp (HF hp hc hi.ok hg.ok hb.ok hs) λD σ H zz=>zz.el λY N0 ns e S p=>⟨Y,N0,ns,e,S,PS3.toS p S λw e1 ns1 H1 a1 S1 p1 J it hk=>by
  have p2:=PS3.unl hk (PS3.after p1 S a1);have S2:=S1.lockO w.2;refine⟨λi m σ' H'=>m=w.1.length-i/\i<=w.1.length/\∃ns' e',Stp ns1 (lockO e1 w.2) H1 ns' e' H'/\Sat K mg Y N0 ns' e' σ' H'/\PS3 K mg Y N0 ns1 (lockO e1 w.2) H1 D ES (bQ g.G x.G (w.1.drop i) e'),⟨_,rfl,K9 _,ns1,_,.refl,S2,p2⟩,?_⟩;rintro i m σ' H' ⟨rfl,hi,ns',e',a',S',p'⟩;by_cases hl:i=w.1.length
  .subst hl;rw[List.drop_length] at p';exact .inl ⟨(it _ _ (CJ S1 hk a')).2,p' H' σ' ns' a' S'⟩
  .have hl':i<w.1.length:=by omega
   rw[Lx hl'] at p';unfold bQ at p';obtain⟨go,yl⟩:=(it _ _ (CJ S1 hk a')).1 i _ (B_ hl');split at p'
   .rename_i e2 q;refine .inr ⟨go,λσ2 H2=>i+1<=w.1.length/\∃ns' e',Stp ns1 (lockO e1 w.2) H1 ns' e' H2/\Sat K mg Y N0 ns' e' σ2 H2/\PS3 K mg Y N0 ns1 (lockO e1 w.2) H1 D ES (bQ g.G x.G (w.1.drop (i+1)) e'),λσ2 H2 n=>⟨_,by omega,rfl,n⟩,λv H2 y=>?_⟩;obtain⟨gr,r⟩:=yl v H2 y;have a2:=a'.trans S2 (.gr gr);exact⟨Y,N0,ns',e',_,e2,S'.gr gr,r,q,λσ3 ns3 a3 S3=>⟨Y,N0,ns3,e2,S3,PS3.loop p' S2 (a2.trans S2 a3) λe4 ns4 σ4 H4 a4 S4 p4=>⟨hl',ns4,e4,a4,S4,p4⟩⟩⟩
   .exact p'.elim⟩⟩
def zZ(hp:PassesOwn (model X.prog X.w) X.A X.env X.xe)(hc:DT K mg X ES c t)(hb:DSs K mg X ES sts x):DS K mg X ES (.While c sts [] pos) (xWh t x):=
 ⟨PS.imp (Bq hp hc.ok hb.ok) λD σ H zz=>zz.el λY N0 ns e S p=>by
  have p:PS3 K mg Y N0 ns e H D ES (wWh t.G x.G e):=p;by_cases q:∃k,whV t.G x.G k e ≠ .stuck
  .obtain⟨k,q⟩:=q;rw[ng q] at p;refine⟨λm σ' H'=>∃ns' e',Stp ns e H ns' e' H'/\Sat K mg Y N0 ns' e' σ' H'/\PS3 K mg Y N0 ns e H D ES (whV t.G x.G m e'),⟨k,ns,e,.refl,S,p⟩,?_⟩;rintro m σ' H' ⟨ns',e',a',S',p'⟩;cases m with
   |zero=>exact p'.elim
   |
    succ m=>
    have p2:PS3 K mg Y N0 ns e H D ES ((t.G e').toS λb e1=>if b=true then (x.G e1).loop (whV t.G x.G m) else .nx e1):=p';refine⟨Y,N0,ns',e',S',PS3.toB p2 S a' λb e1 ns1 H1 a2 S1 p1=>?_⟩;cases b with
    |true=>exact⟨λσ2 H2=>∃ns' e',Stp ns e H ns' e' H2/\Sat K mg Y N0 ns' e' σ2 H2/\PS3 K mg Y N0 ns e H D ES (whV t.G x.G m e'),λσ2 H2 n=>⟨m,Nat.lt_succ_self _,n⟩,Y,N0,ns1,e1,S1,PS3.loop p1 S a2 λe4 ns4 σ4 H4 a4 S4 p4=>⟨ns4,e4,a4,S4,p4⟩⟩
    |false=>exact p1 _ _ _ a2 S1
  .unfold wWh at p;rw[dif_neg q] at p;exact p.elim⟩
end
noncomputable def fP (o:Option Nat) (s:Sl) (e:E3):E3:=match o,s with
 |some i,.mu v=>(match e[i]? with
  |some t=>e.set i (t.re v)
  |none=>e)
 |_,_=>e
noncomputable def aV:List (Option Nat)->E3->E3->E3
 |o::sub,s::inner,e=>aV sub inner (fP o s e)
 |_,_,e=>e
def vz(hn:∀v,o=some i->s=.mu v->False):(fP o s e)[i]?=e[i]?:=by
 unfold fP;split
 .rename_i i' v;split
  .rename_i t q;by_cases z:i=i'
   .subst z;exact (hn v rfl rfl).elim
   .rw[cD z]
  .rfl
 .rfl
theorem oG:∀{sub:Nd}{e2 e:E3}{i:Nat},(∀(j:Nat) v,sub[j]?=some (some i)->e2[j]?=some (.mu v)->False)->(aV sub e2 e)[i]?=e[i]?
 | [],_,_,_,_=>rfl
 |_::_,[],_,_,_=>rfl
 |
  o::sub,s::e2,e,i,hn=>by
  show (aV sub e2 (fP o s e))[i]?=_;rw[oG (λj v q1 q2=>hn (j+1) v (by simpa using q1) (by simpa using q2))];exact vz λv z1 z2=>hn 0 v (by rw[z1];rfl) (by rw[z2];rfl)
theorem vQ:∀{sub:Nd}{e2 e:E3}{i j:Nat}{v:Val},(∀(j k:Nat) i,sub[j]?=some (some i)->sub[k]?=some (some i)->j=k)->sub[j]?=some (some i)->e2[j]?=some (.mu v)->(aV sub e2 e)[i]?=(e[i]?).map (Sl.re · v)
 | [],_,_,_,j,_,_,q,_=>by simp at q
 |_::_,[],_,_,j,_,_,_,q=>by simp at q
 |
  o::sub,s::e2,e,i,0,v,hj,q1,q2=>by
  have z1:o=some i:=by simpa using q1
  have z2:s=.mu v:=by simpa using q2
  subst z1 z2;show (aV sub e2 (fP (some i) (.mu v) e))[i]?=_;rw[oG (λk u y1 _=>by have:=hj 0 (k+1) i rfl (by simpa using y1);omega)];unfold fP;dsimp only;split
  .rename_i t q;rw[cZ (u_.mp q).1,q];rfl
  .rename_i q;rw[q];rfl
 |
  o::sub,s::e2,e,i,j+1,v,hj,q1,q2=>by
  show (aV sub e2 (fP o s e))[i]?=_;have q1':sub[j]?=some (some i):=by simpa using q1
  rw[vQ (λa b c y1 y2=>by have:=hj (a+1) (b+1) c (by simpa using y1) (by simpa using y2);omega) q1' (by simpa using q2)];rw[vz λv z1 _=>by have:=hj 0 (j+1) i (by rw[z1];rfl) q1;omega]
noncomputable def aX (sub:Nd) (ns:Ns):Ns:=sub.map λo=>o.bind λi=>(ns[i]?).bind id
def cx{sub:Nd}{ns:Ns}{j:Nat}{n:Addr}(q:(aX sub ns)[j]?=some (some n)):∃i,sub[j]?=some (some i)/\ns[i]?=some (some n):=by
 unfold aX at q;rw[Kz] at q;cases z:sub[j]? with
 |none=>rw[z] at q;cases q
 |
  some o=>
  rw[z] at q;cases o with
  |none=>cases q
  |
   some i=>
   refine⟨i,rfl,?_⟩;have q':(ns[i]?).bind id=some n:=E_ q;cases y:ns[i]? with
   |none=>rw[y] at q';cases q'
   |some w=>rw[y] at q';have:w=some n:=q';rw[this]
def Eb{sub:Nd}{ns:Ns}{j i:Nat}{w:Option Addr}(q:sub[j]?=some (some i))(q2:ns[i]?=some w):(aX sub ns)[j]?=some w:=by unfold aX;rw[Kz,q];show some ((ns[i]?).bind id)=some w;rw[q2];rfl
structure Lnk(sub:Nd)(e ei:E3):Prop where
 inj:∀(j k:Nat) (i:Nat),sub[j]?=some (some i)->sub[k]?=some (some i)->j=k
 mu:∀(j:Nat) (v:Val),ei[j]?=some (.mu v)->∃(i:Nat) (s:Sl),sub[j]?=some (some i)/\e[i]?=some s/\s.mt=true
 mt:∀(j:Nat) (s:Sl),ei[j]?=some s->s.mt=true->∃v,s=.mu v
section
variable{K:W.Frag}{mg:Na}{X Y N0:Addr->Prop}{ns e_:Ns}{e e2 ei:E3}{σ:St}{H H2:Hp}{sub:Nd}
theorem mF:∀(sub:Nd) (e2 e:E3),(aV sub e2 e).length=e.length
 | [],_,_=>rfl
 |_::_,[],_=>rfl
 |
  o::sub,s::e2,e=>by
  show (aV sub e2 (fP o s e)).length=_;rw[mF];unfold fP;split
  .split
   .rw[KO]
   .rfl
  .rfl
def Sat.back(S:Sat K mg X N0 ns e σ H)(lk:Lnk sub e ei)(a:Stp (aX sub ns) ei H e_ e2 H2)(hb:Bs K mg H2)
 (hY:∀n,Y n->(∃o,H2 n=some o)/\(X n\/H n=none)) (hXY:∀n,X n->Y n)
 (hc:∀(j:Nat) v n,e2[j]?=some (.mu v)->e_[j]?=some (some n)->∃o,H2 n=some o/\NotFz o/\Rc K mg (Oc Y ns) H2 o v):Sat K mg Y N0 ns (aV sub e2 e) σ H2/\Stp ns e H ns (aV sub e2 e) H2:=by
 have hM:∀n,Mt (aX sub ns) ei n->Mt ns e n:=λn ⟨j,s,z1,z2,z3⟩=>by obtain⟨v,rfl⟩:=lk.mt j s z2 z3;obtain⟨i,s',y1,y2,y3⟩:=lk.mu j v z2;obtain⟨i',y4,y5⟩:=cx z1;rw[y1] at y4;cases y4;exact⟨i,s',y5,y2,y3⟩
 have mv:Mov (Oc X ns) (Oc Y ns) H H2:=⟨a.le,λn o p q ht=>⟨⟨λz=>(by
  rcases (hY n z).2 with z |z
  .exact p.1 z
  .rw[q] at z;cases z),p.2⟩,a.keep n o q ht λz=>by obtain⟨j,s,z1,_⟩:=z;obtain⟨i,_,y⟩:=cx z1;exact p.2 (aW.mpr ⟨i,y⟩)⟩⟩
 have key:∀i:Nat,(∃(j:Nat) (v:Val) (s:Sl),sub[j]?=some (some i)/\e2[j]?=some (.mu v)/\e[i]?=some s/\s.mt=true/\(aV sub e2 e)[i]?=some (s.re v)/\e_[j]?=ns[i]?)\/((∀n,ns[i]?=some (some n)->¬ Mt (aX sub ns) ei n)/\(aV sub e2 e)[i]?=e[i]?):=λi=>by
  by_cases hx:∃(j:Nat) (v:Val),sub[j]?=some (some i)/\e2[j]?=some (.mu v)
  .obtain⟨j,v,q1,q2⟩:=hx;obtain⟨u,q3,q4⟩:=a.mu j v q2;obtain⟨i',s,y1,y2,y3⟩:=lk.mu j u q3;rw[q1] at y1;cases y1;refine .inl ⟨j,v,s,q1,q2,y2,y3,by rw[vQ lk.inj q1 q2,y2];rfl,?_⟩;rw[q4];have hl:i<ns.length:=by rw[S.l2];exact (u_.mp y2).1
   rw[B_ hl];exact Eb q1 (B_ hl)
  .refine .inr ⟨λn q ⟨j,s,z1,z2,z3⟩=>hx ?_,oG λj v y1 y2=>hx ⟨j,v,y1,y2⟩⟩;obtain⟨v,rfl⟩:=lk.mt j s z2 z3;obtain⟨i',y4,y5⟩:=cx z1;have:i'=i:=S.inj i' i n y5 q;subst this;obtain⟨v',y6,_⟩:=a.mu' j v z2;exact⟨j,v',y4,y6⟩
 refine⟨⟨by rw[mF];exact S.l1,by rw[mF];exact S.l2,λx z=>S.lh x (a.dom x z),λn z=>(hY n z).1,S.inj,λi n q z=>?_,λi s q=>?_,hb⟩,⟨a.le,a.dom,λm o q ht hm=>a.keep m o q ht λz=>hm (hM m z),λ_ _ q=>.inl q,λi s q hl=>?_,λi s q hl=>?_,λi v q=>?_,λi v q=>?_⟩⟩
 .rcases (hY n z).2 with z |z
  .exact S.nx i n q z
  .obtain⟨_,_,_,_,_,_,_,q',_⟩:=S.own q;rw[q'] at z;cases z
 .rcases key i with ⟨j,v,s0,k1,k2,k3,k4,k5,k6⟩ |⟨k1,k2⟩
  .rw[k5] at q;cases q;have y:=S.sl i s0 k3;cases s0 with
   |ow u=>obtain⟨n,o,y1,y2,y3,_⟩:=y;obtain⟨o',z1,z2,z3⟩:=hc j v n k2 (by rw[k6];exact y1);exact⟨n,o',y1,y2,y3,z1,z2,z3⟩
   |mu u=>obtain⟨n,o,y1,y2,_⟩:=y;obtain⟨o',z1,z2,z3⟩:=hc j v n k2 (by rw[k6];exact y1);exact⟨n,o',y1,y2,z1,z2,z3⟩
   |_=>cases k4
  .rw[k2] at q;exact (S.sl i s q).mono mv λn o q1 q2 hf=>a.keep n o q2 hf.nt (k1 n q1)
 .rcases key i with ⟨j,v,s0,k1,k2,k3,k4,k5,k6⟩ |⟨k1,k2⟩
  .rw[k3] at q;cases q;cases s <;> first |cases hl;done |cases k4;done
  .rw[k2];exact⟨q,rfl⟩
 .rcases key i with ⟨j,v,s0,k1,k2,k3,k4,k5,k6⟩ |⟨k1,k2⟩
  .rw[k5] at q;cases q;cases s0 <;> first |cases hl;done |cases k4;done
  .rw[k2] at q;exact⟨q,rfl⟩
 .rcases key i with ⟨j,u,s0,k1,k2,k3,k4,k5,k6⟩ |⟨k1,k2⟩
  .rw[k5] at q;cases s0 with
   |mu w=>exact⟨w,k3,rfl⟩
   |ow w=>cases q
   |_=>cases k4
  .rw[k2] at q;exact⟨v,q,rfl⟩
 .rcases key i with ⟨j,u,s0,k1,k2,k3,k4,k5,k6⟩ |⟨k1,k2⟩
  .rw[k3] at q;cases q;exact⟨u,k5,rfl⟩
  .exact⟨v,by rw[k2];exact q,rfl⟩
end
noncomputable def inS:Sl->Sl
 |.ow v=>.mu v
 |.lo v=>.lm v
 |s=>s
noncomputable def bA (sub:Nd) (e:E3):E3:=sub.map λo=>match o with
 |none=>.no
 |some i=>match e[i]? with
  |some s=>inS s
  |none=>.no
noncomputable def lcV (g:MG3) (c:MT3) (F:ME3):List Val->List Val->E3->R3 (List Val)
 | [],acc,e=>.ok acc e
 |v::vs,acc,e=>if acc.length<16777216 then (match g v e with
  |none=>.stuck
  |some e1=>(c e1).bind λb e2=>if b=true then (F e2).bind λt e3=>(match cE e3 t with
   |some (e4,y)=>lcV g c F vs (acc++[y]) e4
   |none=>.stuck) else lcV g c F vs acc e2) else .stuck
noncomputable def vLC (I:MI3) (sub:Nd) (g:MG3) (c:MT3) (F:ME3) (e:E3):R3 Tm:=(I e).bind λp e1=>match lcV g c F p.1 [] (bA sub (lockO e1 p.2)) with
 |.ok ys e2=>if ys.length<=16777216 then .ok (.new (.lst ys)) (eZ (aV sub e2 (lockO e1 p.2)) p.2) else .stuck
 |_=>.stuck
noncomputable def pLC (i:PIt) (sub:Nd) (hs:(sub.filterMap id).Nodup) (g:PGt) (c:PTs) (a:PEx):PEx:=⟨21,vLC i.G sub g.G c.G a.G⟩
def mT(sub:Nd):Prop:=∀(j k:Nat) (i:Nat),sub[j]?=some (some i)->sub[k]?=some (some i)->j=k
def zt(h:(sub.filterMap id).Nodup):mT sub:=by
 induction sub with
 |nil=>intro j k i q;simp at q
 |
  cons o sub ih=>
  have hsub:(sub.filterMap id).Nodup:=by
   cases o with
   |none=>simpa using h
   |some i=>rw[K1] at h;simp at h;exact h.2
  have hno:∀(i k:Nat),o=some i->sub[k]?=some (some i)->False:=λi k z q=>by subst z;rw[K1] at h;simp at h;exact h.1 (Ly q)
  intro j k i q1 q2;cases j with
  |
   zero=>
   cases k with
   |zero=>rfl
   |succ k=>exact (hno i k (by simpa using q1) (by simpa using q2)).elim
  |
   succ j=>
   cases k with
   |zero=>exact (hno i j (by simpa using q2) (by simpa using q1)).elim
   |succ k=>exact K3 (· + 1) (ih hsub j k i (by simpa using q1) (by simpa using q2))
def Xin(X:Addr->Prop)(ns:Ns)(sub:Nd)(n:Addr):Prop:=X n\/(some n∈ns/\some n∉aX sub ns)
def sj{n:Addr}(q:some n∈aX sub ns):some n∈ns:=by obtain⟨j,q⟩:=aW.mp q;obtain⟨i,_,q2⟩:=cx q;exact aW.mpr ⟨i,q2⟩
def CQ{X:Addr->Prop}{H:Hp}:Mov (Oc X ns) (Oc (Xin X ns sub) (aX sub ns)) H H:=.of λn p=>⟨λz=>by
 rcases z with z |⟨z,_⟩
 .exact p.1 z
 .exact p.2 z,λz=>p.2 (sj z)⟩
def jT{sub:Nd}{e:E3}{j:Nat}{s:Sl}(q:(bA sub e)[j]?=some s):(sub[j]?=some none/\s=.no)\/(∃i,sub[j]?=some (some i)/\((e[i]?=none/\s=.no)\/∃t,e[i]?=some t/\s=inS t)):=by
 unfold bA at q;rw[Kz] at q;cases z:sub[j]? with
 |none=>rw[z] at q;cases q
 |
  some o=>
  rw[z] at q;cases o with
  |none=>cases q;exact .inl ⟨rfl,rfl⟩
  |
   some i=>
   refine .inr ⟨i,rfl,?_⟩;have q':=E_ q;dsimp only at q';cases y:e[i]? with
   |none=>rw[y] at q';exact .inl ⟨rfl,q'.symm⟩
   |some t=>rw[y] at q';exact .inr ⟨t,rfl,q'.symm⟩
section
variable{K:W.Frag}{mg:Na}{X N0:Addr->Prop}{ns:Ns}{e:E3}{σ:St}{H:Hp}{sub:Nd}
def Sat.inner(S:Sat K mg X N0 ns e σ H)(hs:mT sub):Sat K mg (Xin X ns sub) N0 (aX sub ns) (bA sub e) (eO sub σ) H:=by
 refine⟨by unfold eO bA;rw[j_,j_],by unfold aX bA;rw[j_,j_],S.lh,λn z=>?_,λj k n q1 q2=>?_,λj n q z=>?_,λj s q=>?_,S.bs⟩
 .rcases z with z |⟨z,_⟩
  .exact S.xl n z
  .obtain⟨i,z⟩:=aW.mp z;obtain⟨_,_,o,_,_,_,_,q',_⟩:=S.own z;exact⟨o,q'⟩
 .obtain⟨i,y1,y2⟩:=cx q1;obtain⟨i',y3,y4⟩:=cx q2
  have:=S.inj i i' n y2 y4
  subst this;exact hs j k i y1 y3
 .rcases z with z |⟨_,z⟩
  .obtain⟨i,y1,y2⟩:=cx q;exact S.nx i n y2 z
  .exact z (aW.mpr ⟨j,q⟩)
 .have hj:∀{o},sub[j]?=some o->(aX sub ns)[j]?=some (o.bind λi=>(ns[i]?).bind id)/\(eO sub σ)[j]?=some (o.bind λi=>(σ[i]?).bind id):=λ{o} z=>by unfold aX eO;rw[Kz,Kz,z];exact⟨rfl,rfl⟩
  rcases jT q with ⟨z,rfl⟩ |⟨i,z,⟨y,rfl⟩ |⟨t,y,rfl⟩⟩
  .rw[(hj z).1];rfl
  .rw[(hj z).1];show some ((ns[i]?).bind id)=some none;have:ns[i]?=none:=by rw[L6] at y ⊢;rw[S.l2];exact y
   rw[this];rfl
  .have k:=(S.sl i t y).mono (CQ (sub:=sub) (H:=H)) λ_ _ _ q _=>q;rw[(hj z).1,(hj z).2];show SlR K mg _ N0 (some ((ns[i]?).bind id)) (some ((σ[i]?).bind id)) H (inS t);have w1:∀x,ns[i]?=some x->some ((ns[i]?).bind id)=some x:=λx q=>by rw[q];rfl
   have w2:∀x,σ[i]?=some x->some ((σ[i]?).bind id)=some x:=λx q=>by rw[q];rfl
   cases t with
   |no=>rw[w1 _ k];rfl
   |sh v=>obtain⟨k1,x,k2,k3⟩:=k;rw[w1 _ k1,w2 _ k2];exact⟨rfl,x,rfl,k3⟩
   |ow v=>obtain⟨m,o,k1,k2,_,k3⟩:=k;rw[w1 _ k1,w2 _ k2];exact⟨m,o,rfl,rfl,k3⟩
   |lo v=>obtain⟨m,o,k1,k2,_,k3⟩:=k;rw[w1 _ k1,w2 _ k2];exact⟨m,o,rfl,rfl,k3⟩
   |mu v=>obtain⟨m,o,k1,k2,k3⟩:=k;rw[w1 _ k1,w2 _ k2];exact⟨m,o,rfl,rfl,k3⟩
   |lm v=>obtain⟨m,o,k1,k2,k3⟩:=k;rw[w1 _ k1,w2 _ k2];exact⟨m,o,rfl,rfl,k3⟩
end
def vB(hs:mT sub):Lnk sub e (bA sub e):=by
 refine⟨hs,λj v q=>?_,λj s q hm=>?_⟩
 .rcases jT q with ⟨_,z⟩ |⟨i,z,⟨_,y⟩ |⟨t,y,y2⟩⟩
  .cases z
  .cases y
  .refine⟨i,t,z,y,?_⟩;cases t <;> first |rfl |cases y2
 .rcases jT q with ⟨_,z⟩ |⟨i,z,⟨_,y⟩ |⟨t,y,y2⟩⟩
  .subst z;cases hm
  .subst y;cases hm
  .subst y2;cases t with
   |ow v=>exact⟨v,rfl⟩
   |mu v=>exact⟨v,rfl⟩
   |_=>cases hm
structure DTs(K:W.Frag)(mg:Na)(X:Cx)(ES:St->XK)(es:List Expr)(F:PTs):Prop where
 ok:L2.PTs X es (rdT K mg ES F.G)
def Mov.trans{P P1 P2:Addr->Prop}{H H1 H2:Hp}(a:Mov P P1 H H1)(b:Mov P1 P2 H1 H2):Mov P P2 H H2:=⟨a.le.trans b.le,λn o p q ht=>by obtain⟨p1,q1⟩:=a.cl n o p q ht;exact b.cl n o p1 q1 ht⟩
section
variable{K:W.Frag}{mg:Na}{X:Cx}{ES:St->XK}{a b c o iter tg elt:Expr}{ifs:List Expr}{I:PIt}{g:PGt}{p:PEx}{t:PTs}{pos:Pos}{sub:Nd}
def cm:DTs K mg X ES [] qY:=⟨λpins s σ H Q i ⟨Y,N0,ns,e,S,p⟩=>D6 pins s σ H Q i (PG3.ret p S)⟩
def oW(h:DT K mg X ES c t):DTs K mg X ES [c] t:=⟨Eh h.ok⟩
def CO{hsb:(sub.filterMap id).Nodup}(σ:St)(H:Hp)(Q:VK):rdE K mg ES (pLC I sub hsb g t p).G σ H Q->rb (rdI K mg ES I.G) sub (rdG K mg g.G) (rdT K mg (λ_=>E0) t.G) (rdE K mg (λ_=>E0) p.G) σ H Q:=λzz=>zz.el λY N0 L ns e S hl pp=>
 ⟨Y,
  N0,ns,e,S,PG3.imp pp S λw e1 ns1 H1 a1 S1 p1 J it hk=>by
  have hs':=zt hsb;have S2:=S1.lockO w.2;have S3:=S2.inner hs';try dsimp only at p1
  split at p1
  .rename_i ys
    e2 q
   split at p1
   .rename_i hy;have kp:∀{ns' e' H'},Stp (aX sub ns1) (bA sub (lockO e1 w.2)) H1 ns' e' H'->Kp Y ns1 w.2 H1 (Oc (Xin Y ns1 sub) ns') H':=λ{ns' e' H'} a=>⟨CQ.trans a.mov,λk n ob hk1 hk2 qm ht=>a.keep n ob qm ht λ⟨j,s,z1,z2,z3⟩=>by
     obtain⟨i,y1,y2⟩:=cx z1
     have:=S1.inj i k n y2 hk2
     subst this;obtain⟨s',w1,w2⟩:=hk i hk1;have hl:(lockO e1 w.2)[i]?=some (iH s'):=by rw[hk1];exact om w1
     rcases jT z2 with ⟨z,_⟩ |⟨i',z,y⟩
     .rw[y1] at z;cases z
     .rw[y1] at z;cases z;rcases y with ⟨y,_⟩ |⟨t,y,rfl⟩
      .rw[hl] at y;cases y
      .rw[hl] at y;cases y;cases s' <;> first |cases w2;done |cases z3;done⟩
    refine⟨λi m acc σ' H'=>m=w.1.length-i/\i<=w.1.length/\∃ns' e' av,Stp (aX sub ns1) (bA sub (lockO e1 w.2)) H1 ns' e' H'/\Sat K mg (Xin Y ns1 sub) N0 ns' e' σ' H'/\Rds K mg (Oc (Xin Y ns1 sub) ns') H' acc av/\lcV g.G t.G p.G (w.1.drop i) av e'=.ok ys e2,⟨_,rfl,K9 _,_,_,[],.refl,S3,.nil,q⟩,?_⟩;rintro i m acc σ' H' ⟨rfl,hi,ns',e',av,a',S',ra,q'⟩;by_cases hlt:i<w.1.length
    .rw[Lx hlt] at q';unfold lcV at q';split at q'
     .rename_i hla;obtain⟨go,yl⟩:=(it _ _ (kp a')).1 i _ (B_ hlt);refine .inr ⟨go,by rw[ra.len];exact hla,λacc' σ2 H2=>i+1<=w.1.length/\∃ns' e' av,Stp (aX sub ns1) (bA sub (lockO e1 w.2)) H1 ns' e' H2/\Sat K mg (Xin Y ns1 sub) N0 ns' e' σ2 H2/\Rds K mg (Oc (Xin Y ns1 sub) ns') H2 acc' av/\lcV g.G t.G p.G (w.1.drop (i+1)) av e'=.ok ys e2,λacc' σ2 H2 n=>⟨_,by omega,rfl,n⟩,λx H2 y=>?_⟩;obtain⟨gr,rx⟩:=yl x H2 y;have a2:=a'.trans S3 (.gr gr);have S4:=S'.gr gr;have ra2:=ra.mono gr.mov;split at q'
      .cases q'
      .rename_i e3 qg;refine⟨_,N0,ns',e',_,e3,S4,rx,qg,λσ3 ns3 a3 S5=>⟨_,N0,ns3,e3,S5,?_⟩⟩;have a4:=a2.trans S3 a3;have ra3:=ra2.mono a3.mov;cases qc:t.G e3 with
       |stuck=>rw[qc] at q';cases q'
       |exc _ _=>rw[qc] at q';cases q'
       |
        ok b e4=>
        rw[qc] at q';intro H4 ns4 a5 S6;have a6:=a4.trans S3 a5;have ra4:=ra3.mono a5.mov;show if b=true then _ else _
        have q':(if b=true then (p.G e4).bind λtt e3=>(match cE e3 tt with
         |some (e4,y)=>lcV g.G t.G p.G (w.1.drop (i+1)) (av++[y]) e4
         |none=>.stuck) else lcV g.G t.G p.G (w.1.drop (i+1)) av e4)=.ok ys e2:=q'
        by_cases hb:b=true
        .rw[if_pos hb] at q' ⊢;refine⟨_,N0,λ_=>True,ns4,e4,S6,λ_ _=>trivial,?_⟩;cases qp:p.G e4 with
         |stuck=>rw[qp] at q';cases q'
         |exc _ _=>rw[qp] at q';cases q'
         |
          ok tt e5=>
          rw[qp] at q';intro H5 ns5 a7 S7 v rv;have q':(match cE e5 tt with
           |some (e4,y)=>lcV g.G t.G p.G (w.1.drop (i+1)) (av++[y]) e4
           |none=>.stuck)=.ok ys e2:=q'
          split at q'
          .rename_i e6 u qd;obtain⟨ns6,S8,a8,r8⟩:=fS S7 rv qd;exact⟨hlt,ns6,e6,_,(a6.trans S3 a7).trans S3 a8,S8,((ra4.mono a7.mov).mono a8.mov).append (.cons r8 .nil),q'⟩
          .cases q'
        .rw[if_neg hb] at q' ⊢;exact⟨hlt,ns4,e4,av,a6,S6,ra4,q'⟩
     .cases q'
    .have hi2:i=w.1.length:=by omega
     subst hi2;rw[List.drop_length] at q';cases q';have k3:∀n,Oc (Xin Y ns1 sub) ns' n->Oc Y ns1 n:=λn z=>⟨λy=>z.1 (.inl y),λy=>by
      by_cases w:some n∈aX sub ns1
      .obtain⟨j,w⟩:=aW.mp w;obtain⟨s,v,o,b1,b2,_⟩:=S3.own w;rcases b2 with b2 |b2
       .obtain⟨v',rfl⟩:=(vB (e:=lockO e1 _) hs').mt j s b1 b2;obtain⟨u,c1,c2⟩:=a'.mu' j v' b1;exact z.2 (aW.mpr ⟨j,by rw[c2];exact w⟩)
       .obtain⟨c1,c2⟩:=a'.lk j s b1 b2;exact z.2 (aW.mpr ⟨j,by rw[c2];exact w⟩)
      .exact z.1 (.inr ⟨y,w⟩)⟩
     obtain⟨S5,a5⟩:=S2.back (Y:=Y) (vB hs') a' S'.bs (λn z=>by
      obtain⟨ob,z'⟩:=S2.xl n z;exact⟨by
       cases qh:H' n with
       |none=>rw[a'.dom n qh] at z';cases z'
       |some o'=>exact⟨o',rfl⟩,.inl z⟩) (λ_ z=>z) λj v n q1 q2=>by
      obtain⟨s,u,o,b1,b2,b3,b4,b5,b6,b7⟩:=S'.own q2;rw[q1] at b1;cases b1;cases b3;exact⟨o,b5,b6,b7.mono (.of k3)⟩
     have d_:∀e'',Sat K mg Y N0 ns1 e'' σ H'->Stp ns1 e1 H1 ns1 e'' H'->PG3 K mg Y N0 ns1 e1 σ H1 (ES σ) (KE K mg Y N0 L σ Q) (.ok (.new (.lst ys)) e'')->∀D,H' D=none->Q (.ref D) (upd H' D (.lst acc)):=λe'' S6 a6 p6 D hD=>
      PG3.bv (b:=.new (.lst ys)) (p6.after S1 a6) S6 (λa z=>hl a (a1.dom a (a6.dom a z))) H' D _ .refl hD trivial (.lst (ra.mono (.of k3)))
     refine .inl ⟨(it _ _ (kp a')).2,by rw[ra.len];exact hy,?_⟩;cases hp:w.2 with
     |none=>rw[hp] at S5 a5 p1;exact d_ _ S5 a5 p1
     |some k=>rw[hp] at S5 a5 p1;obtain⟨s,w1,w2⟩:=hk k hp;exact d_ _ (S5.unlock k) (a5.unlock w1 w2) p1
   .exact p1.elim
  .exact p1.elim⟩
def fF{scope:Scope}(M:List Str)(kn:List (Str×NameKind))(N:List Str)(sub:Nd){hsb:(sub.filterMap id).Nodup}(hi:DI K mg X ES tg iter I)(hg:N.Nodup->∀cl C s₂ H fp,DG K mg (bN X N scope cl C s₂ H fp) tg g)(ht:N.Nodup->∀cl C s₂ H fp,DTs K mg (bN X N scope cl C s₂ H fp) (λ_=>E0) ifs t)(he:N.Nodup->∀cl C s₂ H fp,DE K mg (bN X N scope cl C s₂ H fp) (λ_=>E0) elt p)(hnd:N.Nodup:=by decide)(hc:X.calm=true:=by rfl)(hM:X.N=M:=by rfl)(hkn:X.env.scope.names=kn:=by rfl)(hsub:rq M scope.names sub N=true:=by decide)(hk:scope.kind=.function:=by rfl)(hnc:∀x∈scope.names,x.2 ≠ .cell:=by decide)(f_:∀x∈scope.names,x.2=.local->scope.names.lookup x.1=some .local:=by decide)(hfr:wu kn scope.names=true:=by decide)(hsl:sub.length=N.length:=by rfl)(hs:∀x,foldedSetIterable iter X.env x=pure x:=by intro _;rfl):DE K mg X ES (.ListComp elt [⟨tg,iter,ifs,0⟩] scope pos) (pLC I sub hsb g t p):=
 ⟨PE.imp (Hf hc hi.ok hk hnc f_ (by subst hkn;exact uY hfr) hsl (by subst hM;exact tK hsub) (λcl C s H f=>(hg hnd cl C s H f).ok) (λcl C s H f=>(ht hnd cl C s H f).ok) (λcl C s H f=>(he hnd cl C s H f).ok) hs) CO⟩
def zSlc{ow:Bool}{px spos:Pos}{iT:Nat}{xT:Str}{scope:Scope}(hN:X.N.Nodup)(M:List Str)(kn:List (Str×NameKind))(N:List Str)(sub:Nd){hsb:(sub.filterMap id).Nodup}(hi:DI K mg X ES tg iter I)(hg:N.Nodup->∀cl C s₂ H fp,DG K mg (bN X N scope cl C s₂ H fp) tg g)(ht:N.Nodup->∀cl C s₂ H fp,DTs K mg (bN X N scope cl C s₂ H fp) (λ_=>E0) ifs t)(he:N.Nodup->∀cl C s₂ H fp,DE K mg (bN X N scope cl C s₂ H fp) (λ_=>E0) elt p)(hsw:swapsWith (.ListComp elt [⟨tg,iter,ifs,0⟩] scope pos) (some (.Name xT px)) spos.line X.env=pure true:=by rfl)(hnd:N.Nodup:=by decide)(hc:X.calm=true:=by rfl)(hix:X.N[iT]?=some xT:=by rfl)(hxl:Loc X.env.scope xT:=by first |exact Or.inl rfl |exact Or.inr rfl)(hM:X.N=M:=by rfl)(hkn:X.env.scope.names=kn:=by rfl)(hsub:rq M scope.names sub N=true:=by decide)(hk:scope.kind=.function:=by rfl)(hnc:∀x∈scope.names,x.2 ≠ .cell:=by decide)(f_:∀x∈scope.names,x.2=.local->scope.names.lookup x.1=some .local:=by decide)(hfr:wu kn scope.names=true:=by decide)(hsl:sub.length=N.length:=by rfl)(hs:∀x,foldedSetIterable iter X.env x=pure x:=by intro _;rfl)(hf:X.fn xT=true\/X.env.scope.names.lookup xT=some .local:=by first |exact .inl rfl |exact .inr rfl |assumption):DS K mg X ES (.Assign [.Name xT px] (.ListComp elt [⟨tg,iter,ifs,0⟩] scope pos) spos) (ax ow iT (pLC I sub hsb g t p)):=
 ⟨PS.imp (Hm hc hN hix hxl hi.ok hk hnc f_ (by subst hkn;exact uY hfr) hsl (by subst hM;exact tK hsub) (λcl C s H f=>(hg hnd cl C s H f).ok) (λcl C s H f=>(ht hnd cl C s H f).ok) (λcl C s H f=>(he hnd cl C s H f).ok) hsw hs hf) λD σ H q=>CO σ H _ (zO D σ H q)⟩
end
inductive R3F where
 |ok (r:Rt) (mv:List Val) |exc (c:Str) (mv:List Val) |stuck
abbrev Fn3:=List Val->R3F
noncomputable def sl1 (b:Bool) (v:Val):Sl:=if b=true then .mu v else .sh v
noncomputable def sls (ms:List Bool) (vs:List Val):E3:=List.zipWith sl1 ms vs
noncomputable def aB:List Bool->List Val->E3
 |true::ms,v::vs=>.mu v::aB ms vs
 |true::ms,[]=>.no::aB ms []
 |false::ms,vs=>.no::aB ms vs
 | [],_=>[]
noncomputable def muV:List Bool->E3->Option (List Val)
 |true::ms,.mu v::e=>(muV ms e).map (v :: ·)
 |true::_,_=>none
 |false::ms,_::e=>muV ms e
 |false::_,[]=>none
 | [],_=>some []
noncomputable def fnV (ms:List Bool) (N:Nat) (F:MS3):Fn3:=λvs=>if vs.length=ms.length then (match F (sls ms vs++List.replicate (N-vs.length) .no) with
 |.nx e=>(match muV ms e with |some mv=>.ok (.val .non) mv |none=>.stuck)
 |.rt r e=>(match muV ms e with |some mv=>.ok r mv |none=>.stuck)
 |.exc c e=>(match muV ms e with |some mv=>.exc c mv |none=>.stuck)
 |_=>.stuck) else .stuck
def eX{ms:List Bool}{vs:List Val}{i:Nat}{s:Sl}(q:(sls ms vs)[i]?=some s):∃b v,ms[i]?=some b/\vs[i]?=some v/\s=sl1 b v:=by
 unfold sls at q;rw[Lq] at q;cases h1:ms[i]? with
 |none=>rw[h1] at q;cases q
 |
  some b=>
  cases h2:vs[i]? with
  |none=>rw[h1,h2] at q;cases q
  |some v=>rw[h1,h2] at q;cases q;exact⟨b,v,rfl,rfl,rfl⟩
theorem gZ:∀{ms:List Bool}{e:E3}{mv:List Val}{i:Nat}{s:Sl},muV ms e=some mv->(aB ms mv)[i]?=some s->(ms[i]?=some false/\s=.no)\/(ms[i]?=some true/\∃v,e[i]?=some (.mu v)/\s=.mu v)
 | [],_,_,_,_,_,q=>by unfold aB at q;simp at q
 |
  true::ms,.mu v::e,mv,i,s,q,q2=>by
  obtain⟨mv',z1,z2⟩:=H_.mp (show (muV ms e).map (v :: ·)=some mv from q);subst z2;cases i with
  |zero=>
   right;have:Sl.mu v=s:=by simpa [aB] using q2
   subst this;exact⟨rfl,v,rfl,rfl⟩
  |
   succ i=>
   have:=gZ (i:=i) (s:=s) z1 (by simpa [aB] using q2)
   simpa using this
 |true::ms,[],mv,i,s,q,q2=>by cases q
 |true::ms,.no::e,mv,i,s,q,q2=>by cases q
 |true::ms,.sh v::e,mv,i,s,q,q2=>by cases q
 |true::ms,.ow v::e,mv,i,s,q,q2=>by cases q
 |true::ms,.lo v::e,mv,i,s,q,q2=>by cases q
 |true::ms,.lm v::e,mv,i,s,q,q2=>by cases q
 |false::ms,[],mv,i,s,q,q2=>by cases q
 |
  false::ms,t::e,mv,i,s,q,q2=>by
  cases i with
  |zero=>
   left;have:Sl.no=s:=by simpa [aB] using q2
   exact⟨rfl,this.symm⟩
  |
   succ i=>
   have:=gZ (i:=i) (s:=s) (show muV ms e=some mv from q) (by simpa [aB] using q2)
   simpa using this
theorem nZ:∀{ms:List Bool}{e:E3}{mv:List Val}{i:Nat},muV ms e=some mv->ms[i]?=some true->∃v,e[i]?=some (.mu v)/\(aB ms mv)[i]?=some (.mu v)
 | [],_,_,i,_,q=>by simp at q
 |
  true::ms,.mu v::e,mv,i,q,q2=>by
  obtain⟨mv',z1,z2⟩:=H_.mp (show (muV ms e).map (v :: ·)=some mv from q);subst z2;cases i with
  |zero=>exact⟨v,rfl,rfl⟩
  |succ i=>obtain⟨u,y1,y2⟩:=nZ (i:=i) z1 (by simpa using q2);exact⟨u,by simpa using y1,by simpa [aB] using y2⟩
 |true::ms,[],mv,i,q,q2=>by cases q
 |true::ms,.no::e,mv,i,q,q2=>by cases q
 |true::ms,.sh v::e,mv,i,q,q2=>by cases q
 |true::ms,.ow v::e,mv,i,q,q2=>by cases q
 |true::ms,.lo v::e,mv,i,q,q2=>by cases q
 |true::ms,.lm v::e,mv,i,q,q2=>by cases q
 |false::ms,[],mv,i,q,q2=>by cases q
 |
  false::ms,t::e,mv,i,q,q2=>by
  cases i with
  |zero=>simp at q2
  |succ i=>obtain⟨u,y1,y2⟩:=nZ (i:=i) (show muV ms e=some mv from q) (by simpa using q2);exact⟨u,by simpa using y1,by simpa [aB] using y2⟩
theorem iz:∀{ms:List Bool}{mv:List Val},(aB ms mv).length=ms.length
 | [],_=>rfl
 |true::ms,v::mv=>by show (aB ms mv).length+1=ms.length+1;rw[iz]
 |true::ms,[]=>by show (aB ms []).length+1=ms.length+1;rw[iz]
 |false::ms,mv=>by show (aB ms mv).length+1=ms.length+1;rw[iz]
noncomputable def iV (i:Nat):List Tm->Bool
 |.bor j::ts=>(i==j) || iV i ts
 |_::ts=>iV i ts
 | []=>false
noncomputable def n0 (i:Nat):List Bool->List Tm->Bool
 |true::ms,.bor j::ts=>(i==j) || n0 i ms ts
 |_::ms,_::ts=>n0 i ms ts
 |_,_=>false
noncomputable def okA (e:E3):List Bool->List Tm->Bool
 |true::ms,.bor i::ts=>((e[i]?).bind Sl.mv).isSome && !(iV i ts)&&okA e ms ts
 |true::_,_::_=>false
 |false::ms,.bor i::ts=>!(n0 i ms ts)&&okA e ms ts
 |false::ms,_::ts=>okA e ms ts
 | [],[]=>true
 |_,_=>false
noncomputable def oJ (b:Bool) (t:Tm):Option Nat:=match b,t with
 |true,.bor i=>some i
 |_,_=>none
noncomputable def aQ (ms:List Bool) (ts:List Tm):List (Option Nat):=List.zipWith oJ ms ts
noncomputable def aS (e:E3):List Bool->List Tm->List Nat
 |false::ms,.bor i::ts=>(match e[i]? with
  |some (.sh _)=>aS e ms ts
  |_=>i::aS e ms ts)
 |_::ms,_::ts=>aS e ms ts
 |_,_=>[]
mutual
def flatV:Val->Bool
 |.tup xs=>flatVs xs
 |.lst _=>false
 |.kl _=>false
 |.dct _=>false
 |.set _=>false
 |_=>true
def flatVs:List Val->Bool
 | []=>true
 |v::vs=>flatV v&&flatVs vs
end
noncomputable def nS:List (Key×Val)->Bool
 | []=>true
 |(_,v)::vs=>flatV v&&nS vs
noncomputable def cz:Val->Bool
 |.lst xs=>flatVs xs
 |.dct xs=>nS xs
 |.set _=>true
 |_=>false
noncomputable def k8:Rt->Bool
 |.val v=>flatV v
 |.new v=>cz v
 |.par _=>true
 |.pr v u=>flatV v&&cz u
noncomputable def oq (e:E3):List Nat->Option E3
 | []=>some e
 |i::is=>match cE e (.bor i) with
  |some (e1,_)=>oq e1 is
  |none=>none
noncomputable def Rt.tm (ts:List Tm):Rt->Tm
 |.val v=>.val v
 |.new v=>.new v
 |.par i=>(ts[i]?).getD (.val .non)
 |.pr v u=>.val (.tup [v,u])
noncomputable def Jx (ms:List Bool) (G:Fn3) (A:MA3) (e:E3):R3 Tm:=(A e).bind λts e1=>match rss e1 ts with
 |none=>.stuck
 |some vs=>if okA e1 ms ts=true then (match G vs with
  |.stuck=>.stuck
  |.ok r mv=>if (aS e1 ms ts).isEmpty || (k8 r&&mv.all cz) then .ok (r.tm ts) (aV (aQ ms ts) (aB ms mv) e1) else (match oq e1 (aS e1 ms ts) with
   |some e2=>.ok (r.tm ts) (aV (aQ ms ts) (aB ms mv) e2)
   |none=>.stuck)
  |.exc c mv=>if (aS e1 ms ts).isEmpty || mv.all cz then .exc c (aV (aQ ms ts) (aB ms mv) e1) else .stuck) else .stuck
section
variable{K:W.Frag}{mg:Na}{P P':Addr->Prop}{H H':Hp}
def Rd.flat(l:LeH H H')(f:flatV v=true)(r:Rd K mg P H d v):Rd K mg P' H' d v:=
 @Rd.rec K mg P H (λd v _=>flatV v=true->Rd K mg P' H' d v) (λo v _=>flatV v=true->Rd K mg P' H' .non v) (λds vs _=>flatVs vs=true->Rds K mg P' H' ds vs) (λws us _=>True) (λ_=>.non) (λb _=>.bl b) (λi _=>.int i) (λx _=>.str x) (λn _=>.ty n) (λm _=>.glb m) (λm e _=>.exc m (l.ext _ _ e)) (λh _ ih f=>.tup (l.sqT h) (ih f)) (λ_ _ _ f=>absurd f h_) (λ_ _ r _ f=>by cases r <;> exact absurd f h_) (λ_ _ f=>absurd f h_) (λ_ _ f=>absurd f h_) (λ_ _ f=>absurd f h_) (λ_ _ f=>absurd f h_) (λ_=>.nil) (λ_ _ a b f=>.cons (a (p_ .. ▸ f).1) (b (p_ .. ▸ f).2)) trivial (λ_ _ _ _=>trivial) d v r f
def Rds.flat(l:LeH H H')(f:flatVs v=true)(r:Rds K mg P H ds v):Rds K mg P' H' ds v:=
 r.ind (M:=λds vs=>flatVs vs=true->Rds K mg P' H' ds vs) (λ_=>.nil) (λr _ ih f=>by rw[flatVs,p_] at f;exact .cons (Rd.flat l f.1 r) (ih f.2)) f
def Rk.flat(l:LeH H H')(f:nS v=true)(r:Rk K mg P H ds v):Rk K mg P' H' ds v:=
 r.ind (M:=λds vs=>nS vs=true->Rk K mg P' H' ds vs) (λ_=>.nil) (λr _ ih f=>by rw[nS,p_] at f;exact .cons (Rd.flat l f.1 r) (ih f.2)) f
def Rc.flat(l:LeH H H')(f:cz v=true)(r:Rc K mg P H o v):Rc K mg P' H' o v:=by
 cases r with
 |lst r=>exact .lst (Rds.flat l (by simpa [cz] using f) r)
 |fz r=>simp [cz] at f
 |dct r=>exact .dct (Rk.flat l (by simpa [cz] using f) r)
 |set xs nd=>exact .set xs nd
end
structure PFn where
 ms:List Bool
 G:Fn3
def nn(H:Hp)(a:Addr):Prop:=H a=none
def sp3(K:W.Frag)(mg:Na)(f:PFn):Sp:=λvs H Q E=>∃Y ps us,us.length=f.ms.length/\Sat K mg Y (nn H) ps (sls f.ms us) (vs.map some) H/\match f.G us with
 |.ok r mv=>∀x H',Stp ps (sls f.ms us) H ps (aB f.ms mv) H'->RtR K mg Y (nn H) ps (aB f.ms mv) (vs.map some) H' x r->Q x H'
 |.exc c mv=>∀C H',Stp ps (sls f.ms us) H ps (aB f.ms mv) H'->Sat K mg Y (nn H) ps (aB f.ms mv) (vs.map some) H'->mg c=some (.ref C)->E (.ref C) none H'
 |.stuck=>False
noncomputable def fnP (ms:List Bool) (N:Nat) (c:PSt):PFn:=⟨ms,fnV ms N c.G⟩
section
variable{K:W.Frag}{mg:Na}{X N0:Addr->Prop}{ps:Ns}{e:E3}{H H':Hp}{ms:List Bool}{us:List Val}{vs:List V}{k:Nat}
def D1(S:Sat K mg X N0 ps e σ H):Sat K mg X N0 (ps++List.replicate k none) (e++List.replicate k .no) (σ++List.replicate k none) H:=by
 have gns:∀{i n:Nat},(ps++List.replicate k (none:Option Addr))[i]?=some (some n)->ps[i]?=some (some n):=λ{i n} q=>by
  rw[Mu] at q;split at q
  .exact q
  .rw[K5] at q;split at q <;> cases q
 refine⟨?_,?_,S.lh,S.xl,λi j n q1 q2=>S.inj i j n (gns q1) (gns q2),λi n q=>S.nx i n (gns q),λi s q=>?_,S.bs⟩
 .rw[z_,z_,Lr,Lr,S.l1]
 .rw[z_,z_,Lr,Lr,S.l2]
 .rw[Mu] at q;split at q
  .rename_i hi;rw[KJ (by rw[S.l2];exact hi),KJ (by rw[S.l1];exact hi)];exact (S.sl i s q).mono (.of λn p=>⟨p.1,λz=>p.2 (by obtain⟨j,z⟩:=aW.mp z;exact aW.mpr ⟨j,gns z⟩)⟩) λ_ _ _ q _=>q
  .rename_i hi;rw[K5] at q;split at q
   .cases q;rw[LY (by rw[S.l2];exact Nat.le_of_not_lt hi),K5,if_pos (by rw[S.l2];assumption)];rfl
   .cases q
def jl{Y:Addr->Prop}(hl:us.length=ms.length)(S:Sat K mg X N0 ps (sls ms us) σ H)(hXY:∀n,X n->Y n)(a:Stp (ps++List.replicate k none) (sls ms us++List.replicate k .no) H ns' e' H')(S2:Sat K mg Y N0 ns' e' σ' H')(qm:muV ms e'=some mv):
 Stp ps (sls ms us) H ps (aB ms mv) H'/\Sat K mg Y N0 ps (aB ms mv) σ H'/\∀n,Oc Y ns' n->Oc Y ps n:=by
 have lS:(sls ms us).length=ms.length:=by unfold sls;rw[Lj];omega
 have ltS:∀{i:Nat},i<ms.length->i<(sls ms us).length:=λh=>by omega
 have ltP:∀{i:Nat},i<(sls ms us).length->i<ps.length:=λh=>S.l2.symm ▸ h;have kmu:∀{i:Nat},ms[i]?=some true->∃v u n o,e'[i]?=some (.mu v)/\(aB ms mv)[i]?=some (.mu v)/\(sls ms us)[i]?=some (.mu u)/\ns'[i]?=ps[i]?/\ps[i]?=some (some n)/\σ[i]?=some (some (.ref n))/\H' n=some o/\NotFz o/\Rc K mg (Oc Y ns') H' o v:=by intro i hi;obtain⟨v,y1,y2⟩:=nZ qm hi;have hil:i<ms.length:=(u_.mp hi).1;obtain⟨u,y3,y4⟩:=a.mu i v y1;rw[KJ (ltS hil)] at y3;rw[KJ (ltP (ltS hil))] at y4;obtain⟨n,o,z1,z2,_⟩:=S.sl i _ y3;obtain⟨n',o',w1,w2,w3,w4,w5⟩:=S2.sl i _ y1;rw[y4,z1] at w1;cases w1;exact⟨v,u,n,o',y1,y2,y3,y4,z1,z2,w3,w4,w5⟩
 have kown:∀{i n:Nat},ps[i]?=some (some n)->ms[i]?=some true:=λ{i n} q=>by
  obtain⟨s,v,o,z1,z2,_⟩:=S.own q;obtain⟨b,u,y1,_,y2⟩:=eX z1;cases b with
  |true=>exact y1
  |false=>subst y2;rcases z2 with z2 |z2 <;> cases z2
 have koc:∀n,Oc Y ns' n->Oc Y ps n:=λn z=>⟨z.1,λy=>by obtain⟨i,y⟩:=aW.mp y;obtain⟨v,u,n',o,_,_,_,k1,k2,_⟩:=kmu (kown y);exact z.2 (aW.mpr ⟨i,by rw[k1];exact y⟩)⟩;refine⟨⟨a.le,a.dom,λm o q ht hm=>a.keep m o q ht λ⟨i,s,z1,z2,z3⟩=>hm ?_,λ_ _ q=>.inl q,λi s q hl'=>?_,λi s q hl'=>?_,λi v q=>?_,λi v q=>?_⟩,⟨?_,?_,λn z=>S.lh n (a.dom n z),S2.xl,S.inj,λi n q z=>?_,λi s q=>?_,S2.bs⟩,koc⟩
 .rw[Mu] at z1;split at z1
  .rename_i hi;rw[KJ (by rw[<- S.l2];exact hi)] at z2;exact⟨i,s,z1,z2,z3⟩
  .rw[K5] at z1;split at z1 <;> cases z1
 .obtain⟨b,u,_,_,y⟩:=eX q;subst y;cases b <;> cases hl'
 .rcases gZ qm q with ⟨_,z⟩ |⟨_,v,_,z⟩ <;> subst z <;> cases hl'
 .rcases gZ qm q with ⟨_,z⟩ |⟨z,_⟩
  .cases z
  .obtain⟨v',u,n,o,_,_,k1,_⟩:=kmu z;exact⟨u,k1,rfl⟩
 .obtain⟨b,u,y1,_,y2⟩:=eX q;cases b with
  |false=>cases y2
  |true=>obtain⟨v',u,n,o,_,k0,k1,_⟩:=kmu y1;exact⟨v',k0,rfl⟩
 .rw[S.l1,iz];exact lS
 .rw[S.l2,iz];exact lS
 .obtain⟨v,u,n',o,_,_,_,k1,k2,_⟩:=kmu (kown q);exact S2.nx i n (by rw[k1];exact q) z
 .rcases gZ qm q with ⟨z,rfl⟩ |⟨z,v,z2,rfl⟩
  .have hil:i<ms.length:=(u_.mp z).1;have hi:i<(sls ms us).length:=ltS hil;obtain⟨b,u,y1,_,y2⟩:=eX (B_ hi);rw[z] at y1;cases y1;have k:=S.sl i _ (B_ hi);rw[y2] at k;exact k.1
  .obtain⟨v',u,n,o,k0,_,_,k1,k2,k3,k4,k5,k6⟩:=kmu z;rw[z2] at k0;cases k0;exact⟨n,o,k2,k3,k4,k5,k6.mono (.of koc)⟩
variable{P:Program}{w:World}{base:Heap}{fx:Str}{fst:Stmt}{n m:Nat}{pn N:List Str}{x:PSt}
def zH(sp:sp3 K mg (fnP ms m x) vs H Q E):vs.length=ms.length:=by obtain⟨Y,ps,us,hl,S,_⟩:=sp;have q:=S.l1;unfold sls at q;rw[j_,Lj] at q;have hl':us.length=ms.length:=hl;have:(fnP ms m x).ms=ms:=rfl;rw[this] at q;omega
def AR{Q:VK}{E:XK}(sp:sp3 K mg (fnP ms N.length x) vs H Q E):rdS K mg (λ_=>E) x.G { nx:=λ_ H'=>Q .non H',rt:=Q } (gj N vs) H:=by
 have hv:=zH sp;obtain⟨Y,ps,us,hl,S0,p⟩:=sp;have hl:us.length=ms.length:=hl;have S0:Sat K mg Y (nn H) ps (sls ms us) (vs.map some) H:=S0;have S1:=D1 (k:=N.length-vs.length) S0;refine⟨Y,nn H,_,_,S1,?_⟩;have p:match fnV ms N.length x.G us with
  |.ok r mv=>∀y H',Stp ps (sls ms us) H ps (aB ms mv) H'->RtR K mg Y (nn H) ps (aB ms mv) (vs.map some) H' y r->Q y H'
  |.exc c mv=>∀C H',Stp ps (sls ms us) H ps (aB ms mv) H'->Sat K mg Y (nn H) ps (aB ms mv) (vs.map some) H'->mg c=some (.ref C)->E (.ref C) none H'
  |.stuck=>False:=p
 unfold fnV at p;rw[if_pos hl] at p;have hvu:us.length=vs.length:=by omega
 rw[hvu] at p;cases q:x.G (sls ms us++List.replicate (N.length-vs.length) .no) with
 |stuck=>rw[q] at p;exact p.elim
 |bk _=>rw[q] at p;exact p.elim
 |ct _=>rw[q] at p;exact p.elim
 |
  nx e'=>
  rw[q] at p;intro H' σ' ns' a S2;try dsimp only at p
  cases qm:muV ms e' with
  |none=>rw[qm] at p;exact p.elim
  |some mv=>rw[qm] at p;obtain⟨a3,S3,koc⟩:=jl hl S0 (λ_ z=>z) a S2 qm;exact p _ _ a3 ⟨S3,.non⟩
 |
  exc c e'=>
  rw[q] at p;intro H' σ' ns' C a S2 hC;try dsimp only at p
  cases qm:muV ms e' with
  |none=>rw[qm] at p;exact p.elim
  |some mv=>rw[qm] at p;obtain⟨a3,S3,koc⟩:=jl hl S0 (λ_ z=>z) a S2 qm;exact p _ _ a3 S3 hC
 |
  rt r e'=>
  rw[q] at p;intro H' σ' ns' y a rr;try dsimp only at p
  cases qm:muV ms e' with
  |none=>rw[qm] at p;exact p.elim
  |
   some mv=>
   rw[qm] at p;cases r with
   |val v=>obtain⟨a3,S3,koc⟩:=jl hl S0 (λ_ z=>z) a rr.1 qm;exact p _ _ a3 ⟨S3,rr.2.mono (.of koc)⟩
   |new v=>obtain⟨n,o,z1,z2,z3,z4,z5,z6,z7⟩:=rr;obtain⟨a3,S3,koc⟩:=jl (Y:=Xn Y n) hl S0 (λ_ z=>.inl z) a z6 qm;exact p _ _ a3 ⟨n,o,z1,z2,z3,z4,z5,S3,z7.mono (.of koc)⟩
   |pr v u=>obtain⟨pp,d1,n,o,z0,z1,z2,z3,z4,z5,z6,z7,z8⟩:=rr;obtain⟨a3,S3,koc⟩:=jl (Y:=Xn Y n) hl S0 (λ_ z=>.inl z) a z6 qm;exact p _ _ a3 ⟨pp,d1,n,o,z0,z1,z2,z3,z4,z5,S3,z7.mono (.of koc),z8.mono (.of koc)⟩
   |
    par i=>
    obtain⟨R1,R2,v,R3⟩:=rr;obtain⟨a3,S3,koc⟩:=jl hl S0 (λ_ z=>z) a R1 qm;refine p _ _ a3 ⟨S3,?_,?_⟩;all_goals
     obtain⟨u,k1,k2⟩:=a.mu i v R3;have hi:i<(sls ms us).length:=by apply Decidable.byContradiction;intro hi;rw[LY (Nat.le_of_not_lt hi),K5] at k1;split at k1 <;> cases k1
     rw[KJ hi] at k1;rw[KJ (by rw[S0.l2];exact hi)] at k2;obtain⟨m,o,w1,w2,_⟩:=S0.sl i _ k1
    .obtain⟨m',o',x1,x2,_⟩:=R1.sl i _ R3;rw[k2,w1] at x1;cases x1;rw[R2] at x2;cases x2;exact w2
    .obtain⟨v',y,_⟩:=a3.mu' i u k1;exact⟨v',y⟩
def okP(D:Def K mg fx fst)(S:FnScope N pn (ar fst))
 (hb:∀(kV doc pm:Value) (an:Option Addr) (cdv ct:Value) (us:List Value),us.length=pn.length->bindArgs (W.fnOf fx fx (dU fst) (bS fst) (ar fst) .none kV doc pm an cdv ct) ⟨us,[]⟩=pure (pn.zip us))
 (hbody:N.Nodup->∀(f:Addr) (cdv:Value) (A:Around) (outer:List Env) (s:Shared) (H:Hp) (E:XK),Room k (A.deeper (envOfC fx (ar fst) s.heap.objs.size f cdv))->
  DSs K mg (eS (CX1 P w) P w K mg base N fx (ar fst) f cdv A outer s H E) (λ_=>E) (bS fst) x) (hn:ms.length=pn.length:=by rfl) (hm:N.length=m:=by rfl):Callee P w K mg base fx (k+1) pn (sp3 K mg (fnP ms m x)):=by
 subst hm;exact D.okR S hb (λvs H Q E sp=>by rw[<- hn];exact zH sp) λf cdv A outer s H vs Q E hr sp=>⟨_,(hbody S.nd f cdv A outer s H E hr).ok,AR sp⟩
end
theorem oV:∀{ts:List Tm}{k:Nat},ts[k]?=some (.bor i)->iV i ts=true
 | [],_,q=>by simp at q
 |
  t::ts,0,q=>by
  have:t=.bor i:=by simpa using q
  subst this;simp [iV]
 |
  t::ts,k+1,q=>by
  have:=oV (ts:=ts) (k:=k) (by simpa using q)
  cases t <;> simp [iV,this]
theorem vw:∀{ms:List Bool}{ts:List Tm}{k:Nat},ms[k]?=some true->ts[k]?=some (.bor i)->n0 i ms ts=true
 | [],_,_,q,_=>by simp at q
 |_::_,[],_,_,q=>by simp at q
 |
  b::ms,t::ts,0,q1,q=>by
  have:t=.bor i:=by simpa using q
  have:b=true:=by simpa using q1
  subst_vars;simp [n0]
 |
  b::ms,t::ts,k+1,q1,q=>by
  have:=vw (ms:=ms) (ts:=ts) (k:=k) (by simpa using q1) (by simpa using q)
  cases b <;> cases t <;> simp [n0,this]
theorem lj:∀{ms:List Bool}{ts:List Tm}{k:Nat},okA e ms ts=true->ms[k]?=some true->∃i,ts[k]?=some (.bor i)/\∃u,(e[i]?).bind Sl.mv=some u
 | [],_,_,_,q=>by simp at q
 |b::ms,[],_,o,_=>by cases b <;> simp [okA] at o
 |
  b::ms,t::ts,0,o,q=>by
  have:b=true:=by simpa using q
  subst this;cases t with
  |bor i=>simp only[okA,p_] at o;exact⟨i,rfl,Lc.mp o.1.1⟩
  |_=>simp [okA] at o
 |
  b::ms,t::ts,k+1,o,q=>by
  have o':okA e ms ts=true:=by cases b <;> cases t <;> simp only[okA,p_] at o <;> first |exact o.2 |exact o |(simp at o;done)
  obtain⟨i,y⟩:=lj (k:=k) o' (by simpa using q);exact⟨i,by simpa using y⟩
theorem i7:∀{ms:List Bool}{ts:List Tm}{k j i:Nat},okA e ms ts=true->ms[k]?=some true->ts[k]?=some (.bor i)->ts[j]?=some (.bor i)->j=k
 | [],_,_,_,_,_,q,_,_=>by simp at q
 |b::ms,[],_,_,_,o,_,_,_=>by cases b <;> simp [okA] at o
 |b::ms,t::ts,0,0,i,o,q1,q2,q3=>rfl
 |
  b::ms,t::ts,0,j+1,i,o,q1,q2,q3=>by
  have h1:b=true:=by simpa using q1
  have h2:t=.bor i:=by simpa using q2
  subst h1 h2;simp only[okA,p_] at o
  have:=oV (i:=i) (ts:=ts) (k:=j) (by simpa using q3)
  rw[this] at o;simp at o
 |
  b::ms,t::ts,k+1,0,i,o,q1,q2,q3=>by
  have h2:t=.bor i:=by simpa using q3
  subst h2;have hm:=vw (i:=i) (ms:=ms) (ts:=ts) (k:=k) (by simpa using q1) (by simpa using q2);have hb:=oV (i:=i) (ts:=ts) (k:=k) (by simpa using q2);cases b <;> simp [okA,hm,hb] at o
 |
  b::ms,t::ts,k+1,j+1,i,o,q1,q2,q3=>by
  have o':okA e ms ts=true:=by cases b <;> cases t <;> simp only[okA,p_] at o <;> first |exact o.2 |exact o |(simp at o;done)
  exact K3 (· + 1) (i7 (k:=k) (j:=j) (i:=i) o' (by simpa using q1) (by simpa using q2) (by simpa using q3))
theorem o3:∀{ms:List Bool}{ts:List Tm},okA e ms ts=true->ms.length=ts.length
 | [],[],_=>rfl
 | [],_::_,o=>by simp [okA] at o
 |b::ms,[],o=>by cases b <;> simp [okA] at o
 |
  b::ms,t::ts,o=>by
  have o':okA e ms ts=true:=by cases b <;> cases t <;> simp only[okA,p_] at o <;> first |exact o.2 |exact o |(simp at o;done)
  exact K3 (· + 1) (o3 o')
theorem mC:∀{ms:List Bool}{ts:List Tm}{k i:Nat},ms[k]?=some false->ts[k]?=some (.bor i)->(∀v,e[i]?≠some (.sh v))->i∈aS e ms ts
 | [],_,_,_,q,_,_=>by simp at q
 |_::_,[],_,_,_,q,_=>by simp at q
 |
  b::ms,t::ts,0,i,q1,q2,hn=>by
  have h1:b=false:=by simpa using q1
  have h2:t=.bor i:=by simpa using q2
  subst h1 h2;unfold aS;split
  .rename_i v q;exact absurd q (hn v)
  .exact l_ ..
 |
  b::ms,t::ts,k+1,i,q1,q2,hn=>by
  have ih:=mC (ms:=ms) (ts:=ts) (k:=k) (by simpa using q1) (by simpa using q2) hn;cases b <;> cases t <;> simp only[aS] <;> first |exact ih |(split;exact ih;exact k_ _ ih)
def eT{ms:List Bool}{ts:List Tm}{k i:Nat}(q:(aQ ms ts)[k]?=some (some i)):ms[k]?=some true/\ts[k]?=some (.bor i):=by
 unfold aQ at q;rw[Lq] at q;cases h1:ms[k]? with
 |none=>rw[h1] at q;cases q
 |
  some b=>
  cases h2:ts[k]? with
  |none=>rw[h1,h2] at q;cases q
  |some t=>rw[h1,h2] at q;have q':oJ b t=some i:=E_ q;cases b <;> cases t <;> first |(cases q';done) |(cases q';exact⟨rfl,rfl⟩)
def Ek{ms:List Bool}{ts:List Tm}{k i:Nat}(q1:ms[k]?=some true)(q2:ts[k]?=some (.bor i)):(aQ ms ts)[k]?=some (some i):=by unfold aQ;rw[Lq,q1,q2];rfl
theorem vd:∀{ts:List Tm}{vs:List Val}{k:Nat}{v:Val},rss e ts=some vs->vs[k]?=some v->∃t,ts[k]?=some t/\rs e t=some v
 | [],_,_,_,q,q2=>by cases q;simp at q2
 |
  t::ts,vs,k,v,q,q2=>by
  unfold rss at q;split at q
  .rename_i u us e1 e2;cases q;cases k with
   |zero=>
    have:u=v:=by simpa using q2
    subst this;exact⟨t,rfl,e1⟩
   |succ k=>obtain⟨t',y1,y2⟩:=vd (k:=k) e2 (by simpa using q2);exact⟨t',by simpa using y1,y2⟩
  .cases q
theorem oM:∀{ts:List Tm}{vs:List Val},rss e ts=some vs->vs.length=ts.length
 | [],_,q=>by cases q;rfl
 |
  t::ts,vs,q=>by
  unfold rss at q;split at q
  .rename_i u us e1 e2;cases q;exact K3 (· + 1) (oM e2)
  .cases q
theorem jC:∀{ms:List Bool}{mv:List Val}{j:Nat}{v:Val},(aB ms mv)[j]?=some (.mu v)->v∈mv
 | [],_,_,_,q=>by simp [aB] at q
 |true::ms,u::mv,0,v,q=>by
  have:Sl.mu u=.mu v:=by simpa [aB] using q
  cases this;exact l_ ..
 |true::ms,u::mv,j+1,v,q=>k_ _ (jC (ms:=ms) (mv:=mv) (j:=j) (by simpa [aB] using q))
 |true::ms,[],0,v,q=>by simp [aB] at q
 |true::ms,[],j+1,v,q=>jC (ms:=ms) (mv:=[]) (j:=j) (by simpa [aB] using q)
 |false::ms,mv,0,v,q=>by simp [aB] at q
 |false::ms,mv,j+1,v,q=>jC (ms:=ms) (mv:=mv) (j:=j) (by simpa [aB] using q)
theorem lV:∀{ms:List Bool}{ts:List Tm}{i:Nat},i∈aS e ms ts->∃k:Nat,ms[k]?=some false/\ts[k]?=some (.bor i)
 | [],_,_,q=>by simp [aS] at q
 |_::_,[],_,q=>by simp [aS] at q
 |
  b::ms,t::ts,i,q=>by
  have up:i∈aS e ms ts->∃k:Nat,(b::ms)[k]?=some false/\(t::ts)[k]?=some (.bor i):=λz=>by obtain⟨k,y1,y2⟩:=lV z;exact⟨k+1,by simpa using y1,by simpa using y2⟩
  cases b <;> cases t <;> simp only[aS] at q <;> first |exact up q |skip
  split at q
  .exact up q
  .rcases C_.mp q with rfl |q
   .exact⟨0,rfl,rfl⟩
   .exact up q
def Dy(q:cE e (.bor i)=some (e1,v)):(∀j,j≠i->e1[j]?=e[j]?)/\e1[i]?=some (.sh v)/\(e[i]?).bind Sl.val=some v:=by
 unfold cE at q;dsimp only at q;split at q
 .rename_i u q1;cases q;exact⟨λ_ _=>rfl,q1,by rw[q1];rfl⟩
 .rename_i u q1;cases q;exact⟨λj z=>cD z,cZ (u_.mp q1).1,by rw[q1];rfl⟩
 .cases q
theorem pW:∀{ms:List Bool}{ts:List Tm},(∀(k i:Nat),ms[k]?=some true->ts[k]?=some (.bor i)->e2[i]?=e[i]?)->okA e ms ts=true->okA e2 ms ts=true
 | [],[],_,o=>rfl
 | [],_::_,_,o=>by simp [okA] at o
 |b::ms,[],_,o=>by cases b <;> simp [okA] at o
 |
  b::ms,t::ts,hk,o=>by
  have o':okA e ms ts=true:=by cases b <;> cases t <;> simp only[okA,p_] at o <;> first |exact o.2 |exact o |(simp at o;done)
  have ih:=pW (λk i q1 q2=>hk (k+1) i (by simpa using q1) (by simpa using q2)) o';cases b with
  |false=>cases t <;> simp only[okA,p_] at o ⊢ <;> first |exact⟨o.1,ih⟩ |exact ih
  |
   true=>
   cases t with
   |bor i=>simp only[okA,p_] at o ⊢;rw[hk 0 i rfl rfl];exact⟨o.1,ih⟩
   |_=>simp [okA] at o
theorem sg:∀{ms:List Bool}{ts:List Tm},(∀(k i:Nat),ms[k]?=some false->ts[k]?=some (.bor i)->∃v,e[i]?=some (.sh v))->aS e ms ts=[]
 | [],_,_=>by simp [aS]
 |_::_,[],_=>by simp [aS]
 |
  b::ms,t::ts,hk=>by
  have ih:=sg (λk i q1 q2=>hk (k+1) i (by simpa using q1) (by simpa using q2));cases b <;> cases t <;> simp only[aS] <;> first |exact ih |skip
  rename_i i;obtain⟨v,q⟩:=hk 0 i rfl rfl;rw[q];exact ih
theorem pH(hv:∀i:Nat,(e2[i]?).bind Sl.val=(e[i]?).bind Sl.val):∀(ts:List Tm),rss e2 ts=rss e ts
 | []=>rfl
 |
  t::ts=>by
  unfold rss;rw[pH hv ts];have:rs e2 t=rs e t:=by
   cases t with
   |bor i=>exact hv i
   |_=>rfl
  rw[this]
def BL(ok:okA e ms ts=true):Lnk (aQ ms ts) e (sls ms vs):=by
 refine⟨λj k i q1 q2=>i7 ok (eT q2).1 (eT q2).2 (eT q1).2,λj v q=>?_,λj s q hm=>?_⟩
 .obtain⟨b,u,q1,_,q2⟩:=eX q;cases b with
  |false=>cases q2
  |true=>obtain⟨i,y1,w,y2⟩:=lj ok q1;obtain⟨s,z1,z2⟩:=KU.mp y2;exact⟨i,s,Ek q1 y1,z1,by cases s <;> first |rfl |cases z2⟩
 .obtain⟨b,u,q1,_,q2⟩:=eX q;cases b with
  |false=>subst q2;cases hm
  |true=>exact⟨u,q2⟩
section
variable{K:W.Frag}{mg:Na}{X N0 L:Addr->Prop}{ns:Ns}{e e2:E3}{σ:St}{H H':Hp}{ms:List Bool}{ts:List Tm}{ds:List V}{vs:List Val}{E:XK}{Q:VK}
theorem TsR.get:∀{ds:List V}{ts:List Tm}{k:Nat}{t:Tm},TsR K mg X ns σ H ds ts->ts[k]?=some t->∃d,ds[k]?=some d/\((∃v,t=.val v/\Rd K mg (Oc X ns) H d v)\/∃i,t=.bor i/\σ[i]?=some (some d))
 |_,_,_,_,.nil,q=>by simp at q
 |_,_,0,_,.val r rr,q=>by have:=(by simpa using q:Tm.val _=_);subst this;exact⟨_,rfl,.inl ⟨_,rfl,r⟩⟩
 |_,_,0,_,.bor r rr,q=>by have:=(by simpa using q:Tm.bor _=_);subst this;exact⟨_,rfl,.inr ⟨_,rfl,r⟩⟩
 |_,_,k+1,t,.val r rr,q=>by obtain⟨d,y⟩:=rr.get (k:=k) (by simpa using q);exact⟨d,by simpa using y⟩
 |_,_,k+1,t,.bor r rr,q=>by obtain⟨d,y⟩:=rr.get (k:=k) (by simpa using q);exact⟨d,by simpa using y⟩
def Xc(X:Addr->Prop)(ns:Ns)(e:E3)(ms:List Bool)(ts:List Tm)(n:Addr):Prop:=(X n\/some n∈ns)/\some n∉aX (aQ ms ts) ns/\∀i∈aS e ms ts,ns[i]?≠some (some n)
def lY(S:Sat K mg X N0 ns e σ H)(rt:TsR K mg X ns σ H ds ts)(qv:rss e ts=some vs)(ok:okA e ms ts=true):
 Sat K mg (Xc X ns e ms ts) (nn H) (aX (aQ ms ts) ns) (sls ms vs) (ds.map some) H:=by
 have l1:=o3 ok;have l2:=oM qv;have l3:=TsR.len rt;have hs:mT (aQ ms ts):=λj k i q1 q2=>i7 ok (eT q2).1 (eT q2).2 (eT q1).2;have mv:Mov (Oc X ns) (Oc (Xc X ns e ms ts) (aX (aQ ms ts) ns)) H H:=.of λn p=>⟨λz=>by
  rcases z.1 with z |z
  .exact p.1 z
  .exact p.2 z,λz=>p.2 (sj z)⟩
 refine⟨?_,?_,λ_ z=>z,λn z=>?_,λj k n q1 q2=>?_,λj n q z=>z.2.1 (aW.mpr ⟨j,q⟩),λk s q=>?_,S.bs⟩
 .unfold sls;rw[j_,Lj];omega
 .unfold aX aQ sls;rw[j_,Lj,Lj];omega
 .rcases z.1 with z |z
  .exact S.xl n z
  .obtain⟨i,z⟩:=aW.mp z;obtain⟨_,_,o,_,_,_,_,q',_⟩:=S.own z;exact⟨o,q'⟩
 .obtain⟨i,y1,y2⟩:=cx q1;obtain⟨i',y3,y4⟩:=cx q2
  have:=S.inj i i' n y2 y4
  subst this;exact hs j k i y1 y3
 .obtain⟨b,v,q1,q2,rfl⟩:=eX q;obtain⟨t,q3,q4⟩:=vd qv q2;obtain⟨d,q5,q6⟩:=rt.get q3;have qd:(ds.map some)[k]?=some (some d):=by rw[Kz,q5];rfl
  rw[qd];have qn:(aX (aQ ms ts) ns)[k]?=some ((oJ b t).bind λi=>(ns[i]?).bind id):=by unfold aX aQ;rw[Kz,Lq,q1,q3];rfl
  rw[qn];cases b with
  |
   true=>
   obtain⟨i,y1,u,y2⟩:=lj ok q1;rw[q3] at y1;cases y1;have q4':(e[i]?).bind Sl.val=some v:=q4;obtain⟨s,z1,z2⟩:=KU.mp y2;rw[z1] at q4';have hv:s.val=some v:=q4';have huv:u=v:=by cases s <;> first |cases z2;done |(cases z2;cases hv;rfl)
   subst huv;have hns:∃n,ns[i]?=some (some n):=by
    have y:=S.sl i s z1;cases s with
    |ow v=>obtain⟨n,o,y1,_⟩:=y;exact⟨n,y1⟩
    |mu v=>obtain⟨n,o,y1,_⟩:=y;exact⟨n,y1⟩
    |_=>cases z2
   obtain⟨n,hn⟩:=hns;obtain⟨n',o,k1,k0,k2,k3,k4,_⟩:=S.write z1 z2;rcases q6 with ⟨_,z,_⟩ |⟨i',z,q6⟩
   .cases z
   .cases z;rw[q6] at k1;cases k1;obtain⟨_,_,_,_,_,_,w,_⟩:=S.own hn;rw[q6] at w;cases w;exact⟨n,o,by show some ((ns[i]?).bind id)=_;rw[hn];rfl,rfl,k2,k3,k4.mono mv⟩
  |
   false=>
   refine⟨by cases t <;> rfl,d,rfl,?_⟩;rcases q6 with ⟨u,rfl,q6⟩ |⟨i,rfl,q6⟩
   .cases q4;exact q6.mono mv
   .obtain⟨s,z1,z2⟩:=KU.mp (show (e[i]?).bind Sl.val=some v from q4);have y:=S.sl i s z1;by_cases hsh:∃w,s=.sh w
    .obtain⟨w,rfl⟩:=hsh;cases z2;obtain⟨_,x,w1,w2⟩:=y;rw[q6] at w1;cases w1;exact w2.mono mv
    .have hl:=mC q1 q3 λw z=>hsh ⟨w,by rw[z1] at z;exact E_ z⟩;have:∃n o,ns[i]?=some (some n)/\σ[i]?=some (some (.ref n))/\H n=some o/\Rc K mg (Oc X ns) H o v:=by
      cases s with
      |no=>cases z2
      |sh w=>exact absurd ⟨w,rfl⟩ hsh
      |ow w=>cases z2;obtain⟨n,o,y1,y2,_,y3,_,y4⟩:=y;exact⟨n,o,y1,y2,y3,y4⟩
      |lo w=>cases z2;obtain⟨n,o,y1,y2,_,y3,_,y4⟩:=y;exact⟨n,o,y1,y2,y3,y4⟩
      |mu w=>cases z2;obtain⟨n,o,y1,y2,y3,_,y4⟩:=y;exact⟨n,o,y1,y2,y3,y4⟩
      |lm w=>cases z2;obtain⟨n,o,y1,y2,y3,_,y4⟩:=y;exact⟨n,o,y1,y2,y3,y4⟩
     obtain⟨n,o,w1,w2,w3,w4⟩:=this;rw[q6] at w2;cases w2;refine .cell ⟨λy=>y.2.2 i hl w1,λy=>?_⟩ w3 (w4.mono mv);obtain⟨j,y⟩:=aW.mp y;obtain⟨i',y1,y2⟩:=cx y;obtain⟨y3,y4⟩:=eT y1
     have:=S.inj i' i n y2 w1
     subst this
     have:=i7 ok y3 y4 q3
     subst this;rw[q1] at y3;cases y3
theorem rW:∀{is:List Nat}{ns:Ns}{e e2:E3},Sat K mg X N0 ns e σ H->(∀i∈is,∃d,σ[i]?=some (some d))->oq e is=some e2->∃e_,Sat K mg X N0 e_ e2 σ H/\Stp ns e H e_ e2 H/\(∀i,i∉is->e2[i]?=e[i]?)/\(∀i∈is,∃v,e2[i]?=some (.sh v))/\∀i:Nat,(e2[i]?).bind Sl.val=(e[i]?).bind Sl.val
 | [],ns,e,e2,S,_,q=>by cases q;exact⟨ns,S,.refl,λ_ _=>rfl,(λ_ z=>by cases z),λ_=>rfl⟩
 |
  i::is,ns,e,e2,S,hd,q=>by
  unfold oq at q;split at q
  .rename_i e1 v q1;obtain⟨d,hd0⟩:=hd i (l_ ..);obtain⟨ns1,S1,a1,r1⟩:=fS (L:=X) (t:=.bor i) S hd0 q1;obtain⟨e_,S2,a2,k1,k2,k3⟩:=rW S1 (λj z=>hd j (k_ _ z)) q;obtain⟨y1,y2,y3⟩:=Dy q1;refine⟨e_,S2,a1.trans S a2,λj hj=>?_,λj hj=>?_,λj=>?_⟩
   .rw[C_,not_or] at hj;rw[k1 j hj.2,y1 j hj.1]
   .by_cases z:j∈is
    .exact k2 j z
    .rcases C_.mp hj with rfl |hj
     .exact⟨v,by rw[k1 j z];exact y2⟩
     .exact absurd hj z
   .rw[k3 j];by_cases z:j=i
    .subst z;rw[y2,y3];rfl
    .rw[y1 j z]
  .cases q
def u5(hl:aS e ms ts=[])(z:¬ Xc X ns e ms ts n)(z2:some n∉aX (aQ ms ts) ns):Oc X ns n:=
 ⟨λy=>z ⟨.inl y,z2,λi hi=>by rw[hl] at hi;cases hi⟩,λy=>z ⟨.inr y,z2,λi hi=>by rw[hl] at hi;cases hi⟩⟩
def md{Y:Addr->Prop}(S:Sat K mg X N0 ns e σ H)(ok:okA e ms ts=true)(a:Stp (aX (aQ ms ts) ns) (sls ms vs) H (aX (aQ ms ts) ns) (aB ms mv) H')(hf:aS e ms ts=[]\/mv.all cz=true)(hY:∀n,Y n->(∃o,H' n=some o)/\H n=none)(S3:Sat K mg (λn=>Xc X ns e ms ts n\/Y n) N1 (aX (aQ ms ts) ns) (aB ms mv) (ds.map some) H'):
 Sat K mg (λn=>X n\/Y n) N0 ns (aV (aQ ms ts) (aB ms mv) e) σ H'/\Stp ns e H ns (aV (aQ ms ts) (aB ms mv) e) H'/\(aS e ms ts=[]->∀m,Oc (λn=>Xc X ns e ms ts n\/Y n) (aX (aQ ms ts) ns) m->Oc (λn=>X n\/Y n) ns m):=by
 have kk:aS e ms ts=[]->∀m,Oc (λn=>Xc X ns e ms ts n\/Y n) (aX (aQ ms ts) ns) m->Oc (λn=>X n\/Y n) ns m:=λhf m z=>by
  have:=u5 hf (λy=>z.1 (.inl y)) z.2
  exact⟨λy=>by
   rcases y with y |y
   .exact this.1 y
   .exact z.1 (.inr y),this.2⟩
 obtain⟨S4,a4⟩:=S.back (Y:=λn=>X n\/Y n) (BL (vs:=vs) ok) a S3.bs (λm z=>by
  rcases z with z |z
  .obtain⟨o,z'⟩:=S.xl m z;refine⟨?_,.inl z⟩;cases qh:H' m with
   |none=>rw[a.dom m qh] at z';cases z'
   |some o'=>exact⟨o',rfl⟩
  .exact⟨(hY m z).1,.inr (hY m z).2⟩) (λ_ z=>.inl z) λj w n' q1 q2=>by
  obtain⟨s,u,o,b1,b2,b3,b4,b5,b6,b7⟩:=S3.own q2;rw[q1] at b1;cases b1;cases b3;rcases hf with hf |hf
  .exact⟨o,b5,b6,b7.mono (.of (kk hf))⟩
  .exact⟨o,b5,b6,b7.flat .refl (D_.mp hf w (jC q1))⟩
 exact⟨S4,a4,kk⟩
def Sat.eqX{X Y:Addr->Prop}(S:Sat K mg X N0 ns e σ H)(h:∀n,X n ↔ Y n):Sat K mg Y N0 ns e σ H:=by have:X=Y:=funext λn=>propext (h n);exact this ▸ S
def n8(S:Sat K mg X N0 ns e σ H)(ok:okA e ms ts=true)(a:Stp (aX (aQ ms ts) ns) (sls ms vs) H (aX (aQ ms ts) ns) (aB ms mv) H')(hf:aS e ms ts=[]\/mv.all cz=true)(S3:Sat K mg (Xc X ns e ms ts) N1 (aX (aQ ms ts) ns) (aB ms mv) (ds.map some) H'):
 Sat K mg X N0 ns (aV (aQ ms ts) (aB ms mv) e) σ H'/\Stp ns e H ns (aV (aQ ms ts) (aB ms mv) e) H'/\(aS e ms ts=[]->∀m,Oc (Xc X ns e ms ts) (aX (aQ ms ts) ns) m->Oc X ns m):=by
 obtain⟨S4,a4,_⟩:=md (Y:=λ_=>False) S ok a hf (λ_ z=>z.elim) (S3.eqX λn=>⟨.inl,λz=>z.elim id (·.elim)⟩);exact⟨S4.eqX λn=>⟨λz=>z.elim id (·.elim),.inl⟩,a4,λhf m z=>u5 hf z.1 z.2⟩
def vU(S:Sat K mg X N0 ns e σ H)(hL:∀a,H a=none->L a)(rt:TsR K mg X ns σ H ds ts)(ok:okA e ms ts=true)(hf:aS e ms ts=[]\/(k8 r=true/\mv.all cz=true))(p:PG3 K mg X N0 ns e σ H E (KE K mg X N0 L σ Q) (.ok (r.tm ts) (aV (aQ ms ts) (aB ms mv) e)))
 (a:Stp (aX (aQ ms ts) ns) (sls ms vs) H (aX (aQ ms ts) ns) (aB ms mv) H') (rr:RtR K mg (Xc X ns e ms ts) (nn H) (aX (aQ ms ts) ns) (aB ms mv) (ds.map some) H' x r):Q x H':=by
 have hf2:aS e ms ts=[]\/mv.all cz=true:=hf.imp id (·.2);cases r with
 |
  val v=>
  obtain⟨S3,rv⟩:=rr;obtain⟨S4,a4,kk⟩:=n8 S ok a hf2 S3;refine p _ _ a4 S4 x ?_;rcases hf with hf |hf
  .exact rv.mono (.of (kk hf))
  .exact rv.flat .refl hf.1
 |
  new v=>
  obtain⟨n,o,rfl,z2,z3,z4,z5,S3,z7⟩:=rr;obtain⟨S4,a4,kk⟩:=md (Y:=λm=>m=n) S ok a hf2 (λm z=>by subst z;exact⟨⟨o,z4⟩,z2⟩) S3;refine p _ _ a4 (S4.weak λ_ z=>.inl z) _ ⟨n,o,rfl,hL n z2,λy=>?_,z4,z5,S4,?_⟩
  .obtain⟨u,y⟩:=S.xl n y;rw[show H n=none from z2] at y;cases y
  .rcases hf with hf |hf
   .exact z7.mono (.of (kk hf))
   .exact z7.flat .refl hf.1
 |
  pr v u=>
  obtain⟨pp,d1,n,o,rfl,z1,z2,z3,z4,z5,S3,z6,z7⟩:=rr;obtain⟨S4,a4,kk⟩:=md (Y:=λm=>m=n) S ok a hf2 (λm z=>by subst z;exact⟨⟨o,z4⟩,z2⟩) S3;have on:Oc X ns n:=⟨λy=>(by
   obtain⟨u,y⟩:=S.xl n y;rw[show H n=none from z2] at y;cases y),λy=>by
   obtain⟨i,y⟩:=aW.mp y;exact S4.nx i n y (.inr rfl)⟩
  have wk:Mov (Oc (λm=>X m\/m=n) ns) (Oc X ns) H' H':=.of λm z=>⟨λc=>z.1 (.inl c),z.2⟩;refine p _ _ a4 (S4.weak λ_ z=>.inl z) _ (.tup z1 (.cons ?_ (.cons (.cell on z4 ?_) .nil)))
  .rcases hf with hf |hf
   .exact (z6.mono (.of (kk hf))).mono wk
   .exact z6.flat .refl (p_ _ _ ▸ hf.1).1
  .rcases hf with hf |hf
   .exact (z7.mono (.of (kk hf))).mono wk
   .exact z7.flat .refl (p_ _ _ ▸ hf.1).2
 |
  par i=>
  obtain⟨S3,w1,w,w2⟩:=rr;obtain⟨S4,a4,_⟩:=n8 S ok a hf2 S3;refine p _ _ a4 S4 x ?_;obtain⟨u,x1,_⟩:=a.mu i w w2;obtain⟨b,u',x2,_,x3⟩:=eX x1;cases b with
  |false=>cases x3
  |
   true=>
   obtain⟨k,y1,_⟩:=lj ok x2;obtain⟨d',y2,z⟩:=rt.get y1;have e1:(Rt.par i).tm ts=.bor k:=by show (ts[i]?).getD _=_;rw[y1];rfl
   rw[e1];rcases z with ⟨_,z,_⟩ |⟨j,z,z2⟩
   .cases z
   .cases z;rw[Kz,y2] at w1;cases w1;exact z2
theorem Au{f:PFn}(S:Sat K mg X N0 ns e σ H)(hL:∀a,H a=none->L a)(rt:TsR K mg X ns σ H ds ts)(p:PG3 K mg X N0 ns e σ H E (KE K mg X N0 L σ Q) (match rss e ts with
 |none=>.stuck
 |some vs=>if okA e f.ms ts=true then (match f.G vs with
  |.stuck=>.stuck
  |.ok r mv=>if (aS e f.ms ts).isEmpty || (k8 r&&mv.all cz) then .ok (r.tm ts) (aV (aQ f.ms ts) (aB f.ms mv) e) else (match oq e (aS e f.ms ts) with
   |some e2=>.ok (r.tm ts) (aV (aQ f.ms ts) (aB f.ms mv) e2)
   |none=>.stuck)
  |.exc c mv=>if (aS e f.ms ts).isEmpty || mv.all cz then .exc c (aV (aQ f.ms ts) (aB f.ms mv) e) else .stuck) else .stuck)):sp3 K mg f ds H Q E:=by
 split at p
 .exact p.elim
 .rename_i vs
   qv
  split at p
  .rename_i ok;have b_:vs.length=f.ms.length:=by rw[oM qv,o3 ok]
   split at p
   .exact p.elim
   .rename_i r mv q;split at p
    .rename_i hf;rw[Bool.or_eq_true,p_] at hf;exact⟨_,_,vs,b_,lY S rt qv ok,by rw[q];exact λx H' a rr=>vU S hL rt ok (hf.imp List.isEmpty_iff.mp id) p a rr⟩
    .split
      at p
     .rename_i e2 qd;obtain⟨e_,S2,a2,k1,k2,k3⟩:=rW S (λi hi=>by
       obtain⟨k,_,y⟩:=lV hi;obtain⟨d,_,z⟩:=rt.get y;rcases z with ⟨_,z,_⟩ |⟨j,z,z2⟩
       .cases z
       .cases z;exact⟨d,z2⟩) qd
      have ok2:okA e2 f.ms ts=true:=pW (λk i q1 q2=>k1 i λz=>by
       obtain⟨k',y1,y2⟩:=lV z
       have:=i7 ok q1 q2 y2
       subst this;rw[q1] at y1;cases y1) ok
      have ln:aS e2 f.ms ts=[]:=sg λk i q1 q2=>by
       by_cases z:i∈aS e f.ms ts
       .exact k2 i z
       .rw[k1 i z];exact Classical.byContradiction λw=>z (mC q1 q2 λv y=>w ⟨v,y⟩)
      exact⟨_,_,vs,b_,lY S2 (rt.stp a2) (by rw[pH k3];exact qv) ok2,by rw[q];exact λx H' a rr=>vU S2 (λb z=>hL b z) (rt.stp a2) ok2 (.inl ln) (p.after S a2) a rr⟩
     .exact p.elim
   .rename_i c mv q;split at p
    .rename_i hf;rw[Bool.or_eq_true] at hf;refine⟨_,_,vs,b_,lY S rt qv ok,?_⟩;rw[q];intro C H' a S3 hC;obtain⟨S4,a4,_⟩:=n8 S ok a (hf.imp List.isEmpty_iff.mp id) S3;exact p _ _ C a4 S4 hC
    .exact p.elim
  .exact p.elim
end
noncomputable def ai (f:PFn) (a:PAs):PEx:=⟨22,Jx f.ms f.G a.G⟩
section
variable{K:W.Frag}{mg:Na}{X:Cx}{ES:St->XK}{e:Expr}{es:List Expr}{A:PAs}{pos:Pos}{k:Nat}{ps:List Str}
def C0{f:PFn}(σ:St)(H:Hp)(Q:VK):rdE K mg ES (ai f A).G σ H Q->rdA K mg ES A.G σ H λvs H1=>sp3 K mg f vs H1 Q (ES σ):=λzz=>zz.el λY N0 L ns e S hl p=>
 ⟨Y,N0,ns,e,S,PG3.imp p S λts e1 ns1 H1 a1 S1 p1 xs r1=>Au S1 (λa z=>hl a (a1.dom a z)) r1 p1⟩
def Bb{f:PFn}{x:Str}{p0:Pos}(C:Callee X.prog X.w X.K X.mg X.base x k ps (sp3 K mg f))(hr:Room k X.A)(hg:Gl X x)(hx:rf X ES)(ha:DA K mg X ES (e::es) A)
 (hdb:(x==("__debug__" : Str))=false) (he:starEach (e::es) X.env=(false,eval e X.env)::starEach es X.env) (hpl:(backTo pos (starEach es X.env)).any (·.1)=false):
 DE K mg X ES (.Call (.Name x p0) (e::es) [] pos) (ai f A):=by
 obtain⟨fa,fd,F',m,kp,bb,_⟩:=C.ex;refine⟨λpins s σ H Q I hh=>LL (oF I hg m ?_ hdb)⟩;refine W.callWith_K (h₀:=X.base) I.ok.mod.kin kp (KL (ha.ok pos pins s σ H _ I (C0 σ H Q hh)) (λus s1 ⟨vs,H1,I1,r,q⟩=>⟨I1.kIn,?_⟩) λ_ _ z=>z) he hpl;have hl:(us++[]).length=ps.length:=by rw[K2,<- r.length];exact F'.len _ _ _ _ q
 refine wpAny_call (codeAny_mono (F'.run X.A X.stack s1 H1 ⟨us,[]⟩ us vs Q (ES σ) hr I1.env0 (by simpa using bb s1 us I1.kIn hl) r q) λr s' hq=>?_);cases r with
 |error ex=>exact hx pins σ H1 s1 ex s' I1 hq
 |
  ok fl=>
  cases fl with
  |ret u=>exact I1.after hq
  |next=>exact False.elim hq
  |brk=>exact False.elim hq
  |cont=>exact False.elim hq
def JN(hp:tF (CX1 X.prog X.w) X E):rf X (λ_=>E):=λpins σ H s e s' I h=>hp pins σ H s e s' I h
def JA:rf X (λ_=>E0):=λpins σ H s e s' I h=>JC pins σ H s e s' I h
def zcF{f:PFn}{x:Str}{p0:Pos}{k j:Nat}{ps:List Str}(C:Callee X.prog X.w X.K X.mg X.base x j ps (sp3 K mg f))(hr:Room k X.A)(ha:DA K mg X ES (e::es) A)(hk:j<=k:=by omega)(hg:Gl X x:=by exact rfl)(hx:rf X ES:=by first |exact JN Ic |exact JA |assumption)(hdb:(x==("__debug__" : Str))=false:=by decide)(he:starEach (e::es) X.env=(false,eval e X.env)::starEach es X.env:=by rfl)(hpl:(backTo pos (starEach es X.env)).any (·.1)=false:=by rfl):DE K mg X ES (.Call (.Name x p0) (e::es) [] pos) (ai f A):=Bb C (hr.mono hk) hg hx ha hdb he hpl
end
noncomputable def aI (f:Int->Int->Val):Val->Val->Bv:=λx y=>match x,y with
 |.int i,.int j=>.val (f i j)
 |_,_=>.stuck
open Classical in
def aIc(C:Int->Int->Prop)(f:Int->Int->Val):Val->Val->Bv:=λx y=>match x,y with
 |.int i,.int j=>if C i j then .val (f i j) else .stuck
 |_,_=>.stuck
noncomputable def aCat:Val->Val->Bv:=λx y=>match x,y with
 |.lst xs,.lst ys=>if xs.length+ys.length<=16777216 then .new (.lst (xs++ys)) else .stuck
 |.tup xs,.tup ys=>if xs.length+ys.length<=16777216 then .val (.tup (xs++ys)) else .stuck
 |_,_=>.stuck
noncomputable def Ae:Val->Val->Bv:=λx y=>match x,y with
 |.int i,.int j=>.val (.int (i+j))
 |.bl b,.int i=>.val (.int ((if b=true then (1:Int) else 0)+i))
 |x,y=>aCat x y
noncomputable def aMin:=aI λi j=>.int (i-j)
def BA:=aIc CMulA λi j=>.int (i*j)
def Ak:=aIc CDivB λi j=>.int (i.fdiv j)
def zV:=aIc (λ_ j=>j≠0) λi j=>.int (i.fmod j)
def Bl:=aIc kN λi j=>.int (i^j.toNat)
def AZ:=aIc kN λi j=>.int (i*2^j.toNat)
noncomputable def aLt:=aI λi j=>.bl (decide (i<j))
noncomputable def aGt:=aI λi j=>.bl (decide (j<i))
noncomputable def aGe:=aI λi j=>.bl (decide (j<=i))
noncomputable def BO:Val->Bv:=λx=>match x with
 |.int i=>.val (.int (-i))
 |_=>.stuck
noncomputable def aIx:Val->Val->Bv:=λx y=>match x.items,y with
 |some xs,.int i=>(match atI xs i with
  |some v=>.val v
  |none=>.stuck)
 |_,_=>.stuck
mutual
def cC:Nat->Val->Option PyData
 |0,_=>none
 |_+1,.non=>some .none
 |_+1,.bl b=>some (.bool b)
 |_+1,.int i=>some (.int i)
 |_+1,.str x=>some (.str x)
 |k+1,.tup xs=>(ed k xs).map .tuple
 |k+1,.lst xs=>(ed k xs).map .list
 |_+1,_=>none
def ed:Nat->List Val->Option (List PyData)
 |_,[]=>some []
 |k,x::xs=>match cC k x,ed k xs with
  |some a,some b=>some (a::b)
  |_,_=>none
end
noncomputable def cq (x y:Val):Option Bool:=match cC 164 x,cC 164 y with
 |some a,some b=>if shp a=true/\shp b=true then some (PyData.eqv a b) else none
 |_,_=>none
noncomputable def aEq (neg:Bool):Val->Val->Bv:=λx y=>match cq x y with
 |some b=>.val (.bl (if neg then !b else b))
 |none=>.stuck
noncomputable def lz:Val->Bool
 |.non=>true
 |.bl _=>true
 |.int _=>true
 |.str _=>true
 |_=>false
noncomputable def rP:Val->V
 |.bl b=>.bl b
 |.int i=>.int i
 |.str x=>.str x
 |_=>.non
noncomputable def eq1 (x y:Val):Bool:=eqV (rP x) (rP y)
noncomputable def aIn (neg:Bool):Val->Val->Bv:=λx y=>match y.items with
 |some xs=>if lz x=true/\xs.all lz=true then .val (.bl (if neg then !(xs.any λd=>eq1 d x) else xs.any λd=>eq1 d x)) else .stuck
 |none=>.stuck
noncomputable def wZ (neg:Bool):Val->Val->Bv:=λx y=>match x,y with
 |.non,.non=>.val (.bl (!neg))
 |_,.non=>.val (.bl neg)
 |_,_=>.stuck
noncomputable def Bu:List Val->Bv:=λvs=>match vs with
 | [v]=>(match v.items with
  |some xs=>.val (.int xs.length)
  |none=>(match v with
   |.str z=>if z.length<=16777216 then .val (.int z.length) else .stuck
   |_=>.stuck))
 |_=>.stuck
noncomputable def Aw:List Val->Bv:=λvs=>match vs with
 | [.int i]=>.val (.int (if i<0 then -i else i))
 |_=>.stuck
noncomputable def jO:List Val->Option (List Bool)
 | []=>some []
 |.bl b::r=>(jO r).map (b :: ·)
 |_=>none
noncomputable def iF:List Val->Option (List Int)
 | []=>some []
 |.int b::r=>(iF r).map (b :: ·)
 |_=>none
noncomputable def Aa:List Val->Bv:=λvs=>match vs with
 | [.lst xs]=>(match jO xs with
  |some bs=>.val (.bl (bs.all id))
  |none=>.stuck)
 |_=>.stuck
noncomputable def A6:List Val->Bv:=λvs=>match vs with
 | [.lst xs]=>(match iF xs with
  |some bs=>.val (.int bs.sum)
  |none=>.stuck)
 |_=>.stuck
noncomputable def xN:List Val->Bv:=λvs=>match vs with
 | [v]=>(match v.items with
  |some xs=>.new (.lst xs)
  |none=>.stuck)
 |_=>.stuck
noncomputable def tW:List Val->Bv:=λvs=>match vs with
 | [v]=>(match v.items with
  |some xs=>.val (.tup xs)
  |none=>.stuck)
 |_=>.stuck
noncomputable def tyC:Val->Option Cl
 |.non=>some (.b "NoneType")
 |.bl _=>some (.b "bool")
 |.int _=>some (.b "int")
 |.str _=>some (.b "str")
 |.tup _=>some (.b "tuple")
 |.exc x=>some (.o x)
 |.lst _=>some (.b "list")
 |.dct _=>some (.b "dict")
 |_=>none
noncomputable def clV:Val->Option Cl
 |.ty n=>some (.b n)
 |.glb x=>some (.o x)
 |_=>none
noncomputable def rN:List Val->Option (List Cl)
 | []=>some []
 |v::vs=>match clV v,rN vs with
  |some c,some cs=>some (c::cs)
  |_,_=>none
noncomputable def Kv:Val->Option (List Cl)
 |.tup cs=>rN cs
 |v=>(clV v).map ([·])
noncomputable def Ab (kt:jB):List Val->Bv:=λvs=>match vs with
 | [v,c]=>(match tyC v,Kv c with
  |some t,some (c0::cr)=>(match gJ kt t (c0::cr),kit kt t c0 with
   |some b,some _=>.val (.bl b)
   |_,_=>.stuck)
  |_,_=>.stuck)
 |_=>.stuck
noncomputable def dE (xs:List Val) (lo hi:Option Int):List Val:=(xs.drop (HT.sIx xs.length 0 lo)).take (HT.sIx xs.length xs.length hi-HT.sIx xs.length 0 lo)
noncomputable def aSl (x:Val) (lo hi:Option Int):Bv:=match x with
 |.tup xs=>if HT.sIx xs.length 0 lo=0/\HT.sIx xs.length xs.length hi=xs.length then .val (.tup xs) else .val (.tup (dE xs lo hi))
 |.lst xs=>.new (.lst (dE xs lo hi))
 |.kl xs=>.new (.lst (dE xs lo hi))
 |.str z=>if z.length<=16777216 then .val (.str (Txt.slice z lo hi)) else .stuck
 |_=>.stuck
noncomputable def o9:Val->List Val->Option (Val×Val):=λu vs=>match u,vs with
 |.lst xs,[v]=>if xs.length<16777216 then some (.lst (xs++[v]),.non) else none
 |_,_=>none
noncomputable def kH:Val->List Val->Option (Val×Val):=λu vs=>match u,vs with
 |.lst xs,[.int i]=>if -(2^63)<=i/\i<2^63 then (match seqIndex? i xs.length with
  |some k=>(match xs[k]? with
   |some v=>some (.lst (xs.eraseIdx k),v)
   |none=>none)
  |none=>none) else none
 |_,_=>none
noncomputable def aK:PO2:=⟨Ae⟩
noncomputable def my:PO2:=⟨aMin⟩
def bf:PO2:=⟨BA⟩
def iX:PO2:=⟨Ak⟩
def bH:PO2:=⟨zV⟩
def mB:PO2:=⟨Bl⟩
def BM:PO2:=⟨AZ⟩
noncomputable def bLt:PO2:=⟨aLt⟩
noncomputable def bGt:PO2:=⟨aGt⟩
noncomputable def bGe:PO2:=⟨aGe⟩
noncomputable def bIx:PO2:=⟨aIx⟩
noncomputable def bEq:PO2:=⟨aEq false⟩
noncomputable def bNe:PO2:=⟨aEq true⟩
noncomputable def bIn:PO2:=⟨aIn false⟩
noncomputable def gw:PO2:=⟨aIn true⟩
noncomputable def bIs:PO2:=⟨wZ false⟩
noncomputable def xf:PO2:=⟨wZ true⟩
noncomputable def zW:PO2:=⟨aI λi j=>.int (i+j)⟩
noncomputable def ie:PU1:=⟨BO⟩
noncomputable def aJ:PBf:=⟨Bu⟩
noncomputable def mL:PBf:=⟨Aw⟩
noncomputable def rB:PBf:=⟨Aa⟩
noncomputable def gI:PBf:=⟨A6⟩
noncomputable def gq:PBf:=⟨xN⟩
noncomputable def lE:PBf:=⟨tW⟩
noncomputable def aO (kt:jB):PBf:=⟨Ab kt⟩
noncomputable def du:PMm:=⟨o9⟩
noncomputable def oI:PMm:=⟨kH⟩
section
variable{K:W.Frag}{mg:Na}{P:Addr->Prop}{H:Hp}{Q:VK}{v:Val}{vs:List Val}{x:V}{ds:List V}{neg:Bool}
def bv(p:∀H1 x,Gr H H1->Rd K mg P H1 x v->Q x H1)(r:Rd K mg P H x v):Q x H:=p H x .refl r
def bvL(p:∀H1 a o,Gr H H1->H1 a=none->NotFz o->Rc K mg P H1 o (.lst vs)->Q (.ref a) (upd H1 a o))(r:Rds K mg P H ds vs):∀l,H l=none->Q (.ref l) (upd H l (.lst ds)):=λl hl=>p H l _ .refl hl trivial (.lst r)
def bvT(p:∀H1 x,Gr H H1->Rd K mg P H1 x (.tup vs)->Q x H1)(r:Rds K mg P H ds vs):∀l,H l=none->Q (.ref l) (upd H l (.tup ds)):=λl hl=>p _ _ (Gr.upd hl) (.tup (SqT.of aU) (r.mono (Gr.upd hl).mov))
def nG{f:Int->Int->V}{g:Int->Int->Val}(hr:∀i j P H,Rd K mg P H (f i j) (g i j)):OpD K mg (rI0 f) (aI g):=λP H x y v u Q rx ry p=>by
 unfold aI at p;split at p
 .obtain rfl:=rx.int;obtain rfl:=ry.int;exact⟨_,_,rfl,rfl,bv p (hr _ _ _ _)⟩
 .exact p.elim
def uh{f:Int->Int->V}{g:Int->Int->Val}{C:Int->Int->Prop}(hr:∀i j P H,Rd K mg P H (f i j) (g i j)):OpD K mg (rI C f) (aIc C g):=λP H x y v u Q rx ry p=>by
 unfold aIc at p;split at p
 .obtain rfl:=rx.int;obtain rfl:=ry.int;split at p
  .rename_i hc;exact⟨_,_,rfl,rfl,hc,bv p (hr _ _ _ _)⟩
  .exact p.elim
 .exact p.elim
def sZ:OpD K mg (λx y H Q=>(rI0 (λi j=>.int (i+j)) x y H Q\/(sf x y H Q\/(nR K x y H Q\/nT K x y H Q)))\/wQ x y H Q) aK.G:=λP H x y v u Q rx ry p=>by
 replace p:BvP K mg P H Q (Ae v u):=p;unfold Ae at p;split at p
 .obtain rfl:=rx.int;obtain rfl:=ry.int;exact .inl (.inl ⟨_,_,rfl,rfl,bv p (.int _)⟩)
 .obtain rfl:=rx.bl;obtain rfl:=ry.int;exact .inr ⟨_,_,rfl,rfl,bv p (.int _)⟩
 .left;right;unfold aCat at p;split at p
  .obtain⟨a,xs,rfl,e1,q1⟩:=rx.lst;obtain⟨b,ys,rfl,e2,q2⟩:=ry.lst;split at p
   .rename_i hl;exact .inl ⟨_,_,xs,ys,rfl,rfl,e1,e2,by rw[q1.len,q2.len];exact hl,bvL p (q1.append q2)⟩
   .exact p.elim
  .obtain⟨a,xs,rfl,e1,q1⟩:=rx.tup;obtain⟨b,ys,rfl,e2,q2⟩:=ry.tup;split at p
   .rename_i hl;cases q1 with
    |nil=>exact .inr (.inr ⟨_,_,_,rfl,rfl,e1,e2,bv p (.tup e2 q2)⟩)
    |cons r0 r1=>refine .inr (.inl ⟨_,_,_,_,rfl,rfl,e1,e2,(λz=>nomatch z),by rw[(Rds.cons r0 r1).len,q2.len];exact hl,λz=>?_,λ_=>bvT p ((Rds.cons r0 r1).append q2)⟩);subst z;cases q2;rw[K2] at p;exact bv p (.tup e1 (.cons r0 r1))
   .exact p.elim
  .exact p.elim
def Hc:OpD K mg (rI0 λi j=>.int (i-j)) my.G:=nG λ_ _ _ _=>.int _
def FV:OpD K mg (rI CMulA λi j=>.int (i*j)) bf.G:=uh λ_ _ _ _=>.int _
def Hi:OpD K mg (rI CDivB λi j=>.int (i.fdiv j)) iX.G:=uh λ_ _ _ _=>.int _
def Hx:OpD K mg (rI (λ_ j=>j≠0) λi j=>.int (i.fmod j)) bH.G:=uh λ_ _ _ _=>.int _
def F7:OpD K mg (rI kN λi j=>.int (i^j.toNat)) mB.G:=uh λ_ _ _ _=>.int _
def FO:OpD K mg (rI kN λi j=>.int (i*2^j.toNat)) BM.G:=uh λ_ _ _ _=>.int _
def CA:OpD K mg (rI0 λi j=>.bl (decide (i<j))) bLt.G:=nG λ_ _ _ _=>.bl _
def CD:OpD K mg (rI0 λi j=>.bl (decide (j<i))) bGt.G:=nG λ_ _ _ _=>.bl _
def B7:OpD K mg (rI0 λi j=>.bl (decide (j<=i))) bGe.G:=nG λ_ _ _ _=>.bl _
def F2:IpD K mg (ipI λi j=>i+j) zW.G:=nG λ_ _ _ _=>.int _
def G3:UnD K mg (rU λi=>.int (-i)) ie.G:=λP H x v Q r p=>by
 replace p:BvP K mg P H Q (BO v):=p;unfold BO at p;split at p
 .obtain rfl:=r.int;exact⟨_,rfl,bv p (.int _)⟩
 .exact p.elim
def Ig(r:Rds K mg P H ds vs)(e:atI vs i=some v):∃d,atI ds i=some d/\Rd K mg P H d v:=by
 unfold atI at e ⊢;rw[r.len];cases q:ixN vs.length i with
 |none=>rw[q] at e;cases e
 |some j=>rw[q] at e;exact r.get e
def J2:OpD K mg (λx y H Q=>BD K x y H Q\/AO K x y H Q) bIx.G:=λP H x y v u Q rx ry p=>by
 replace p:BvP K mg P H Q (aIx v u):=p;unfold aIx at p;split at p
 .rename_i xs i e1;obtain⟨a,ys,rfl,h,q⟩:=rx.items e1;obtain rfl:=ry.int;split at p
  .rename_i w e3;obtain⟨d,e4,q2⟩:=Ig q e3;rcases h with h |h
   .exact .inl ⟨_,_,_,d,rfl,rfl,h,e4,bv p q2⟩
   .exact .inr ⟨_,_,_,d,rfl,rfl,h,e4,bv p q2⟩
  .exact p.elim
 .exact p.elim
def AK{k:Nat}(hk:∀d v pd,Rd K mg P H d v->cC k v=some pd->Rep K H d pd){ps:List PyData}(r:Rds K mg P H ds vs):ed k vs=some ps->Reps K H ds ps:=
 r.ind (M:=λds vs=>∀ps,ed k vs=some ps->Reps K H ds ps) (λ_ q=>by unfold ed at q;cases q;exact .nil) (λr _ ih ps q=>by
  unfold ed at q;split at q
  .rename_i a b e1 e2;cases q;exact .cons (hk _ _ _ r e1) (ih _ e2)
  .cases q) ps
theorem lD:∀(k:Nat) (d:V) (v:Val) (pd:PyData),ShR K mg P H d v->cC k v=some pd->Rep K H d pd
 |0,_,_,_,_,q=>by unfold cC at q;cases q
 |
  k+1,d,v,pd,r,q=>by
  have ih:∀{ds:List V}{vs:List Val}{ps:List PyData},Rds K mg P H ds vs->ed k vs=some ps->Reps K H ds ps:=λr=>AK (λd v pd r q=>lD k d v pd (.inl r) q) r;cases v with
  |non=>obtain rfl:=r.non;simp only[cC] at q;cases q;exact .non
  |bl b=>obtain rfl:=r.bl;simp only[cC] at q;cases q;exact .bl b
  |int b=>obtain rfl:=r.int;simp only[cC] at q;cases q;exact .int b
  |str b=>obtain rfl:=r.str;simp only[cC] at q;cases q;exact .str b
  |tup xs=>obtain⟨a,ds,rfl,e,r2⟩:=r.tup;simp only[cC] at q;obtain⟨ps,q1,rfl⟩:=H_.mp q;exact .tup e (ih r2 q1)
  |lst xs=>obtain⟨a,ds,rfl,e,r2⟩:=r.lstL;simp only[cC] at q;obtain⟨ps,q1,rfl⟩:=H_.mp q;exact .lst e (ih r2 q1)
  |_=>simp only[cC] at q;cases q
def Fu{x y:V}{u:Val}{b:Bool}(r1:ShR K mg P H x v)(r2:ShR K mg P H y u)(q:cq v u=some b):∃a c,Rep K H x a/\Rep K H y c/\shp a=true/\shp c=true/\PyData.eqv a c=b:=by
 unfold cq at q;split at q
 .rename_i a c e1 e2;split at q
  .rename_i hs;cases q;exact⟨a,c,lD 164 _ _ _ r1 e1,lD 164 _ _ _ r2 e2,hs.1,hs.2,rfl⟩
  .cases q
 .cases q
def Ct{x y:V}{u:Val}(r1:ShR K mg P H x v)(r2:ShR K mg P H y u)(p:BvP K mg P H Q (aEq neg v u)):∃a c,Rep K H x a/\Rep K H y c/\shp a=true/\shp c=true/\Q (.bl (if neg then !PyData.eqv a c else PyData.eqv a c)) H:=by
 unfold aEq at p;split at p
 .rename_i b q;obtain⟨a,c,h1,h2,h3,h4,rfl⟩:=Fu r1 r2 q;exact⟨a,c,h1,h2,h3,h4,bv p (.bl _)⟩
 .exact p.elim
def Cj:OpD K mg (A3 K) bEq.G:=λP H x y v u Q rx ry p=>Ct rx ry p
def Kc:OpD K mg (AM K) bNe.G:=λP H x y v u Q rx ry p=>Ct rx ry p
def vV(r:ShR K mg P H x v)(f:lz v=true):x=rP v/\L2.flatV x=true:=by
 cases v with
 |non=>obtain rfl:=r.non;exact⟨rfl,rfl⟩
 |bl b=>obtain rfl:=r.bl;exact⟨rfl,rfl⟩
 |int b=>obtain rfl:=r.int;exact⟨rfl,rfl⟩
 |str b=>obtain rfl:=r.str;exact⟨rfl,rfl⟩
 |_=>cases f
def BQ(y:Val)(r:Rds K mg P H ds vs):vs.all lz=true->ds.all L2.flatV=true/\inV (rP y) ds=vs.any λd=>eq1 d y:=
 r.ind (M:=λds vs=>vs.all lz=true->ds.all L2.flatV=true/\inV (rP y) ds=vs.any λd=>eq1 d y) (λ_=>⟨rfl,rfl⟩) λr _ ih f=>by rw[LG,p_] at f;obtain⟨rfl,h2⟩:=vV (.inl r) f.1;obtain⟨h3,h4⟩:=ih f.2;refine⟨by rw[LG,h2,h3];rfl,?_⟩;unfold inV at h4 ⊢;rw[K7,K7,h4];rfl
def Cu:OpD K mg (rIn K neg) (aIn neg):=λP H x y v u Q rx ry p=>by
 unfold aIn at p;split at p
 .rename_i xs e;obtain⟨a,ys,rfl,h,q⟩:=ry.items e;split at p
  .rename_i hf;obtain⟨rfl,f2⟩:=vV rx hf.1;obtain⟨f3,f4⟩:=BQ v q hf.2;exact⟨a,ys,rfl,h,f2,f3,by rw[f4];exact bv p (.bl _)⟩
  .exact p.elim
 .exact p.elim
def JS:OpD K mg (rIn K false) bIn.G:=Cu
def Gb:OpD K mg (rIn K true) gw.G:=Cu
def B6(rx:ShR K mg P H x v)(ry:ShR K mg P H y u)(p:BvP K mg P H Q (wZ neg v u)):y=.non/\Q (.bl (if neg then !decide (x=.non) else decide (x=.non))) H:=by
 unfold wZ at p;split at p
 .obtain rfl:=rx.non;obtain rfl:=ry.non;exact⟨rfl,by cases neg <;> exact bv p (.bl _)⟩
 .rename_i hn;obtain rfl:=ry.non;have:decide (x=V.non)=false:=by
   rw[Mh];rintro rfl;rcases rx with r |⟨n,o,z,_⟩
   .cases r;exact hn rfl
   .cases z
  rw[this];exact⟨rfl,by cases neg <;> exact bv p (.bl _)⟩
 .exact p.elim
def J8:OpD K mg (λx y H Q=>y=.non/\Q (.bl (decide (x=.non))) H) bIs.G:=λP H x y v u Q rx ry p=>B6 (neg:=false) rx ry p
def Gu:OpD K mg (λx y H Q=>y=.non/\Q (.bl (!decide (x=.non))) H) xf.G:=λP H x y v u Q rx ry p=>B6 (neg:=true) rx ry p
def GG:eN K mg (λxs H Q=>(∃p ys,xs=[.ref p]/\(SqL K H p ys\/SqT K H p ys)/\Q (.int ys.length) H)\/(∃z,xs=[.str z]/\z.length<=sizeLine/\Q (.int z.length) H)) aJ.G:=λP H xs vs Q r0 p=>by
 replace p:BvP K mg P H Q (Bu vs):=p;unfold Bu at p;split at p
 .obtain⟨d,rfl,r⟩:=gH r0;split at p
  .rename_i xs e;obtain⟨a,ys,rfl,h,q⟩:=r.items e;exact .inl ⟨_,_,rfl,h,by rw[q.len];exact bv p (.int _)⟩
  .split at p
   .obtain rfl:=r.str;split at p
    .rename_i hl;exact .inr ⟨_,rfl,hl,bv p (.int _)⟩
    .exact p.elim
   .exact p.elim
 .exact p.elim
def Fp:eN K mg (λxs H Q=>∃i,xs=[.int i]/\Q (.int (if i<0 then -i else i)) H) mL.G:=λP H xs vs Q r0 p=>by
 replace p:BvP K mg P H Q (Aw vs):=p;unfold Aw at p;split at p
 .obtain⟨d,rfl,r⟩:=gH r0;obtain rfl:=r.int;exact⟨_,rfl,bv p (.int _)⟩
 .exact p.elim
def Km{bs:List Bool}(r:Rds K mg P H ds vs):jO vs=some bs->ds=bs.map V.bl:=
 r.ind (M:=λds vs=>∀bs,jO vs=some bs->ds=bs.map V.bl) (λbs q=>by cases q;rfl) (λ{d v ds vs} r _ ih bs q=>by
  cases v with
  |bl b=>obtain rfl:=ShR.bl (.inl r);obtain⟨b',q1,rfl⟩:=H_.mp (show (jO vs).map (b :: ·)=some bs from q);rw[ih _ q1];rfl
  |_=>cases q) bs
def HW{bs:List Int}(r:Rds K mg P H ds vs):iF vs=some bs->ds=bs.map V.int:=
 r.ind (M:=λds vs=>∀bs,iF vs=some bs->ds=bs.map V.int) (λbs q=>by cases q;rfl) (λ{d v ds vs} r _ ih bs q=>by
  cases v with
  |int b=>obtain rfl:=ShR.int (.inl r);obtain⟨b',q1,rfl⟩:=H_.mp (show (iF vs).map (b :: ·)=some bs from q);rw[ih _ q1];rfl
  |_=>cases q) bs
def yQ:eN K mg (λxs H Q=>∃(a:Addr) (bs:List Bool),xs=[.ref a]/\SqL K H a (bs.map V.bl)/\Q (.bl (bs.all id)) H) rB.G:=λP H xs vs Q r0 p=>by
 replace p:BvP K mg P H Q (Aa vs):=p;unfold Aa at p;split at p
 .obtain⟨d,rfl,r⟩:=gH r0;obtain⟨a,ys,rfl,h,q⟩:=r.lstL;split at p
  .rename_i bs e;exact⟨a,bs,rfl,Km q e ▸ h,bv p (.bl _)⟩
  .exact p.elim
 .exact p.elim
def kT:eN K mg (λxs H Q=>∃(a:Addr) (ns:List Int),xs=[.ref a]/\SqL K H a (ns.map V.int)/\Q (.int ns.sum) H) gI.G:=λP H xs vs Q r0 p=>by
 replace p:BvP K mg P H Q (A6 vs):=p;unfold A6 at p;split at p
 .obtain⟨d,rfl,r⟩:=gH r0;obtain⟨a,ys,rfl,h,q⟩:=r.lstL;split at p
  .rename_i bs e;exact⟨a,bs,rfl,HW q e ▸ h,bv p (.int _)⟩
  .exact p.elim
 .exact p.elim
def wc:eN K mg (λxs H Q=>∃p ys,xs=[.ref p]/\(SqL K H p ys\/SqT K H p ys)/\∀l,H l=none->Q (.ref l) (upd H l (.lst ys))) gq.G:=λP H xs vs Q r0 p=>by
 replace p:BvP K mg P H Q (xN vs):=p;unfold xN at p;split at p
 .obtain⟨d,rfl,r⟩:=gH r0;split at p
  .rename_i xs e;obtain⟨a,ys,rfl,h,q⟩:=r.items e;exact⟨_,_,rfl,h,bvL p q⟩
  .exact p.elim
 .exact p.elim
def As:eN K mg (λxs H Q=>∃p ys,xs=[.ref p]/\((SqL K H p ys/\∀l,H l=none->Q (.ref l) (upd H l (.tup ys)))\/(SqT K H p ys/\Q (.ref p) H))) lE.G:=λP H xs vs Q r0 p=>by
 replace p:BvP K mg P H Q (tW vs):=p;unfold tW at p;split at p
 .obtain⟨d,rfl,r⟩:=gH r0;split at p
  .rename_i xs e;obtain⟨a,ys,rfl,h,q⟩:=r.items e;rcases h with h |h
   .exact⟨_,_,rfl,.inl ⟨h,bvT p q⟩⟩
   .exact⟨_,_,rfl,.inr ⟨h,bv p (.tup h q)⟩⟩
  .exact p.elim
 .exact p.elim
def J1{kt:jB}{t c:Cl}{b:Bool}(ok:KitsOk K mg kt)(r:ShR K mg P H x v)(q:tyC v=some t)(k:kit kt t c=some b):∃tv,TyX K H x tv/\ClV mg t tv:=by
 cases v with
 |non=>obtain rfl:=r.non;cases q;exact⟨_,.of .non,rfl⟩
 |bl b=>obtain rfl:=r.bl;cases q;exact⟨_,.of (.bl _),rfl⟩
 |int b=>obtain rfl:=r.int;cases q;exact⟨_,.of (.int _),rfl⟩
 |str b=>obtain rfl:=r.str;cases q;exact⟨_,.of (.str _),rfl⟩
 |exc b=>obtain⟨a,C,rfl,m,e⟩:=r.exc;cases q;exact⟨_,.exc e (ok.xc _ (oz k) _ _ rfl m),_,rfl,m⟩
 |tup b=>obtain⟨a,ds,rfl,h,_⟩:=r.tup;cases q;exact⟨_,.sqT h,rfl⟩
 |lst b=>obtain⟨a,ds,rfl,e,_⟩:=r.lst;cases q;exact⟨_,.of (.lst e),rfl⟩
 |dct b=>obtain⟨a,ds,rfl,e,_⟩:=r.dct;cases q;exact⟨_,.of (.dK e),rfl⟩
 |_=>cases q
def Cm{c:Cl}(r:ShR K mg P H x v)(q:clV v=some c):∃cv,fY x=some cv/\ClV mg c cv:=by
 cases v with
 |ty b=>obtain rfl:=r.ty;cases q;exact⟨_,rfl,rfl⟩
 |glb b=>obtain⟨a,rfl,m⟩:=r.glb;cases q;exact⟨_,rfl,_,rfl,m⟩
 |_=>cases q
def HP{cs:List Cl}(r:Rds K mg P H ds vs):rN vs=some cs->∃cvs,ds.mapM fY=some cvs/\Paired (ClV mg) cs cvs:=
 r.ind (M:=λds vs=>∀cs,rN vs=some cs->∃cvs,ds.mapM fY=some cvs/\Paired (ClV mg) cs cvs) (λcs q=>by cases q;exact⟨[],rfl,.nil⟩) (λr _ ih cs q=>by
  unfold rN at q;split at q
  .rename_i c cs' e1 e2;cases q;obtain⟨cv,h1,h2⟩:=Cm (.inl r) e1;obtain⟨cvs,h3,h4⟩:=ih _ e2;refine⟨cv::cvs,?_,.cons h2 h4⟩;rw[List.mapM_cons,h1,h3];rfl
  .cases q) cs
def HI{kt:jB}(ok:KitsOk K mg kt):eN K mg (λxs H Q=>(∃x c t v b,xs=[x,c]/\TyX K H x t/\fY c=some v/\W.kitOne K t v=some b/\Q (.bl b) H)\/
 (∃x tp cs t vs b,xs=[x,.ref tp]/\SqT K H tp cs/\TyX K H x t/\cs.mapM fY=some vs/\W.kitAny K t vs=some b/\Q (.bl b) H)) (aO kt).G:=λP H xs vs Q r0 p=>by
 replace p:BvP K mg P H Q (Ab kt vs):=p;unfold Ab at p;split at p
 .rename_i v c;obtain⟨d,d',rfl,r1,r2⟩:=B8 r0;split at p
  .rename_i t c0 cr e1 e2;split at p
   .rename_i b b' e4 e5;obtain⟨tv,h1,h2⟩:=J1 ok r1 e1 e5;by_cases ht:∃cs,c=.tup cs
    .obtain⟨cs,rfl⟩:=ht;obtain⟨a,es,rfl,h,q⟩:=r2.tup;obtain⟨cvs,h3,h4⟩:=HP q e2;exact .inr ⟨_,_,_,tv,cvs,b,rfl,h,h1,h3,zF ok h2 h4 e4,bv p (.bl _)⟩
    .have e2':(clV c).map ([·])=some (c0::cr):=by
      cases c with
      |tup cs=>exact absurd ⟨cs,rfl⟩ ht
      |_=>exact e2
     obtain⟨cl,y1,y2⟩:=H_.mp e2';cases y2;obtain⟨cv,h3,h4⟩:=Cm r2 y1;have:kit kt t c0=some b:=by
      unfold gJ at e4;rw[e5] at e4 ⊢;cases b' with
      |true=>exact e4
      |false=>unfold gJ at e4;exact e4
     exact .inl ⟨_,_,tv,cv,b,rfl,h1,h3,ok.one _ (oz this) _ _ h2 h4,bv p (.bl _)⟩
   .exact p.elim
  .exact p.elim
 .exact p.elim
def xW(r:Rc K mg P H o (.lst us)):∃vs,o=.lst vs/\Rds K mg P H vs us:=by cases r with |lst r=>exact⟨_,rfl,r⟩
def rds1(r:Rds K mg P H ds [v]):∃d,ds=[d]/\Rd K mg P H d v:=by cases r with |cons r rr=>cases rr;exact⟨_,rfl,r⟩
def pK:MmD K mg vm du.G:=λP H n o u ds vs u' v Q np e hf r0 rs q k=>by
 replace q:o9 u vs=some (u',v):=q;unfold o9 at q;split at q
 .split at q
  .rename_i hl;cases q;obtain⟨xs,rfl,r⟩:=xW r0;obtain⟨d,rfl,rd⟩:=rds1 rs;exact⟨n,xs,d,rfl,rfl,e,by rw[r.len];exact hl,k _ _ trivial (.lst (r.append (.cons rd .nil))) .non⟩
  .cases q
 .cases q
def Bw:MmD K mg xX oI.G:=λP H n o u ds vs u' v Q np e hf r0 rs q k=>by
 replace q:kH u vs=some (u',v):=q;unfold kH at q;split at q
 .split
   at q
  .rename_i hb;split at q
   .rename_i j hj;split at q
    .rename_i w hw;cases q;obtain⟨xs,rfl,r⟩:=xW r0;obtain⟨d,rfl,rd⟩:=rds1 rs;obtain rfl:=ShR.int (.inl rd);obtain⟨d,e2,rd⟩:=r.get hw;exact⟨n,xs,_,j,d,rfl,rfl,e,hb.1,hb.2,by rw[r.len];exact hj,e2,k _ _ trivial (.lst (r.erase j)) rd⟩
    .cases q
   .cases q
  .cases q
 .cases q
end
abbrev MO3:=E3->R3 (Option Int)
noncomputable def GI (e:E3):R3 (Option Int):=.ok none e
noncomputable def HE (F:ME3) (e:E3):R3 (Option Int):=(F e).bind λt e1=>match rs e1 t with
 |some (.int i)=>.ok (some i) e1
 |_=>.stuck
noncomputable def vSl (F:ME3) (L U:MO3) (e:E3):R3 Tm:=(F e).bind λt e1=>(L e1).bind λlo e2=>(U e2).bind λhi e3=>match rs e3 t.drop with
 |some v=>(aSl v lo hi).at e3
 |none=>.stuck
structure POp where
 t:Nat
 G:MO3
noncomputable def oN:POp:=⟨1,GI⟩
noncomputable def oS (a:PEx):POp:=⟨2,HE a.G⟩
noncomputable def pSl (a:PEx) (l u:POp):PEx:=⟨23,vSl a.G l.G u.G⟩
def rdO(K:W.Frag)(mg:Na)(ES:St->XK)(G:MO3):TO:=λσ H Q=>∃X N0 ns e,Sat K mg X N0 ns e σ H/\PG3 K mg X N0 ns e σ H (ES σ) (λo _ _ H'=>Q o H') (G e)
def rdO.el{K:W.Frag}{mg:Na}{G:MO3}(h:rdO K mg ES G σ H Q){Z:Prop}(k:∀X N0 ns e,Sat K mg X N0 ns e σ H->PG3 K mg X N0 ns e σ H (ES σ) (λo _ _ H'=>Q o H') (G e)->Z):Z:=by obtain⟨X,N0,ns,e,S,p⟩:=h;exact k X N0 ns e S p
structure DO(K:W.Frag)(mg:Na)(X:Cx)(ES:St->XK)(e:Option Expr)(F:POp):Prop where
 ok:PO X e (rdO K mg ES F.G)
section
variable{K:W.Frag}{mg:Na}{X:Cx}{ES:St->XK}{e a:Expr}{p:PEx}{l u:POp}{lo hi:Option Expr}{pos p2:Pos}
def vS:DO K mg X ES none oN:=⟨PO.imp EA λσ H Q zz=>rdO.el zz λY N0 ns e S p=>PG3.ret p S⟩
def vY(he:DE K mg X ES e p):DO K mg X ES (some e) (oS p):=⟨PO.imp (Du he.ok) λσ H Q zz=>rdO.el zz λY N0 ns e S p=>
 ⟨Y,
  N0,λ_=>True,ns,e,S,λ_ _=>trivial,PG3.imp p S λt e1 ns1 H1 a1 S1 p1 x r1=>by
  try dsimp only at p1
  split at p1
  .rename_i i q;obtain rfl:=(r1.sh S1 q).int;exact⟨_,rfl,p1.ret S1⟩
  .exact p1.elim⟩⟩
def Ih{P:Addr->Prop}{H:Hp}{Q:VK}{x:V}{v:Val}{lo hi:Option Int}(r:ShR K mg P H x v)(p:BvP K mg P H Q (aSl v lo hi)):((xq K x lo hi H Q\/w9 K x lo hi H Q)\/wm x lo hi H Q)\/Bc K x lo hi H Q:=by
 have cut:∀{vs us},Rds K mg P H vs us->Rds K mg P H (kA vs lo hi) (dE us lo hi):=λr=>by unfold kA dE;rw[r.len];exact (r.drop _).take _
 unfold aSl at p;split at p
 .obtain⟨a,ds,rfl,h,q⟩:=r.tup;split at p
  .rename_i hn;exact .inr ⟨_,_,rfl,h,by rw[q.len];exact hn,bv p (.tup h q)⟩
  .rename_i hn;exact .inl (.inl (.inr ⟨_,_,rfl,h,by rw[q.len];exact hn,bvT p (cut q)⟩))
 .obtain⟨a,ds,rfl,h,q⟩:=r.lstL;exact .inl (.inl (.inl ⟨_,_,rfl,h,bvL p (cut q)⟩))
 .obtain⟨a,ds,rfl,h,q⟩:=r.kl;exact .inl (.inl (.inl ⟨_,_,rfl,h,bvL p (cut q)⟩))
 .obtain rfl:=r.str;split at p
  .rename_i hz;exact .inl (.inr ⟨_,rfl,hz,bv p (.str _)⟩)
  .exact p.elim
 .exact p.elim
def rF(hK:X.K=K)(he:DE K mg X ES e p)(hl:DO K mg X ES lo l)(hu:DO K mg X ES hi u):DE K mg X ES (.Subscript e (.Slice lo hi none p2) pos) (pSl p l u):=
 ⟨PE.imp (BU (slKW hK) he.ok hl.ok hu.ok) λσ H Q zz=>zz.el λY N0 L ns e S hL p=>⟨Y,N0,L,ns,e,S,hL,PG3.imp p S λt e1 ns1 H1 a1 S1 p1 x rx=>⟨Y,N0,ns1,e1,S1,PG3.imp p1 S1 λlo e2 e_ H2 a2 S2 p2=>⟨Y,N0,e_,e2,S2,PG3.imp p2 S2 λhi e3 ns3 H3 a3 S3 p3=>by
  try dsimp only at p3
  split at p3
  .rename_i v q;exact Ih ((rx.drop (a2.trans S1 a3)).sh S3 q) (p3.bv S3 λa z=>hL a (a1.dom a (a2.dom a (a3.dom a z))))
  .exact p3.elim⟩⟩⟩⟩
end
theorem oH{K:W.Frag}{mg:Na}{P:Addr->Prop}{H:Hp}:∀(ns:List Int),Rds K mg P H (ns.map V.int) (ns.map Val.int)
 | []=>.nil
 |_::r=>.cons (.int _) (oH r)
def law3{P:Program}{w:World}{K:W.Frag}{mg:Na}{base:Heap}{x y:Str}{k:Nat}(p:PFn)(C:Callee P w K mg base x k [y] (sp3 K mg p))(hT:∀P q,¬ A2 K mg P q)(hm:p.ms=[false])(hG:∀ns:List Int,ns.length<=63->p.G [.kl (ns.map .int)]=.ok (.val (.bl true)) []):
 Callee P w K mg base x k [y] (λvs H Q _=>∃(a:Addr) (ns:List Int),vs=[.ref a]/\oU H/\SqL K H a (ns.map V.int)/\ns.length<=63/\∀H',Q (.bl true) H'):=C.imp λvs H Q E ⟨a,ns,e,hO,hq,hl,q⟩=>by
 subst e;refine⟨λ_=>False,[none],[.kl (ns.map .int)],by rw[hm];rfl,?_,?_⟩
 .rw[hm];have rd:Rd K mg (Oc (λ_=>False) [none]) H (.ref a) (.kl (ns.map .int)):=by
   rcases hq with (hq |⟨o,hq⟩) |hq
   .rcases hO a with z |⟨o,xs,z⟩ <;> rw[hq] at z <;> cases z
   .exact .cell ⟨λz=>z,by simp⟩ hq (.fz (oH ns))
   .exact .kl hq (oH ns)
  refine⟨rfl,rfl,λ_ z=>z,λ_ z=>z.elim,λi j n q=>?_,λi n q z=>z,λi s q=>?_,λP q l=>(hT P q l).elim⟩
  .cases i with
   |zero=>simp at q
   |succ i=>simp at q
  .cases i with
   |
    zero=>
    have:sl1 false (.kl (ns.map .int))=s:=by simpa [sls] using q
    subst this;exact⟨rfl,_,rfl,rd⟩
   |succ i=>simp [sls] at q
 .rw[hG ns hl];intro x H' _ rr;rw[ShR.bl (.inl rr.2)];exact q H'
structure PFx(ms:List Bool) where
 G:Fn3
noncomputable def PFx.fn {ms:List Bool} (p:PFx ms):PFn:=⟨ms,p.G⟩
noncomputable def PFx.none (ms:List Bool) (N:Nat:=0):PFx ms:=⟨λ_=>.stuck⟩
noncomputable def PFx.of (ms:List Bool) (N:Nat) (c:PSt):PFx ms:=⟨fnV ms N c.G⟩
section
variable{K:W.Frag}{mg:Na}{P:Program}{w:World}{base:Heap}{fx:Str}{fst:Stmt}{k m:Nat}{ps N:List Str}{ms:List Bool}{x:PSt}
def okX(D:Def K mg fx fst)(S:FnScope N ps (ar fst))
 (hb:∀(kV doc pm:Value) (an:Option Addr) (cdv ct:Value) (us:List Value),us.length=ps.length->bindArgs (W.fnOf fx fx (dU fst) (bS fst) (ar fst) .none kV doc pm an cdv ct) ⟨us,[]⟩=pure (ps.zip us))
 (hbody:N.Nodup->∀(f:Addr) (cdv:Value) (A:Around) (outer:List Env) (s:Shared) (H:Hp) (E:XK),Room k (A.deeper (envOfC fx (ar fst) s.heap.objs.size f cdv))->
  DSs K mg (eS (CX1 P w) P w K mg base N fx (ar fst) f cdv A outer s H E) (λ_=>E) (bS fst) x) (hn:ms.length=ps.length:=by rfl) (hm:N.length=m:=by rfl):Callee P w K mg base fx (k+1) ps (sp3 K mg (PFx.of ms m x).fn):=okP D S hb hbody hn hm
def ok0(D:Def K mg fx fst)(S:FnScope N ps (ar fst))
 (hb:∀(kV doc pm:Value) (an:Option Addr) (cdv ct:Value) (us:List Value),us.length=ps.length->bindArgs (W.fnOf fx fx (dU fst) (bS fst) (ar fst) .none kV doc pm an cdv ct) ⟨us,[]⟩=pure (ps.zip us)) (hn:ms.length=ps.length:=by rfl):Callee P w K mg base fx (k+1) ps (sp3 K mg (PFx.none ms).fn):=
 (okP (x:=xNo) (ms:=ms) (m:=N.length) D S hb (λ_ _ _ _ _ _ _ _ _=>⟨λ_ _ _ _ _ _ ⟨_,_,_,_,_,p⟩=>p.elim⟩) hn).imp λ_ _ _ _ ⟨_,_,_,_,_,p⟩=>p.elim
end
section
variable{K:W.Frag}{mg:Na}{X:Cx}{ES:St->XK}{e:Expr}{p:PEx}{pos:Pos}
def zsS{ow:Bool}(i:Nat){x:Str}{pos':Pos}(hN:X.N.Nodup)(he:DE K mg X ES e p)(hi:X.N[i]?=some x:=by exact rfl)(hx:Loc X.env.scope x:=by first |exact Or.inl rfl |exact Or.inr rfl)(hs:swapsWith e (some (.Name x pos')) pos.line X.env=pure false:=by rfl)(hf:X.fn x=true\/X.env.scope.names.lookup x=some .local:=by first |exact .inl rfl |exact .inr rfl |assumption):DS K mg X ES (.Assign [.Name x pos'] e pos) (ax ow i p):=GJ hN hi hx he hs hf
def zgN(i:Nat){x:Str}(hN:X.N.Nodup)(hi:X.N[i]?=some x:=by exact rfl)(hx:Loc X.env.scope x:=by first |exact Or.inl rfl |exact Or.inr rfl)(hf:X.fn x=true\/X.env.scope.names.lookup x=some .local:=by first |exact .inl rfl |exact .inr rfl |assumption):DG K mg X (.Name x pos) (gtN i):=Ew hN hi hx hf
end
section
variable(e:E3)
@[simp] theorem gB(a:α)(f:α->E3->R3 β):(R3.ok a e).bind f=f a e:=rfl
@[simp] theorem Ir(a:α)(f:α->E3->SR3):(R3.ok a e).toS f=f a e:=rfl
@[simp] theorem Ij(f:E3->SR3):(SR3.nx e).then f=f e:=rfl
@[simp] theorem Jb(r:Rt)(f:E3->SR3):(SR3.rt r e).then f=.rt r e:=rfl
@[simp] theorem Jd(f:E3->SR3):(SR3.ct e).then f=.ct e:=rfl
@[simp] theorem Gd(c:Str)(f:E3->SR3):(SR3.exc c e).then f=.exc c e:=rfl
@[simp] theorem iM(f:E3->SR3):(SR3.nx e).loop f=f e:=rfl
@[simp] theorem CU(f:E3->SR3):(SR3.ct e).loop f=f e:=rfl
@[simp] theorem IK(r:Rt)(f:E3->SR3):(SR3.rt r e).loop f=.rt r e:=rfl
@[simp] theorem JD(r:SR3):r.unl none=r:=by cases r <;> rfl
@[simp] theorem AI:lockO e none=e:=rfl
@[simp] theorem w6:eZ e none=e:=rfl
@[simp] theorem Fl(v:Val):(Bv.val v).at e=.ok (.val v) e:=rfl
@[simp] theorem Gi(v:Val):(Bv.new v).at e=.ok (.new v) e:=rfl
@[simp] theorem HA(v:Val):rs e (.val v)=some v:=rfl
@[simp] theorem HN(v:Val):rs e (.new v)=some v:=rfl
@[simp] theorem GZ(i:Nat):rs e (.bor i)=(e[i]?).bind Sl.val:=rfl
@[simp] theorem Hd(v:Val):(Tm.val v).drop=.val v:=rfl
@[simp] theorem E8(v:Val):(Tm.new v).drop=.val v:=rfl
@[simp] theorem GF(i:Nat):(Tm.bor i).drop=.bor i:=rfl
@[simp] theorem Ep:rss e []=some []:=rfl
@[simp] theorem Bf(t:Tm)(ts:List Tm):rss e (t::ts)=match rs e t,rss e ts with
 |some v,some vs=>some (v::vs)
 |_,_=>none:=rfl
@[simp] theorem HD(v:Val):cE e (.val v)=some (e,v):=rfl
@[simp] theorem GA(v:Val):cE e (.new v)=some (e,v):=rfl
@[simp] theorem Ge(i:Nat):cE e (.bor i)=match e[i]? with
 |some (.sh v)=>some (e,v)
 |some (.ow v)=>some (e.set i (.sh v),v)
 |_=>none:=rfl
@[simp] theorem He:dem e []=some (e,[]):=rfl
@[simp] theorem EK(t:Tm)(ts:List Tm):dem e (t::ts)=match cE e t with
 |some (e1,v)=>match dem e1 ts with
  |some (e2,vs)=>some (e2,v::vs)
  |none=>none
 |none=>none:=rfl
@[simp] theorem Fo(b:Bool):bOf (some (.bl b))=some b:=rfl
@[simp] theorem JP(i:Nat):(af i).G e=match e[i]? with
 |some (.sh v)=>.ok (.val v) e
 |some .no=>.stuck
 |some _=>.ok (.bor i) e
 |none=>.stuck:=rfl
@[simp] theorem IL(i:Int):(ah i).G e=.ok (.val (.int i)) e:=rfl
@[simp] theorem v_bl(i:Bool):(pBl i).G e=.ok (.val (.bl i)) e:=rfl
@[simp] theorem Kk(i:Str):(aC i).G e=.ok (.val (.str i)) e:=rfl
@[simp] theorem Jr:gx.G e=.ok (.val .non) e:=rfl
@[simp] theorem v_ty(i:String):(pTy i).G e=.ok (.val (.ty i)) e:=rfl
@[simp] theorem Ie(i:Str):(wY i).G e=.ok (.val (.glb i)) e:=rfl
@[simp] theorem v_un(o:PU1)(a:PEx):(pUn o a).G e=(a.G e).bind λt e1=>match rs e1 t with
 |some v=>(o.G v).at e1
 |none=>.stuck:=rfl
@[simp] theorem v_op(o:PO2)(a b:PEx):(pOp o a b).G e=(a.G e).bind λt1 e1=>(b.G e1).bind λt2 e2=>match rs e2 t1.drop,rs e2 t2 with
 |some v1,some v2=>(o.G v1 v2).at e2
 |_,_=>.stuck:=rfl
@[simp] theorem Jf:ag.G e=.ok [] e:=rfl
@[simp] theorem E4(a:PEx)(r:PAs):(aa a r).G e=(a.G e).bind λt e1=>(r.G e1).bind λts e2=>.ok (t.drop::ts) e2:=rfl
@[simp] theorem v_fn(o:PBf)(a:PAs):(pFn o a).G e=(a.G e).bind λts e1=>match rss e1 ts with
 |some vs=>(o.G vs).at e1
 |none=>.stuck:=rfl
@[simp] theorem JF(a:PAs):(aH a).G e=(a.G e).bind λts e1=>match dem e1 ts with
 |some (e2,vs)=>if vs.length<=16777216 then .ok (.val (.tup vs)) e2 else .stuck
 |none=>.stuck:=rfl
@[simp] theorem Ka(a:PAs):(aY a).G e=(a.G e).bind λts e1=>match dem e1 ts with
 |some (e2,vs)=>if vs.length<=16777216 then .ok (.new (.lst vs)) e2 else .stuck
 |none=>.stuck:=rfl
@[simp] theorem ID(a b:PEx):(fE a b).G e=(a.G e).bind λt e1=>match bOf (rs e1 t) with
 |some true=>b.G e1
 |some false=>.ok (.val (.bl false)) e1
 |none=>.stuck:=rfl
@[simp] theorem Iz(a:PEx):(lX a).G e=(a.G e).bind λt e1=>match bOf (rs e1 t) with
 |some b=>.ok (.val (.bl (!b))) e1
 |none=>.stuck:=rfl
@[simp] theorem v_if(c:PTs)(a b:PEx):(pIf c a b).G e=(c.G e).bind λk e1=>if k=true then a.G e1 else b.G e1:=rfl
@[simp] theorem c_of(a:PEx):(qOf a).G e=(a.G e).bind λt e1=>match bOf (rs e1 t) with
 |some b=>.ok b e1
 |none=>.stuck:=rfl
@[simp] theorem c_an(a b:PTs):(qAn a b).G e=(a.G e).bind λk e1=>if k=true then b.G e1 else .ok false e1:=rfl
@[simp] theorem c_o(a b:PTs):(qO a b).G e=(a.G e).bind λk e1=>if k=true then .ok true e1 else b.G e1:=rfl
@[simp] theorem c_no(a:PTs):(qNo a).G e=(a.G e).bind λk e1=>.ok (!k) e1:=rfl
@[simp] theorem c_y:qY.G e=.ok true e:=rfl
@[simp] theorem x_nx:xNx.G e=.nx e:=rfl
@[simp] theorem x_ct:xCt.G e=.ct e:=rfl
@[simp] theorem Jp(a:PEx):(ak a).G e=(a.G e).toS oo:=rfl
@[simp] theorem EF(v:Val):oo (.val v) e=.rt (.val v) e:=rfl
@[simp] theorem EM(v:Val):oo (.new v) e=.rt (.new v) e:=rfl
@[simp] theorem ET(i:Nat):oo (.bor i) e=match e[i]? with
 |some (.sh v)=>.rt (.val v) e
 |some (.ow v)=>.rt (.new v) (e.set i .no)
 |some (.mu _)=>.rt (.par i) e
 |_=>.stuck:=rfl
@[simp] theorem GL(a:PEx):(cB a).G e=(a.G e).toS λ_ e1=>.nx e1:=rfl
@[simp] theorem Cg(a b:PSt):(aj a b).G e=(a.G e).then b.G:=rfl
@[simp] theorem x_if(c:PTs)(a b:PSt):(xIf c a b).G e=(c.G e).toS λk e1=>if k=true then a.G e1 else b.G e1:=rfl
@[simp] theorem Jk(o:Bool)(i:Nat)(a:PEx):(ax o i a).G e=(a.G e).toS (jV o i):=rfl
@[simp] theorem IX:Sl.no.pl=true:=rfl
@[simp] theorem Kf(v:Val):(Sl.sh v).pl=true:=rfl
@[simp] theorem C9(o:Bool)(i:Nat)(v:Val):jV o i (.val v) e=match e[i]? with
 |some s0=>if s0.pl=true then .nx (e.set i (.sh v)) else .stuck
 |none=>.stuck:=by unfold jV;rfl
@[simp] theorem BC(i:Nat)(v:Val):jV true i (.new v) e=match e[i]? with
 |some s0=>if s0.pl=true then .nx (e.set i (.ow v)) else .stuck
 |none=>.stuck:=by unfold jV;rfl
@[simp] theorem A8(i:Nat)(v:Val):jV false i (.new v) e=match e[i]? with
 |some s0=>if s0.pl=true then .nx (e.set i (.sh v)) else .stuck
 |none=>.stuck:=by unfold jV;rfl
@[simp] theorem g_n(i:Nat)(v:Val):(gtN i).G v e=match e[i]? with
 |some s=>if s.pl=true then some (e.set i (.sh v)) else none
 |none=>none:=rfl
@[simp] theorem g_sn:cQ.G [] e=some e:=rfl
@[simp] theorem g_sc(a:PGt)(b:PGs)(v:Val)(vs:List Val):(aM a b).G (v::vs) e=(a.G v e).bind λe1=>b.G vs e1:=rfl
@[simp] theorem g_t(n:Nat)(a:PGs)(vs:List Val):(gtT n a).G (.tup vs) e=if vs.length=n then a.G vs e else none:=rfl
@[simp] theorem FJ(a:PEx)(g:PGt):(eu a g).G e=(a.G e).toS λt e1=>match cE e1 t with
 |some (e2,v)=>match g.G v e2 with
  |some e3=>.nx e3
  |none=>.stuck
 |none=>.stuck:=rfl
@[simp] theorem JE(i j:Nat)(a:PAs):(iS i j a).G e=(a.G e).toS λts e1=>match dem e1 ts with
 |some (e2,[v,u])=>match (pN i v e2).bind (pN j u) with
  |some e3=>.nx e3
  |none=>.stuck
 |_=>.stuck:=rfl
@[simp] theorem JJ(i:Nat)(v:Val):pN i v e=match e[i]? with
 |some s=>if s.pl=true then some (e.set i (.sh v)) else none
 |none=>none:=rfl
@[simp] theorem Im(i:Nat)(o:PO2)(a:PEx):(B3 i o a).G e=match e[i]? with
 |some (.sh x)=>(a.G e).toS λt e1=>match rs e1 t with
  |some y=>match o.G x y with
   |.val z=>match pN i z e1 with
    |some e2=>.nx e2
    |none=>.stuck
   |_=>.stuck
  |none=>.stuck
 |_=>.stuck:=rfl
@[simp] theorem Ec(c:Str)(a:PAs):(eM c a).G e=(a.G e).toS λts e1=>if ts.length<=16777216 then .exc c e1 else .stuck:=rfl
@[simp] theorem JT(i:Nat)(w:PSe)(k a:PEx):(sH i w k a).G e=(a.G e).toS λt e1=>match (e1[i]?).bind Sl.mv with
 |none=>.stuck
 |some _=>(k.G e1).toS λt2 e2=>match rs e2 t2 with
  |none=>.stuck
  |some vi=>match cE e2 t.drop with
   |none=>.stuck
   |some (e3,v)=>match e3[i]? with
    |none=>.stuck
    |some s=>match s.mv with
     |none=>.stuck
     |some u=>match w.G u vi v with
      |some u'=>.nx (e3.set i (s.re u'))
      |none=>.stuck:=rfl
@[simp] theorem Ks(v:Val):(Sl.ow v).mv=some v:=rfl
@[simp] theorem II(v:Val):(Sl.mu v).mv=some v:=rfl
@[simp] theorem Jh(v u:Val):(Sl.ow v).re u=.ow u:=rfl
@[simp] theorem Kr(v u:Val):(Sl.mu v).re u=.mu u:=rfl
@[simp] theorem Fs(v:Val):(Sl.ow v).val=some v:=rfl
@[simp] theorem FZ(v:Val):(Sl.mu v).val=some v:=rfl
@[simp] theorem Jm(i:Nat)(m:PMm)(a:PAs):(iQ i m a).G e=match e[i]? with
 |some s=>if (s.mv.map kJ)=some true then (a.G e).bind λts e1=>match dem e1 ts with
  |some (e2,vs)=>match e2[i]? with
   |some s2=>match s2.mv with
    |some u=>match m.G u vs with
     |some (u',v)=>.ok (.val v) (e2.set i (s2.re u'))
     |none=>.stuck
    |none=>.stuck
   |none=>.stuck
  |none=>.stuck else .stuck
 |none=>.stuck:=rfl
@[simp] theorem BF(xs:List Val):kJ (.lst xs)=true:=rfl
@[simp] theorem Jq(a:PEx):(ba a).G e=(a.G e).bind λt e1=>match fK t e1 with
 |some p=>.ok p e1
 |none=>.stuck:=rfl
@[simp] theorem JK(a:PAs):(wW a).G e=(a.G e).bind λts e1=>match ts with
 | [t]=>(match fK t e1 with
  |some p=>.ok (iO 0 p.1,p.2) e1
  |none=>.stuck)
 |_=>.stuck:=rfl
@[simp] theorem Ju(a:PAs):(xK a).G e=(a.G e).bind λts e1=>match ts with
 | [t,u]=>(match fK t e1,fK u e1 with
  |some (xs,k),some (ys,none)=>.ok (List.zipWith (λx y=>.tup [x,y]) xs ys,k) e1
  |_,_=>.stuck)
 |_=>.stuck:=rfl
@[simp] theorem G9(v:Val):fK (.val v) e=(fM v).map λxs=>(xs,none):=rfl
@[simp] theorem Gk(v:Val):fK (.new v) e=(fM v).map λxs=>(xs,none):=rfl
@[simp] theorem FD(xs:List Val):fM (.tup xs)=some xs:=rfl
@[simp] theorem FI(xs:List Val):fM (.lst xs)=some xs:=rfl
@[simp] theorem IZ(a:PAs):(jD a).G e=(a.G e).bind λts e1=>match (rss e1 ts).bind gW with
 |some xs=>.ok (xs,none) e1
 |none=>.stuck:=rfl
@[simp] theorem JI(a:PAs):(rC a).G e=(a.G e).bind λts e1=>match (rss e1 ts).bind tX with
 |some xs=>.ok (xs,none) e1
 |none=>.stuck:=rfl
@[simp] theorem Jn(i:PIt)(g:PGt)(b:PSt):(cS i g b).G e=(i.G e).toS λp e1=>(bQ g.G b.G p.1 (lockO e1 p.2)).unl p.2:=rfl
@[simp] theorem jz(g:MG3)(B:MS3):bQ g B [] e=.nx e:=rfl
theorem aF(g:MG3)(B:MS3)(v:Val)(vs:List Val):bQ g B (v::vs) e=match g v e with
 |some e1=>(B e1).loop (bQ g B vs)
 |none=>.stuck:=rfl
def xk(c:PTs)(b:PSt):(xWh c b).G e=(c.G e).toS λk e1=>if k=true then (b.G e1).loop (xWh c b).G else .nx e1:=Ba c.G b.G e
@[simp] theorem v_lc(i:PIt)(sub:Nd)(hs:(sub.filterMap id).Nodup)(g:PGt)(c:PTs)(a:PEx):(pLC i sub hs g c a).G e=(i.G e).bind λp e1=>match lcV g.G c.G a.G p.1 [] (bA sub (lockO e1 p.2)) with
 |.ok ys e2=>if ys.length<=16777216 then .ok (.new (.lst ys)) (eZ (aV sub e2 (lockO e1 p.2)) p.2) else .stuck
 |_=>.stuck:=rfl
@[simp] theorem Hr(f:PFn)(a:PAs):(ai f a).G e=(a.G e).bind λts e1=>match rss e1 ts with
 |none=>.stuck
 |some vs=>if okA e1 f.ms ts=true then (match f.G vs with
  |.stuck=>.stuck
  |.ok r mv=>if (aS e1 f.ms ts).isEmpty || (k8 r&&mv.all cz) then .ok (r.tm ts) (aV (aQ f.ms ts) (aB f.ms mv) e1) else (match oq e1 (aS e1 f.ms ts) with
   |some e2=>.ok (r.tm ts) (aV (aQ f.ms ts) (aB f.ms mv) e2)
   |none=>.stuck)
  |.exc c mv=>if (aS e1 f.ms ts).isEmpty || mv.all cz then .exc c (aV (aQ f.ms ts) (aB f.ms mv) e1) else .stuck) else .stuck:=rfl
@[simp] theorem GU(ts:List Tm)(v:Val):(Rt.val v).tm ts=.val v:=rfl
@[simp] theorem HK(ts:List Tm)(v:Val):(Rt.new v).tm ts=.new v:=rfl
@[simp] theorem o_n:oN.G e=.ok none e:=rfl
@[simp] theorem o_s(a:PEx):(oS a).G e=(a.G e).bind λt e1=>match rs e1 t with
 |some (.int i)=>.ok (some i) e1
 |_=>.stuck:=rfl
@[simp] theorem v_sl(a:PEx)(l u:POp):(pSl a l u).G e=(a.G e).bind λt e1=>(l.G e1).bind λlo e2=>(u.G e2).bind λhi e3=>match rs e3 t.drop with
 |some v=>(aSl v lo hi).at e3
 |none=>.stuck:=rfl
theorem aE(ms:List Bool)(N:Nat)(c:PSt)(vs:List Val):(fnP ms N c).G vs=if vs.length=ms.length then (match c.G (sls ms vs++List.replicate (N-vs.length) .no) with
 |.nx e=>(match muV ms e with |some mv=>.ok (.val .non) mv |none=>.stuck)
 |.rt r e=>(match muV ms e with |some mv=>.ok r mv |none=>.stuck)
 |.exc c e=>(match muV ms e with |some mv=>.exc c mv |none=>.stuck)
 |_=>.stuck) else .stuck:=rfl
theorem lF(ms:List Bool)(N:Nat)(c:PSt)(vs:List Val):(PFx.of ms N c).G vs=if vs.length=ms.length then (match c.G (sls ms vs++List.replicate (N-vs.length) .no) with
 |.nx e=>(match muV ms e with |some mv=>.ok (.val .non) mv |none=>.stuck)
 |.rt r e=>(match muV ms e with |some mv=>.ok r mv |none=>.stuck)
 |.exc c e=>(match muV ms e with |some mv=>.exc c mv |none=>.stuck)
 |_=>.stuck) else .stuck:=rfl
@[simp] theorem Iq(p:PFx ms):p.fn.ms=ms:=rfl
@[simp] theorem fx_G(p:PFx ms)(vs:List Val):p.fn.G vs=p.G vs:=rfl
end
@[simp] theorem Kl(i j:Int):aK.G (.int i) (.int j)=.val (.int (i+j)):=rfl
@[simp] theorem Kg(i j:Int):my.G (.int i) (.int j)=.val (.int (i-j)):=rfl
@[simp] theorem k_lt(i j:Int):bLt.G (.int i) (.int j)=.val (.bl (decide (i<j))):=rfl
@[simp] theorem k_gt(i j:Int):bGt.G (.int i) (.int j)=.val (.bl (decide (j<i))):=rfl
@[simp] theorem k_ge(i j:Int):bGe.G (.int i) (.int j)=.val (.bl (decide (j<=i))):=rfl
@[simp] theorem Jo(i j:Int):zW.G (.int i) (.int j)=.val (.int (i+j)):=rfl
@[simp] theorem IC(i:Int):ie.G (.int i)=.val (.int (-i)):=rfl
def bp(c:CMulA i j):bf.G (.int i) (.int j)=.val (.int (i*j)):=by show BA (.int i) (.int j)=_;unfold BA aIc;dsimp only;rw[if_pos c]
def kY(c:CDivB i j):iX.G (.int i) (.int j)=.val (.int (i.fdiv j)):=by show Ak (.int i) (.int j)=_;unfold Ak aIc;dsimp only;rw[if_pos c]
def fm(c:j≠0):bH.G (.int i) (.int j)=.val (.int (i.fmod j)):=by show zV (.int i) (.int j)=_;unfold zV aIc;dsimp only;rw[if_pos c]
def CH(c:kN i j):mB.G (.int i) (.int j)=.val (.int (i^j.toNat)):=by show Bl (.int i) (.int j)=_;unfold Bl aIc;dsimp only;rw[if_pos c]
def Ja(c:kN i j):BM.G (.int i) (.int j)=.val (.int (i*2^j.toNat)):=by show AZ (.int i) (.int j)=_;unfold AZ aIc;dsimp only;rw[if_pos c]
@[simp] theorem k_ix(x:Val)(i:Int):bIx.G x (.int i)=match x.items with
 |some xs=>(match atI xs i with
  |some v=>.val v
  |none=>.stuck)
 |none=>.stuck:=by show aIx x (.int i)=_;unfold aIx;cases x.items <;> rfl
@[simp] theorem E5(xs:List Val):(Val.tup xs).items=some xs:=rfl
@[simp] theorem ye(xs:List Val):(Val.lst xs).items=some xs:=rfl
@[simp] theorem k_eq(x y:Val):bEq.G x y=match cq x y with
 |some b=>.val (.bl b)
 |none=>.stuck:=by show aEq false x y=_;unfold aEq;cases cq x y <;> rfl
@[simp] theorem k_ne(x y:Val):bNe.G x y=match cq x y with
 |some b=>.val (.bl (!b))
 |none=>.stuck:=by show aEq true x y=_;unfold aEq;cases cq x y <;> rfl
@[simp] theorem JM(x y:Int):cq (.int x) (.int y)=some (x==y):=rfl
@[simp] theorem JL(x y:Bool):cq (.bl x) (.bl y)=some (x==y):=by cases x <;> cases y <;> rfl
def eq_str(hx:PyData.strOk x=true)(hy:PyData.strOk y=true):cq (.str x) (.str y)=some (x==y):=by unfold cq;show (if shp (.str x)=true/\shp (.str y)=true then _ else _)=_;rw[if_pos ⟨iD hx (K9 _),iD hy (K9 _)⟩];rfl
@[simp] theorem k_is(x:Val):bIs.G x .non=match x with
 |.non=>.val (.bl true)
 |_=>.val (.bl false):=by cases x <;> rfl
@[simp] theorem J3(x:Val):xf.G x .non=match x with
 |.non=>.val (.bl false)
 |_=>.val (.bl true):=by cases x <;> rfl
@[simp] theorem Iw(v:Val):aJ.G [v]=match v.items with
 |some xs=>.val (.int xs.length)
 |none=>(match v with
  |.str z=>if z.length<=16777216 then .val (.int z.length) else .stuck
  |_=>.stuck):=rfl
@[simp] theorem Iu(i:Int):mL.G [.int i]=.val (.int (if i<0 then -i else i)):=rfl
@[simp] theorem Jj(xs:List Val):rB.G [.lst xs]=match jO xs with
 |some bs=>.val (.bl (bs.all id))
 |none=>.stuck:=rfl
@[simp] theorem Jc(xs:List Val):gI.G [.lst xs]=match iF xs with
 |some bs=>.val (.int bs.sum)
 |none=>.stuck:=rfl
@[simp] theorem Gz(v:Val):gq.G [v]=match v.items with
 |some xs=>.new (.lst xs)
 |none=>.stuck:=rfl
@[simp] theorem D5(v:Val):lE.G [v]=match v.items with
 |some xs=>.val (.tup xs)
 |none=>.stuck:=rfl
@[simp] theorem Ar(xs:List Val)(v:Val):du.G (.lst xs) [v]=if xs.length<16777216 then some (.lst (xs++[v]),.non) else none:=rfl
@[simp] theorem pv:∀(bs:List Int),iF (bs.map Val.int)=some bs
 | []=>rfl
 |b::r=>by show (iF (r.map Val.int)).map (b :: ·)=_;rw[pv r];rfl
def GS(b:Bool)(ms:List Bool)(v:Val)(vs:List Val):sls (b::ms) (v::vs)=sl1 b v::sls ms vs:=rfl
def DQ:sls [] []=[]:=rfl
def Kj(v:Val):sl1 true v=.mu v:=rfl
def Jl(v:Val):sl1 false v=.sh v:=rfl
section
variable(e:E3)
def DJ:okA e [] []=true:=rfl
def Fe(i:Nat)(ms:List Bool)(ts:List Tm):okA e (true::ms) (.bor i::ts)=(((e[i]?).bind Sl.mv).isSome && !(iV i ts)&&okA e ms ts):=rfl
def Gv(v:Val)(ms:List Bool)(ts:List Tm):okA e (false::ms) (.val v::ts)=okA e ms ts:=rfl
def Bn(i:Nat):iV i []=false:=rfl
def GR(i:Nat)(v:Val)(ts:List Tm):iV i (.val v::ts)=iV i ts:=rfl
def xS:aS e [] []=[]:=rfl
def Eo(v:Val)(ms:List Bool)(ts:List Tm):aS e (false::ms) (.val v::ts)=aS e ms ts:=rfl
def Hk(t:Tm)(ms:List Bool)(ts:List Tm):aS e (true::ms) (t::ts)=aS e ms ts:=by cases t <;> rfl
end
def zD:aQ [] []=[]:=rfl
def Ej(b:Bool)(t:Tm)(ms:List Bool)(ts:List Tm):aQ (b::ms) (t::ts)=oJ b t::aQ ms ts:=rfl
def C3(i:Nat):oJ true (.bor i)=some i:=rfl
def HB(t:Tm):oJ false t=none:=by cases t <;> rfl
def BS(e:E3):aV [] [] e=e:=rfl
def FP(o:Option Nat)(sub:Nd)(s:Sl)(i e:E3):aV (o::sub) (s::i) e=aV sub i (fP o s e):=rfl
theorem Dj(i:Nat)(v:Val)(e:E3):fP (some i) (.mu v) e=match e[i]? with
 |some t=>e.set i (t.re v)
 |none=>e:=rfl
def Fv(s:Sl)(e:E3):fP none s e=e:=rfl
def Bt(vs:List Val):aB [] vs=[]:=rfl
def GK(ms:List Bool)(v:Val)(vs:List Val):aB (true::ms) (v::vs)=.mu v::aB ms vs:=rfl
def GN(ms:List Bool)(vs:List Val):aB (false::ms) vs=.no::aB ms vs:=by cases vs <;> rfl
def EC(e:E3):muV [] e=some []:=by cases e <;> rfl
def Je(ms:List Bool)(v:Val)(e:E3):muV (true::ms) (.mu v::e)=(muV ms e).map (v :: ·):=rfl
def J5(ms:List Bool)(s:Sl)(e:E3):muV (false::ms) (s::e)=muV ms e:=by cases s <;> rfl
def yJ(v:Val):k8 (.val v)=flatV v:=rfl
def zN(v:Val):k8 (.new v)=cz v:=rfl
def yW(xs:List Val):cz (.lst xs)=flatVs xs:=rfl
def fo:flatVs []=true:=by simp [flatVs]
def eJ(v:Val)(vs:List Val):flatVs (v::vs)=(flatV v&&flatVs vs):=by simp [flatVs]
def kS(i:Int):flatV (.int i)=true:=by simp [flatV]
def AG(i:Bool):flatV (.bl i)=true:=by simp [flatV]
def pD(i:Str):flatV (.str i)=true:=by simp [flatV]
def yy:flatV .non=true:=by simp [flatV]
def kR(xs:List Val):flatV (.tup xs)=flatVs xs:=by simp [flatV]
def gm(h0:0<=i)(h:l[i.toNat]?=some x):atI l i=some x:=by have hl:=(u_.mp h).1;unfold atI ixN;rw[if_pos h0,if_pos (by omega)];exact h
section
variable(a b c d:α)(l:List α)
def ati0:atI (a::l) 0=some a:=gm (by decide) rfl
def ati1:atI (a::b::l) 1=some b:=gm (by decide) rfl
def ati2:atI (a::b::c::l) 2=some c:=gm (by decide) rfl
def ati3:atI (a::b::c::d::l) 3=some d:=gm (by decide) rfl
end
mutual
def vq:Val->Val->Bool
 |.non,.non=>true
 |.bl a,.bl b=>a==b
 |.bl a,.int j=>(if a then 1 else 0)==j
 |.int i,.bl b=>i==(if b then 1 else 0)
 |.int i,.int j=>i==j
 |.str x,.str y=>x==y
 |.tup xs,.tup ys=>vqs xs ys
 |.lst xs,.lst ys=>vqs xs ys
 |_,_=>false
def vqs:List Val->List Val->Bool
 | [],[]=>true
 |x::xs,y::ys=>vq x y&&vqs xs ys
 |_,_=>false
end
mutual
def wfV:Nat->Val->Bool
 |_,.non=>true
 |_,.bl _=>true
 |_,.int _=>true
 |_,.str x=>PyData.strOk x
 |k+1,.tup xs=>bj k xs
 |k+1,.lst xs=>bj k xs
 |_,_=>false
def bj:Nat->List Val->Bool
 |_,[]=>true
 |k,x::xs=>wfV k x&&bj k xs
end
mutual
def dB:Val->PyData
 |.bl b=>.bool b
 |.int i=>.int i
 |.str x=>.str x
 |.tup xs=>.tuple (bX xs)
 |.lst xs=>.list (bX xs)
 |_=>.none
def bX:List Val->List PyData
 | []=>[]
 |x::xs=>dB x::bX xs
end
mutual
theorem kX:∀(k:Nat) (v:Val),wfV k v=true->(∀j,k<j->cC j v=some (dB v))/\(dB v).canLay0=true/\(dB v).depth<=k
 |k,.non,_=>⟨λj hj=>by cases j with |zero=>exact absurd hj (Lu _) |succ j=>rfl,rfl,K9 _⟩
 |k,.bl b,_=>⟨λj hj=>by cases j with |zero=>exact absurd hj (Lu _) |succ j=>rfl,rfl,K9 _⟩
 |k,.int b,_=>⟨λj hj=>by cases j with |zero=>exact absurd hj (Lu _) |succ j=>rfl,rfl,K9 _⟩
 |k,.str b,w=>⟨λj hj=>by cases j with |zero=>exact absurd hj (Lu _) |succ j=>rfl,by cases k <;> exact w,K9 _⟩
 |0,.tup xs,w=>absurd w h_
 |0,.lst xs,w=>absurd w h_
 |
  k+1,.tup xs,w=>by
  obtain⟨h1,h2,h3⟩:=mz k xs w;exact⟨λj hj=>by cases j with |zero=>exact absurd hj (Lu _) |succ j=>simp only[cC,dB,h1 j (Nat.lt_of_succ_lt_succ hj),Option.map_some],h2,by simpa [dB,PyData.depth] using h3⟩
 |
  k+1,.lst xs,w=>by
  obtain⟨h1,h2,h3⟩:=mz k xs w;exact⟨λj hj=>by cases j with |zero=>exact absurd hj (Lu _) |succ j=>simp only[cC,dB,h1 j (Nat.lt_of_succ_lt_succ hj),Option.map_some],h2,by simpa [dB,PyData.depth] using h3⟩
 |k,.ty _,w=>by cases k <;> exact absurd w h_
 |k,.glb _,w=>by cases k <;> exact absurd w h_
 |k,.exc _,w=>by cases k <;> exact absurd w h_
 |k,.kl _,w=>by cases k <;> exact absurd w h_
 |k,.dct _,w=>by cases k <;> exact absurd w h_
 |k,.set _,w=>by cases k <;> exact absurd w h_
theorem mz:∀(k:Nat) (vs:List Val),bj k vs=true->(∀j,k<j->ed j vs=some (bX vs))/\PyData.canLayAll0 (bX vs)=true/\PyData.depthAll (bX vs)<=k
 |k,[],_=>⟨λj hj=>by simp [ed,bX],rfl,K9 _⟩
 |
  k,v::vs,w=>by
  have w':(wfV k v&&bj k vs)=true:=w;rw[p_] at w';obtain⟨h1,h2,h3⟩:=kX k v w'.1;obtain⟨i1,i2,i3⟩:=mz k vs w'.2;exact⟨λj hj=>by simp [ed,bX,h1 j hj,i1 j hj],by simp [bX,PyData.canLayAll0,h2,i2],Nat.max_le.mpr ⟨h3,i3⟩⟩
end
mutual
theorem ze:∀(k:Nat) (v u:Val),wfV k v=true->wfV k u=true->PyData.eqv (dB v) (dB u)=vq v u
 |
  k,v,u,hv,hu=>by
  cases v <;> first |(cases k <;> exact absurd hv h_) |skip
  all_goals (cases u <;> first |(cases k <;> exact absurd hu h_) |rfl |(cases k with |zero=>exact absurd hv h_ |succ k=>exact vI k _ _ hv hu))
theorem vI:∀(k:Nat) (v u:List Val),bj k v=true->bj k u=true->PyData.eqvAll (bX v) (bX u)=vqs v u
 |_,[],[],_,_=>rfl
 |_,[],_::_,_,_=>rfl
 |_,_::_,[],_,_=>rfl
 |
  k,x::xs,y::ys,hv,hu=>by
  have h1:(wfV k x&&bj k xs)=true:=hv;have h2:(wfV k y&&bj k ys)=true:=hu;rw[p_] at h1 h2;show (PyData.eqv (dB x) (dB y)&&PyData.eqvAll (bX xs) (bX ys))=(vq x y&&vqs xs ys);rw[ze k x y h1.1 h2.1,vI k xs ys h1.2 h2.2]
end
def yD(hk:k<=160)(hx:wfV k x=true)(hy:wfV k y=true):cq x y=some (vq x y):=by obtain⟨h1,h2,h3⟩:=kX k x hx;obtain⟨i1,i2,i3⟩:=kX k y hy;unfold cq;rw[h1 164 (by omega),i1 164 (by omega)];dsimp only;rw[if_pos ⟨iD h2 (by omega),iD i2 (by omega)⟩,ze k x y hx hy]
def wM(hx:wfV 60 x=true)(hy:wfV 60 y=true):cq x y=some (vq x y):=yD (by decide) hx hy
mutual
theorem oi:∀(k:Nat) (v:Val),wfV k v=true->vq v v=true
 |
  k,v,hv=>by
  cases v <;> first |(cases k <;> exact absurd hv h_) |rfl |exact beq_self_eq_true _ |(cases k with |zero=>exact absurd hv h_ |succ k=>exact tV k _ hv)
theorem tV:∀(k:Nat) (v:List Val),bj k v=true->vqs v v=true
 |_,[],_=>rfl
 |
  k,x::xs,hv=>by
  have h1:(wfV k x&&bj k xs)=true:=hv;rw[p_] at h1;show (vq x x&&vqs xs xs)=true;rw[oi k x h1.1,tV k xs h1.2];rfl
end
noncomputable def fV (q:Rat):Val:=.tup [.int q.num,.int q.den]
structure Bx where
 l:Rat
 t:Rat
 w:Rat
 h:Rat
structure Bx.Ok(b:Bx):Prop where
 w:0<b.w
 h:0<b.h
structure Bx.Sz(n:Nat)(b:Bx):Prop where
 l:L2.Sz n b.l
 t:L2.Sz n b.t
 w:L2.Sz n b.w
 h:L2.Sz n b.h
noncomputable def bV (b:Bx):Val:=.tup [fV b.l,fV b.t,fV b.w,fV b.h]
noncomputable def knV:Val->Bool
 |.exc _=>false
 |v=>(tyC v).isSome
noncomputable def iU:Nat->Val->Bool
 |k+1,.tup xs=>xs.all (iU k)
 |_,v=>knV v
noncomputable def eQ:Val->Bool
 |.int _=>true
 |_=>false
noncomputable def aR:Val->Bool
 |.tup [.int a,.int b]=>decide (1<=b)&&decide (Int.gcd a b=1)
 |_=>false
noncomputable def jH:Val->Bool
 |.tup (.int a::_)=>decide (0<a)
 |_=>false
noncomputable def gk:Val->Bool
 |.tup [a,b,c,d]=>aR a&&(aR b&&(aR c&&(aR d&&(jH c&&jH d))))
 |_=>false
noncomputable def iN:Val->Bool
 |.int i=>decide (1<=i)
 |_=>false
noncomputable def dW:Val->Bool
 |.tup _=>true
 |_=>false
def Iv(h1:1<=b)(h2:Int.gcd a b=1):Val.tup [.int a,.int b]=fV ((a:Rat)/(b:Rat)):=by
 have hb:b≠0:=by omega
 have h:=nC (a:=a) hb;have s:=Fr.self (by omega) h2;unfold fV;rw[<- h.1,<- h.2,s.1,s.2]
def jR(q:Rat):aR (fV q)=true:=by
 show (decide (1<=(q.den:Int))&&decide (Int.gcd q.num q.den=1))=true
 have:=q.den_pos
 rw[x_ (by omega),x_ (vD q)];rfl
def zT(h:aR d=true):∃q,d=fV q:=by
 unfold aR at h;split at h
 .simp only[p_,Ld] at h;exact⟨_,Iv h.1 h.2⟩
 .cases h
def uV(q:Rat):jH (fV q)=decide (0<q):=by show decide (0<q.num)=decide (0<q);rw[Mo];exact vv
def A0(h:b.Ok):gk (bV b)=true:=by show (aR (fV b.l)&&(aR (fV b.t)&&(aR (fV b.w)&&(aR (fV b.h)&&(jH (fV b.w)&&jH (fV b.h))))))=true;rw[jR,jR,jR,jR,uV,uV,x_ h.w,x_ h.h];rfl
def FW(b:Bx):iU 2 (bV b)=true:=by simp [bV,fV,iU,knV,tyC]
theorem oQ(P:E3->Prop):∀(vs acc:List Val) (e:E3),P e->(∀v∈vs,∀e,P e->∃e1 t e2,g v e=some e1/\F e1=.ok t e2/\cE e2 t=some (e2,f v)/\P e2)->acc.length+vs.length<=16777216->∃e',P e'/\lcV g cY F vs acc e=.ok (acc++vs.map f) e'
 | [],acc,e,hp,_,_=>⟨e,hp,by simp [lcV]⟩
 |
  v::vs,acc,e,hp,hf,hl=>by
  obtain⟨e1,t,e2,q1,q2,q3,q4⟩:=hf v (l_ ..) e hp;obtain⟨e',p',q5⟩:=oQ P vs (acc++[f v]) e2 q4 (λu hu=>hf u (k_ _ hu)) (by simp at hl ⊢;omega);refine⟨e',p',?_⟩;unfold lcV;rw[if_pos (by simp at hl;omega),q1];simp only[cY,gB,LH,q2,q3,q5];simp
noncomputable def rgV (k:Nat):List Val:=(List.range k).map λj=>Val.int (j:Nat)
def Dg(h:k<1000000):gW [.int (k:Nat)]=some (rgV k):=by simp only[gW];rw[if_pos (⟨by omega,by omega⟩:RgB _),LO];unfold ud rgV;simp only[Int.zero_add]
def gM(h0:0<=i)(h:i<1000000):gW [.int i]=some (rgV i.toNat):=by
 have:=Dg (k:=i.toNat) (by omega)
 rwa [show ((i.toNat:Nat):Int)=i from by omega] at this
theorem qE(f:α->Val)(st:σ->α->σ)(P:σ->E3->Prop):∀(l:List α) (s:σ) (e:E3),P s e->(∀a∈l,∀s e,P s e->∃e1 e2,g (f a) e=some e1/\(B e1=.nx e2\/B e1=.ct e2)/\P (st s a) e2)->∃e',P (l.foldl st s) e'/\bQ g B (l.map f) e=.nx e'
 | [],s,e,hp,_=>⟨e,hp,rfl⟩
 |
  a::l,s,e,hp,hf=>by
  obtain⟨e1,e2,q1,q2,q3⟩:=hf a (l_ ..) s e hp;obtain⟨e',p',q4⟩:=qE f st P l (st s a) e2 q3 λu hu=>hf u (k_ _ hu);refine⟨e',p',?_⟩;rw[s_,aF,q1];rcases q2 with q2 |q2 <;> simp only[q2,iM,CU,q4]
theorem fU(fv fw:α->Val)(P:E3->Prop):∀(l:List α) (acc:List Val) (e:E3),P e->(∀a∈l,∀e,P e->∃e1 t e2,g (fv a) e=some e1/\F e1=.ok t e2/\cE e2 t=some (e2,fw a)/\P e2)->acc.length+l.length<=16777216->∃e',P e'/\lcV g qY.G F (l.map fv) acc e=.ok (acc++l.map fw) e'
 | [],acc,e,hp,_,_=>⟨e,hp,by simp [lcV]⟩
 |
  v::vs,acc,e,hp,hf,hl=>by
  obtain⟨e1,t,e2,q1,q2,q3,q4⟩:=hf v (l_ ..) e hp;obtain⟨e',p',q5⟩:=fU fv fw P vs (acc++[fw v]) e2 q4 (λu hu=>hf u (k_ _ hu)) (by simp at hl ⊢;omega);refine⟨e',p',?_⟩;rw[s_];unfold lcV;have cy:qY.G=cY:=rfl;rw[cy] at q5 ⊢;rw[if_pos (by simp at hl;omega),q1];simp only[cY,gB,LH,q2,q3,q5];simp
def Hl(v:Val):inS (.mu v)=.mu v:=rfl
def FK(v:Val):inS (.sh v)=.sh v:=rfl
theorem dk(k:Nat):∀xs:List Val,bj k xs=xs.all (wfV k)
 | []=>by simp [bj]
 |x::xs=>by simp [bj,dk k xs]
def EH(i:Nat)(v:Val)(e:E3):fP (some i) (.sh v) e=e:=rfl
noncomputable def mi (ms:List Bool) (r:SR3):R3F:=match r with
 |.nx e=>(match muV ms e with |some mv=>.ok (.val .non) mv |none=>.stuck)
 |.rt r e=>(match muV ms e with |some mv=>.ok r mv |none=>.stuck)
 |.exc c e=>(match muV ms e with |some mv=>.exc c mv |none=>.stuck)
 |_=>.stuck
def Ck(h:vs.length=ms.length):(fnP ms N c).G vs=mi ms (c.G (sls ms vs++List.replicate (N-vs.length) .no)):=by rw[aE,if_pos h];rfl
def nj(h:vs.length=ms.length):(PFx.of ms N c).G vs=mi ms (c.G (sls ms vs++List.replicate (N-vs.length) .no)):=by rw[lF,if_pos h];rfl
def cV(ms:List Bool)(r:Rt)(e:E3):mi ms (.rt r e)=match muV ms e with |some mv=>.ok r mv |none=>.stuck:=rfl
def aN{Q:SR3->Prop}(I:E3->Prop){a b:PSt}{e:E3}(h1:∃e1,a.G e=.nx e1/\I e1)(h2:∀e1,I e1->Q (b.G e1)):Q ((aj a b).G e):=by obtain⟨e1,q,i⟩:=h1;rw[Cg,q];exact h2 e1 i
def sm8(h:m.natAbs<1099511627776):Sm 8000 m:=w_ (show m.natAbs<2^40 from h) (Em (by decide) (by decide))
def oK{m:Int}(h:0<m):(0:Rat)<(m:Rat):=Rat.intCast_pos.mpr h
def mq{a b:Int}(h1:0<a)(h2:0<b):(0:Rat)<(a:Rat)/(b:Rat):=by rw[Rat.div_def];exact Rat.mul_pos (oK h1) (Rat.inv_pos.mpr (oK h2))
def Ft(xs ys:List Val):aK.G (.lst xs) (.lst ys)=if xs.length+ys.length<=16777216 then .new (.lst (xs++ys)) else .stuck:=rfl
def E7(xs ys:List Val):aK.G (.tup xs) (.tup ys)=if xs.length+ys.length<=16777216 then .val (.tup (xs++ys)) else .stuck:=rfl
section
variable{K:W.Frag}{mg:Na}{P:Addr->Prop}{H:Hp}{ws ws':List (Key×V)}{us us':List (Key×Val)}{k:Key}
def Iy(r:Rk K mg P H ws us):lkD us k=some v->∃d,lkD ws k=some d/\Rd K mg P H d v:=
 r.ind (M:=λws us=>lkD us k=some v->∃d,lkD ws k=some d/\Rd K mg P H d v) (λq=>by cases q) (λ{k2 d v2 ds vs} r _ ih q=>by
  unfold lkD at q ih ⊢;rw[K_] at q ⊢;dsimp only at q ⊢;by_cases hk:k2=k
  .rw[x_ hk] at q ⊢;cases q;exact⟨d,rfl,r⟩
  .rw[v_ hk] at q ⊢;exact ih q)
def CW(r:Rk K mg P H ws us):us.map (·.1)=ws.map (·.1):=
 r.ind (M:=λws us=>us.map (·.1)=ws.map (·.1)) rfl λ_ _ ih=>by rw[s_,s_,ih]
def GH(r:Rk K mg P H ws us):ws.length=us.length:=
 r.ind (M:=λws us=>ws.length=us.length) rfl λ_ _ ih=>K3 (· + 1) ih
def Hu(r:Rk K mg P H ws us)(q:Rk K mg P H ws' us'):Rk K mg P H (ws++ws') (us++us'):=
 r.ind (M:=λws us=>Rk K mg P H (ws++ws') (us++us')) q λr _ ih=>.cons r ih
def Hj(rd:Rd K mg P H d v)(r:Rk K mg P H ws us):Rk K mg P H (wq ws k d) (wq us k v):=by
 unfold wq;rw[B0 (CW r)];by_cases hc:(ws.any λkv=>decide (kv.1=k))=true
 .rw[if_pos hc,if_pos hc];exact r.ind (M:=λws us=>Rk K mg P H (ws.map λkv=>if kv.1=k then (kv.1,d) else kv) (us.map λkv=>if kv.1=k then (kv.1,v) else kv)) .nil (λ{k2 d2 v2 ds vs} r _ ih=>by
   rw[s_,s_];dsimp only;by_cases hk:k2=k
   .rw[if_pos hk,if_pos hk];exact .cons rd ih
   .rw[if_neg hk,if_neg hk];exact .cons r ih)
 .rw[if_neg hc,if_neg hc];exact Hu r (.cons rd .nil)
def Ht:∀{ks:List Key}{ds:List V}{vs:List Val},Rds K mg P H ds vs->Rk K mg P H (ks.zip ds) (ks.zip vs):=by
 intro ks;induction ks with
 |nil=>intro ds vs _;exact .nil
 |
  cons k ks ih=>
  intro ds vs r;cases r with
  |nil=>exact .nil
  |cons r rr=>exact .cons r (ih rr)
end
noncomputable def Ad:Val->Val->Bv:=λx y=>match x with
 |.dct kvs=>(match y with
  |.str k=>(match lkD kvs (.inr k) with
   |some v=>.val v
   |none=>.stuck)
  |_=>.stuck)
 |_=>.stuck
noncomputable def fh:PO2:=⟨Ad⟩
theorem Jy(kvs:List (Key×Val))(k:Str):fh.G (.dct kvs) (.str k)=match lkD kvs (.inr k) with
 |some v=>.val v
 |none=>.stuck:=rfl
noncomputable def sD:Val->Val->Val->Option Val:=λo i v=>match o with
 |.dct kvs=>(match i with
  |.str k=>if kvs.length<16777216 then some (.dct (wq kvs (.inr k) v)) else none
  |_=>none)
 |_=>none
noncomputable def seD:PSe:=⟨sD⟩
noncomputable def xp (ks:List Str) (A:MA3) (e:E3):R3 Tm:=(A e).bind λts e1=>match dem e1 ts with
 |some (e2,vs)=>if ks.length=vs.length then .ok (.new (.dct ((ks.map Sum.inr).zip vs))) e2 else .stuck
 |none=>.stuck
noncomputable def rh (ks:List Str) (a:PAs):PEx:=⟨26,xp ks a.G⟩
theorem nD(e:E3)(ks:List Str)(a:PAs):(rh ks a).G e=(a.G e).bind λts e1=>match dem e1 ts with
 |some (e2,vs)=>if ks.length=vs.length then .ok (.new (.dct ((ks.map Sum.inr).zip vs))) e2 else .stuck
 |none=>.stuck:=rfl
noncomputable def aL:List (Str×PEx)->PAs
 | []=>ag
 |p::r=>aa p.2 (aL r)
section
variable{K:W.Frag}{mg:Na}{X N0:Addr->Prop}{ns ns0:Ns}{e e0:E3}{σ:St}{H H0:Hp}
def Sat.fill(S:Sat K mg (Xn X n) N0 ns e σ H)(q:H n=some o)(hf:NotFz o):Mov (Oc (Xn X n) ns) (Oc (Xn X n) ns) H (upd H n o')/\Sat K mg (Xn X n) N0 ns e σ (upd H n o'):=by
 have up:∀m,m≠n->upd H n o' m=H m:=λm z=>aG z;have mv:Mov (Oc (Xn X n) ns) (Oc (Xn X n) ns) H (upd H n o'):=⟨LeH.wr q hf,λm ob p q' _=>⟨p,by rw[up m λz=>p.1 (.inr z)];exact q'⟩⟩;refine⟨mv,⟨S.l1,S.l2,λa z=>S.lh a ?_,λm z=>?_,S.inj,S.nx,λj s qj=>(S.sl j s qj).mono mv λm ob qm qo _=>?_,S.bs.wr q hf⟩⟩
 .rw[up a λy=>by subst y;rw[aU] at z;cases z] at z;exact z
 .by_cases y:m=n
  .subst y;exact⟨o',aU⟩
  .rw[up m y];exact S.xl m z
 .rw[up m λy=>by subst y;exact S.nx j m qm (.inr rfl)];exact qo
def Stp.fill(a:Stp ns0 e0 H0 ns e H)(hn:H0 n=none)(q:H n=some o)(hf:NotFz o):Stp ns0 e0 H0 ns e (upd H n o'):=by
 have up:∀m,m≠n->upd H n o' m=H m:=λm z=>aG z;refine⟨a.le.trans (LeH.wr q hf),λm z=>a.dom m ?_,λm ob qm ht hM=>?_,a.nw,a.lk,a.lk',a.mu,a.mu'⟩
 .rw[up m λy=>by subst y;rw[aU] at z;cases z] at z;exact z
 .rw[up m λy=>by subst y;rw[hn] at qm;cases qm];exact a.keep m ob qm ht hM
def TsR.cons'{L:Addr->Prop}{t:Tm}(r:relE K mg X N0 L σ ns e H d t.drop)(rs:TsR K mg X ns σ H ds ts):TsR K mg X ns σ H (d::ds) (t.drop::ts):=by
 generalize hg:t.drop=t' at *;cases t' with
 |val v=>exact .val r rs
 |new v=>cases t <;> cases hg
 |bor i=>exact .bor r rs
end
section
variable{K:W.Frag}{mg:Na}{X:Cx}{ES:St->XK}{a b v:Expr}{keys:List (Option Expr)}{ks:List (Option Expr)}{values vs:List Expr}{p q F:PEx}{A:PAs}{prs:List (Str×PEx)}{pos kp:Pos}
noncomputable def tps (K:W.Frag) (mg:Na) (ES:St->XK) (prs:List (Str×PEx)):List (TE×TE):=prs.map λp=>(tC (.str p.1),rdE K mg ES p.2.G)
theorem tH:∀(prs:List (Str×PEx)) {Y N0:Addr->Prop}{ns:Ns}{e:E3}{σ:St}{H:Hp}{Q:List (V×V)->Hp->Prop},Sat K mg Y N0 ns e σ H->PG3 K mg Y N0 ns e σ H (ES σ) (λts _ ns' H'=>∀vs,TsR K mg Y ns' σ H' vs ts->Q ((prs.map λp=>V.str p.1).zip vs) H') ((aL prs).G e)->m8 (tps K mg ES prs) σ H Q
 | [],Y,N0,ns,e,σ,H,Q,S,p=>PG3.ret p S [] .nil
 |pr::r,Y,N0,ns,e,σ,H,Q,S,p=>⟨Y,N0,λ_=>True,ns,e,S,λ_ _=>trivial,PG3.imp p S λt e1 ns1 H1 a1 S1 p1 y ry=>tH r S1 (PG3.imp p1 S1 λts e2 e_ H2 a2 S2 p2 vs rs=>p2.ret S2 (y::vs) (TsR.cons' (ry.drop a2) rs))⟩
def vc(hu:X.A.units+1<cLine)(ha:DE K mg X ES a p)(hb:DE K mg X ES b q)(hs:Bi b):DE K mg X ES (.Subscript a b pos) (pOp fh p q):=⟨PE.imp (Dr hu ha.ok hb.ok hs) λσ H Q zz=>zz.el λY N0 L ns e S hl p=>
 ⟨Y,
  N0,L,ns,e,S,hl,PG3.imp p S λt1 e1 ns1 H1 a1 S1 p1 x r1=>⟨Y,N0,L,ns1,e1,S1,λa z=>hl a (a1.dom a z),PG3.imp p1 S1 λt2 e2 e_ H2 a2 S2 p2 y r2=>by
  try dsimp only at p2
  split at p2
  .rename_i v u q1 q2;replace p2:PG3 K mg Y N0 e_ e2 σ H2 (ES σ) (KE K mg Y N0 L σ Q) ((Ad v u).at e2):=p2;unfold Ad at p2;split at p2
   .split at p2
    .split at p2
     .rename_i q3;obtain⟨a,ws,rfl,h,rk⟩:=((r1.drop a2).sh S2 q1).dct;obtain rfl:=(r2.sh S2 q2).str;obtain⟨d,q4,rd⟩:=Iy rk q3;exact⟨a,d,rfl,q4 ▸ DGet.k (k:=.inr _) h,p2.ret S2 _ rd⟩
     .exact p2.elim
    .exact p2.elim
   .exact p2.elim
  .exact p2.elim⟩⟩⟩
def vZ:PPs X pos [] [] (tps K mg ES []):=Ei
def gY(hv:DE K mg X ES v F)(hr:PPs X pos ks vs (tps K mg ES prs)):PPs X pos (some (.Constant (.str k) j kp)::ks) (v::vs) (tps K mg ES ((k,F)::prs)):=Bo zq hv.ok hr
def ve{ns:List Str}(hp:PPs X pos keys values (tps K mg ES prs))(h1:ns=prs.map (·.1):=by rfl)(h2:A=aL prs:=by rfl)(hn:ns.Nodup:=by decide)(hall:keys.all (·.isSome)=true:=by rfl)(hl:keys.length=values.length:=by rfl)(h0:keys≠[]:=by intro h;cases h)(h15:keys.length<=15:=by decide)(hp15:prs.length<=15:=by decide):DE K mg X ES (.Dict keys values pos) (rh ns A):=by
 subst h1 h2;refine⟨PE.imp (Ed hp hall hl h0 h15) λσ H Q ⟨Y,N0,L,ns,e,S,hL,p⟩ pp hpp=>?_⟩;have g:=Gr.upd (u:=.dK []) hpp;have SG:=S.grow g hpp aU;refine tH prs SG ?_;replace p:PG3 K mg Y N0 ns e σ H (ES σ) (KE K mg Y N0 L σ Q) (xp (prs.map (·.1)) (aL prs).G e):=p;unfold xp at p;cases q:(aL prs).G e with
 |stuck=>rw[q] at p;exact p
 |exc c e'=>rw[q] at p;exact λH' ns' C a S' m=>p H' ns' C ((Stp.gr g).trans S a) (S'.weak λ_ z=>.inl z) m
 |
  ok ts e1=>
  rw[q] at p;intro H2 ns1 a1 S1 vs rs;replace p:PG3 K mg Y N0 ns e σ H (ES σ) (KE K mg Y N0 L σ Q) (match dem e1 ts with
   |some (e2,vs)=>if (prs.map (·.1)).length=vs.length then .ok (.new (.dct (((prs.map (·.1)).map Sum.inr).zip vs))) e2 else .stuck
   |none=>.stuck):=p
  split at p
  .rename_i e2 us qd;split at p
   .rename_i b_;obtain⟨e_,S2,a2,r2⟩:=i5 S1 rs qd;have k1:H2 pp=some (.dK []):=a1.keep pp _ aU (λ_ z=>nomatch z) λ⟨i,s,z,_⟩=>SG.nx i _ z (.inr rfl);have hlv:vs.length=prs.length:=by rw[r2.len,<- b_,j_]
    refine⟨k1,((prs.map (·.1)).map Sum.inr).zip vs,?_,?_,?_⟩
    .rw[<- sL,LC];rfl
    .rw[List.length_zip,j_,j_];omega
    .have hz:(((prs.map (·.1)).map Sum.inr).zip vs:List (Key×V)).map (·.1)=(prs.map (·.1)).map Sum.inr:=List.map_fst_zip (by rw[j_,j_];omega);rw[sQ _ [] (by rw[Kx,hz];exact List.Pairwise.map _ (λa b hab z=>hab (Sum.inr.inj z)) hn),Kx];obtain⟨mv,S3⟩:=S2.fill (o':=.dK (((prs.map (·.1)).map Sum.inr).zip vs)) k1 trivial;exact p _ e_ ((((Stp.gr g).trans S a1).trans S a2).fill hpp k1 trivial) (S3.weak λ_ z=>.inl z) _ ⟨pp,_,rfl,hL pp hpp,λz=>(by obtain⟨o,z⟩:=S.xl _ z;rw[hpp] at z;cases z),aU,trivial,S3,.dct ((Ht r2).mono mv)⟩
   .exact p.elim
  .exact p.elim
def x9:SetD K mg CC seD.G:=λP H n o u di vi d v u' Q np e hf r0 ri rd q k=>by
 replace q:sD u vi v=some u':=q;unfold sD at q;split at q
 .split at q
  .split at q
   .rename_i hl;cases q;obtain rfl:=ri.str;cases r0 with
    |dct rk=>exact⟨n,_,rfl,DPut.k (k:=.inr _) e (by rw[GH rk];exact hl),k _ trivial (.dct (Hj rd rk))⟩
   .cases q
  .cases q
 .cases q
end
noncomputable def pU (n:Nat) (u:km):MG3:=λv e=>match v with
 |.tup vs=>if vs.length=n then u vs e else none
 |.lst vs=>if vs.length=n then u vs e else none
 |_=>none
noncomputable def gtU (n:Nat) (a:PGs):PGt:=⟨3,pU n a.G⟩
section
variable{e:E3}
def g_u(n:Nat)(a:PGs)(vs:List Val):(gtU n a).G (.tup vs) e=if vs.length=n then a.G vs e else none:=rfl
def g_uL(n:Nat)(a:PGs)(vs:List Val):(gtU n a).G (.lst vs) e=if vs.length=n then a.G vs e else none:=rfl
end
section
variable{K:W.Frag}{mg:Na}{X:Cx}{es:List Expr}{gs:PGs}{pos:Pos}
def FE{k n:Nat}(hK:X.K=K)(hc:X.calm=true)(h:DGs K mg X es gs)(hn:(assignEach es X.env).length=n:=by rfl)(hst:(assignEach es X.env).findIdx? (·.1)=none:=by rfl):DG K mg X (.Tuple es k pos) (gtU n gs):=by
 subst hK;exact
  ⟨PG.imp (HH hc h.ok hn hst) λv σ H Q zz=>zz.el λY N0 ns e u e' S r q k=>by
  replace q:pU n gs.G u e=some e':=q;unfold pU at q;split at q
  .split at q
   .rename_i hl;obtain⟨a,vs,rfl,z,rr⟩:=ShR.tup (.inl r);exact⟨a,vs,rfl,.inl z,by rw[rr.len];exact hl,Y,N0,ns,e,_,e',S,rr,q,k⟩
   .cases q
  .split at q
   .rename_i hl;obtain⟨a,vs,rfl,z,rr⟩:=ShR.lstL (.inl r);exact⟨a,vs,rfl,.inr z,by rw[rr.len];exact hl,Y,N0,ns,e,_,e',S,rr,q,k⟩
   .cases q
  .cases q⟩
end
theorem ar1{α:Type}{P:List α->Prop}(h:∀a,P [a]):∀us:List α,us.length=1->P us
 | [a],_=>h a
theorem ar2{α:Type}{P:List α->Prop}(h:∀a b,P [a,b]):∀us:List α,us.length=2->P us
 | [a,b],_=>h a b
theorem ar3{α:Type}{P:List α->Prop}(h:∀a b c,P [a,b,c]):∀us:List α,us.length=3->P us
 | [a,b,c],_=>h a b c
theorem ar4{α:Type}{P:List α->Prop}(h:∀a b c d,P [a,b,c,d]):∀us:List α,us.length=4->P us
 | [a,b,c,d],_=>h a b c d
theorem ar5{α:Type}{P:List α->Prop}(h:∀a b c d e,P [a,b,c,d,e]):∀us:List α,us.length=5->P us
 | [a,b,c,d,e],_=>h a b c d e
theorem ar6{α:Type}{P:List α->Prop}(h:∀a b c d e f,P [a,b,c,d,e,f]):∀us:List α,us.length=6->P us
 | [a,b,c,d,e,f],_=>h a b c d e f
section
variable{K:W.Frag}{mg:Na}{P:Addr->Prop}{H:Hp}
theorem we:∀l:List Nat,Rds K mg P H (l.map λi:Nat=>V.int (i:Nat)) (l.map λi:Nat=>Val.int (i:Nat))
 | []=>.nil
 |i::l=>.cons (.int _) (we l)
end
noncomputable def BY:List Val->Bv:=λvs=>match vs with
 | [.int j]=>if -(2^62)<=j/\j<=16777216 then .new (.lst (rgV j.toNat)) else .stuck
 |_=>.stuck
noncomputable def fc:PBf:=⟨BY⟩
def rj{j:Int}(h:-(2^62)<=j/\j<=16777216):fc.G [.int j]=.new (.lst (rgV j.toNat)):=if_pos h
section
variable{K:W.Frag}{mg:Na}{P:Addr->Prop}{H:Hp}
def GY:eN K mg rLrg fc.G:=λP H xs vs Q r0 p=>by
 replace p:BvP K mg P H Q (BY vs):=p;unfold BY at p;split at p
 .obtain⟨d,rfl,r⟩:=gH r0;obtain rfl:=r.int;split at p
  .rename_i hb;exact⟨_,rfl,hb.1,hb.2,bvL p (we _)⟩
  .exact p.elim
 .exact p.elim
variable{X:Cx}{ES:St->XK}{a:Expr}{p:PEx}{A:PAs}{pos q2 p1 p2:Pos}
def G7(hc:X.calm=true)(hl:Gl X "list")(hml:mg "list"=none)(hg:Gl X "range")(hm:mg "range"=none)(ha:DA K mg X ES [a] A)(hk:X.mg=mg:=by rfl)(hs:starEach [a] X.env=[(false,eval a X.env)]:=by rfl)
 (hs1:starEach [.Call (.Name "range" p2) [a] [] q2] X.env=[(false,eval (.Call (.Name "range" p2) [a] [] q2) X.env)]:=by rfl):
 DE K mg X ES (.Call (.Name "list" p1) [.Call (.Name "range" p2) [a] [] q2] [] pos) (pFn fc A):=by
 subst hk;exact⟨PE.imp (G4 hc hl hml hg hm ha.ok hs hs1) (xD GY)⟩
end
open PySem PySem.Spec PyProof.Rows L2 PySem.W
noncomputable def adr (K:Frag) (x:Str):Addr:=match nsIn K mainGlobals x with
 |some (some (.ref a))=>a
 |_=>0
noncomputable def kq (K:Frag) (x:Str):Bool:=match nsIn K mainGlobals x with
 |some (some (.ref _))=>true
 |_=>false
noncomputable def xM (K:Frag) (x:Str):Bool:=match nsIn K mainGlobals x with
 |some none=>true
 |_=>false
noncomputable def xcB (K:Frag) (C:Addr):Bool:=(clsIn K C).isSome&&(findIn K (.ref C) "__getattribute__" == some (some (.builtin "BaseException.__getattribute__"))&&(findIn K (.ref C) "__getattr__" == some none&&(findIn K (.ref C) "__class__" == some (some (.builtin "object.__class__"))&&(specialIn K (.builtin "object.__class__") "__get__" == some (some (.builtin "getset_descriptor.__get__"))&&(takesIn K (.builtin "object.__class__")==some true&&(mroIn K C (.type "object")==some true&&mroIn K C (.type "BaseException")==some true))))))
noncomputable def hdB (K:Frag) (C:Addr):Bool:=typeIn K (.ref C)==some (.type "type")&&((clsIn K C).isSome&&mroIn K C (.type "BaseException")==some true)
noncomputable def clA (K:Frag):Cl->Value
 |.b n=>.type n
 |.o x=>.ref (adr K x)
noncomputable def AX (K:Frag):Cl->Bool
 |.b _=>true
 |.o x=>kq K x
noncomputable def Am (K:Frag) (p:Cl×Cl×Bool):Bool:=kitOne K (clA K p.1) (clA K p.2.1)==some p.2.2&&(AX K p.1&&AX K p.2.1)
noncomputable def xkB (K:Frag):Cl->Bool
 |.b _=>true
 |.o x=>xcB K (adr K x)
noncomputable def xt:Val->Value->Bool
 |.int i,.int j _=>i==j
 |.str x,.str y _=>x==y
 |.non,.none=>true
 |.bl b,.bool c=>b==c
 |_,_=>false
noncomputable def dV:Val->V
 |.int i=>.int i
 |.str x=>.str x
 |.bl b=>.bl b
 |_=>.non
noncomputable def rm:List Val->List Value->Bool
 | [],[]=>true
 |d::ds,v::vs=>xt d v&&rm ds vs
 |_,_=>false
noncomputable def gcB (K:Frag) (x:Str):Val->Bool
 |.tup ds=>(match nsIn K mainGlobals x with
  |some (some (.ref a))=>(match K.lookup a with
   |some ⟨.type "tuple",_,.seq its _,_⟩=>decide (its.size<=1000)&&rm ds its.toList
   |_=>false)
  |_=>false)
 |d=>match nsIn K mainGlobals x with
  |some (some v)=>xt d v
  |_=>false
noncomputable def bFn:List String:=["abs", "all", "any", "isinstance", "len", "max", "min", "sorted", "sum"]
noncomputable def bTy:List String:=["bool", "dict", "int", "list", "set", "str", "tuple", "ValueError"]
noncomputable def bIt:List String:=["range", "zip", "enumerate"]
def HM:(bFn.all λn=>bootBuiltins (Str.ofString n)==some (.builtin n))=true:=by decide
def Gn:(bTy.all λn=>bootBuiltins (Str.ofString n)==some (.type n))=true:=by decide
def boF{n:String}(h:bFn.contains n=true):bootBuiltins (Str.ofString n)=some (.builtin n):=KH.mp (D_.mp HM n (KC.mp h))
def boT{n:String}(h:bTy.contains n=true):bootBuiltins (Str.ofString n)=some (.type n):=KH.mp (D_.mp Gn n (KC.mp h))
structure Tb where
 us:List Str
 rs:List Str
 hs:List (Str×List Str)
 kt:jB
 gs:List (Str×Val)
noncomputable def Tb.ok (b:Tb) (K:Frag):Bool:=(bFn++(bTy++bIt)).all (λn=>xM K (Str.ofString n))&&(b.us.all (kq K)&&(b.rs.all (λx=>excIn K (adr K x) o6 "ValueError.__new__" && kq K x)&&(b.hs.all (λp=>hdB K (adr K p.1)&&p.2.all λc=>mroIn K (adr K c) (.ref (adr K p.1))==some true&&kq K c)&&(b.kt.all (λp=>Am K p&&xkB K p.1)&&b.gs.all λp=>gcB K p.1 p.2))))
structure Tx(b:Tb)(K:Frag)(mg:Na):Prop where
 n:∀{n:String},(bFn++(bTy++bIt)).contains n=true->mg (Str.ofString n)=none
 m:∀{x:Str},b.us.contains x=true->mg x=some (.ref (adr K x))
 x:∀{x:Str},b.rs.contains x=true->excIn K (adr K x) o6 "ValueError.__new__"=true
 h:∀{x:Str}{l:List Str},(x,l)∈b.hs->XHand K (adr K x)/\∀c∈l,∀Ce,mg c=some (.ref Ce)->mroIn K Ce (.ref (adr K x))=some true
 k:KitsOk K mg b.kt
 g:∀{x:Str}{d:Val},b.gs.lookup x=some d->GC K mg x d
section
variable{K:Frag}{h:Heap}{mg:Na}{x:Str}(X:K.In h)(G:h.Ns mainGlobals mg)
include X G
def rz(e:kq K x=true):mg x=some (.ref (adr K x)):=by
 unfold kq at e;split at e
 .rename_i a q;unfold adr;rw[q];exact mg_of X G q
 .cases e
def Cw(e:xM K x=true):mg x=none:=by
 unfold xM at e;split at e
 .rename_i q;exact mg_none_of X G q
 .cases e
omit X G in
def IW{C:Addr}(e:xcB K C=true):XCls K C:=by simp only[xcB,p_,KH] at e;obtain⟨e1,e2,e3,e4,e5,e6,e7,e8⟩:=e;exact⟨e1,e2,e3,e4,e5,e6,e7,e8⟩
def CI{c:Cl}{v:Value}(e:AX K c=true)(q:ClV mg c v):v=clA K c:=by
 cases c with
 |b n=>exact q
 |o y=>obtain⟨a,rfl,m⟩:=q;rw[rz X G (show kq K y=true from e)] at m;cases m;rfl
omit X G in
def xR{d:Val}{v:Value}(e:xt d v=true):RelV (dV d) v/\∀P H,Rd K mg P H (dV d) d:=by
 unfold xt at e;split at e
 .cases KH.mp e;exact⟨⟨_,rfl⟩,λ_ _=>.int _⟩
 .cases KH.mp e;exact⟨⟨_,rfl⟩,λ_ _=>.str _⟩
 .exact⟨rfl,λ_ _=>.non⟩
 .cases KH.mp e;exact⟨rfl,λ_ _=>.bl _⟩
 .cases e
omit X G in
theorem vK:∀{ds:List Val}{vs:List Value},rm ds vs=true->Vals (ds.map dV) vs/\∀P H,Rds K mg P H (ds.map dV) ds
 | [],[],_=>⟨.nil,λ_ _=>.nil⟩
 |
  d::ds,v::vs,e=>by
  rw[rm,p_] at e;obtain⟨a1,a2⟩:=xR (K:=K) (mg:=mg) e.1;obtain⟨b1,b2⟩:=vK e.2;exact⟨.cons a1 b1,λP H=>.cons (a2 P H) (b2 P H)⟩
 | [],_::_,e=>nomatch e
 |_::_,[],e=>nomatch e
def Io{d:Val}(e:gcB K x d=true):GC K mg x d:=by
 unfold gcB at e;split at e
 .rename_i ds;split at e
  .rename_i a q;split at e
   .rename_i dd its n sl l;rw[p_] at e;obtain⟨v1,v2⟩:=vK (K:=K) (mg:=mg) e.2;exact⟨_,.ref a,mg_of X G q,rfl,λP H=>.tup (.inr ⟨_,its,n,l,rfl,rfl,F_ (Le e.1) (by decide),v1⟩) (v2 P H)⟩
   .cases e
  .cases e
 .split at e
  .rename_i v q;obtain⟨v1,v2⟩:=xR (K:=K) (mg:=mg) e;exact⟨_,_,mg_of X G q,v1,v2⟩
  .cases e
omit X G in
theorem x8{d:Val}:∀{l:List (Str×Val)},l.lookup x=some d->(x,d)∈l
 | [],h=>nomatch h
 |
  (y,e)::l,h=>by
  rw[Lk] at h;split at h
  .rename_i q;cases h;rw[KH.mp q];exact l_
  .exact k_ _ (x8 h)
def Jw{b:Tb}(e:b.ok K=true):Tx b K mg:=by
 unfold Tb.ok at e;simp only[p_] at e;obtain⟨e1,e2,e3,e4,e5,e6⟩:=e;simp only[D_,p_] at e1 e2 e3 e4 e5 e6;refine⟨λh=>Cw X G (e1 _ (KC.mp h)),λh=>rz X G (e2 _ (KC.mp h)),λh=>(e3 _ (KC.mp h)).1,λh=>?_,⟨λp hp t v h1 h2=>?_,λp hp x C e' m=>?_⟩,λh=>Io X G (e6 _ (x8 h))⟩
 .obtain⟨a1,a2⟩:=e4 _ h;refine⟨?_,λc hc Ce m=>?_⟩
  .simp only[hdB,p_,KH] at a1;exact⟨a1.1,a1.2.1,a1.2.2⟩
  .obtain⟨b1,b2⟩:=a2 c hc;rw[rz X G b2] at m;cases m;exact KH.mp b1
 .obtain⟨a1,_⟩:=e5 p hp;simp only[Am,p_,KH] at a1;rw[CI X G a1.2.1 h1,CI X G a1.2.2 h2];exact a1.1
 .obtain⟨a1,a2⟩:=e5 p hp;simp only[Am,p_,KH] at a1;have a3:=a1.2.1;rw[e'] at a2 a3;rw[rz X G (show kq K x=true from a3)] at m;cases m;exact IW a2
end
def dNm(s:Stmt):Str:=match s with
 |.FunctionDef n ..=>n
 |_=>""
def AllD(K:Frag)(mg:Na)(top:Nat->Stmt):List Nat->Prop
 | []=>True
 |i::l=>Def K mg (dNm (top i)) (top i)/\AllD K mg top l
theorem AllD.get{K:Frag}{mg:Na}{top:Nat->Stmt}:∀{l:List Nat},AllD K mg top l->∀i,l.contains i=true->Def K mg (dNm (top i)) (top i)
 | [],_,i,h=>nomatch h
 |
  j::l,⟨a,b⟩,i,h=>by
  rcases C_.mp (KC.mp h) with rfl |h
  .exact a
  .exact b.get i (KC.mpr h)
structure Ty(b:Tb)(top:Nat->Stmt)(ds:List Nat)(K:Frag)(mg:Na):Prop extends Tx b K mg where
 d:AllD K mg top ds
noncomputable def scB (N P:List Str) (sc:Scope):Bool:=decide (sc.kind=.function)&&(!sc.isCoroutine&&(!sc.isGenerator&&(decide N.Nodup&&(decide (N.take P.length=P)&&(P.all (λx=>decide (sc.names.lookup x=some .local\/sc.names.lookup x=some .cell))&&sc.names.all λy=>decide (y.2 ≠ .free))))))
def au{N P:List Str}{sc:Scope}(e:scB N P sc=true):FnScope N P sc:=by simp only[scB,p_,Ld,D_,Bool.not_eq_true'] at e;obtain⟨e1,e2,e3,e4,e5,e6,e7⟩:=e;exact⟨e1,e2,e3,e4,e5,e6,e7⟩
section
variable{K:Frag}{h:Heap}{mg:Na}(X:K.In h)(G:h.Ns mainGlobals mg)
include X G
def GX(e:Aj.all (xM K)=true)(P:Addr)(q:Str):¬ A2 K mg P q:=λ⟨x,f,oc,od,fd,sl,c,a1,a2,a3,_⟩=>by
 have:=Cw X G (D_.mp e x a1)
 rw[a3] at this;cases this
end
theorem qa(P:Nat->E3->Prop)(m:Nat)(hs:∀i,i<m->∀e,P i e->∃e1 e2,g (.int (i:Nat)) e=some e1/\(B e1=.nx e2\/B e1=.ct e2)/\P (i+1) e2):∀(k i:Nat) (e:E3),i+k=m->P i e->∃e',P m e'/\bQ g B ((List.range' i k).map λj=>Val.int (j:Nat)) e=.nx e'
 |
  0,i,e,h,p=>by
  obtain rfl:i=m:=by omega
  exact⟨e,p,rfl⟩
 |
  k+1,i,e,h,p=>by
  obtain⟨e1,e2,q1,q2,q3⟩:=hs i (by omega) e p;obtain⟨e',p',q4⟩:=qa P m hs k (i+1) e2 (by omega) q3;refine⟨e',p',?_⟩;rw[List.range'_succ,s_,aF,q1];rcases q2 with q2 |q2
  .simp only[q2,iM];exact q4
  .simp only[q2,CU];exact q4
def Ay(P:Nat->E3->Prop)(m:Nat)(h0:P 0 e)(hs:∀i,i<m->∀e,P i e->∃e1 e2,g (.int (i:Nat)) e=some e1/\(B e1=.nx e2\/B e1=.ct e2)/\P (i+1) e2):∃e',P m e'/\bQ g B (rgV m) e=.nx e':=by
 have:=qa P m hs m 0 e (by omega) h0
 rw[<- List.range_eq_range'] at this;exact this
def nq(xs:List Val)(n:Nat):dE xs none (some (n:Int))=xs.take n:=by
 unfold dE;rw[HT.sIx_none,HT.sIx_nat,List.drop_zero,Nat.sub_zero];by_cases h:n<=xs.length
 .rw[L8 h]
 .rw[Nat.min_eq_right (by omega),Ln (m_ _),Ln (by omega)]
def jE(xs:List Val)(n:Nat):dE xs (some (n:Int)) none=xs.drop n:=by
 unfold dE;rw[HT.sIx_none,HT.sIx_nat];by_cases h:n<=xs.length
 .rw[L8 h,Ln (by rw[LW];exact m_ _)]
 .rw[Nat.min_eq_right (by omega),List.drop_of_length_le (m_ _),List.drop_of_length_le (by omega),Mk]
def vW(xs:List Val):dE xs none (some (-1))=xs.dropLast:=by unfold dE;rw[HT.sIx_none,List.drop_zero,Nat.sub_zero,List.dropLast_eq_take];show xs.take (if (-1:Int)<0 then ((-1:Int)+(xs.length:Int)).toNat else min (-1:Int).toNat xs.length)=_;rw[if_pos (by decide)];congr 1;omega
def jc(xs:List Val)(lo hi:Option Int):aSl (.lst xs) lo hi=.new (.lst (dE xs lo hi)):=rfl
def J9(xs:List Val)(lo hi:Option Int):aSl (.kl xs) lo hi=.new (.lst (dE xs lo hi)):=rfl
@[irreducible] def gtX(a:PGt):PGt:=a
def g_x(a:PGt)(v:Val)(e:E3):(gtX a).G v e=a.G v e:=by unfold gtX;rfl
def ZG.weak{K:W.Frag}{mg:Na}{X:Cx}{e:PySem.Expr}{g:PGt}(h:DG K mg X e g):DG K mg X e (gtX g):=by unfold gtX;exact h
theorem oX{g:MG3}{c:MT3}{F:ME3}{α:Type}(pz:α->Bool)(fv fw:α->Val)(P:E3->Prop):∀(l:List α) (acc:List Val) (e:E3),P e->(∀a∈l,∀e,P e->∃e1 e2,g (fv a) e=some e1/\c e1=.ok (pz a) e2/\P e2/\(pz a=true->∃t e3,F e2=.ok t e3/\cE e3 t=some (e3,fw a)/\P e3))->acc.length+l.length<=16777216->∃e',P e'/\lcV g c F (l.map fv) acc e=.ok (acc++(l.filter pz).map fw) e'
 | [],acc,e,hp,_,_=>⟨e,hp,by simp [lcV]⟩
 |
  a::l,acc,e,hp,hf,hl=>by
  obtain⟨e1,e2,q1,q2,q3,q4⟩:=hf a (l_ ..) e hp;rw[o_] at hl;cases hz:pz a with
  |false=>obtain⟨e',p',q⟩:=oX pz fv fw P l acc e2 q3 (λu hu=>hf u (k_ _ hu)) (by omega);refine⟨e',p',?_⟩;rw[hz] at q2;rw[s_];unfold lcV;rw[if_pos (by omega),q1];simp only[q2,gB,LJ,Mp,q];rw[List.filter_cons_of_neg (by rw[hz];exact h_)]
  |true=>obtain⟨t,e3,r1,r2,r3⟩:=q4 hz;obtain⟨e',p',q⟩:=oX pz fv fw P l (acc++[fw a]) e3 r3 (λu hu=>hf u (k_ _ hu)) (by simp;omega);refine⟨e',p',?_⟩;rw[hz] at q2;rw[s_];unfold lcV;rw[if_pos (by omega),q1];simp only[q2,gB,LH,r1,r2,q];rw[List.filter_cons_of_pos hz,s_,KZ];rfl
def nP(xs:List Int):(xs.map Val.int).all lz=true:=by rw[List.all_map,D_];intro x _;rfl
def rG(xs:List Int)(a:Int):((xs.map Val.int).any λd=>eq1 d (.int a))=xs.contains a:=by
 induction xs with
 |nil=>rfl
 |cons x xs ih=>rw[s_,K7,ih,List.contains_cons];congr 1;show (x==a)=(a==x);rw[L5,KH,KH];exact⟨Eq.symm,Eq.symm⟩
def p7(xs:List Int)(a:Int):gw.G (.int a) (.lst (xs.map .int))=.val (.bl (!xs.contains a)):=by show aIn true (.int a) (.lst (xs.map .int))=_;unfold aIn;dsimp only [Val.items];rw[if_pos ⟨rfl,nP xs⟩,rG];rfl
def BR(xs:List Int)(a:Int):bIn.G (.int a) (.lst (xs.map .int))=.val (.bl (xs.contains a)):=by show aIn false (.int a) (.lst (xs.map .int))=_;unfold aIn;dsimp only [Val.items];rw[if_pos ⟨rfl,nP xs⟩,rG];rfl
noncomputable def rT (neg:Bool) (n:Str) (kvs:List (Str×Int)):Val->Val->Bv:=λx y=>match x,y with
 |.str k,.glb m=>if m=n then .val (.bl (neg ^^ (lkS kvs k).isSome)) else .stuck
 |_,_=>.stuck
noncomputable def nF (n:Str) (kvs:List (Str×Int)):Val->Val->Bv:=λx y=>match x,y with
 |.glb m,.str k=>(match lkS kvs k with
  |some i=>if m=n then .val (.int i) else .stuck
  |none=>.stuck)
 |_,_=>.stuck
noncomputable def xi (n:Str) (kvs:List (Str×Int)):PO2:=⟨rT true n kvs⟩
noncomputable def rp (n:Str) (kvs:List (Str×Int)):PO2:=⟨nF n kvs⟩
def FX(n:Str)(kvs:List (Str×Int))(k:Str):(xi n kvs).G (.str k) (.glb n)=.val (.bl (!(lkS kvs k).isSome)):=by show rT true n kvs (.str k) (.glb n)=_;unfold rT;dsimp only;rw[if_pos rfl];cases (lkS kvs k).isSome <;> rfl
def G5{n:Str}{kvs:List (Str×Int)}{k:Str}{i:Int}(h:lkS kvs k=some i):(rp n kvs).G (.glb n) (.str k)=.val (.int i):=by show nF n kvs (.glb n) (.str k)=_;unfold nF;dsimp only;rw[h];dsimp only;rw[if_pos rfl]
section
variable{K:W.Frag}{mg:Na}{n:Str}{kvs:List (Str×Int)}
def DF(neg:Bool):OpD K mg (B4 neg mg n kvs) (rT neg n kvs):=λP H x y v u Q rx ry p=>by
 unfold rT at p;split at p
 .split at p
  .rename_i hm;subst hm;obtain rfl:=rx.str;obtain⟨a,rfl,e⟩:=ry.glb;exact⟨_,a,rfl,rfl,e,bv p (.bl _)⟩
  .exact p.elim
 .exact p.elim
def Dv:OpD K mg (B4 true mg n kvs) (xi n kvs).G:=DF true
def DB:OpD K mg (Cr mg n kvs) (rp n kvs).G:=λP H x y v u Q rx ry p=>by
 replace p:BvP K mg P H Q (nF n kvs v u):=p;unfold nF at p;split at p
 .split at p
  .rename_i i e;split at p
   .rename_i hm;subst hm;obtain⟨a,rfl,e1⟩:=rx.glb;obtain rfl:=ry.str;exact⟨_,a,i,rfl,rfl,e1,e,bv p (.int _)⟩
   .exact p.elim
  .exact p.elim
 .exact p.elim
end
structure TyD(dn:Str)(kvs:List (Str×Int))(w:World)(b:Tb)(top:Nat->Stmt)(ds:List Nat)(K:W.Frag)(mg:Na):Prop extends Ty b top ds K mg where
 kd:KDict w K mg dn kvs
open PySem PySem.Spec PySem.Builtin.Str PyProof.Rows L2
noncomputable def BV:Val->Val->Bv:=λx y=>match x,y with
 |.lst xs,.int i=>if i=-1 then .new (.lst xs.reverse) else .stuck
 |.tup xs,.int i=>if i=-1 then .val (.tup xs.reverse) else .stuck
 |_,_=>.stuck
noncomputable def Ai:PO2:=⟨BV⟩
def EZ(xs:List Val):Ai.G (.tup xs) (.int (-1))=.val (.tup xs.reverse):=rfl
noncomputable def m9:List Val->Bv:=λvs=>match vs with
 | [v]=>match cC 64 v with
  |some d=>if d.showable=true/\d.hasDict=false/\d.depth<=100/\d.shown.length<=16777216 then .val (.str (wB d)) else .stuck
  |none=>.stuck
 |_=>.stuck
noncomputable def hE:PBf:=⟨m9⟩
def Fh{v:Val}{d:PyData}(e:cC 64 v=some d)(h1:d.showable=true)(h2:d.hasDict=false)(h3:d.depth<=100)(h4:d.shown.length<=16777216):hE.G [v]=.val (.str (wB d)):=by show m9 [v]=_;unfold m9;dsimp only;rw[e];dsimp only;rw[if_pos ⟨h1,h2,h3,h4⟩]
section
variable{K:W.Frag}{mg:Na}
def D7:eN K mg (Ci K) hE.G:=λP H xs vs Q r0 p=>by
 replace p:BvP K mg P H Q (m9 vs):=p;unfold m9 at p;split at p
 .split at p
  .rename_i d q;split at p
   .rename_i hc;obtain⟨x,rfl,r⟩:=gH r0;exact⟨x,d,rfl,lD 64 _ _ _ r q,hc.1,hc.2.1,hc.2.2.1,hc.2.2.2,bv p (.str _)⟩
   .exact p.elim
  .exact p.elim
 .exact p.elim
variable{X:Cx}{ES:L2.St->XK}{l e st:Expr}{p q:PEx}{pos p2:Pos}
def Fx(hK:X.K=K)(he:DE K mg X ES e p)(hs:DE K mg X ES st q):DE K mg X ES (.Subscript e (.Slice none none (some st) p2) pos) (pOp Ai p q):=by
 subst hK;exact
  ⟨PE.imp (CY he.ok hs.ok) λσ H Q zz=>mU (r:=Cq X.K) (λP H x y v u Q rx ry p=>by
  replace p:BvP X.K mg P H Q (BV v u):=p;unfold BV at p;split at p
  .obtain rfl:=ry.int;split at p
   .rename_i hi;obtain⟨a,ys,rfl,h,rr⟩:=rx.lstL;exact⟨by rw[hi],a,ys,rfl,.inl ⟨h,λl hl=>p H l _ .refl hl trivial (.lst rr.reverse)⟩⟩
   .exact p.elim
  .obtain rfl:=ry.int;split at p
   .rename_i hi;obtain⟨a,ys,rfl,h,rr⟩:=rx.tup;exact⟨by rw[hi],a,ys,rfl,.inr ⟨h,bvT p rr.reverse⟩⟩
   .exact p.elim
  .exact p.elim) σ H Q zz⟩
end
noncomputable def Ag (lo hi:Int) (i:Nat):MT3:=λe=>match e[i]? with
 |some (.sh (.int v))=>.ok (decide (lo<=v)&&decide (v<=hi)) e
 |_=>.stuck
noncomputable def By (lo hi:Int) (i:Nat):PTs:=⟨51,Ag lo hi i⟩
section
variable{K:W.Frag}{mg:Na}{X:Cx}{ES:St->XK}
def F1{lo hi:Int}{i j0 j1:Nat}{x:Str}{px q0 q1 pos:Pos}(hN:X.N[i]?=some x:=by rfl)(hv:Vis X.env.scope x:=by first |exact Or.inl rfl |exact Or.inr (Or.inl rfl) |exact Or.inr (Or.inr rfl))(hx:(x==("__debug__" : Str))=false:=by decide)
 (hcd:(x==("__classdict__" : Str))=false:=by decide) (hm:lastMarks [.LtE,.LtE] [.Name x px,.Constant (.int hi) j1 q1]=false:=by with_unfolding_all rfl):DT K mg X ES (.Compare (.Constant (.int lo) j0 q0) [.LtE,.LtE] [.Name x px,.Constant (.int hi) j1 q1] pos) (By lo hi i):=
 ⟨PT.imp (AN CL CL sN (yu hN hv hx hcd) sN hm) λσ H Q zz=>zz.el λY N0 ns e S p=>by
  replace p:PG3 K mg Y N0 ns e σ H (ES σ) (KT Q) (Ag lo hi i e):=p;unfold Ag at p;split at p
  .rename_i v q;obtain⟨_,y,e1,r⟩:=S.sl i _ q;obtain rfl:=ShR.int (.inl r);have k:=p.ret S;refine⟨_,e1,lo,v,rfl,rfl,decide (lo<=v),rfl,?_⟩;by_cases h:lo<=v
   .rw[if_pos (x_ h)];rw[x_ h,MR] at k;exact⟨v,hi,rfl,rfl,_,rfl,k⟩
   .rw[if_neg (by rw[v_ h];exact h_)];rw[v_ h,LQ] at k;exact⟨false,rfl,k⟩
  .exact p.elim⟩
end
noncomputable def c7 (b:Bx):Rat:=if b.w<b.h then b.h/b.w else b.w/b.h
noncomputable def shL (s l:Rat) (W:Int):Int->List Int->List (Rat×Rat)
 |_,[]=>[]
 |a,w::ws=>(s+l*((a:Rat)/(W:Rat)),l*((w:Rat)/(W:Rat)))::shL s l W (a+w) ws
theorem oD(s l:Rat)(W:Int):∀(ws:List Int) (a:Int),(shL s l W a ws).length=ws.length
 | [],_=>rfl
 |w::ws,a=>by unfold shL;rw[o_,o_,oD s l W ws (a+w)]
noncomputable def d8 (b:Bx) (way:Str) (ws:List Int):List Bx:=if way="across" then (shL b.l b.w ws.sum 0 ws).map λp=>⟨p.1,b.t,p.2,b.h⟩ else (shL b.t b.h ws.sum 0 ws).map λp=>⟨b.l,p.1,b.w,p.2⟩
theorem jr:∀{l:List Int},(∀w∈l,1<=w)->(l.length:Int)<=l.sum
 | [],_=>by simp
 |
  x::l,h=>by
  rw[J_,o_]
  have:=h x (l_ ..)
  have:=jr (l:=l) λw hw=>h w (k_ _ hw)
  omega
theorem u9:∀(ws:List Int) (a:Int),0<=a->(∀w∈ws,1<=w)->a+ws.sum<=W->p∈shL s l W a ws->∃a' w:Int,0<=a'/\a'<=W/\1<=w/\w<=W/\p=(s+l*((a':Rat)/(W:Rat)),l*((w:Rat)/(W:Rat)))
 | [],_,_,_,_,h=>nomatch h
 |
  w::ws,a,ha,hw,hs,h=>by
  have h1:=hw w (l_ ..);have h2:=jr (l:=ws) λx hx=>hw x (k_ _ hx);rw[J_] at hs;unfold shL at h;rcases C_.mp h with rfl |h
  .exact⟨a,w,ha,by omega,h1,by omega,rfl⟩
  .exact u9 ws (a+w) (by omega) (λx hx=>hw x (k_ _ hx)) (by omega) h
def si(hb:b.Ok)(hs:b.Sz n)(hw:∀w∈ws,1<=w)(mW:Sm m ws.sum)(h:b'∈d8 b way ws):b'.Ok/\b'.Sz (n+(n+m)+1):=by
 have key:∀(s l:Rat),Sz n s->Sz n l->0<l->∀p∈shL s l ws.sum 0 ws,Sz (n+(n+m)+1) p.1/\Sz (n+(n+m)+1) p.2/\0<p.2:=by intro s l hs hl l0 p hp;obtain⟨a',w,h1,h2,h3,h4,rfl⟩:=u9 ws 0 (by omega) hw (by omega) hp;have z1:Sz m ((a':Rat)/(ws.sum:Rat)):=Sz.div (by omega) (mW.of_le (by omega)) mW m (m_ _) (m_ _);have z2:Sz m ((w:Rat)/(ws.sum:Rat)):=Sz.div (by omega) (mW.of_le (by omega)) mW m (m_ _) (m_ _);exact⟨hs.add (hl.mul z1),(hl.mul z2).mono (by omega),Rat.mul_pos l0 (mq (by omega) (by omega))⟩
 unfold d8 at h;split at h
 .obtain⟨p,hp,rfl⟩:=KP.mp h;obtain⟨k1,k2,k3⟩:=key _ _ hs.l hs.w hb.1 p hp;exact⟨⟨k3,hb.2⟩,⟨k1,hs.t.mono (by omega),k2,hs.h.mono (by omega)⟩⟩
 .obtain⟨p,hp,rfl⟩:=KP.mp h;obtain⟨k1,k2,k3⟩:=key _ _ hs.t hs.h hb.2 p hp;exact⟨⟨hb.1,k3⟩,⟨hs.l.mono (by omega),k1,hs.w.mono (by omega),k2⟩⟩
noncomputable def bT (b:Bx) (way:Str) (u v:Int):Bx:=(d8 b way [u,v]).headD b
noncomputable def bW (b:Bx) (way:Str) (u v:Int):Bx:=((d8 b way [u,v]).drop 1).headD b
def uj(b:Bx)(way:Str)(u v:Int):d8 b way [u,v]=[bT b way u v,bW b way u v]:=by unfold bT bW d8;split <;> rfl
def Es(hb:b.Ok)(hs:b.Sz n)(hu:1<=u)(hv:1<=v)(mW:Sm m (u+v)):(bT b way u v).Ok/\(bT b way u v).Sz (n+(n+m)+1):=by refine si (way:=way) (ws:=[u,v]) hb hs ?_ (by simpa using mW) (by rw[uj];exact l_ ..);intro w hw;simp at hw;omega
def Dt(hb:b.Ok)(hs:b.Sz n)(hu:1<=u)(hv:1<=v)(mW:Sm m (u+v)):(bW b way u v).Ok/\(bW b way u v).Sz (n+(n+m)+1):=by refine si (way:=way) (ws:=[u,v]) hb hs ?_ (by simpa using mW) (by rw[uj];simp);intro w hw;simp at hw;omega
noncomputable def liV (l:List Int):Val:=.lst (l.map .int)
noncomputable def bB (ws:List Int) (i:Int):Int:=ws.getD i.toNat 0
def Inr(ws nums:List Int):Prop:=∀i∈nums,0<=i/\i<(ws.length:Nat)
noncomputable def wt (ws l:List Int):Int:=(l.map (bB ws)).sum
def wU{ws:List Int}{i:Int}(h0:0<=i)(h1:i<(ws.length:Nat)):atI (ws.map Val.int) i=some (.int (bB ws i)):=by
 have hi:i.toNat<ws.length:=by omega
 refine gm h0 ?_;rw[Kz,B_ hi];unfold bB;rw[KY,B_ hi];rfl
def so{ws:List Int}{i:Int}(h0:0<=i)(h1:i<(ws.length:Nat)):bB ws i∈ws:=by
 have hi:i.toNat<ws.length:=by omega
 unfold bB;rw[KY,B_ hi];exact LV hi
def CT(hw:∀w∈ws,1<=w)(hr:Inr ws l):(l.length:Int)<=wt ws l:=by
 have:=jr (l:=l.map (bB ws)) λw h=>by obtain⟨i,hi,rfl⟩:=KP.mp h;exact hw _ (so (hr i hi).1 (hr i hi).2)
 rw[j_] at this;exact this
def Gm(ws l r:List Int):wt ws (l++r)=wt ws l+wt ws r:=by unfold wt;rw[La,List.sum_append]
def BW{l r:List Int}(h:l.Perm r):l.sum=r.sum:=by
 induction h with
 |nil=>rfl
 |cons x _ ih=>rw[J_,J_,ih]
 |swap x y l=>rw[J_,J_,J_,J_];omega
 |trans _ _ h1 h2=>rw[h1,h2]
def jt(h:l.Perm r):wt ws l=wt ws r:=BW (h.map _)
noncomputable def rst (nums l:List Int):List Int:=nums.filter λx=>!l.contains x
structure Lot(nums l:List Int):Prop where
 sub:l.Sublist nums
 ne:l≠[]
 lt:l.length<nums.length
def Lot.mono(h:Lot p l)(s:p.Sublist q):Lot q l:=⟨h.sub.trans s,h.ne,w_ h.lt s.length_le⟩
def Lot.more(h:Lot p l)(x:Int):Lot (p++[x]) (l++[x]):=⟨h.sub.append (List.Sublist.refl _),by simp,by have:=h.lt;simp;omega⟩
def Lot.self(h:p≠[])(x:Int):Lot (p++[x]) p:=⟨List.sublist_append_left ..,h,by simp⟩
def mK(h:l.Sublist nums):nums.Nodup->(l++rst nums l).Perm nums:=by
 induction h with
 |slnil=>intro _;exact .nil
 |
  cons a s ih=>
  intro nd;rw[Lb] at nd;rename_i l nums;have ha:¬ a∈l:=λz=>nd.1 (s.subset z);have e:rst (a::nums) l=a::rst nums l:=by unfold rst;rw[List.filter_cons_of_pos];simp [ha]
  rw[e];exact List.perm_middle.trans ((ih nd.2).cons a)
 |
  cons_cons a s ih=>
  intro nd;rw[Lb] at nd;rename_i l nums;have e:rst (a::nums) (a::l)=rst nums l:=by unfold rst;rw[List.filter_cons_of_neg (by simp)];refine List.filter_congr λx hx=>?_;have:x≠a:=λz=>nd.1 (z ▸ hx);simp [this]
  rw[e];exact (ih nd.2).cons a
def lg(h:Lot nums l)(nd:nums.Nodup):Lot nums (rst nums l):=by have p:=(mK h.sub nd).length_eq;rw[z_] at p;have h1:=h.lt;have h2:=I_.mpr h.ne;refine⟨List.filter_sublist,λz=>?_,by omega⟩;rw[z,KG] at p;omega
def AQ(nd:nums.Nodup)(k:Nat):rst nums (nums.take k)=nums.drop k:=by
 have e:rst nums (nums.take k)=(nums.take k++nums.drop k).filter λx=>!(nums.take k).contains x:=by rw[LS];rfl
 rw[e,List.filter_append];have nd':(nums.take k++nums.drop k).Nodup:=by rw[LS];exact nd
 rw[List.nodup_append] at nd';have h1:(nums.take k).filter (λx=>!(nums.take k).contains x)=[]:=by rw[List.filter_eq_nil_iff];intro x hx;simp [hx]
 have h2:(nums.drop k).filter (λx=>!(nums.take k).contains x)=nums.drop k:=by rw[List.filter_eq_self];intro x hx;have:¬ x∈nums.take k:=λz=>nd'.2.2 x z x hx rfl;simp [this]
 rw[h1,h2];rfl
noncomputable def fk:List (List Int)->List Int->List (List Int)
 |L,[]=>L
 |L,x::rest=>fk (L++L.map λl=>l++[x]) rest
noncomputable def bh (kind:Str) (nums:List Int):List (List Int):=if kind="order" then (List.range' 1 (nums.length-1)).map λi=>nums.take i else match nums with
 | []=>[]
 |x::rest=>(fk [[x]] rest).dropLast
theorem jJ:∀(rest p:List Int) (M:List (List Int)),p≠[]->(∀l∈M,Lot p l)->∃M',fk (M++[p]) rest=M'++[p++rest]/\(∀l∈M',Lot (p++rest) l)/\(rest≠[]->M'≠[])/\(M≠[]->M'≠[])
 | [],p,M,hp,hM=>⟨M,by unfold fk;rw[K2],by simpa using hM,λz=>absurd rfl z,λz=>z⟩
 |
  x::rest,p,M,hp,hM=>by
  obtain⟨M',q1,q2,q3,q4⟩:=jJ rest (p++[x]) (M++[p]++M.map λl=>l++[x]) (by simp) (λl hl=>by
   rcases Ls.mp hl with hl |hl
   .rcases Ls.mp hl with hl |hl
    .exact (hM l hl).mono (List.sublist_append_left ..)
    .rw[K8] at hl;subst hl;exact .self hp x
   .obtain⟨l',h',rfl⟩:=KP.mp hl;exact (hM l' h').more x)
  refine⟨M',?_,by rw[KZ] at q2;exact q2,λ_=>q4 (by simp),λ_=>q4 (by simp)⟩;unfold fk;rw[<- show (M++[p]++(M.map λl=>l++[x]))++[p++[x]]=M++[p]++(M++[p]).map (λl=>l++[x]) by simp,q1];simp
def mj(h:l∈bh kind nums):Lot nums l:=by
 unfold bh at h;split at h
 .obtain⟨i,hi,rfl⟩:=KP.mp h;rw[List.mem_range'_1] at hi;refine⟨List.take_sublist ..,λz=>?_,by rw[LB];omega⟩
  have:=K3 List.length z
  rw[LB,KG] at this;omega
 .split at h
  .exact nomatch h
  .rename_i x rest;obtain⟨M',q1,q2,_,_⟩:=jJ rest [x] [] (by simp) (λ_ z=>nomatch z);rw[Kx] at q1;rw[q1,List.dropLast_concat] at h;exact q2 l h
def El(h:2<=nums.length):bh kind nums≠[]:=by
 unfold bh;split
 .intro z
  have:=K3 List.length z
  rw[j_,List.length_range',KG] at this;omega
 .split
  .simp at h
  .rename_i x rest;obtain⟨M',q1,_,q3,_⟩:=jJ rest [x] [] (by simp) (λ_ z=>nomatch z);rw[Kx] at q1;rw[q1,List.dropLast_concat];exact q3 (by rintro rfl;simp at h)
theorem kU:∀(rest:List Int) (L:List (List Int)),(fk L rest).length=L.length*2^rest.length
 | [],L=>by simp [fk]
 |
  x::rest,L=>by
  unfold fk;rw[kU rest,z_,j_,o_,Nat.pow_succ,<- Nat.two_mul,Mx 2,Nat.mul_assoc,Mx 2]
def hX(h:nums.length<=10):(bh kind nums).length<=1000:=by
 unfold bh;split
 .rw[j_,List.length_range'];omega
 .split
  .simp
  .rename_i x rest;rw[o_] at h;rw[List.length_dropLast,kU];have:2^rest.length<=2^9:=Em (by decide) (by omega);simp;omega
noncomputable def cuV (c:Str×List Int×List Int):Val:=.tup [.str c.1,liV c.2.1,liV c.2.2]
noncomputable def cA (nums l:List Int):List (Str×List Int×List Int):=[("across",l,rst nums l),("down",l,rst nums l)]
noncomputable def aA (kind:Str) (nums:List Int):List (Str×List Int×List Int):=(bh kind nums).flatMap (cA nums)
noncomputable def mx (x y:Rat):Rat:=if x<y then y else x
noncomputable def iR (f:Bx->List Int->Rat) (ws:List Int) (b:Bx) (c:Str×List Int×List Int):Rat:=mx (f (bT b c.1 (wt ws c.2.1) (wt ws c.2.2)) c.2.1) (f (bW b c.1 (wt ws c.2.1) (wt ws c.2.2)) c.2.2)
noncomputable def fI (o:Option Rat) (q:Rat):Option Rat:=match o with
 |none=>some q
 |some p=>if q<p then some q else some p
noncomputable def bst (kind:Str) (ws:List Int):Nat->Bx->List Int->Rat
 |0,b,_=>c7 b
 |k+1,b,nums=>if nums.length=1 then c7 b else ((aA kind nums).foldl (λo c=>fI o (iR (bst kind ws k) ws b c)) none).getD 0
def mM(o:Option Rat)(q:Rat):∃p,fI o q=some p:=by
 unfold fI;split
 .exact⟨_,rfl⟩
 .split <;> exact⟨_,rfl⟩
theorem pw(f:α->Rat):∀(l:List α) (p:Rat),∃q,l.foldl (λo c=>fI o (f c)) (some p)=some q
 | [],p=>⟨p,rfl⟩
 |
  c::l,p=>by
  obtain⟨q,e⟩:=mM (some p) (f c);rw[List.foldl_cons,e];exact pw f l q
def vh(f:α->Rat)(h:l≠[]):∃q,l.foldl (λo c=>fI o (f c)) none=some q:=by
 cases l with
 |nil=>exact absurd rfl h
 |cons c l=>rw[List.foldl_cons];exact pw f l _
structure CutOk(nums:List Int)(c:Str×List Int×List Int):Prop where
 way:c.1="across" \/ c.1="down"
 one:Lot nums c.2.1
 two:Lot nums c.2.2
 rest:c.2.2=rst nums c.2.1
def fX(nd:nums.Nodup)(h:c∈aA kind nums):CutOk nums c:=by
 obtain⟨l,hl,hc⟩:=List.mem_flatMap.mp h;have lo:=mj hl;unfold cA at hc;rcases C_.mp hc with rfl |hc
 .exact⟨.inl rfl,lo,lg lo nd,rfl⟩
 .rw[K8] at hc;subst hc;exact⟨.inr rfl,lo,lg lo nd,rfl⟩
def vb(h:2<=nums.length):aA kind nums≠[]:=by
 have:=El (kind:=kind) h
 unfold aA;cases e:bh kind nums with
 |nil=>exact absurd e this
 |cons l ls=>rw[List.flatMap_cons];unfold cA;simp
inductive Tr(ws:List Int):Bx->List Int->Val->Rat->Prop
 |leaf (b:Bx) (i:Int):Tr ws b [i] (.int i) (c7 b)
 |node {b:Bx}{way:Str}{l r:List Int}{t1 t2:Val}{q1 q2:Rat} (hw:way="across" \/ way="down") (h1:Tr ws (bT b way (wt ws l) (wt ws r)) l t1 q1) (h2:Tr ws (bW b way (wt ws l) (wt ws r)) r t2 q2):Tr ws b (l++r) (.tup [.str way,.tup [t1,t2]]) (mx q1 q2)
def Tr.flat(h:Tr ws b l t q):flatV t=true:=by
 induction h with
 |leaf=>exact kS _
 |node _ _ _ ih1 ih2=>simp [kR,eJ,fo,pD,ih1,ih2]
section
variable{kind:Str}{ws nums:List Int}{bd:Rat}{b:Bx}{k:Nat}
noncomputable def thn (ws:List Int) (b:Bx) (i:Int) (nums:List Int):Rat:=c7 b*((bB ws i:Rat)/(wt ws nums:Rat))
noncomputable def brw (f:Bx->List Int->Option Val) (ws:List Int) (b:Bx) (c:Str×List Int×List Int):Option (Bool×Val):=match f (bT b c.1 (wt ws c.2.1) (wt ws c.2.2)) c.2.1 with
 |some p=>some (false,p)
 |none=>match f (bW b c.1 (wt ws c.2.1) (wt ws c.2.2)) c.2.2 with
  |some p=>some (true,p)
  |none=>none
noncomputable def rwV (r:Bool×Val):Val:=.tup [.int (if r.1 then 1 else 0),r.2]
noncomputable def brg (kind:Str) (ws:List Int) (bd:Rat):Nat->Bx->List Int->Option Val
 |0,_,_=>none
 |
  k+1,b,nums=>if nums.length=1 then (if c7 b<bd then none else some (.tup [.str "shape"])) else
  match nums.find? λi=>!decide (thn ws b i nums<bd) with
  |some i=>some (.tup [.str "thin",.int i])
  |none=>if ((aA kind nums).all λc=>(brw (brg kind ws bd k) ws b c).isSome)=true then some (.tup [.str "cases",.tup ((aA kind nums).map λc=>rwV ((brw (brg kind ws bd k) ws b c).getD (false,.non)))]) else none
noncomputable def cX (c:Str×List Int×List Int) (r:Bool):List Int:=if r then c.2.2 else c.2.1
noncomputable def eG (ws:List Int) (b:Bx) (c:Str×List Int×List Int) (r:Bool):Bx:=if r then bW b c.1 (wt ws c.2.1) (wt ws c.2.2) else bT b c.1 (wt ws c.2.1) (wt ws c.2.2)
def Pap(kind:Str):Nat->List Int->Val->Prop
 |0,_,_=>False
 |k+1,nums,v=>(nums.length=1/\v=.tup [.str "shape"])\/(∃i∈nums,v=.tup [.str "thin",.int i])\/(nums.length≠1/\∃g:Str×List Int×List Int->Bool×Val,v=.tup [.str "cases",.tup ((aA kind nums).map λc=>rwV (g c))]/\∀c∈aA kind nums,Pap kind k (cX c (g c).1) (g c).2)
inductive Brs(kind:Str)(ws:List Int)(bd:Rat):Nat->Bx->List Int->Val->Bool->Prop
 |sh {k:Nat}{b:Bx}{nums:List Int}:nums.length=1->Brs kind ws bd (k+1) b nums (.tup [.str "shape"]) (!decide (c7 b<bd))
 |th {k:Nat}{b:Bx}{nums:List Int}{i:Int}:i∈nums->Brs kind ws bd (k+1) b nums (.tup [.str "thin",.int i]) (!decide (thn ws b i nums<bd))
 |cs {k:Nat}{b:Bx}{nums:List Int} (g:Str×List Int×List Int->Bool×Val) (t:Str×List Int×List Int->Bool):nums.length≠1->(∀c∈aA kind nums,Brs kind ws bd k (eG ws b c (g c).1) (cX c (g c).1) (g c).2 (t c))->Brs kind ws bd (k+1) b nums (.tup [.str "cases",.tup ((aA kind nums).map λc=>rwV (g c))]) ((aA kind nums).all t)
def Aq{f:Bx->List Int->Option Val}{c:Str×List Int×List Int}{r:Bool×Val}(h:brw f ws b c=some r):f (eG ws b c r.1) (cX c r.1)=some r.2:=by
 unfold brw at h;split at h
 .rename_i e;cases h;exact e
 .split at h
  .rename_i e;cases h;exact e
  .cases h
theorem nr:∀{k:Nat}{b:Bx}{nums:List Int}{v:Val},brg kind ws bd k b nums=some v->Pap kind k nums v/\Brs kind ws bd k b nums v true
 |0,_,_,_,h=>nomatch h
 |
  k+1,b,nums,v,h=>by
  unfold brg at h;split at h
  .rename_i h1;split at h
   .cases h
   .rename_i h2;cases h
    have:=Brs.sh (kind:=kind) (ws:=ws) (bd:=bd) (k:=k) (b:=b) h1
    rw[v_ h2] at this;exact⟨.inl ⟨h1,rfl⟩,this⟩
  .rename_i h1;split at h
   .rename_i i e;cases h
    have:=Brs.th (kind:=kind) (ws:=ws) (bd:=bd) (k:=k) (b:=b) (L7 e)
    rw[List.find?_some e] at this;exact⟨.inr (.inl ⟨i,L7 e,rfl⟩),this⟩
   .split at h
    .rename_i ha;cases h;rw[D_] at ha;have key:∀c∈aA kind nums,brg kind ws bd k (eG ws b c ((brw (brg kind ws bd k) ws b c).getD (false,.non)).1) (cX c ((brw (brg kind ws bd k) ws b c).getD (false,.non)).1)=some ((brw (brg kind ws bd k) ws b c).getD (false,.non)).2:=λc hc=>by obtain⟨r,e⟩:=Lc.mp (ha c hc);rw[e];exact Aq e
     refine⟨.inr (.inr ⟨h1,λc=>(brw (brg kind ws bd k) ws b c).getD (false,.non),rfl,λc hc=>(nr (key c hc)).1⟩),?_⟩
     have:=Brs.cs (kind:=kind) (ws:=ws) (bd:=bd) (k:=k) (b:=b) (λc=>(brw (brg kind ws bd k) ws b c).getD (false,.non)) (λ_=>true) h1 λc hc=>(nr (key c hc)).2
     rw[D_.mpr λ_ _=>rfl] at this;exact this
    .cases h
theorem vf(f:α->Rat):∀(l:List α) (o:Option Rat) (q:Rat),l.foldl (λo c=>fI o (f c)) o=some q->(∀p,o=some p->q<=p)/\∀c∈l,q<=f c
 | [],o,q,h=>⟨λp e=>by rw[List.foldl_nil] at h;rw[h] at e;cases e;exact MP,λ_ z=>nomatch z⟩
 |
  c::l,o,q,h=>by
  rw[List.foldl_cons] at h;obtain⟨p,e⟩:=mM o (f c);rw[e] at h;obtain⟨h1,h2⟩:=vf f l (some p) q h;have hp:=h1 p rfl;have m1:p<=f c/\∀x,o=some x->p<=x:=by
   unfold fI at e;split at e
   .cases e;exact⟨MP,λ_ z=>nomatch z⟩
   .split at e
    .rename_i x hx;cases e;exact⟨MP,λy z=>by cases z;exact Rat.le_of_lt hx⟩
    .rename_i x hx;cases e;exact⟨LK.mp hx,λy z=>by cases z;exact MP⟩
  refine⟨λx z=>Rat.le_trans hp (m1.2 x z),λd hd=>?_⟩;rcases C_.mp hd with rfl |hd
  .exact Rat.le_trans hp m1.1
  .exact h2 d hd
theorem mD:∀{k:Nat}{b:Bx}{nums:List Int},nums.Nodup->nums≠[]->nums.length<=k->bd<=bst kind ws k b nums->∃v,brg kind ws bd k b nums=some v
 |0,_,nums,_,h0,hk,_=>absurd (I_.mpr h0) (by omega)
 |
  k+1,b,nums,nd,h0,hk,hb=>by
  have h0':=I_.mpr h0;unfold brg;unfold bst at hb;split
  .rename_i h1;rw[if_pos h1] at hb;rw[if_neg (LK.mpr hb)];exact⟨_,rfl⟩
  .rename_i h1;rw[if_neg h1] at hb;split
   .exact⟨_,rfl⟩
   .obtain⟨q,e⟩:=vh (λc=>iR (bst kind ws k) ws b c) (vb (kind:=kind) (nums:=nums) (by omega));rw[e] at hb;have le:=(vf _ _ _ _ e).2;rw[if_pos]
    .exact⟨_,rfl⟩
    .rw[D_];intro c hc;have co:=fX nd hc;have l1:=co.one.lt;have l2:=co.two.lt;have hm:=Rat.le_trans hb (le c hc);unfold brw;split
     .rfl
     .rename_i e1;split
      .rfl
      .rename_i e2;exfalso;unfold iR mx at hm;split at hm
       .obtain⟨v,hv⟩:=mD (co.two.sub.nodup nd) co.two.ne (by omega) hm;rw[hv] at e2;cases e2
       .obtain⟨v,hv⟩:=mD (co.one.sub.nodup nd) co.one.ne (by omega) hm;rw[hv] at e1;cases e1
end
mutual
def pvP(B:Nat):Nat->Val->Bool
 |_,.non=>true
 |_,.bl _=>true
 |_,.int i=>decide (i.natAbs<=B)
 |_,.str x=>(x == "shape") || ((x == "thin") || (x == "cases"))
 |k+1,.tup xs=>aD B k xs
 |k+1,.lst xs=>aD B k xs
 |_,_=>false
def aD(B:Nat):Nat->List Val->Bool
 |_,[]=>true
 |k,x::xs=>pvP B k x&&aD B k xs
end
theorem mI(B k:Nat):∀xs:List Val,aD B k xs=xs.all (pvP B k)
 | []=>by simp only[aD,List.all_nil]
 |x::xs=>by simp only[aD,LG,mI B k xs]
def hU{B k:Nat}{xs:List Val}:aD B k xs=true ↔ ∀x∈xs,pvP B k x=true:=by rw[mI,D_]
def aT(B k:Nat)(xs:List Val):pvP B (k+1) (.tup xs)=aD B k xs:=by simp only[pvP]
def jn(B k:Nat)(xs:List Val):pvP B (k+1) (.lst xs)=aD B k xs:=by simp only[pvP]
def eU{B k:Nat}{i:Int}(h:i.natAbs<=B):pvP B k (.int i)=true:=by cases k <;> (simp only[pvP];exact x_ h)
def vE(B k:Nat):pvP B k .non=true:=by cases k <;> simp only[pvP]
def yF(B k:Nat)(b:Bool):pvP B k (.bl b)=true:=by cases k <;> simp only[pvP]
def c8{B k:Nat}{x:Str}(h:x="shape" \/ x="thin" \/ x="cases"):pvP B k (.str x)=true:=by cases k <;> (simp only[pvP];rcases h with rfl |rfl |rfl <;> decide +kernel)
mutual
theorem fQ{B C:Nat}(h:B<=C):∀(k:Nat) (v:Val),pvP B k v=true->∀j,k<=j->pvP C j v=true
 |_,.non,_,j,_=>vE C j
 |_,.bl b,_,j,_=>yF C j b
 |
  k,.int i,w,j,_=>eU (by
  have:i.natAbs<=B:=by cases k <;> (simp only[pvP] at w;exact Le w)
  omega)
 |
  k,.str x,w,j,_=>by
  have:((x == "shape") || ((x == "thin") || (x == "cases")))=true:=by cases k <;> (simp only[pvP] at w;exact w)
  cases j <;> (simp only[pvP];exact this)
 |0,.tup xs,w,_,_=>by simp only[pvP] at w;exact absurd w h_
 |0,.lst xs,w,_,_=>by simp only[pvP] at w;exact absurd w h_
 |k+1,.tup xs,w,0,h=>absurd h (by omega)
 |k+1,.lst xs,w,0,h=>absurd h (by omega)
 |
  k+1,.tup xs,w,j+1,hj=>by
  rw[aT] at w ⊢;exact iG h k xs w j (by omega)
 |
  k+1,.lst xs,w,j+1,hj=>by
  rw[jn] at w ⊢;exact iG h k xs w j (by omega)
 |k,.ty _,w,_,_=>by cases k <;> (simp only[pvP] at w;exact absurd w h_)
 |k,.glb _,w,_,_=>by cases k <;> (simp only[pvP] at w;exact absurd w h_)
 |k,.exc _,w,_,_=>by cases k <;> (simp only[pvP] at w;exact absurd w h_)
 |k,.kl _,w,_,_=>by cases k <;> (simp only[pvP] at w;exact absurd w h_)
 |k,.dct _,w,_,_=>by cases k <;> (simp only[pvP] at w;exact absurd w h_)
 |k,.set _,w,_,_=>by cases k <;> (simp only[pvP] at w;exact absurd w h_)
theorem iG{B C:Nat}(h:B<=C):∀(k:Nat) (vs:List Val),aD B k vs=true->∀j,k<=j->aD C j vs=true
 |_,[],_,_,_=>by simp only[aD]
 |
  k,x::xs,w,j,hj=>by
  simp only[aD,p_] at w ⊢;exact⟨fQ h k x w.1 j hj,iG h k xs w.2 j hj⟩
end
def str3{x:Str}(w:((x == "shape") || ((x == "thin") || (x == "cases")))=true):x="shape" \/ x="thin" \/ x="cases":=by
 rcases Bool.or_eq_true_iff.mp w with w |w
 .exact .inl (MQ w)
 .rcases Bool.or_eq_true_iff.mp w with w |w
  .exact .inr (.inl (MQ w))
  .exact .inr (.inr (MQ w))
mutual
def tz:Val->Nat
 |.tup xs=>tzs xs+3
 |.lst xs=>tzs xs+3
 |_=>7
def tzs:List Val->Nat
 | []=>0
 |v::vs=>tz v+2+tzs vs
end
theorem ek:∀a b:List Val,tzs (a++b)=tzs a+tzs b
 | [],b=>by simp [tzs]
 |v::a,b=>by rw[List.cons_append,tzs,tzs,ek a b];omega
def aP(xs:List Val):tz (.tup xs)=tzs xs+3:=by simp only[tz]
def ue(xs:List Val):tz (.lst xs)=tzs xs+3:=by simp only[tz]
theorem yw{x:Val}:∀{xs:List Val},x∈xs->tz x<=tzs xs
 |
  y::xs,h=>by
  rw[tzs];rcases C_.mp h with rfl |h
  .omega
  .have:=yw h
   omega
theorem nY:∀xs:List Val,xs.length<=tzs xs
 | []=>by simp
 |
  y::xs=>by
  have:=nY xs
  rw[tzs,o_];omega
def fb(a b:Str):PyData.strOk (a++b)=(PyData.strOk a&&PyData.strOk b):=by show (a.cps++b.cps).all _=_;rw[Array.all_append];rfl
theorem jP{s:Str}(hs:PyData.strOk s=true):∀ts:List Str,(∀t∈ts,PyData.strOk t=true)->PyData.strOk (Str.join s ts)=true
 |
  [],_=>by
  show PyData.strOk Str.empty=true;decide +kernel
 | [x],h=>h x (l_ ..)
 |
  x::y::r,h=>by
  show PyData.strOk (x++s++Str.join s (y::r))=true;rw[fb,fb,h x (l_ ..),hs,jP hs (y::r) λt ht=>h t (k_ _ ht)];rfl
structure Shw(d:PyData)(n:Nat):Prop where
 sh:d.showable=true
 hd:d.hasDict=false
 le:d.shown.length<=n
 ok:PyData.strOk d.shown=true
structure Shws(ds:List PyData)(n:Nat):Prop where
 sh:PyData.showableAll ds=true
 hd:PyData.hasDictAll ds=false
 le:((PyData.shownAll ds).map (·.length)).sum+2*(PyData.shownAll ds).length<=n
 ok:∀t∈PyData.shownAll ds,PyData.strOk t=true
def Ip:∀j:Fin 41,(let t:=Str.ofString (toString ((j:Int)-20));t.length<=5/\PyData.strOk t=true):=by decide
def EO{i:Int}(h:i.natAbs<=20):Shw (.int i) 7:=by
 have:=Ip ⟨(i+20).toNat,by omega⟩
 have e:(((i+20).toNat:Nat):Int)-20=i:=by omega
 dsimp only at this;rw[e] at this;refine⟨?_,by simp only[PyData.hasDict],?_,?_⟩
 .simp only[PyData.showable];have:i.natAbs.log2<=4:=by
   have h1:i.natAbs<2^5:=by omega
   by_cases h0:i.natAbs=0
   .rw[h0];decide
   .have:=(Nat.log2_lt h0).mpr h1
    omega
  exact x_ (by omega)
 .rw[PyData.shown_int];exact F_ this.1 (by decide)
 .rw[PyData.shown_int];exact this.2
def EE{ds:List PyData}{n:Nat}(h:Shws ds n):Shw (.tuple ds) (n+3):=by
 obtain⟨h1,h2,h3,h4⟩:=h;refine⟨by simp only[PyData.showable];exact h1,by simp only[PyData.hasDict];exact h2,?_,?_⟩
 .simp only[PyData.shown]
  have:=tupleText_len_le (PyData.shownAll ds)
  omega
 .simp only[PyData.shown];unfold tupleText;rw[fb,fb,jP (by decide) _ h4];split <;> decide +kernel
def DL{ds:List PyData}{n:Nat}(h:Shws ds n):Shw (.list ds) (n+3):=by
 obtain⟨h1,h2,h3,h4⟩:=h;refine⟨by simp only[PyData.showable];exact h1,by simp only[PyData.hasDict];exact h2,?_,?_⟩
 .simp only[PyData.shown]
  have:=listText_len_le (PyData.shownAll ds)
  omega
 .simp only[PyData.shown];rw[listText_eq_join,fb,fb,jP (by decide) _ h4];decide +kernel
def zi{d:PyData}{ds:List PyData}{n m:Nat}(a:Shw d n)(h:Shws ds m):Shws (d::ds) (n+2+m):=by
 obtain⟨h1,h2,h3,h4⟩:=h;obtain⟨a1,a2,a3,a4⟩:=a;refine⟨by simp only[PyData.showableAll,a1,h1,Bool.and_self],by simp only[PyData.hasDictAll,a2,h2,Bool.or_self],?_,?_⟩
 .simp only[PyData.shownAll,s_,J_,o_];omega
 .simp only[PyData.shownAll];intro t ht;rcases C_.mp ht with rfl |ht
  .exact a4
  .exact h4 t ht
mutual
theorem yP:∀(k:Nat) (v:Val),pvP 20 k v=true->Shw (dB v) (tz v)
 |
  _,.non,_=>by
  have:tz .non=7:=by simp only[tz]
  rw[this];simp only[dB];exact⟨by simp only[PyData.showable],by simp only[PyData.hasDict],by rw[PyData.shown_none];decide,by rw[PyData.shown_none];decide +kernel⟩
 |
  _,.bl b,_=>by
  have:tz (.bl b)=7:=by simp only[tz]
  rw[this];simp only[dB];exact⟨by simp only[PyData.showable],by simp only[PyData.hasDict],by rw[PyData.shown_bool];cases b <;> decide,by rw[PyData.shown_bool];cases b <;> decide +kernel⟩
 |
  k,.int i,w=>by
  have:tz (.int i)=7:=by simp only[tz]
  rw[this];simp only[dB];exact EO (by cases k <;> (simp only[pvP] at w;exact Le w))
 |
  k,.str x,w=>by
  have:tz (.str x)=7:=by simp only[tz]
  rw[this];simp only[dB];have:x="shape" \/ x="thin" \/ x="cases":=by cases k <;> (simp only[pvP] at w;exact str3 w)
  refine⟨by simp only[PyData.showable],by simp only[PyData.hasDict],?_,?_⟩
  .rw[PyData.shown.eq_4];rcases this with rfl |rfl |rfl <;> decide +kernel
  .rw[PyData.shown.eq_4];rcases this with rfl |rfl |rfl <;> decide +kernel
 |0,.tup xs,w=>by simp only[pvP] at w;exact absurd w h_
 |0,.lst xs,w=>by simp only[pvP] at w;exact absurd w h_
 |
  k+1,.tup xs,w=>by
  rw[aT] at w;rw[aP];simp only[dB];exact EE (oZ k xs w)
 |
  k+1,.lst xs,w=>by
  rw[jn] at w;rw[ue];simp only[dB];exact DL (oZ k xs w)
 |k,.ty _,w=>by cases k <;> (simp only[pvP] at w;exact absurd w h_)
 |k,.glb _,w=>by cases k <;> (simp only[pvP] at w;exact absurd w h_)
 |k,.exc _,w=>by cases k <;> (simp only[pvP] at w;exact absurd w h_)
 |k,.kl _,w=>by cases k <;> (simp only[pvP] at w;exact absurd w h_)
 |k,.dct _,w=>by cases k <;> (simp only[pvP] at w;exact absurd w h_)
 |k,.set _,w=>by cases k <;> (simp only[pvP] at w;exact absurd w h_)
theorem oZ:∀(k:Nat) (vs:List Val),aD 20 k vs=true->Shws (bX vs) (tzs vs)
 |_,[],_=>⟨by simp only[bX,PyData.showableAll],by simp only[bX,PyData.hasDictAll],by simp [bX,PyData.shownAll],λt h=>by simp [bX,PyData.shownAll] at h⟩
 |
  k,x::xs,w=>by
  simp only[aD,p_] at w;simp only[bX,tzs];exact zi (yP k x w.1) (oZ k xs w.2)
end
mutual
theorem i8{B:Nat}:∀(k:Nat) (v:Val),pvP B k v=true->wfV k v=true
 |k,.non,_=>by cases k <;> simp [wfV]
 |k,.bl b,_=>by cases k <;> simp [wfV]
 |k,.int i,w=>by cases k <;> simp [wfV]
 |
  k,.str x,w=>by
  have:x="shape" \/ x="thin" \/ x="cases":=by cases k <;> (simp only[pvP] at w;exact str3 w)
  cases k <;> (simp only[wfV];rcases this with rfl |rfl |rfl <;> decide +kernel)
 |0,.tup xs,w=>by simp only[pvP] at w;exact absurd w h_
 |0,.lst xs,w=>by simp only[pvP] at w;exact absurd w h_
 |
  k+1,.tup xs,w=>by
  rw[aT] at w;simp only[wfV];exact oO k xs w
 |
  k+1,.lst xs,w=>by
  rw[jn] at w;simp only[wfV];exact oO k xs w
 |k,.ty _,w=>by cases k <;> (simp only[pvP] at w;exact absurd w h_)
 |k,.glb _,w=>by cases k <;> (simp only[pvP] at w;exact absurd w h_)
 |k,.exc _,w=>by cases k <;> (simp only[pvP] at w;exact absurd w h_)
 |k,.kl _,w=>by cases k <;> (simp only[pvP] at w;exact absurd w h_)
 |k,.dct _,w=>by cases k <;> (simp only[pvP] at w;exact absurd w h_)
 |k,.set _,w=>by cases k <;> (simp only[pvP] at w;exact absurd w h_)
theorem oO{B:Nat}:∀(k:Nat) (vs:List Val),aD B k vs=true->bj k vs=true
 |_,[],_=>by simp only[bj]
 |
  k,x::xs,w=>by
  simp only[aD,p_] at w;simp only[bj,p_];exact⟨i8 k x w.1,oO k xs w.2⟩
end
mutual
theorem vP:∀(k:Nat) (v:Val),wfV k v=true->∀j,k<=j->wfV j v=true
 |_,.non,_,j,_=>by cases j <;> simp only[wfV]
 |_,.bl b,_,j,_=>by cases j <;> simp only[wfV]
 |k,.int i,w,j,_=>by cases j <;> simp only[wfV]
 |
  k,.str x,w,j,_=>by
  have:PyData.strOk x=true:=by cases k <;> (simp only[wfV] at w;exact w)
  cases j <;> (simp only[wfV];exact this)
 |0,.tup xs,w,_,_=>by simp only[wfV] at w;exact absurd w h_
 |0,.lst xs,w,_,_=>by simp only[wfV] at w;exact absurd w h_
 |k+1,.tup xs,w,0,h=>absurd h (by omega)
 |k+1,.lst xs,w,0,h=>absurd h (by omega)
 |
  k+1,.tup xs,w,j+1,hj=>by
  simp only[wfV] at w ⊢;exact kI k xs w j (by omega)
 |
  k+1,.lst xs,w,j+1,hj=>by
  simp only[wfV] at w ⊢;exact kI k xs w j (by omega)
 |k,.ty _,w,_,_=>by cases k <;> (simp only[wfV] at w;exact absurd w h_)
 |k,.glb _,w,_,_=>by cases k <;> (simp only[wfV] at w;exact absurd w h_)
 |k,.exc _,w,_,_=>by cases k <;> (simp only[wfV] at w;exact absurd w h_)
 |k,.kl _,w,_,_=>by cases k <;> (simp only[wfV] at w;exact absurd w h_)
 |k,.dct _,w,_,_=>by cases k <;> (simp only[wfV] at w;exact absurd w h_)
 |k,.set _,w,_,_=>by cases k <;> (simp only[wfV] at w;exact absurd w h_)
theorem kI:∀(k:Nat) (vs:List Val),bj k vs=true->∀j,k<=j->bj j vs=true
 |_,[],_,_,_=>by simp only[bj]
 |
  k,x::xs,w,j,hj=>by
  simp only[bj,p_] at w ⊢;exact⟨vP k x w.1 j hj,kI k xs w.2 j hj⟩
end
def En{d:Nat}(hd:d<=60){v:Val}(h:pvP 20 d v=true)(hz:tz v<=16777216):∃t:Str,PyData.strOk t=true/\hE.G [v]=.val (.str t):=by
 obtain⟨s1,s2,s3⟩:=kX d v (i8 d v h);obtain⟨a1,a2,a3,a4⟩:=yP d v h;refine⟨_,?_,Fh (s1 64 (by omega)) a1 a2 (by omega) (by omega)⟩;unfold wB;split
 .rename_i x e
  have:=s2
  rw[e] at this;exact this
 .exact a4
noncomputable def isS (s:Str):Val->Bool
 |.str x=>x==s
 |_=>false
def og{d:Nat}(hd:d<=60){v:Val}(h:wfV d v=true){s:Str}(hs:PyData.strOk s=true):cq v (.str s)=some (isS s v):=by rw[yD (k:=d) (by omega) h (by cases d <;> (simp only[wfV];exact hs))];cases v <;> simp [vq,isS]
def fG{d:Nat}{v:Val}(h:wfV d v=true):knV v=true:=by cases v <;> first |rfl |(cases d <;> simp [wfV] at h)
noncomputable def bP (f:Str×List Int×List Int->Bool->Val->Bool) (c:Str×List Int×List Int):Val->Bool
 |.tup [.int i,p]=>if i=0 then f c false p else if i=1 then f c true p else false
 |_=>false
noncomputable def eD (f:Str×List Int×List Int->Bool->Val->Bool):List (Str×List Int×List Int)->List Val->Bool
 | [],[]=>true
 |c::cs,r::rs=>bP f c r&&eD f cs rs
 |_,_=>false
noncomputable def gf (f:Str×List Int×List Int->Bool->Val->Bool):List (Str×List Int×List Int)->List Val->Option (List Val)
 | [],rs=>some rs
 |c::cs,r::rs=>if bP f c r=true then gf f cs rs else none
 |_::_,[]=>none
theorem pF{f:Str×List Int×List Int->Bool->Val->Bool}:∀{cs:List (Str×List Int×List Int)}{rs:List Val},rs.length≠cs.length->eD f cs rs=false
 | [],[],h=>absurd rfl h
 | [],_::_,_=>rfl
 |_::_,[],_=>rfl
 |
  c::cs,r::rs,h=>by
  rw[o_,o_] at h;show (bP f c r&&eD f cs rs)=false;rw[pF (by omega),Bool.and_false]
theorem vA{f:Str×List Int×List Int->Bool->Val->Bool}:∀{cs:List (Str×List Int×List Int)}{rs:List Val},eD f cs rs=(match gf f cs rs with |some l=>l.isEmpty |none=>false)
 | [],[]=>rfl
 | [],_::_=>rfl
 |_::_,[]=>rfl
 |
  c::cs,r::rs=>by
  show (bP f c r&&eD f cs rs)=(match (if bP f c r=true then gf f cs rs else none) with |some l=>l.isEmpty |none=>false);cases bP f c r with
  |false=>rfl
  |true=>rw[if_pos rfl,MR,vA (cs:=cs)]
noncomputable def thB (ws:List Int) (bd:Rat) (b:Bx) (nums:List Int):Val->Bool
 |.int i=>nums.contains i && !decide (thn ws b i nums<bd)
 |_=>false
noncomputable def csB (f:Str×List Int×List Int->Bool->Val->Bool) (cs:List (Str×List Int×List Int)):Val->Bool
 |.tup c_=>eD f cs c_
 |_=>false
def CM{f:Str×List Int×List Int->Bool->Val->Bool}{cs:List (Str×List Int×List Int)}{v:Val}(h:dW v=false):csB f cs v=false:=by cases v <;> first |rfl |cases h
def y9(f:Str×List Int×List Int->Bool->Val->Bool)(cs:List (Str×List Int×List Int))(c_:List Val):csB f cs (.tup c_)=eD f cs c_:=rfl
noncomputable def brV (kind:Str) (ws:List Int) (bd:Rat):Nat->Bx->List Int->Val->Bool
 |0,_,_,_=>false
 |k+1,b,nums,.tup [w]=>isS "shape" w&&(decide (nums.length=1) && !decide (c7 b<bd))
 |k+1,b,nums,.tup [w,h]=>if isS "thin" w=true then thB ws bd b nums h else if isS "cases" w=true then (decide (1<nums.length)&&csB (λc r p=>brV kind ws bd k (eG ws b c r) (cX c r) p) (aA kind nums) h) else false
 |_+1,_,_,_=>false
def hZ{B k:Nat}{a b:List Val}(ha:aD B k a=true)(hb:aD B k b=true):aD B k (a++b)=true:=by
 rw[hU] at ha hb ⊢;intro x hx;rcases Ls.mp hx with hx |hx
 .exact ha x hx
 .exact hb x hx
def jI{B k:Nat}{a b:List Val}(ha:aD B k a=true)(h:∀x∈b,x∈a):aD B k b=true:=by rw[hU] at ha ⊢;exact λx hx=>ha x (h x hx)
def sW{B k:Nat}{x:Val}(h:pvP B k x=true):aD B k [x]=true:=by rw[hU];intro y hy;rw[K8] at hy;subst hy;exact h
def cp(x:Val):tzs [x]=tz x+2:=by simp [tzs]
def Dc{xs:List Val}{r:Nat}(h:r<xs.length):tzs xs=tzs (xs.take r)+(tz xs[r]+2)+tzs (xs.drop (r+1)):=by
 have e:xs=xs.take r++([xs[r]]++xs.drop (r+1)):=by rw[List.singleton_append,List.getElem_cons_drop,LS]
 conv=>lhs;rw[e]
 rw[ek,ek,cp];omega
theorem vo:∀xs:List Val,tzs xs.reverse=tzs xs
 | []=>rfl
 |x::xs=>by rw[LP,ek,vo xs,cp,tzs];omega
def JV{xs:List Val}{r:Nat}(h:r<xs.length):aSl (.tup xs) none (some ((r:Nat):Int))=.val (.tup (xs.take r)):=by show (if _/\_ then Bv.val (.tup xs) else Bv.val (.tup (dE xs none (some ((r:Nat):Int)))))=_;rw[if_neg,nq];rintro⟨_,z⟩;rw[HT.sIx_nat] at z;omega
def BZ{xs:List Val}{r:Nat}(h:r<xs.length):aSl (.tup xs) (some ((r:Nat):Int)) none=.val (.tup (xs.drop r)):=by
 show (if _/\_ then Bv.val (.tup xs) else Bv.val (.tup (dE xs (some ((r:Nat):Int)) none)))=_;rw[jE];split
 .rename_i z;obtain⟨z,_⟩:=z;rw[HT.sIx_nat] at z;have:r=0:=by omega
  subst this;rw[List.drop_zero]
 .rfl
def A7{xs:List Val}{r:Nat}(hx:0<xs.length):aSl (.tup xs) (some (((r:Nat):Int)+1)) none=.val (.tup (xs.drop (r+1))):=by have e:(((r:Nat):Int)+1)=((r+1:Nat):Int):=rfl;rw[e];show (if _/\_ then Bv.val (.tup xs) else Bv.val (.tup (dE xs (some ((r+1:Nat):Int)) none)))=_;rw[if_neg,jE];rintro⟨z,_⟩;rw[HT.sIx_nat] at z;omega
def FH{xs:List Val}{r:Nat}(h:r<xs.length):aSl (.tup xs) (some ((r:Nat):Int)) (some (((r:Nat):Int)+1))=.val (.tup [xs[r]]):=by
 have e:(((r:Nat):Int)+1)=((r+1:Nat):Int):=rfl;rw[e];have hc:dE xs (some ((r:Nat):Int)) (some ((r+1:Nat):Int))=[xs[r]]:=by unfold dE;rw[HT.sIx_nat,HT.sIx_nat,L8 (by omega),L8 (by omega),Nat.add_sub_cancel_left,Lx h];rfl
 show (if _/\_ then Bv.val (.tup xs) else Bv.val (.tup (dE xs (some ((r:Nat):Int)) (some ((r+1:Nat):Int)))))=_;rw[hc];split
 .rename_i z;obtain⟨z1,z2⟩:=z;rw[HT.sIx_nat] at z1 z2;have h0:r=0:=by omega
  have h1:xs.length=1:=by omega
  subst h0
  match xs,h1 with
  | [a],_=>rfl
 .rfl
noncomputable def cnN (kind:Str) (n:Nat):Nat:=if kind="order" then 2*(n-1) else 2*2^(n-1)
def vR{kind:Str}{nums:List Int}:(aA kind nums).length<=cnN kind nums.length:=by
 have h2:(aA kind nums).length=2*(bh kind nums).length:=by
  unfold aA;rw[MH];have:∀l:List (List Int),((l.map λa=>(cA nums a).length).sum)=2*l.length:=λl=>by
   induction l with
   |nil=>rfl
   |cons a l ih=>rw[s_,J_,ih,o_];show 2+2*l.length=_;omega
  exact this _
 rw[h2];unfold bh cnN;split
 .rw[j_,List.length_range'];exact m_ _
 .split
  .simp
  .rename_i x rest;rw[List.length_dropLast,kU,o_];simp only[o_,KG,Nat.add_sub_cancel];omega
def jw{kind:Str}{n m:Nat}(h:n<=m):cnN kind n<=cnN kind m:=by
 unfold cnN;split
 .omega
 .have:2^(n-1)<=2^(m-1):=Em (by decide) (by omega);omega
noncomputable def gF (kind:Str):Nat->Nat
 |0=>21
 |n+1=>21+cnN kind (n+1)*(gF kind n+16)
def Cb(kind:Str)(n:Nat):21<=gF kind n:=by
 cases n with
 |zero=>exact m_ _
 |succ n=>show 21<=21+_;omega
theorem o7{kind:Str}:∀{n m:Nat},n<=m->gF kind n<=gF kind m
 |0,m,_=>Cb kind m
 |n+1,0,h=>absurd h (by omega)
 |
  n+1,m+1,h=>by
  have h1:=o7 (kind:=kind) (Nat.le_of_succ_le_succ h);have h2:=jw (kind:=kind) h;show 21+cnN kind (n+1)*(gF kind n+16)<=21+cnN kind (m+1)*(gF kind m+16)
  have:=Nat.mul_le_mul h2 (Nat.add_le_add_right h1 16)
  omega
theorem zS{α:Type}(f:α->Val)(G:Nat):∀l:List α,(∀a∈l,tz (f a)<=G)->tzs (l.map f)<=l.length*(G+2)
 | [],_=>by simp [tzs]
 |
  a::l,h=>by
  have h1:=h a (l_ ..);have h2:=zS f G l λx hx=>h x (k_ _ hx);rw[s_,tzs,o_,Nat.add_mul];omega
def Fz(r:Bool)(p:Val):tz (rwV (r,p))=tz p+14:=by
 show tz (.tup [.int (if r=true then 1 else 0),p])=_;rw[aP,tzs,tzs,tzs,tz]
 .omega
 all_goals (intro _ z;cases z)
def fB(x:Str):tz (.str x)=7:=by simp only[tz]
def iZ(i:Int):tz (.int i)=7:=by simp only[tz]
theorem zu{kind:Str}:∀(n k:Nat) (nums:List Int) (v:Val),nums.Nodup->(∀i∈nums,i.natAbs<=9)->nums.length<=n->Pap kind k nums v->pvP 9 (3*k) v=true/\tz v<=gF kind n
 |n,0,nums,v,_,_,_,h=>h.elim
 |
  n,k+1,nums,v,nd,hi,hl,h=>by
  have e:3*(k+1)=3*k+1+1+1:=by omega
  have g21:=Cb kind n;rw[e];rcases h with ⟨_,rfl⟩ |⟨i,hn,rfl⟩ |⟨h1,g,rfl,hg⟩
  .refine⟨?_,?_⟩
   .rw[aT,aD,c8 (.inl rfl),aD];rfl
   .rw[aP,cp,fB];omega
  .refine⟨?_,?_⟩
   .rw[aT,aD,c8 (.inr (.inl rfl)),aD,eU (hi i hn),aD];rfl
   .rw[aP,tzs,cp,fB,iZ];omega
  .cases
    n with
   |
    zero=>
    have:nums=[]:=Li.mp (by omega);subst this;have hc:aA kind []=[]:=by unfold aA bh;split <;> rfl
    rw[hc,KD];refine⟨?_,?_⟩
    .rw[aT,aD,c8 (.inr (.inr rfl)),aD,aT,aD,aD];rfl
    .rw[aP,tzs,cp,fB,aP,tzs];show _<=21;omega
   |
    succ n=>
    have ih:∀c∈aA kind nums,pvP 9 (3*k) (g c).2=true/\tz (g c).2<=gF kind n:=λc hc=>by
     have cc:=fX nd hc;have l1:=cc.one.lt;have l2:=cc.two.lt;have sub:(cX c (g c).1).Sublist nums:=by
      unfold cX;split
      .exact cc.two.sub
      .exact cc.one.sub
     refine zu n k _ _ (nd.sublist sub) (λi hi'=>hi i (sub.subset hi')) ?_ (hg c hc);unfold cX;split <;> omega
    refine⟨?_,?_⟩
    .rw[aT,aD,c8 (.inr (.inr rfl)),aD,aT,mI];have:((aA kind nums).map λc=>rwV (g c)).all (pvP 9 (3*k+1))=true:=by rw[D_];intro x hx;obtain⟨c,hc,rfl⟩:=KP.mp hx;show pvP 9 (3*k+1) (.tup [.int (if (g c).1=true then 1 else 0),(g c).2])=true;rw[aT,aD,eU (by split <;> decide),aD,(ih c hc).1,aD];rfl
     rw[this,aD];rfl
    .have hs:=zS (λc=>rwV (g c)) (gF kind n+14) (aA kind nums) λc hc=>by
      have:=(ih c hc).2
      rw[show rwV (g c)=rwV ((g c).1,(g c).2) from rfl,Fz];omega
     have hc:=F_ (vR (kind:=kind) (nums:=nums)) (jw (kind:=kind) hl)
     have:=My (gF kind n+14+2) hc
     rw[aP,tzs,cp,fB,aP];show _<=21+cnN kind (n+1)*(gF kind n+16);rw[show gF kind n+14+2=gF kind n+16 by omega] at this hs;omega
def vn:gF "order" 6<=2000000/\gF "any" 5<=2000000:=by decide
end L3
namespace KK
open PySem PySem.Spec PyProof.Rows L2 L3
def top(i:Nat):Stmt:=PySem.Challenge.pw_weightrooms_k58_papers_looked_at.main.body.getD i (.Pass ⟨0,0,0,0⟩)
noncomputable def bc:jB:=[((.b "NoneType"),(.b "bool"),false),((.b "bool"),(.b "bool"),true),((.b "int"),(.b "bool"),false),((.b "str"),(.b "bool"),false),((.b "tuple"),(.b "bool"),false),((.b "list"),(.b "bool"),false),((.b "dict"),(.b "bool"),false),((.b "NoneType"),(.b "int"),false),((.b "bool"),(.b "int"),true),((.b "int"),(.b "int"),true),((.b "str"),(.b "int"),false),((.b "tuple"),(.b "int"),false),((.b "list"),(.b "int"),false),((.b "dict"),(.b "int"),false),((.b "NoneType"),(.b "list"),false),((.b "bool"),(.b "list"),false),((.b "int"),(.b "list"),false),((.b "str"),(.b "list"),false),((.b "tuple"),(.b "list"),false),((.b "list"),(.b "list"),true),((.b "dict"),(.b "list"),false),((.b "NoneType"),(.b "str"),false),((.b "bool"),(.b "str"),false),((.b "int"),(.b "str"),false),((.b "str"),(.b "str"),true),((.b "tuple"),(.b "str"),false),((.b "list"),(.b "str"),false),((.b "dict"),(.b "str"),false),((.b "NoneType"),(.b "tuple"),false),((.b "bool"),(.b "tuple"),false),((.b "int"),(.b "tuple"),false),((.b "str"),(.b "tuple"),false),((.b "tuple"),(.b "tuple"),true),((.b "list"),(.b "tuple"),false),((.b "dict"),(.b "tuple"),false)]
noncomputable def bI:List (Str×Int):=[("order",6),("any",5)]
noncomputable def ja:Val:=(.int 40)
noncomputable def yt:Val:=(.tup [(.str "across"),(.str "down")])
abbrev tb:Tb:=⟨["NoFraction", "NoBox", "NoWay", "NoWeights", "TooMany", "NoKind"],["NoFraction", "NoBox", "NoWay", "NoWeights", "TooMany", "NoKind"],[],bc,[("MOST_WEIGHTS",ja),("WAYS",yt)]⟩
abbrev TT(w:World)(K:W.Frag)(mg:Na):Prop:=TyD "MOST_THINGS" bI w tb top [9,10,11,12,13,14,15,16,17,21,22,23,24,25,26,27,28,29,30,33,34,35,36,37,38,39,40,42,44,45,46,47,48,49,50,51,52,54,55,56,57,58,59,60,61,62,63,64,65,66,67,68,69,70,71] K mg
section
variable{P:Program}{w:World}{K:W.Frag}{mg:Na}{base:Heap}
def iE:PEx:=ui ja
def nO(e:E3):iE.G e=.ok (.val (.int 40)) e:=rfl
def n6:PEx:=ui yt
def EN(e:E3):n6.G e=.ok (.val (.tup [(.str "across"),(.str "down")])) e:=rfl
def dI(s:String):Lean.TSyntax `term:=⟨Lean.mkIdent (s.replace "%" "").toName⟩
def dA(f:String)(a:Lean.TSyntax `term):Lean.TSyntax `term:=Lean.Syntax.mkApp (dI f) #[a]
def dF:List (Lean.TSyntax `tactic)->Lean.MacroM (Lean.TSyntax `tactic)
 | []=>`(tactic|fail)
 |a::l=>do `(tactic|first | $a:tactic | $(<- dF l):tactic)
def dL(f:String->Lean.MacroM (Lean.TSyntax `tactic)):List String->Lean.MacroM (List (Lean.TSyntax `tactic))
 | []=>pure []
 |s::l=>do return (<- f s)::(<- dL f l)
set_option hygiene false in
def dQ(ap:String->Lean.TSyntax `term)(s:String):Lean.MacroM (Lean.TSyntax `tactic):=match (s.splitOn ";").map ap with
 | [d,c,a,b]=>`(tactic|((case d=>with_reducible exact $d);(case c=>exact $c);(case a=>exact $a);(case b=>exact $b)))
 |d::c::_=>`(tactic|((case d=>with_reducible exact $d);(case c=>exact $c)))
 |_=>`(tactic|fail)
set_option hygiene false in
def dR(ap:String->Lean.TSyntax `term)(g:String):Lean.MacroM (Lean.TSyntax `tactic):=match g.splitOn ":" with
 | [r]=>`(tactic|refine $(ap r))
 |r::l=>do `(tactic|(refine' $(ap r);$(<- dF (<- dL (dQ ap) l)):tactic))
 | []=>`(tactic|fail)
set_option hygiene false in
local macro_rules | `('d')=>do
 let h <- `(?_)
 let u <- `(_)
 let R:=dI "rfl"
 let qA <- `(?a)
 let qB <- `(?b)
 let qC <- `(?c)
 let qD <- `(?d)
 let qp <- `((λ_ _=>rfl))
 let ap:=λ(s:String)=>let w:=s.splitOn " ";Lean.Syntax.mkApp (dI (w.getD 0 "")) (((w.getD 1 "").toList.map λc=>([('1',dI "hr.u100"),('8',dI "hr.u180"),('A',qA),('B',qB),('C',qC),('D',qD),('G',dI "T.kd"),('K',dI "T.k"),('_',u),('b',dA "%boT" R),('f',dA "%boF" R),('g',dA "T.g" R),('h',dI "hr"),('i',dI "ih"),('k',dA "T.n" R),('m',dA "T.m" R),('n',dI "nd"),('o',dI "%kQ"),('p',qp),('r',R),('t',dI "T"),('u',dA "%CN" (dI "hr")),('v',dA "%ub" u),('x',dA "T.x" R),('z',dI "%rz1")].lookup c).getD h).toArray)
 let rd:=λ(s:String)=>dL (dR ap) (s.splitOn "|")
 let e0 <- `(tactic|refine zcF (by $(<- dF (<- rd "%ih|r9 t|tT t|lQ t|qS t|tG t|kM t|tP t|kB t|nE t|wX t|qQ t|qM t|lH t|oC t|ny t|uB t|tj t|ug t|Av t|yi t|uD t|uA t|wJ t|qV t|zE t|zy t|xb t|xh t|qT t|um t|mX t|i9 t_|nz t|xj t|tw t|uz t|mO ti|kE t_|rL t|n9 t|kF t_|ke t_|uJ t|rJ ti|lI ti|qI t_|wV t|uc t|rO t|qP t|qX t|sM t|uO t|jY t_")):tactic) hr ?_)
 let e3 <- `(tactic|exact Gh rfl (by first |exact T.e rfl |exact T.kd.ex))
 `(by repeat' $(<- dF ((<- rd "%ub _|jx|yA|bq ??|ao ??|cJ ?|zsS _n?|jN ???|iu ?|zB ?|se ?|Fn|Kd|Dq|yr ?")++[e0,e3]++(<- rd "%Jg CD??:J2;ixK r:DB;ED rrrG|Fj CD??:CD;CP:B7;CG:CA;B9:Cj;eqDK r8:Kc;neDK r8:Dv;DR rrrG:Gb;Hg r:Gu;D8:J8;Ho:zd_ninD;JH r1|eP CDrkf?:GG;Ke r:Fp;B2:kT;gv rr:HI K;JX r|wO CD??:Hx;EB:Hi;Bj:sZ;ou r:F7;GQ:FV;Fc:Hc;Hw:FO;Fw|qH CDrkb?:wc;yX r:As;D3 r:D7;zg h|HL CD??:B7;CG:Cj;eqDK r8:CD;CP:CA;B9:JS;inK r|xV rABCDv?:pK;qJ;PySem.F.slot_list_append;PySem.F.type_list_append:Bw;AS;PySem.F.slot_list_pop;PySem.F.type_list_pop|JQ CD?:G3;H9|Gf n?CD:F2;F4|C8 ?v?CD:x9;Bk u|ZG.weak ?|zt_w ?|Hn ??|vc u??p|JW rg|IT ???|G7 rrkrk?|HV|GW ?|FL ?|Fx r??|rF r???|Kq rkb|zgN _n|GP rr?|FE rr?|AJ ??|DD|ER rrk?|zo rk?|yf rk?|FY r?|Gq rrk?|vS|vY ?|pj ??|uu|u7 ?|gu or???|G1 n?|Ah rzrmx?|zZ o??|nB ?|Hq ??|EJ ?|wI ??|xO ?"))):tactic)
def nJ:PSt:=
 (ak (rh ["cells", "at", "left"] (aa (pFn gq (aa (pSl (af 0) oN (oS (ah 63))) ag)) (aa (ah 0) (aa (ah 0) ag)))))
def fH:PFn:=fnP [false] 1 nJ
def uL:fH.ms=[false]:=rfl
def r9(T:TT w K mg):Callee P w K mg base "_law_feed" 1 ["_law_script"] (sp3 K mg fH):=okP (T.d.get 54 rfl) (au (N:=["_law_script"]) (by decide)) (λ_ _ _ _ _ _=>ar1 λ_=>rfl) λnd _ _ _ _ _ _ _ hr=>(cJ (iu (ve (gY (qH (yX (K:=K) rfl) wc rfl (T.n rfl) (by first |exact boF rfl |exact boT rfl) (bq (rF rfl (ub 0) vS (vY jx)) yA)) (gY jx (gY jx vZ))))))
def nh:PSt:=
 (aj (xIf (qOf (pOp bGt (pOp fh (af 0) (aC "left")) (ah 0))) (aj (ax false 2 (pOp bH (pOp fh (af 0) (aC "left")) (af 1)))
  (aj (sH 0 seD (aC "left") (pOp iX (pOp fh (af 0) (aC "left")) (af 1)))
  (ak (af 2)))) xNx)
  (aj (ax false 3 (pOp fh (af 0) (aC "at")))
  (aj (sH 0 seD (aC "at") (pOp aK (af 3) (ah 1)))
  (aj (ax false 4 (af 3))
  (aj (xIf (qOf (pOp bGt (pFn aJ (aa (pOp fh (af 0) (aC "cells")) ag)) (ah 0))) (ax false 4 (pOp bIx (pOp fh (af 0) (aC "cells")) (pOp bH (af 3) (pFn aJ (aa (pOp fh (af 0) (aC "cells")) ag))))) xNx)
  (aj (xIf (qAn (qOf (pOp bGe (af 4) (pOp mB (ah 10) (ah 18)))) (qOf (pOp bLt (af 3) (pFn aJ (aa (pOp fh (af 0) (aC "cells")) ag))))) (aj (sH 0 seD (aC "left") (pOp iX (af 4) (af 1)))
  (ak (pOp bH (af 4) (af 1)))) xNx)
  (aj (ax false 5 (pOp bH (pOp bf (pOp aK (pOp aK (pOp aK (pOp bH (af 4) (ah 1000003)) (pOp bf (pOp bf (ah 61) (af 3)) (af 3))) (pOp bf (ah 7) (af 3))) (ah 1)) (ah 48271)) (ah 999983)))
  (ak (pOp bH (pOp iX (pOp bH (pOp bf (pOp bH (pOp aK (pOp bf (af 5) (ah 69623)) (pOp bf (ah 7919) (af 3))) (ah 1999993)) (ah 16811)) (ah 524287)) (ah 5)) (af 1))))))))))
def aq:PFn:=fnP [true,false] 6 nh
def uU:aq.ms=[true,false]:=rfl
def tT(T:TT w K mg):Callee P w K mg base "_law_draw" 1 ["_law_feed_here", "_law_many"] (sp3 K mg aq):=okP (T.d.get 55 rfl) (au (N:=["_law_feed_here", "_law_many", "_law_found", "_law_at", "_law_cell", "_law_number"]) (by decide)) (λ_ _ _ _ _ _=>ar2 λ_ _=>rfl) λnd _ _ _ _ _ _ _ hr=>'d'
def gG:PSt:=
 (iS 2 3 (aa (af 3) (aa (pOp bH (af 2) (af 3)) ag)))
def qF:PSt:=
 (aj (iS 2 3 (aa (pFn mL (aa (af 0) ag)) (aa (af 1) ag)))
  (aj (xWh (qOf (pOp bGt (af 3) (ah 0))) (gG))
  (ak (aH (aa (pOp iX (af 0) (af 2)) (aa (pOp iX (af 1) (af 2)) ag))))))
def bo:PFn:=fnP [false,false] 4 qF
def xF:bo.ms=[false,false]:=rfl
def lQ(T:TT w K mg):Callee P w K mg base "_law_low" 1 ["_law_top", "_law_bottom"] (sp3 K mg bo):=okP (T.d.get 57 rfl) (au (N:=["_law_top", "_law_bottom", "_law_one", "_law_other"]) (by decide)) (λ_ _ _ _ _ _=>ar2 λ_ _=>rfl) λnd _ _ _ _ _ _ _ hr=>'d'
def kG:PSt:=
 (ax false 2 (pOp aK (pOp bf (af 2) (ah 100000)) (ai aq (aa (af 0) (aa (ah 100000) ag)))))
def lJ:PSt:=
 (aj (ax false 2 (ah 0))
  (aj (cS (jD (aa (af 1) ag)) (gtN 3) (kG))
  (ak (af 2))))
def cP:PFn:=fnP [true,false] 4 lJ
def uo:cP.ms=[true,false]:=rfl
def qS(T:TT w K mg):Callee P w K mg base "_law_great" 2 ["_law_feed_here", "_law_pieces"] (sp3 K mg cP):=okP (T.d.get 56 rfl) (au (N:=["_law_feed_here", "_law_pieces", "_law_number", "_law_k"]) (by decide)) (λ_ _ _ _ _ _=>ar2 λ_ _=>rfl) λnd _ _ _ _ _ _ _ hr=>'d'
def mR:PSt:=
 (aj (ax false 2 (ai aq (aa (af 0) (aa (ah 5) ag))))
  (aj (xIf (qOf (pOp bLt (af 2) (ah 2))) (ak (aH (aa (pOp aK (ah 1) (ai aq (aa (af 0) (aa (ah 12) ag)))) (aa (ah 1) ag)))) xNx)
  (aj (xIf (qOf (pOp bEq (af 2) (ah 2))) (ak (aH (aa (ah 1) (aa (ah 1) ag)))) xNx)
  (aj (xIf (qOf (pOp bEq (af 2) (ah 3))) (ak (ai bo (aa (pOp aK (ah 1) (ai aq (aa (af 0) (aa (ah 60) ag)))) (aa (pOp aK (ah 1) (ai aq (aa (af 0) (aa (ah 12) ag)))) ag)))) xNx)
  (ak (ai bo (aa (pOp aK (ah 1) (pOp bH (ai cP (aa (af 0) (aa (ah 6) ag))) (af 1))) (aa (pOp aK (ah 1) (pOp bH (ai cP (aa (af 0) (aa (ah 6) ag))) (af 1))) ag))))))))
def eC:PFn:=fnP [true,false] 3 mR
def uP:eC.ms=[true,false]:=rfl
def tG(T:TT w K mg):Callee P w K mg base "_law_side" 3 ["_law_feed_here", "_law_far"] (sp3 K mg eC):=okP (T.d.get 62 rfl) (au (N:=["_law_feed_here", "_law_far", "_law_way"]) (by decide)) (λ_ _ _ _ _ _=>ar2 λ_ _=>rfl) λnd _ _ _ _ _ _ _ hr=>'d'
def bC:PSt:=
 (cB (iQ 10 du (aa (pOp bIx (aY (aa (af 9) (aa (pOp aK (ah 1) (ai aq (aa (af 0) (aa (ah 3) ag)))) (aa (pOp BM (ah 1) (af 11)) (aa (pOp aK (ah 1) (pOp bH (ai cP (aa (af 0) (aa (ah 6) ag))) (af 2))) ag))))) (af 8)) ag)))
def gE:PSt:=
 (aj (iS 2 3 (aa (ah 60) (aa (pOp aK (ah 1) (ai aq (aa (af 0) (aa (af 1) ag)))) ag)))
  (aj (xIf (qOf (pOp bEq (ai aq (aa (af 0) (aa (ah 5) ag))) (ah 0))) (iS 2 3 (aa (pOp my (pOp mB (ah 10) (ah 30)) (ah 1)) (aa (pOp aK (ah 1) (ai aq (aa (af 0) (aa (ah 3) ag)))) ag))) xNx)
  (aj (iS 4 5 (aa (ai eC (aa (af 0) (aa (af 2) ag))) (aa (ai eC (aa (af 0) (aa (af 2) ag))) ag)))
  (aj (xIf (qOf (pOp bEq (ai aq (aa (af 0) (aa (ah 5) ag))) (ah 0))) (ax false 5 (af 4)) xNx)
  (aj (eu (pLC (jD (aa (ah 2) ag)) [none,some 0] (by decide) (gtN 0) qY (ai bo (aa (pOp my (ai aq (aa (af 1) (aa (ah 41) ag))) (ah 20)) (aa (pOp aK (ah 1) (ai aq (aa (af 1) (aa (ah 9) ag)))) ag)))) (gtX (gtU 2 (aM (gtN 6) (aM (gtN 7) cQ)))))
  (aj (ax false 8 (ai aq (aa (af 0) (aa (ah 4) ag))))
  (aj (ax false 9 (pOp aK (ah 1) (ai aq (aa (af 0) (aa (ah 60) ag)))))
  (aj (ax true 10 (aY ag))
  (aj (cS (jD (aa (af 3) ag)) (gtN 11) (bC))
  (ak (aH (aa (aH (aa (af 6) (aa (af 7) (aa (af 4) (aa (af 5) ag))))) (aa (af 10) ag)))))))))))))
def gz:PFn:=fnP [true,false] 12 gE
def ur:gz.ms=[true,false]:=rfl
def kM(T:TT w K mg):Callee P w K mg base "_law_case" 4 ["_law_feed_here", "_law_most"] (sp3 K mg gz):=okP (T.d.get 63 rfl) (au (N:=["_law_feed_here", "_law_most", "_law_far", "_law_many", "_law_wide", "_law_high", "_law_left", "_law_top", "_law_way", "_law_same", "_law_weights", "_law_k"]) (by decide)) (λ_ _ _ _ _ _=>ar2 λ_ _=>rfl) λnd _ _ _ _ _ _ _ hr=>(ao 'd' (ao 'd' (ao 'd' (ao 'd' (ao (pj (fF ["_law_feed_here", "_law_most", "_law_far", "_law_many", "_law_wide", "_law_high", "_law_left", "_law_top", "_law_way", "_law_same", "_law_weights", "_law_k"] (ar (top 63)).names ["_law_k", "_law_feed_here"] [none,some 0] 'd' (λnd _ _ _ _ _=>'d') (λ_ _ _ _ _ _=>cm) (λnd _ _ _ _ _=>'d')) 'd') 'd')))))
def nQ:PSt:=
 (ak (fE (pFn (aO bc) (aa (af 0) (aa (pTy "int") ag))) (lX (pFn (aO bc) (aa (af 0) (aa (pTy "bool") ag))))))
def bY:PFn:=fnP [false] 1 nQ
def uK:bY.ms=[false]:=rfl
def tP(T:TT w K mg):Callee P w K mg base "is_whole" 1 ["thing"] (sp3 K mg bY):=okP (T.d.get 9 rfl) (au (N:=["thing"]) (by decide)) (λ_ _ _ _ _ _=>ar1 λ_=>rfl) λnd _ _ _ _ _ _ _ hr=>'d'
def cT:PSt:=
 (iS 0 1 (aa (af 1) (aa (pOp bH (af 0) (af 1)) ag)))
def gO:PSt:=
 (aj (iS 0 1 (aa (pFn mL (aa (af 0) ag)) (aa (pFn mL (aa (af 1) ag)) ag)))
  (aj (xWh (qOf (pOp bNe (af 1) (ah 0))) (cT))
  (ak (af 0))))
def bJ:PFn:=fnP [false,false] 2 gO
def lG:bJ.ms=[false,false]:=rfl
def kB(T:TT w K mg):Callee P w K mg base "common_divisor" 1 ["one", "other"] (sp3 K mg bJ):=okP (T.d.get 10 rfl) (au (N:=["one", "other"]) (by decide)) (λ_ _ _ _ _ _=>ar2 λ_ _=>rfl) λnd _ _ _ _ _ _ _ hr=>'d'
def j6:PSt:=
 (aj (xIf (qO (qNo (qOf (pFn (aO bc) (aa (af 0) (aa (pTy "tuple") ag))))) (qOf (pOp bNe (pFn aJ (aa (af 0) ag)) (ah 2)))) (ak (pBl false)) xNx)
  (aj (eu (af 0) (gtX (gtT 2 (aM (gtN 1) (aM (gtN 2) cQ)))))
  (aj (xIf (qO (qNo (qOf (ai bY (aa (af 1) ag)))) (qNo (qOf (ai bY (aa (af 2) ag))))) (ak (pBl false)) xNx)
  (ak (fE (pOp bGe (af 2) (ah 1)) (pOp bEq (ai bJ (aa (af 1) (aa (af 2) ag))) (ah 1)))))))
def cI:PFn:=fnP [false] 3 j6
def oA:cI.ms=[false]:=rfl
def nE(T:TT w K mg):Callee P w K mg base "is_fraction" 2 ["thing"] (sp3 K mg cI):=okP (T.d.get 11 rfl) (au (N:=["thing", "top", "bottom"]) (by decide)) (λ_ _ _ _ _ _=>ar1 λ_=>rfl) λnd _ _ _ _ _ _ _ hr=>'d'
def tL:PSt:=
 (aj (xIf (qO (qNo (qOf (pFn (aO bc) (aa (af 0) (aa (pTy "tuple") ag))))) (qOf (pOp bNe (pFn aJ (aa (af 0) ag)) (ah 4)))) (ak (pBl false)) xNx)
  (aj (xIf (qNo (qOf (pFn rB (aa (pLC (ba (af 0)) [none] (by decide) (gtN 0) qY (ai cI (aa (af 0) ag))) ag)))) (ak (pBl false)) xNx)
  (ak (fE (pOp bGt (pOp bIx (pOp bIx (af 0) (ah 2)) (ah 0)) (ah 0)) (pOp bGt (pOp bIx (pOp bIx (af 0) (ah 3)) (ah 0)) (ah 0))))))
def ir:PFn:=fnP [false] 1 tL
def zP:ir.ms=[false]:=rfl
def wX(T:TT w K mg):Callee P w K mg base "is_box" 3 ["thing"] (sp3 K mg ir):=okP (T.d.get 21 rfl) (au (N:=["thing"]) (by decide)) (λ_ _ _ _ _ _=>ar1 λ_=>rfl) λnd _ _ _ _ _ _ _ hr=>(ao 'd' (ao (jN (nB (se (eP (allK (K:=K) rfl rfl) yQ rfl (T.n rfl) (by first |exact boF rfl |exact boT rfl) (bq (fF ["thing"] (ar (top 21)).names ["part"] [none] 'd' (λnd _ _ _ _ _=>'d') (λ_ _ _ _ _ _=>cm) (λnd _ _ _ _ _=>'d')) 'd')))) 'd' 'd') 'd'))
def lT:PSt:=
 (xIf (qNo (qOf (ai ir (aa (af 0) ag)))) (eM "NoBox" (aa (aC "this is no box") ag)) xNx)
def bL:PFn:=fnP [false] 1 lT
def tI:bL.ms=[false]:=rfl
def qQ(T:TT w K mg):Callee P w K mg base "check_box" 4 ["thing"] (sp3 K mg bL):=okP (T.d.get 22 rfl) (au (N:=["thing"]) (by decide)) (λ_ _ _ _ _ _=>ar1 λ_=>rfl) λnd _ _ _ _ _ _ _ hr=>'d'
def lO:PSt:=
 (ak (fE (ai bY (aa (af 0) ag)) (pOp bGe (af 0) (ah 1))))
def dS:PFn:=fnP [false] 1 lO
def sS:dS.ms=[false]:=rfl
def qM(T:TT w K mg):Callee P w K mg base "is_weight" 2 ["thing"] (sp3 K mg dS):=okP (T.d.get 25 rfl) (au (N:=["thing"]) (by decide)) (λ_ _ _ _ _ _=>ar1 λ_=>rfl) λnd _ _ _ _ _ _ _ hr=>'d'
def iA:PSt:=
 (aj (xIf (qO (qNo (qOf (pFn (aO bc) (aa (af 0) (aa (pTy "list") ag))))) (qOf (pOp bEq (pFn aJ (aa (af 0) ag)) (ah 0)))) (eM "NoWeights" (aa (aC "this is no list of weights") ag)) xNx)
  (aj (xIf (qNo (qOf (pFn rB (aa (pLC (ba (af 0)) [none] (by decide) (gtN 0) qY (ai dS (aa (af 0) ag))) ag)))) (eM "NoWeights" (aa (aC "a weight is a whole number from 1 on") ag)) xNx)
  (xIf (qOf (pOp bGt (pFn aJ (aa (af 0) ag)) iE)) (eM "TooMany" (aa (aC "these are more weights than forty") ag)) xNx)))
def bF:PFn:=fnP [false] 1 iA
def l7:bF.ms=[false]:=rfl
def lH(T:TT w K mg):Callee P w K mg base "check_weights" 3 ["thing"] (sp3 K mg bF):=okP (T.d.get 26 rfl) (au (N:=["thing"]) (by decide)) (λ_ _ _ _ _ _=>ar1 λ_=>rfl) λnd _ _ _ _ _ _ _ hr=>(ao 'd' (ao (jN (nB (se (eP (allK (K:=K) rfl rfl) yQ rfl (T.n rfl) (by first |exact boF rfl |exact boT rfl) (bq (fF ["thing"] (ar (top 26)).names ["weight"] [none] 'd' (λnd _ _ _ _ _=>'d') (λ_ _ _ _ _ _=>cm) (λnd _ _ _ _ _=>'d')) 'd')))) 'd' 'd') 'd'))
def kC:PSt:=
 (xIf (qO (qNo (qOf (pFn (aO bc) (aa (af 0) (aa (pTy "str") ag))))) (qOf (pOp (xi "MOST_THINGS" bI) (af 0) (wY "MOST_THINGS")))) (eM "NoKind" (aa (aC "this is no kind of trees") ag)) xNx)
def dZ:PFn:=fnP [false] 1 kC
def qN:dZ.ms=[false]:=rfl
def oC(T:TT w K mg):Callee P w K mg base "check_kind" 1 ["kind"] (sp3 K mg dZ):=okP (T.d.get 33 rfl) (au (N:=["kind"]) (by decide)) (λ_ _ _ _ _ _=>ar1 λ_=>rfl) λnd _ _ _ _ _ _ _ hr=>'d'
def jZ:PSt:=
 (aj (cB (ai bL (aa (af 0) ag)))
  (aj (cB (ai bF (aa (af 1) ag)))
  (aj (cB (ai dZ (aa (af 2) ag)))
  (xIf (qOf (pOp bGt (pFn aJ (aa (af 1) ag)) (pOp (rp "MOST_THINGS" bI) (wY "MOST_THINGS") (af 2)))) (eM "TooMany" (aa (aC "these are more things than the kind is asked of") ag)) xNx))))
def cF:PFn:=fnP [false,false,false] 3 jZ
def oE:cF.ms=[false,false,false]:=rfl
def ny(T:TT w K mg):Callee P w K mg base "check_asked" 5 ["room", "weights", "kind"] (sp3 K mg cF):=okP (T.d.get 34 rfl) (au (N:=["room", "weights", "kind"]) (by decide)) (λ_ _ _ _ _ _=>ar3 λ_ _ _=>rfl) λnd _ _ _ _ _ _ _ hr=>'d'
def qz:PSt:=
 (ak (pOp bLt (pOp bf (pOp bIx (af 0) (ah 0)) (pOp bIx (af 1) (ah 1))) (pOp bf (pOp bIx (af 1) (ah 0)) (pOp bIx (af 0) (ah 1)))))
def b8:PFn:=fnP [false,false] 2 qz
def wC:b8.ms=[false,false]:=rfl
def uB(T:TT w K mg):Callee P w K mg base "is_less" 1 ["one", "other"] (sp3 K mg b8):=okP (T.d.get 16 rfl) (au (N:=["one", "other"]) (by decide)) (λ_ _ _ _ _ _=>ar2 λ_ _=>rfl) λnd _ _ _ _ _ _ _ hr=>'d'
def mP:PSt:=
 (aj (cB (ai bL (aa (af 0) ag)))
  (aj (xIf (qOf (ai b8 (aa (pOp bIx (af 0) (ah 2)) (aa (pOp bIx (af 0) (ah 3)) ag)))) (ak (aC "down")) xNx)
  (ak (aC "across"))))
def fu:PFn:=fnP [false] 1 mP
def uF:fu.ms=[false]:=rfl
def tj(T:TT w K mg):Callee P w K mg base "long_way" 5 ["box"] (sp3 K mg fu):=okP (T.d.get 27 rfl) (au (N:=["box"]) (by decide)) (λ_ _ _ _ _ _=>ar1 λ_=>rfl) λnd _ _ _ _ _ _ _ hr=>'d'
def m7:PSt:=
 (aj (xIf (qOf (pOp bEq (af 1) (ah 0))) (eM "NoFraction" (aa (aC "a fraction has no bottom of 0") ag)) xNx)
  (aj (ax false 2 (ai bJ (aa (af 0) (aa (af 1) ag))))
  (aj (xIf (qOf (pOp bLt (af 1) (ah 0))) (ax false 2 (pUn ie (af 2))) xNx)
  (ak (aH (aa (pOp iX (af 0) (af 2)) (aa (pOp iX (af 1) (af 2)) ag)))))))
def bK:PFn:=fnP [false,false] 3 m7
def uE:bK.ms=[false,false]:=rfl
def ug(T:TT w K mg):Callee P w K mg base "fraction" 2 ["top", "bottom"] (sp3 K mg bK):=okP (T.d.get 12 rfl) (au (N:=["top", "bottom", "divisor"]) (by decide)) (λ_ _ _ _ _ _=>ar2 λ_ _=>rfl) λnd _ _ _ _ _ _ _ hr=>'d'
def zh:PSt:=
 (ak (ai bK (aa (pOp bf (pOp bIx (af 0) (ah 0)) (pOp bIx (af 1) (ah 1))) (aa (pOp bf (pOp bIx (af 0) (ah 1)) (pOp bIx (af 1) (ah 0))) ag))))
def jm:PFn:=fnP [false,false] 2 zh
def C2:jm.ms=[false,false]:=rfl
def Av(T:TT w K mg):Callee P w K mg base "over" 3 ["one", "other"] (sp3 K mg jm):=okP (T.d.get 15 rfl) (au (N:=["one", "other"]) (by decide)) (λ_ _ _ _ _ _=>ar2 λ_ _=>rfl) λnd _ _ _ _ _ _ _ hr=>'d'
def vF:PSt:=
 (aj (xIf (qOf (pOp bEq (ai fu (aa (af 0) ag)) (aC "across"))) (ak (ai jm (aa (pOp bIx (af 0) (ah 2)) (aa (pOp bIx (af 0) (ah 3)) ag)))) xNx)
  (ak (ai jm (aa (pOp bIx (af 0) (ah 3)) (aa (pOp bIx (af 0) (ah 2)) ag)))))
def fR:PFn:=fnP [false] 1 vF
def BG:fR.ms=[false]:=rfl
def yi(T:TT w K mg):Callee P w K mg base "shape" 6 ["box"] (sp3 K mg fR):=okP (T.d.get 28 rfl) (au (N:=["box"]) (by decide)) (λ_ _ _ _ _ _=>ar1 λ_=>rfl) λnd _ _ _ _ _ _ _ hr=>'d'
def mY:PSt:=
 (ax false 2 (pOp aK (af 2) (pLC (ba (af 2)) [none,some 3] (by decide) (gtN 0) qY (pOp aK (af 0) (aY (aa (af 1) ag))))))
def kz:PSt:=
 (aj (xIf (qOf (pOp bEq (af 1) (aC "order"))) (ak (pLC (rC (aa (ah 1) (aa (pFn aJ (aa (af 0) ag)) ag))) [none,some 0] (by decide) (gtN 0) qY (pSl (af 1) oN (oS (af 0))))) xNx)
  (aj (ax false 2 (aY (aa (pSl (af 0) oN (oS (ah 1))) ag)))
  (aj (cS (ba (pSl (af 0) (oS (ah 1)) oN)) (gtN 3) (mY))
  (ak (pSl (af 2) oN (oS (pUn ie (ah 1))))))))
def dh:PFn:=fnP [false,false] 4 kz
def wR:dh.ms=[false,false]:=rfl
def uD(T:TT w K mg):Callee P w K mg base "lots_of" 1 ["numbers", "kind"] (sp3 K mg dh):=okP (T.d.get 37 rfl) (au (N:=["numbers", "kind", "lots", "number"]) (by decide)) (λ_ _ _ _ _ _=>ar2 λ_ _=>rfl) λnd _ _ _ _ _ _ _ hr=>(ao (jN 'd' (cJ (iu (fF ["numbers", "kind", "lots", "number"] (ar (top 37)).names ["many", "numbers"] [none,some 0] 'd' (λnd _ _ _ _ _=>'d') (λ_ _ _ _ _ _=>cm) (λnd _ _ _ _ _=>'d')))) 'd') (ao 'd' (ao (gu kQ rfl 'd' 'd' (cJ (zsS 2 nd (wO (ou (K:=K) rfl) sZ 'd' (fF ["numbers", "kind", "lots", "number"] (ar (top 37)).names ["lot", "number"] [none,some 3] 'd' (λnd _ _ _ _ _=>'d') (λ_ _ _ _ _ _=>cm) (λnd _ _ _ _ _=>'d')))))) 'd')))
def jS:PSt:=
 (cB (iQ 2 du (aa (aH (aa (af 4) (aa (pFn gq (aa (af 3) ag)) (aa (pLC (ba (af 0)) [none,some 3] (by decide) (gtN 0) (qOf (pOp gw (af 0) (af 1))) (af 0)) ag)))) ag)))
def gy:PSt:=
 (cS (ba n6) (gtN 4) (jS))
def pq:PSt:=
 (aj (ax true 2 (aY ag))
  (aj (cS (ba (ai dh (aa (af 0) (aa (af 1) ag)))) (gtN 3) (gy))
  (ak (af 2))))
def dY:PFn:=fnP [false,false] 5 pq
def wy:dY.ms=[false,false]:=rfl
def uA(T:TT w K mg):Callee P w K mg base "cuts_of" 2 ["numbers", "kind"] (sp3 K mg dY):=okP (T.d.get 38 rfl) (au (N:=["numbers", "kind", "cuts", "lot", "way"]) (by decide)) (λ_ _ _ _ _ _=>ar2 λ_ _=>rfl) λnd _ _ _ _ _ _ _ hr=>(ao 'd' (ao (gu kQ rfl 'd' 'd' (cJ (gu kQ rfl 'd' 'd' (cJ (u7 (xV rfl PySem.F.slot_list_append PySem.F.type_list_append qJ pK 'd' (bq (zB (bq 'd' (bq 'd' (bq (fF ["numbers", "kind", "cuts", "lot", "way"] (ar (top 38)).names ["number", "lot"] [none,some 3] 'd' (λnd _ _ _ _ _=>'d') (λnd _ _ _ _ _=>oW 'd') (λnd _ _ _ _ _=>'d')) 'd')))) 'd'))))))) 'd'))
def tu:PSt:=
 (ak (fE (pFn (aO bc) (aa (af 0) (aa (pTy "str") ag))) (pOp bIn (af 0) n6)))
def gX:PFn:=fnP [false] 1 tu
def yz:gX.ms=[false]:=rfl
def wJ(T:TT w K mg):Callee P w K mg base "is_way" 1 ["thing"] (sp3 K mg gX):=okP (T.d.get 23 rfl) (au (N:=["thing"]) (by decide)) (λ_ _ _ _ _ _=>ar1 λ_=>rfl) λnd _ _ _ _ _ _ _ hr=>'d'
def lP:PSt:=
 (xIf (qNo (qOf (ai gX (aa (af 0) ag)))) (eM "NoWay" (aa (aC "this is no way") ag)) xNx)
def eI:PFn:=fnP [false] 1 lP
def rM:eI.ms=[false]:=rfl
def qV(T:TT w K mg):Callee P w K mg base "check_way" 2 ["way"] (sp3 K mg eI):=okP (T.d.get 24 rfl) (au (N:=["way"]) (by decide)) (λ_ _ _ _ _ _=>ar1 λ_=>rfl) λnd _ _ _ _ _ _ _ hr=>'d'
def vg:PSt:=
 (ak (ai bK (aa (pOp aK (pOp bf (pOp bIx (af 0) (ah 0)) (pOp bIx (af 1) (ah 1))) (pOp bf (pOp bIx (af 1) (ah 0)) (pOp bIx (af 0) (ah 1)))) (aa (pOp bf (pOp bIx (af 0) (ah 1)) (pOp bIx (af 1) (ah 1))) ag))))
def ju:PFn:=fnP [false,false] 2 vg
def AL:ju.ms=[false,false]:=rfl
def zE(T:TT w K mg):Callee P w K mg base "added" 3 ["one", "other"] (sp3 K mg ju):=okP (T.d.get 13 rfl) (au (N:=["one", "other"]) (by decide)) (λ_ _ _ _ _ _=>ar2 λ_ _=>rfl) λnd _ _ _ _ _ _ _ hr=>'d'
def uX:PSt:=
 (ak (ai bK (aa (pOp bf (pOp bIx (af 0) (ah 0)) (pOp bIx (af 1) (ah 0))) (aa (pOp bf (pOp bIx (af 0) (ah 1)) (pOp bIx (af 1) (ah 1))) ag))))
def gc:PFn:=fnP [false,false] 2 uX
def AW:gc.ms=[false,false]:=rfl
def zy(T:TT w K mg):Callee P w K mg base "times" 3 ["one", "other"] (sp3 K mg gc):=okP (T.d.get 14 rfl) (au (N:=["one", "other"]) (by decide)) (λ_ _ _ _ _ _=>ar2 λ_ _=>rfl) λnd _ _ _ _ _ _ _ hr=>'d'
def iI:PSt:=
 (aj (ax false 7 (ai ju (aa (af 0) (aa (ai gc (aa (af 1) (aa (ai bK (aa (af 4) (aa (af 3) ag))) ag))) ag))))
  (aj (cB (iQ 5 du (aa (aH (aa (af 7) (aa (ai gc (aa (af 1) (aa (ai bK (aa (af 6) (aa (af 3) ag))) ag))) ag))) ag)))
  (B3 4 zW (af 6))))
def uk:PSt:=
 (aj (ax false 3 (pFn gI (aa (af 2) ag)))
  (aj (ax false 4 (ah 0))
  (aj (ax true 5 (aY ag))
  (aj (cS (ba (af 2)) (gtN 6) (iI))
  (ak (af 5))))))
def gb:PFn:=fnP [false,false,false] 8 uk
def yK:gb.ms=[false,false,false]:=rfl
def xb(T:TT w K mg):Callee P w K mg base "shares" 4 ["start", "length", "weights"] (sp3 K mg gb):=okP (T.d.get 29 rfl) (au (N:=["start", "length", "weights", "whole", "ahead", "found", "weight", "begin"]) (by decide)) (λ_ _ _ _ _ _=>ar3 λ_ _ _=>rfl) λnd _ _ _ _ _ _ _ hr=>'d'
def ua:PSt:=
 (aj (cB (ai bL (aa (af 0) ag)))
  (aj (cB (ai eI (aa (af 1) ag)))
  (aj (cB (ai bF (aa (af 2) ag)))
  (aj (eu (af 0) (gtX (gtT 4 (aM (gtN 3) (aM (gtN 4) (aM (gtN 5) (aM (gtN 6) cQ)))))))
  (aj (xIf (qOf (pOp bEq (af 1) (aC "across"))) (ak (pLC (ba (ai gb (aa (af 3) (aa (af 5) (aa (af 2) ag))))) [none,none,some 4,some 6] (by decide) (gtT 2 (aM (gtN 0) (aM (gtN 1) cQ))) qY (aH (aa (af 0) (aa (af 2) (aa (af 1) (aa (af 3) ag))))))) xNx)
  (ak (pLC (ba (ai gb (aa (af 4) (aa (af 6) (aa (af 2) ag))))) [none,none,some 3,some 5] (by decide) (gtT 2 (aM (gtN 0) (aM (gtN 1) cQ))) qY (aH (aa (af 2) (aa (af 0) (aa (af 3) (aa (af 1) ag))))))))))))
def fO:PFn:=fnP [false,false,false] 7 ua
def zx:fO.ms=[false,false,false]:=rfl
def xh(T:TT w K mg):Callee P w K mg base "parted" 5 ["box", "way", "weights"] (sp3 K mg fO):=okP (T.d.get 30 rfl) (au (N:=["box", "way", "weights", "left", "top", "wide", "high"]) (by decide)) (λ_ _ _ _ _ _=>ar3 λ_ _ _=>rfl) λnd _ _ _ _ _ _ _ hr=>(ao 'd' (ao 'd' (ao 'd' (ao 'd' (ao (jN 'd' (cJ (iu (fF ["box", "way", "weights", "left", "top", "wide", "high"] (ar (top 30)).names ["begin", "length", "top", "high"] [none,none,some 4,some 6] 'd' (λnd _ _ _ _ _=>'d') (λ_ _ _ _ _ _=>cm) (λnd _ _ _ _ _=>'d')))) 'd') (cJ (iu (fF ["box", "way", "weights", "left", "top", "wide", "high"] (ar (top 30)).names ["begin", "length", "left", "wide"] [none,none,some 3,some 5] 'd' (λnd _ _ _ _ _=>'d') (λ_ _ _ _ _ _=>cm) (λnd _ _ _ _ _=>'d')))))))))
def lR:PSt:=
 (ak (pFn gI (aa (pLC (ba (af 0)) [none,some 1] (by decide) (gtN 0) qY (pOp bIx (af 1) (af 0))) ag)))
def bZ:PFn:=fnP [false,false] 2 lR
def tD:bZ.ms=[false,false]:=rfl
def qT(T:TT w K mg):Callee P w K mg base "weight_of" 1 ["numbers", "weights"] (sp3 K mg bZ):=okP (T.d.get 40 rfl) (au (N:=["numbers", "weights"]) (by decide)) (λ_ _ _ _ _ _=>ar2 λ_ _=>rfl) λnd _ _ _ _ _ _ _ hr=>(cJ (iu (eP (gv (K:=K) rfl rfl) kT rfl (T.n rfl) (by first |exact boF rfl |exact boT rfl) (bq (fF ["numbers", "weights"] (ar (top 40)).names ["number", "weights"] [none,some 1] 'd' (λnd _ _ _ _ _=>'d') (λ_ _ _ _ _ _=>cm) (λnd _ _ _ _ _=>'d')) 'd'))))
def nc:PSt:=
 (aj (eu (af 0) (gtX (gtT 3 (aM (gtN 3) (aM (gtN 4) (aM (gtN 5) cQ))))))
  (ak (ai fO (aa (af 1) (aa (af 3) (aa (aY (aa (ai bZ (aa (af 4) (aa (af 2) ag))) (aa (ai bZ (aa (af 5) (aa (af 2) ag))) ag))) ag))))))
def cK:PFn:=fnP [false,false,false] 6 nc
def uv:cK.ms=[false,false,false]:=rfl
def um(T:TT w K mg):Callee P w K mg base "parts_by" 6 ["cut", "room", "weights"] (sp3 K mg cK):=okP (T.d.get 39 rfl) (au (N:=["cut", "room", "weights", "way", "first", "second"]) (by decide)) (λ_ _ _ _ _ _=>ar3 λ_ _ _=>rfl) λnd _ _ _ _ _ _ _ hr=>'d'
def jb:PSt:=
 (xIf (qOf (ai b8 (aa (af 1) (aa (af 2) ag)))) (ax false 1 (af 2)) xNx)
def kf:PSt:=
 (aj (ax false 1 (pOp bIx (af 0) (ah 0)))
  (aj (cS (ba (af 0)) (gtN 2) (jb))
  (ak (af 1))))
def dM:PFn:=fnP [false] 3 kf
def o8:dM.ms=[false]:=rfl
def mX(T:TT w K mg):Callee P w K mg base "greatest_of" 2 ["fractions"] (sp3 K mg dM):=okP (T.d.get 17 rfl) (au (N:=["fractions", "found", "one"]) (by decide)) (λ_ _ _ _ _ _=>ar1 λ_=>rfl) λnd _ _ _ _ _ _ _ hr=>'d'
def cW(s:PFx [false,false,false,false]):PSt:=
 (aj (eu (ai cK (aa (af 5) (aa (af 0) (aa (af 1) ag)))) (gtX (gtU 2 (aM (gtN 6) (aM (gtN 7) cQ)))))
  (aj (ax false 8 (ai s.fn (aa (af 6) (aa (af 1) (aa (af 2) (aa (pOp bIx (af 5) (ah 1)) ag))))))
  (aj (xIf (qAn (qOf (pOp xf (af 4) gx)) (qNo (qOf (ai b8 (aa (pOp bIx (af 8) (ah 0)) (aa (pOp bIx (af 4) (ah 0)) ag)))))) xCt xNx)
  (aj (ax false 9 (ai s.fn (aa (af 7) (aa (af 1) (aa (af 2) (aa (pOp bIx (af 5) (ah 2)) ag))))))
  (aj (ax false 10 (ai dM (aa (aY (aa (pOp bIx (af 8) (ah 0)) (aa (pOp bIx (af 9) (ah 0)) ag))) ag)))
  (xIf (qO (qOf (pOp bIs (af 4) gx)) (qOf (ai b8 (aa (af 10) (aa (pOp bIx (af 4) (ah 0)) ag))))) (ax false 4 (aH (aa (af 10) (aa (aH (aa (pOp bIx (af 5) (ah 0)) (aa (aH (aa (pOp bIx (af 8) (ah 1)) (aa (pOp bIx (af 9) (ah 1)) ag))) ag))) ag)))) xNx))))))
def eL(s:PFx [false,false,false,false]):PSt:=
 (aj (xIf (qOf (pOp bEq (pFn aJ (aa (af 3) ag)) (ah 1))) (ak (aH (aa (ai fR (aa (af 0) ag)) (aa (pOp bIx (af 3) (ah 0)) ag)))) xNx)
  (aj (ax false 4 gx)
  (aj (cS (ba (ai dY (aa (af 3) (aa (af 2) ag)))) (gtN 5) (cW s))
  (ak (af 4)))))
def cR:Nat->PFx [false,false,false,false]
 |0=>PFx.none [false,false,false,false]
 |n+1=>PFx.of [false,false,false,false] 11 (eL (cR n))
theorem i9(T:TT w K mg):∀n,Callee P w K mg base "best_tree" (8+n) ["room", "weights", "kind", "numbers"] (sp3 K mg (cR n).fn)
 |0=>ok0 (T.d.get 36 rfl) (au (N:=["room", "weights", "kind", "numbers", "best", "cut", "first", "second", "one", "other", "greatest"]) (by decide)) (λ_ _ _ _ _ _=>ar4 λ_ _ _ _=>rfl)
 |
  n+1=>by
  have ih:=i9 T n;show Callee _ _ _ _ _ _ _ _ (sp3 _ _ (PFx.of [false,false,false,false] 11 (eL (cR n))).fn);exact okX (k:=8+n) (T.d.get 36 rfl) (au (N:=["room", "weights", "kind", "numbers", "best", "cut", "first", "second", "one", "other", "greatest"]) (by decide)) (λ_ _ _ _ _ _=>ar4 λ_ _ _ _=>rfl) λnd _ _ _ _ _ _ _ hr=>'d'
def j9:PSt:=
 (aj (cB (ai cF (aa (af 0) (aa (af 1) (aa (af 2) ag)))))
  (ak (ai (cR 7).fn (aa (af 0) (aa (af 1) (aa (af 2) (aa (pFn fc (aa (pFn aJ (aa (af 1) ag)) ag)) ag)))))))
def cG:PFn:=fnP [false,false,false] 3 j9
def oY:cG.ms=[false,false,false]:=rfl
def nz(T:TT w K mg):Callee P w K mg base "least_worst" 16 ["room", "weights", "kind"] (sp3 K mg cG):=okP (T.d.get 35 rfl) (au (N:=["room", "weights", "kind"]) (by decide)) (λ_ _ _ _ _ _=>ar3 λ_ _ _=>rfl) λnd _ _ _ _ _ _ _ hr=>'d'
def sE:PSt:=
 (ak (lX (ai b8 (aa (ai fR (aa (af 0) ag)) (aa (pOp bIx (af 1) (ah 2)) ag)))))
def fZ:PFn:=fnP [false,false] 2 sE
def yx:fZ.ms=[false,false]:=rfl
def xj(T:TT w K mg):Callee P w K mg base "is_far" 7 ["room", "asked"] (sp3 K mg fZ):=okP (T.d.get 47 rfl) (au (N:=["room", "asked"]) (by decide)) (λ_ _ _ _ _ _=>ar2 λ_ _=>rfl) λnd _ _ _ _ _ _ _ hr=>'d'
def mZ:PSt:=
 (ak (ai gc (aa (ai fR (aa (af 0) ag)) (aa (ai bK (aa (af 1) (aa (af 2) ag))) ag))))
def fL:PFn:=fnP [false,false,false] 3 mZ
def uC:fL.ms=[false,false,false]:=rfl
def tw(T:TT w K mg):Callee P w K mg base "thinness" 7 ["room", "weight", "whole"] (sp3 K mg fL):=okP (T.d.get 42 rfl) (au (N:=["room", "weight", "whole"]) (by decide)) (λ_ _ _ _ _ _=>ar3 λ_ _ _=>rfl) λnd _ _ _ _ _ _ _ hr=>'d'
def pZ:PSt:=
 (aj (eu (af 3) (gtX (gtT 3 (aM (gtN 4) (aM (gtN 5) (aM (gtN 6) cQ))))))
  (ak (lX (ai b8 (aa (ai fL (aa (af 1) (aa (pOp bIx (af 4) (af 0)) (aa (ai bZ (aa (af 2) (aa (af 4) ag))) ag)))) (aa (af 6) ag))))))
def eY:PFn:=fnP [false,false,false,false] 7 pZ
def xA:eY.ms=[false,false,false,false]:=rfl
def uz(T:TT w K mg):Callee P w K mg base "is_thin" 8 ["number", "room", "numbers", "asked"] (sp3 K mg eY):=okP (T.d.get 46 rfl) (au (N:=["number", "room", "numbers", "asked", "weights", "kind", "bound"]) (by decide)) (λ_ _ _ _ _ _=>ar4 λ_ _ _ _=>rfl) λnd _ _ _ _ _ _ _ hr=>'d'
def i6(s:PFx [false,false,false]):PSt:=
 (aj (ax false 5 (ai s.fn (aa (af 4) (aa (pOp bIx (af 0) (pOp aK (af 3) (ah 1))) (aa (af 2) ag)))))
  (xIf (qOf (pOp xf (af 5) gx)) (ak (aH (aa (af 3) (aa (af 5) ag)))) xNx))
def j8(s:PFx [false,false,false]):PSt:=
 (aj (cS (wW (aa (ai cK (aa (af 0) (aa (af 1) (aa (pOp bIx (af 2) (ah 0)) ag)))) ag)) (gtX (gtT 2 (aM (gtN 3) (aM (gtN 4) cQ)))) (i6 s))
  (ak gx))
def bu(s:PFx [false,false,false]):PFn:=fnP [false,false,false] 6 (j8 s)
def n5(s:PFx [false,false,false]):(bu s).ms=[false,false,false]:=rfl
def mO(T:TT w K mg){s:PFx [false,false,false]}{k:Nat}(ih:Callee P w K mg base "barring" k ["room", "numbers", "asked"] (sp3 K mg s.fn))(hk:10<=k:=by omega):Callee P w K mg base "barring_row" (k+1) ["cut", "room", "asked"] (sp3 K mg (bu s)):=okP (T.d.get 49 rfl) (au (N:=["cut", "room", "asked", "at", "part", "paper"]) (by decide)) (λ_ _ _ _ _ _=>ar3 λ_ _ _=>rfl) λnd _ _ _ _ _ _ _ hr=>'d'
def fD(s:PFx [false,false,false]):PSt:=
 (xIf (qOf (ai eY (aa (af 3) (aa (af 0) (aa (af 1) (aa (af 2) ag)))))) (ak (aH (aa (aC "thin") (aa (af 3) ag)))) xNx)
def dH(s:PFx [false,false,false]):PSt:=
 (aj (ax false 6 (ai (bu s) (aa (af 5) (aa (af 0) (aa (af 2) ag)))))
  (aj (xIf (qOf (pOp bIs (af 6) gx)) (ak gx) xNx)
  (cB (iQ 4 du (aa (af 6) ag)))))
def iC(s:PFx [false,false,false]):PSt:=
 (aj (xIf (qOf (pOp bEq (pFn aJ (aa (af 1) ag)) (ah 1))) (ak (pIf (qOf (ai fZ (aa (af 0) (aa (af 2) ag)))) (aH (aa (aC "shape") ag)) gx)) xNx)
  (aj (cS (ba (af 1)) (gtN 3) (fD s))
  (aj (ax true 4 (aY ag))
  (aj (cS (ba (ai dY (aa (af 1) (aa (pOp bIx (af 2) (ah 1)) ag)))) (gtN 5) (dH s))
  (ak (aH (aa (aC "cases") (aa (pFn lE (aa (af 4) ag)) ag))))))))
def dg:Nat->PFx [false,false,false]
 |0=>PFx.none [false,false,false]
 |n+1=>PFx.of [false,false,false] 7 (iC (dg n))
theorem kE(T:TT w K mg):∀n,Callee P w K mg base "barring" (10+2*n) ["room", "numbers", "asked"] (sp3 K mg (dg n).fn)
 |0=>ok0 (T.d.get 48 rfl) (au (N:=["room", "numbers", "asked", "number", "rows", "cut", "row"]) (by decide)) (λ_ _ _ _ _ _=>ar3 λ_ _ _=>rfl)
 |
  n+1=>by
  have ih:=kE T n;show Callee _ _ _ _ _ _ (10+2*n+1+1) _ (sp3 _ _ (PFx.of [false,false,false] 7 (iC (dg n))).fn);exact okX (k:=10+2*n+1) (T.d.get 48 rfl) (au (N:=["room", "numbers", "asked", "number", "rows", "cut", "row"]) (by decide)) (λ_ _ _ _ _ _=>ar3 λ_ _ _=>rfl) λnd _ _ _ _ _ _ _ hr=>'d'
def nM:PSt:=
 (aj (ax false 3 (pOp bIx (ai cG (aa (af 0) (aa (af 1) (aa (af 2) ag)))) (ah 0)))
  (ak (ai (dg 7).fn (aa (af 0) (aa (pFn fc (aa (pFn aJ (aa (af 1) ag)) ag)) (aa (aH (aa (af 1) (aa (af 2) (aa (af 3) ag)))) ag))))))
def fj:PFn:=fnP [false,false,false] 4 nM
def uG:fj.ms=[false,false,false]:=rfl
def rL(T:TT w K mg):Callee P w K mg base "paper_of" 25 ["room", "weights", "kind"] (sp3 K mg fj):=okP (T.d.get 44 rfl) (au (N:=["room", "weights", "kind", "bound"]) (by decide)) (λ_ _ _ _ _ _=>ar3 λ_ _ _=>rfl) λnd _ _ _ _ _ _ _ hr=>'d'
def kj:PSt:=
 (ax false 2 (pOp aK (af 2) (pLC (ba (af 2)) [none,some 3] (by decide) (gtN 0) qY (pOp aK (af 0) (aY (aa (af 1) ag))))))
def gS:PSt:=
 (aj (xIf (qOf (pOp bEq (af 1) (aC "order"))) (ak (pLC (rC (aa (ah 1) (aa (pFn aJ (aa (af 0) ag)) ag))) [none,some 0] (by decide) (gtN 0) qY (pSl (af 1) oN (oS (af 0))))) xNx)
  (aj (ax false 2 (aY (aa (aY (aa (pOp bIx (af 0) (ah 0)) ag)) ag)))
  (aj (cS (ba (pSl (af 0) (oS (ah 1)) oN)) (gtN 3) (kj))
  (ak (pSl (af 2) oN (oS (pUn ie (ah 1))))))))
def bE:PFn:=fnP [false,false] 4 gS
def qW:bE.ms=[false,false]:=rfl
def n9(T:TT w K mg):Callee P w K mg base "_law_firsts" 1 ["_law_numbers", "_law_kind"] (sp3 K mg bE):=okP (T.d.get 66 rfl) (au (N:=["_law_numbers", "_law_kind", "_law_lots", "_law_number"]) (by decide)) (λ_ _ _ _ _ _=>ar2 λ_ _=>rfl) λnd _ _ _ _ _ _ _ hr=>(ao (jN 'd' (cJ (iu (fF ["_law_numbers", "_law_kind", "_law_lots", "_law_number"] (ar (top 66)).names ["_law_k", "_law_numbers"] [none,some 0] 'd' (λnd _ _ _ _ _=>'d') (λ_ _ _ _ _ _=>cm) (λnd _ _ _ _ _=>'d')))) 'd') (ao 'd' (ao (gu kQ rfl 'd' 'd' (cJ (zsS 2 nd (wO (ou (K:=K) rfl) sZ 'd' (fF ["_law_numbers", "_law_kind", "_law_lots", "_law_number"] (ar (top 66)).names ["_law_lot", "_law_number"] [none,some 3] 'd' (λnd _ _ _ _ _=>'d') (λ_ _ _ _ _ _=>cm) (λnd _ _ _ _ _=>'d')))))) 'd')))
def fJ(s:PFx [false,false,true,false]):PSt:=
 (aj (ax false 8 (ai aq (aa (af 2) (aa (ah 2) ag))))
  (cB (iQ 4 du (aa (aH (aa (af 8) (aa (ai s.fn (aa (pOp bIx (aY (aa (af 5) (aa (af 6) ag))) (af 8)) (aa (af 1) (aa (af 2) (aa (pOp my (af 3) (ah 1)) ag))))) ag))) ag))))
def gC(s:PFx [false,false,true,false]):PSt:=
 (aj (ax false 6 (pLC (ba (af 0)) [none,some 5] (by decide) (gtN 0) (qOf (pOp gw (af 0) (af 1))) (af 0)))
  (cS (jD (aa (ah 2) ag)) (gtN 7) (fJ s)))
def eW(s:PFx [false,false,true,false]):PSt:=
 (aj (xIf (qAn (qOf (pOp bEq (pFn aJ (aa (af 0) ag)) (ah 1))) (qOf (pOp bGt (ai aq (aa (af 2) (aa (ah 4) ag))) (ah 0)))) (ak (aH (aa (aC "shape") ag))) xNx)
  (aj (xIf (qO (qOf (pOp bEq (pFn aJ (aa (af 0) ag)) (ah 1))) (qO (qOf (pOp bEq (af 3) (ah 0))) (qOf (pOp bEq (ai aq (aa (af 2) (aa (ah 2) ag))) (ah 0))))) (ak (aH (aa (aC "thin") (aa (pOp bIx (af 0) (ai aq (aa (af 2) (aa (pFn aJ (aa (af 0) ag)) ag)))) ag)))) xNx)
  (aj (ax true 4 (aY ag))
  (aj (cS (ba (ai bE (aa (af 0) (aa (af 1) ag)))) (gtN 5) (gC s))
  (ak (aH (aa (aC "cases") (aa (pFn lE (aa (af 4) ag)) ag))))))))
def df:Nat->PFx [false,false,true,false]
 |0=>PFx.none [false,false,true,false]
 |n+1=>PFx.of [false,false,true,false] 9 (eW (df n))
theorem kF(T:TT w K mg):∀n,Callee P w K mg base "_law_any" (3+n) ["_law_numbers", "_law_kind", "_law_feed_here", "_law_deep"] (sp3 K mg (df n).fn)
 |0=>ok0 (T.d.get 70 rfl) (au (N:=["_law_numbers", "_law_kind", "_law_feed_here", "_law_deep", "_law_rows", "_law_first", "_law_second", "_law_way", "_law_part"]) (by decide)) (λ_ _ _ _ _ _=>ar4 λ_ _ _ _=>rfl)
 |
  n+1=>by
  have ih:=kF T n;show Callee _ _ _ _ _ _ _ _ (sp3 _ _ (PFx.of [false,false,true,false] 9 (eW (df n))).fn);exact okX (k:=3+n) (T.d.get 70 rfl) (au (N:=["_law_numbers", "_law_kind", "_law_feed_here", "_law_deep", "_law_rows", "_law_first", "_law_second", "_law_way", "_law_part"]) (by decide)) (λ_ _ _ _ _ _=>ar4 λ_ _ _ _=>rfl) λnd _ _ _ _ _ _ _ hr=>(ao 'd' (ao 'd' (ao 'd' (ao (gu kQ rfl 'd' 'd' (ao (zSlc nd ["_law_numbers", "_law_kind", "_law_feed_here", "_law_deep", "_law_rows", "_law_first", "_law_second", "_law_way", "_law_part"] (ar (top 70)).names ["_law_number", "_law_first"] [none,some 5] 'd' (λnd _ _ _ _ _=>'d') (λnd _ _ _ _ _=>oW 'd') (λnd _ _ _ _ _=>'d')) 'd')) 'd'))))
def eF(s:PFx [false,true]):PSt:=
 (aj (ax false 2 (ai aq (aa (af 1) (aa (ah 8) ag))))
  (aj (xIf (qO (qNo (qOf (pFn (aO bc) (aa (af 0) (aa (pTy "tuple") ag))))) (qO (qOf (pOp bEq (pFn aJ (aa (af 0) ag)) (ah 0))) (qOf (pOp bEq (af 2) (ah 0))))) (aj (ax false 3 (aY (aa (aC "shape") (aa (aC "thin") (aa (aC "cases") (aa (ah 0) (aa (ah 1) (aa (ah 2) (aa (pUn ie (ah 1)) (aa (pBl true) (aa gx (aa (aH ag) (aa (aH (aa (aC "shape") ag)) (aa (aH (aa (aC "thin") (aa (ah 0) ag))) (aa (aY ag) (aa (aH (aa (aC "cases") (aa (aH ag) ag))) ag))))))))))))))))
  (aj (xIf (qAn (qOf (pFn (aO bc) (aa (af 0) (aa (pTy "int") ag)))) (qOf (pOp bGt (af 2) (ah 2)))) (ak (pOp aK (af 0) (pOp bIx (aY (aa (ah 1) (aa (pUn ie (ah 1)) ag))) (pOp bH (af 2) (ah 2))))) xNx)
  (ak (pOp bIx (af 3) (ai aq (aa (af 1) (aa (ah 14) ag))))))) xNx)
  (aj (ax false 4 (ai aq (aa (af 1) (aa (pFn aJ (aa (af 0) ag)) ag))))
  (aj (xIf (qOf (pOp bEq (af 2) (ah 1))) (ak (pOp aK (pSl (af 0) oN (oS (af 4))) (pSl (af 0) (oS (pOp aK (af 4) (ah 1))) oN))) xNx)
  (aj (xIf (qOf (pOp bEq (af 2) (ah 2))) (ak (pOp aK (pOp aK (pSl (af 0) oN (oS (af 4))) (pSl (af 0) (oS (af 4)) (oS (pOp aK (af 4) (ah 1))))) (pSl (af 0) (oS (af 4)) oN))) xNx)
  (aj (xIf (qOf (pOp bEq (af 2) (ah 3))) (ak (pFn gq (aa (af 0) ag))) xNx)
  (aj (xIf (qOf (pOp bEq (af 2) (ah 4))) (ak (pOp Ai (af 0) (pUn ie (ah 1)))) xNx)
  (ak (pOp aK (pOp aK (pSl (af 0) oN (oS (af 4))) (aH (aa (ai s.fn (aa (pOp bIx (af 0) (af 4)) (aa (af 1) ag))) ag))) (pSl (af 0) (oS (pOp aK (af 4) (ah 1))) oN))))))))))
def dC:Nat->PFx [false,true]
 |0=>PFx.none [false,true]
 |n+1=>PFx.of [false,true] 5 (eF (dC n))
theorem ke(T:TT w K mg):∀n,Callee P w K mg base "_law_bent" (3+n) ["_law_one", "_law_feed_here"] (sp3 K mg (dC n).fn)
 |0=>ok0 (T.d.get 69 rfl) (au (N:=["_law_one", "_law_feed_here", "_law_way", "_law_some", "_law_at"]) (by decide)) (λ_ _ _ _ _ _=>ar2 λ_ _=>rfl)
 |
  n+1=>by
  have ih:=ke T n;show Callee _ _ _ _ _ _ _ _ (sp3 _ _ (PFx.of [false,true] 5 (eF (dC n))).fn);exact okX (k:=3+n) (T.d.get 69 rfl) (au (N:=["_law_one", "_law_feed_here", "_law_way", "_law_some", "_law_at"]) (by decide)) (λ_ _ _ _ _ _=>ar2 λ_ _=>rfl) λnd _ _ _ _ _ _ _ hr=>'d'
def pR:PSt:=
 (ak (ai bo (aa (pOp aK (pOp bf (pOp bIx (af 0) (ah 0)) (pOp bIx (af 1) (ah 1))) (pOp bf (pOp bIx (af 1) (ah 0)) (pOp bIx (af 0) (ah 1)))) (aa (pOp bf (pOp bIx (af 0) (ah 1)) (pOp bIx (af 1) (ah 1))) ag))))
def de:PFn:=fnP [false,false] 2 pR
def xg:de.ms=[false,false]:=rfl
def uJ(T:TT w K mg):Callee P w K mg base "_law_add" 2 ["_law_one", "_law_other"] (sp3 K mg de):=okP (T.d.get 58 rfl) (au (N:=["_law_one", "_law_other"]) (by decide)) (λ_ _ _ _ _ _=>ar2 λ_ _=>rfl) λnd _ _ _ _ _ _ _ hr=>'d'
def eh(s:PFx [false,false,false,false]):PSt:=
 (aj (xIf (qO (qNo (qOf (pFn (aO bc) (aa (af 0) (aa (pTy "tuple") ag))))) (qOf (pOp bNe (pFn aJ (aa (af 0) ag)) (ah 2)))) (ak (pBl false)) xNx)
  (aj (eu (af 0) (gtX (gtT 2 (aM (gtN 4) (aM (gtN 5) cQ)))))
  (aj (xIf (qO (qNo (qOf (ai bY (aa (af 4) ag)))) (qOf (pOp gw (af 4) (aH (aa (ah 0) (aa (ah 1) ag)))))) (ak (pBl false)) xNx)
  (ak (ai s.fn (aa (af 5) (aa (pOp bIx (ai cK (aa (af 1) (aa (af 2) (aa (pOp bIx (af 3) (ah 0)) ag)))) (af 4)) (aa (pOp bIx (af 1) (pOp aK (af 4) (ah 1))) (aa (af 3) ag)))))))))
def bx(s:PFx [false,false,false,false]):PFn:=fnP [false,false,false,false] 6 (eh s)
def uH(s:PFx [false,false,false,false]):(bx s).ms=[false,false,false,false]:=rfl
def rJ(T:TT w K mg){s:PFx [false,false,false,false]}{k:Nat}(ih:Callee P w K mg base "bars" k ["paper", "room", "numbers", "asked"] (sp3 K mg s.fn))(hk:10<=k:=by omega):Callee P w K mg base "row_bars" (k+1) ["row", "cut", "room", "asked"] (sp3 K mg (bx s)):=okP (T.d.get 52 rfl) (au (N:=["row", "cut", "room", "asked", "at", "paper"]) (by decide)) (λ_ _ _ _ _ _=>ar4 λ_ _ _ _=>rfl) λnd _ _ _ _ _ _ _ hr=>'d'
def dG(s:PFx [false,false,false,false]):PSt:=
 (xIf (qNo (qOf (ai (bx s) (aa (af 5) (aa (af 6) (aa (af 1) (aa (af 3) ag))))))) (ak (pBl false)) xNx)
def fA(s:PFx [false,false,false,false]):PSt:=
 (aj (ax false 4 (ai dY (aa (af 2) (aa (pOp bIx (af 3) (ah 1)) ag))))
  (aj (xIf (qOf (pOp bNe (pFn aJ (aa (af 0) ag)) (pFn aJ (aa (af 4) ag)))) (ak (pBl false)) xNx)
  (aj (cS (xK (aa (af 0) (aa (af 4) ag))) (gtX (gtT 2 (aM (gtN 5) (aM (gtN 6) cQ)))) (dG s))
  (ak (pBl true)))))
def bR(s:PFx [false,false,false,false]):PFn:=fnP [false,false,false,false] 7 (fA s)
def mf(s:PFx [false,false,false,false]):(bR s).ms=[false,false,false,false]:=rfl
def lI(T:TT w K mg){s:PFx [false,false,false,false]}{k:Nat}(ih:Callee P w K mg base "bars" k ["paper", "room", "numbers", "asked"] (sp3 K mg s.fn))(hk:10<=k:=by omega):Callee P w K mg base "all_cases_bar" (k+2) ["rows", "room", "numbers", "asked"] (sp3 K mg (bR s)):=okP (T.d.get 51 rfl) (au (N:=["rows", "room", "numbers", "asked", "cuts", "row", "cut"]) (by decide)) (λ_ _ _ _ _ _=>ar4 λ_ _ _ _=>rfl) λnd _ _ _ _ _ _ _ hr=>'d'
def c5(s:PFx [false,false,false,false]):PSt:=
 (aj (xIf (qNo (qOf (pFn (aO bc) (aa (af 0) (aa (pTy "tuple") ag))))) (ak (pBl false)) xNx)
  (aj (xIf (qOf (pOp bEq (pFn aJ (aa (af 0) ag)) (ah 1))) (ak (fE (pOp bEq (pOp bIx (af 0) (ah 0)) (aC "shape")) (fE (pOp bEq (pFn aJ (aa (af 2) ag)) (ah 1)) (ai fZ (aa (af 1) (aa (af 3) ag)))))) xNx)
  (aj (xIf (qOf (pOp bNe (pFn aJ (aa (af 0) ag)) (ah 2))) (ak (pBl false)) xNx)
  (aj (eu (af 0) (gtX (gtT 2 (aM (gtN 4) (aM (gtN 5) cQ)))))
  (aj (xIf (qOf (pOp bEq (af 4) (aC "thin"))) (ak (fE (ai bY (aa (af 5) ag)) (fE (pOp bIn (af 5) (af 2)) (ai eY (aa (af 5) (aa (af 1) (aa (af 2) (aa (af 3) ag)))))))) xNx)
  (aj (xIf (qOf (pOp bEq (af 4) (aC "cases"))) (ak (fE (pOp bGt (pFn aJ (aa (af 2) ag)) (ah 1)) (fE (pFn (aO bc) (aa (af 5) (aa (pTy "tuple") ag))) (ai (bR s) (aa (af 5) (aa (af 1) (aa (af 2) (aa (af 3) ag)))))))) xNx)
  (ak (pBl false))))))))
def iq:Nat->PFx [false,false,false,false]
 |0=>PFx.none [false,false,false,false]
 |n+1=>PFx.of [false,false,false,false] 6 (c5 (iq n))
theorem qI(T:TT w K mg):∀n,Callee P w K mg base "bars" (10+3*n) ["paper", "room", "numbers", "asked"] (sp3 K mg (iq n).fn)
 |0=>ok0 (T.d.get 50 rfl) (au (N:=["paper", "room", "numbers", "asked", "word", "held"]) (by decide)) (λ_ _ _ _ _ _=>ar4 λ_ _ _ _=>rfl)
 |
  n+1=>by
  have ih:=qI T n;show Callee _ _ _ _ _ _ (10+3*n+2+1) _ (sp3 _ _ (PFx.of [false,false,false,false] 6 (c5 (iq n))).fn);exact okX (k:=10+3*n+2) (T.d.get 50 rfl) (au (N:=["paper", "room", "numbers", "asked", "word", "held"]) (by decide)) (λ_ _ _ _ _ _=>ar4 λ_ _ _ _=>rfl) λnd _ _ _ _ _ _ _ hr=>'d'
def sr:PSt:=
 (aj (cB (ai cF (aa (af 0) (aa (af 1) (aa (af 2) ag)))))
  (ak (ai (iq 7).fn (aa (af 4) (aa (af 0) (aa (pFn fc (aa (pFn aJ (aa (af 1) ag)) ag)) (aa (aH (aa (af 1) (aa (af 2) (aa (af 3) ag)))) ag)))))))
def fW:PFn:=fnP [false,false,false,false,false] 5 sr
def zQ:fW.ms=[false,false,false,false,false]:=rfl
def wV(T:TT w K mg):Callee P w K mg base "stands" 32 ["room", "weights", "kind", "bound", "paper"] (sp3 K mg fW):=okP (T.d.get 45 rfl) (au (N:=["room", "weights", "kind", "bound", "paper"]) (by decide)) (λ_ _ _ _ _ _=>ar5 λ_ _ _ _ _=>rfl) λnd _ _ _ _ _ _ _ hr=>'d'
def nI:PSt:=
 (ak (pOp bLt (pOp bf (pOp bIx (af 0) (ah 0)) (pOp bIx (af 1) (ah 1))) (pOp bf (pOp bIx (af 1) (ah 0)) (pOp bIx (af 0) (ah 1)))))
def cN:PFn:=fnP [false,false] 2 nI
def uR:cN.ms=[false,false]:=rfl
def uc(T:TT w K mg):Callee P w K mg base "_law_less" 1 ["_law_one", "_law_other"] (sp3 K mg cN):=okP (T.d.get 61 rfl) (au (N:=["_law_one", "_law_other"]) (by decide)) (λ_ _ _ _ _ _=>ar2 λ_ _=>rfl) λnd _ _ _ _ _ _ _ hr=>'d'
def nW:PSt:=
 (ak (ai bo (aa (pOp bf (pOp bIx (af 0) (ah 0)) (pOp bIx (af 1) (ah 1))) (aa (pOp bf (pOp bIx (af 0) (ah 1)) (pOp bIx (af 1) (ah 0))) ag))))
def dJ:PFn:=fnP [false,false] 2 nW
def uI:dJ.ms=[false,false]:=rfl
def rO(T:TT w K mg):Callee P w K mg base "_law_over" 2 ["_law_one", "_law_other"] (sp3 K mg dJ):=okP (T.d.get 60 rfl) (au (N:=["_law_one", "_law_other"]) (by decide)) (λ_ _ _ _ _ _=>ar2 λ_ _=>rfl) λnd _ _ _ _ _ _ _ hr=>'d'
def lN:PSt:=
 (aj (xIf (qOf (ai cN (aa (pOp bIx (af 0) (ah 2)) (aa (pOp bIx (af 0) (ah 3)) ag)))) (ak (ai dJ (aa (pOp bIx (af 0) (ah 3)) (aa (pOp bIx (af 0) (ah 2)) ag)))) xNx)
  (ak (ai dJ (aa (pOp bIx (af 0) (ah 2)) (aa (pOp bIx (af 0) (ah 3)) ag)))))
def eK:PFn:=fnP [false] 1 lN
def sP:eK.ms=[false]:=rfl
def qP(T:TT w K mg):Callee P w K mg base "_law_shape" 3 ["_law_box"] (sp3 K mg eK):=okP (T.d.get 65 rfl) (au (N:=["_law_box"]) (by decide)) (λ_ _ _ _ _ _=>ar1 λ_=>rfl) λnd _ _ _ _ _ _ _ hr=>'d'
def lL:PSt:=
 (ak (ai bo (aa (pOp bf (pOp bIx (af 0) (ah 0)) (pOp bIx (af 1) (ah 0))) (aa (pOp bf (pOp bIx (af 0) (ah 1)) (pOp bIx (af 1) (ah 1))) ag))))
def bt:PFn:=fnP [false,false] 2 lL
def tf:bt.ms=[false,false]:=rfl
def qX(T:TT w K mg):Callee P w K mg base "_law_times" 2 ["_law_one", "_law_other"] (sp3 K mg bt):=okP (T.d.get 59 rfl) (au (N:=["_law_one", "_law_other"]) (by decide)) (λ_ _ _ _ _ _=>ar2 λ_ _=>rfl) λnd _ _ _ _ _ _ _ hr=>'d'
def nH:PSt:=
 (aj (ax false 4 (pOp bIx (af 0) (ah 2)))
  (aj (xIf (qOf (ai cN (aa (pOp bIx (af 0) (ah 3)) (aa (af 4) ag)))) (ax false 4 (pOp bIx (af 0) (ah 3))) xNx)
  (aj (ax false 5 (ai bo (aa (pOp bIx (af 3) (af 1)) (aa (pFn gI (aa (pLC (ba (af 2)) [none,some 3] (by decide) (gtN 0) qY (pOp bIx (af 1) (af 0))) ag)) ag))))
  (ak (ai dJ (aa (ai bt (aa (ai bt (aa (pOp bIx (af 0) (ah 2)) (aa (pOp bIx (af 0) (ah 3)) ag))) (aa (af 5) ag))) (aa (ai bt (aa (af 4) (aa (af 4) ag))) ag)))))))
def fq:PFn:=fnP [false,false,false,false] 6 nH
def uM:fq.ms=[false,false,false,false]:=rfl
def sM(T:TT w K mg):Callee P w K mg base "_law_thin" 3 ["_law_box", "_law_number", "_law_numbers", "_law_weights"] (sp3 K mg fq):=okP (T.d.get 67 rfl) (au (N:=["_law_box", "_law_number", "_law_numbers", "_law_weights", "_law_side_here", "_law_share"]) (by decide)) (λ_ _ _ _ _ _=>ar4 λ_ _ _ _=>rfl) λnd _ _ _ _ _ _ _ hr=>(ao 'd' (ao 'd' (ao (zsS 5 nd (zcF (lQ T) hr (bq 'd' (bq (eP (gv (K:=K) rfl rfl) kT rfl (T.n rfl) (by first |exact boF rfl |exact boT rfl) (bq (fF ["_law_box", "_law_number", "_law_numbers", "_law_weights", "_law_side_here", "_law_share"] (ar (top 67)).names ["_law_k", "_law_weights"] [none,some 3] 'd' (λnd _ _ _ _ _=>'d') (λ_ _ _ _ _ _=>cm) (λnd _ _ _ _ _=>'d')) 'd')) 'd')))) 'd')))
def eA:PSt:=
 (aj (iS 10 11 (aa (ai bo (aa (af 8) (aa (pFn gI (aa (af 2) ag)) ag))) (aa (ai bo (aa (af 9) (aa (pFn gI (aa (af 2) ag)) ag))) ag)))
  (aj (xIf (qOf (pOp bEq (af 1) (aC "across"))) (cB (iQ 7 du (aa (aH (aa (ai de (aa (af 3) (aa (ai bt (aa (af 5) (aa (af 10) ag))) ag))) (aa (af 4) (aa (ai bt (aa (af 5) (aa (af 11) ag))) (aa (af 6) ag))))) ag))) (cB (iQ 7 du (aa (aH (aa (af 3) (aa (ai de (aa (af 4) (aa (ai bt (aa (af 6) (aa (af 10) ag))) ag))) (aa (af 5) (aa (ai bt (aa (af 6) (aa (af 11) ag))) ag))))) ag))))
  (ax false 8 (pOp aK (af 8) (af 9)))))
def p9:PSt:=
 (aj (eu (af 0) (gtX (gtT 4 (aM (gtN 3) (aM (gtN 4) (aM (gtN 5) (aM (gtN 6) cQ)))))))
  (aj (ax true 7 (aY ag))
  (aj (ax false 8 (ah 0))
  (aj (cS (ba (af 2)) (gtN 9) (eA))
  (ak (af 7))))))
def gp:PFn:=fnP [false,false,false] 12 p9
def xB:gp.ms=[false,false,false]:=rfl
def uO(T:TT w K mg):Callee P w K mg base "_law_cut" 3 ["_law_box", "_law_way", "_law_weights"] (sp3 K mg gp):=okP (T.d.get 64 rfl) (au (N:=["_law_box", "_law_way", "_law_weights", "_law_left", "_law_top", "_law_wide", "_law_high", "_law_boxes", "_law_done", "_law_weight", "_law_far", "_law_part"]) (by decide)) (λ_ _ _ _ _ _=>ar3 λ_ _ _=>rfl) λnd _ _ _ _ _ _ _ hr=>'d'
def bD(s:PFx [false,false,false,false,false,false]):PSt:=
 (aj (xIf (qO (qOf (pOp bEq (af 6) (aY ag))) (qO (qNo (qOf (pFn (aO bc) (aa (pOp bIx (af 6) (ah 0)) (aa (pTy "tuple") ag))))) (qOf (pOp bNe (pFn aJ (aa (pOp bIx (af 6) (ah 0)) ag)) (ah 2))))) (ak (pBl false)) xNx)
  (aj (eu (iQ 6 oI (aa (ah 0) ag)) (gtX (gtU 2 (aM (gtN 11) (aM (gtN 12) cQ)))))
  (aj (xIf (qO (qOf (pFn (aO bc) (aa (af 11) (aa (pTy "bool") ag)))) (qO (qNo (qOf (pFn (aO bc) (aa (af 11) (aa (pTy "int") ag))))) (qNo (By 0 1 11)))) (ak (pBl false)) xNx)
  (xIf (qNo (qOf (ai s.fn (aa (pOp bIx (ai gp (aa (af 0) (aa (af 10) (aa (af 9) ag)))) (af 11)) (aa (pOp bIx (aY (aa (af 7) (aa (af 8) ag))) (af 11)) (aa (af 2) (aa (af 3) (aa (af 4) (aa (af 12) ag))))))))) (ak (pBl false)) xNx))))
def ck(s:PFx [false,false,false,false,false,false]):PSt:=
 (aj (ax false 8 (pLC (ba (af 1)) [none,some 7] (by decide) (gtN 0) (qOf (pOp gw (af 0) (af 1))) (af 0)))
  (aj (ax false 9 (aY (aa (pFn gI (aa (pLC (ba (af 7)) [none,some 2] (by decide) (gtN 0) qY (pOp bIx (af 1) (af 0))) ag)) (aa (pFn gI (aa (pLC (ba (af 8)) [none,some 2] (by decide) (gtN 0) qY (pOp bIx (af 1) (af 0))) ag)) ag))))
  (cS (ba (aY (aa (aC "across") (aa (aC "down") ag)))) (gtN 10) (bD s))))
def aZ(s:PFx [false,false,false,false,false,false]):PSt:=
 (aj (xIf (qO (qNo (qOf (pFn (aO bc) (aa (af 5) (aa (pTy "tuple") ag))))) (qOf (pOp bEq (pFn aJ (aa (af 5) ag)) (ah 0)))) (ak (pBl false)) xNx)
  (aj (xIf (qAn (qOf (pOp bEq (pOp bIx (af 5) (ah 0)) (aC "shape"))) (qOf (pOp bEq (pFn aJ (aa (af 5) ag)) (ah 1)))) (ak (fE (pOp bEq (pFn aJ (aa (af 1) ag)) (ah 1)) (lX (ai cN (aa (ai eK (aa (af 0) ag)) (aa (af 4) ag)))))) xNx)
  (aj (xIf (qAn (qOf (pOp bEq (pOp bIx (af 5) (ah 0)) (aC "thin"))) (qOf (pOp bEq (pFn aJ (aa (af 5) ag)) (ah 2)))) (aj (xIf (qO (qOf (pFn (aO bc) (aa (pOp bIx (af 5) (ah 1)) (aa (pTy "bool") ag)))) (qO (qNo (qOf (pFn (aO bc) (aa (pOp bIx (af 5) (ah 1)) (aa (pTy "int") ag))))) (qOf (pOp gw (pOp bIx (af 5) (ah 1)) (af 1))))) (ak (pBl false)) xNx)
  (ak (lX (ai cN (aa (ai fq (aa (af 0) (aa (pOp bIx (af 5) (ah 1)) (aa (af 1) (aa (af 2) ag))))) (aa (af 4) ag)))))) xNx)
  (aj (xIf (qO (qOf (pOp bNe (pOp bIx (af 5) (ah 0)) (aC "cases"))) (qO (qOf (pOp bNe (pFn aJ (aa (af 5) ag)) (ah 2))) (qO (qNo (qOf (pFn (aO bc) (aa (pOp bIx (af 5) (ah 1)) (aa (pTy "tuple") ag))))) (qOf (pOp bEq (pFn aJ (aa (af 1) ag)) (ah 1)))))) (ak (pBl false)) xNx)
  (aj (ax true 6 (pFn gq (aa (pOp bIx (af 5) (ah 1)) ag)))
  (aj (cS (ba (ai bE (aa (af 1) (aa (af 3) ag)))) (gtN 7) (ck s))
  (ak (pOp bEq (af 6) (aY ag)))))))))
def cL:Nat->PFx [false,false,false,false,false,false]
 |0=>PFx.none [false,false,false,false,false,false]
 |n+1=>PFx.of [false,false,false,false,false,false] 13 (aZ (cL n))
theorem jY(T:TT w K mg):∀n,Callee P w K mg base "_law_bars" (5+n) ["_law_box", "_law_numbers", "_law_weights", "_law_kind", "_law_bound", "_law_paper"] (sp3 K mg (cL n).fn)
 |0=>ok0 (T.d.get 68 rfl) (au (N:=["_law_box", "_law_numbers", "_law_weights", "_law_kind", "_law_bound", "_law_paper", "_law_rows", "_law_first", "_law_second", "_law_sums", "_law_way", "_law_part", "_law_inner"]) (by decide)) (λ_ _ _ _ _ _=>ar6 λ_ _ _ _ _ _=>rfl)
 |
  n+1=>by
  have ih:=jY T n;show Callee _ _ _ _ _ _ _ _ (sp3 _ _ (PFx.of [false,false,false,false,false,false] 13 (aZ (cL n))).fn);exact okX (k:=5+n) (T.d.get 68 rfl) (au (N:=["_law_box", "_law_numbers", "_law_weights", "_law_kind", "_law_bound", "_law_paper", "_law_rows", "_law_first", "_law_second", "_law_sums", "_law_way", "_law_part", "_law_inner"]) (by decide)) (λ_ _ _ _ _ _=>ar6 λ_ _ _ _ _ _=>rfl) λnd _ _ _ _ _ _ _ hr=>(ao 'd' (ao 'd' (ao 'd' (ao 'd' (ao 'd' (ao (gu kQ rfl 'd' 'd' (ao (zSlc nd ["_law_box", "_law_numbers", "_law_weights", "_law_kind", "_law_bound", "_law_paper", "_law_rows", "_law_first", "_law_second", "_law_sums", "_law_way", "_law_part", "_law_inner"] (ar (top 68)).names ["_law_number", "_law_first"] [none,some 7] 'd' (λnd _ _ _ _ _=>'d') (λnd _ _ _ _ _=>oW 'd') (λnd _ _ _ _ _=>'d')) (ao (zsS 9 nd (yr (bq (eP (gv (K:=K) rfl rfl) kT rfl (T.n rfl) (by first |exact boF rfl |exact boT rfl) (bq (fF ["_law_box", "_law_numbers", "_law_weights", "_law_kind", "_law_bound", "_law_paper", "_law_rows", "_law_first", "_law_second", "_law_sums", "_law_way", "_law_part", "_law_inner"] (ar (top 68)).names ["_law_k", "_law_weights"] [none,some 2] 'd' (λnd _ _ _ _ _=>'d') (λ_ _ _ _ _ _=>cm) (λnd _ _ _ _ _=>'d')) 'd')) (bq (eP (gv (K:=K) rfl rfl) kT rfl (T.n rfl) (by first |exact boF rfl |exact boT rfl) (bq (fF ["_law_box", "_law_numbers", "_law_weights", "_law_kind", "_law_bound", "_law_paper", "_law_rows", "_law_first", "_law_second", "_law_sums", "_law_way", "_law_part", "_law_inner"] (ar (top 68)).names ["_law_k", "_law_weights"] [none,some 2] 'd' (λnd _ _ _ _ _=>'d') (λ_ _ _ _ _ _=>cm) (λnd _ _ _ _ _=>'d')) 'd')) 'd')))) (cJ (gu kQ rfl 'd' 'd' (ao 'd' (ao 'd' (ao (jN (ZW.dt (wI 'd' (wI 'd' (xO (nB F1))))) 'd' 'd') 'd')))))))) 'd'))))))
def kL:PSt:=
 (ax false 6 (ai (dC 40).fn (aa (af 6) (aa (af 1) ag))))
def rA:PSt:=
 (aj (ax true 1 (ai fH (aa (af 0) ag)))
  (aj (ax false 2 (pOp bIx (aY (aa (aC "order") (aa (aC "any") ag))) (ai aq (aa (af 1) (aa (ah 2) ag)))))
  (aj (eu (ai gz (aa (af 1) (aa (pOp fh (rh ["order", "any"] (aa (ah 6) (aa (ah 5) ag))) (af 2)) ag))) (gtX (gtU 2 (aM (gtN 3) (aM (gtN 4) cQ)))))
  (aj (ax false 5 (pFn fc (aa (pFn aJ (aa (af 4) ag)) ag)))
  (aj (ax false 6 (ai fj (aa (af 3) (aa (af 4) (aa (af 2) ag)))))
  (aj (ax false 7 (pOp bIx (ai cG (aa (af 3) (aa (af 4) (aa (af 2) ag)))) (ah 0)))
  (aj (xIf (qOf (pOp bEq (ai aq (aa (af 1) (aa (ah 3) ag))) (ah 0))) (ax false 6 (ai (df 4).fn (aa (af 5) (aa (af 2) (aa (af 1) (aa (ah 2) ag)))))) xNx)
  (aj (cS (jD (aa (ai aq (aa (af 1) (aa (ah 3) ag))) ag)) (gtN 8) (kL))
  (aj (ax false 9 (ai bo (aa (pOp aK (ah 1) (ai aq (aa (af 1) (aa (ah 20) ag)))) (aa (pOp aK (ah 1) (ai aq (aa (af 1) (aa (ah 200) ag)))) ag))))
  (aj (ax false 10 (aY (aa (af 7) (aa (af 7) (aa (ai de (aa (af 7) (aa (af 9) ag))) (aa (ai de (aa (af 7) (aa (aH (aa (pOp my (ah 0) (pOp bIx (af 9) (ah 0))) (aa (pOp bIx (af 9) (ah 1)) ag))) ag))) (aa (aH (aa (ah 0) (aa (ah 1) ag))) (aa (aH (aa (pUn ie (ah 3)) (aa (ah 2) ag))) (aa (aH (aa (ah 1) (aa (ah 1) ag))) ag)))))))))
  (aj (ax false 11 (pOp bIx (pOp aK (af 10) (aY (aa (aH (aa (pOp my (pOp mB (ah 10) (ah 30)) (ah 1)) (aa (ah 1) ag))) ag))) (ai aq (aa (af 1) (aa (ah 8) ag)))))
  (aj (ax false 12 (aY (aa (pFn gq (aa (af 4) ag)) (aa (pFn hE (aa (af 6) ag)) ag))))
  (aj (ax false 13 (ai fW (aa (af 3) (aa (pOp bIx (af 12) (ah 0)) (aa (af 2) (aa (af 11) (aa (af 6) ag)))))))
  (aj (xIf (qO (qNo (qOf (pFn (aO bc) (aa (af 13) (aa (pTy "bool") ag))))) (qOf (pOp bNe (af 12) (aY (aa (af 4) (aa (pFn hE (aa (af 6) ag)) ag)))))) (ak (pBl false)) xNx)
  (ak (pOp bEq (af 13) (ai (cL 7).fn (aa (af 3) (aa (af 5) (aa (af 4) (aa (af 2) (aa (af 11) (aa (af 6) ag)))))))))))))))))))))))
def xm:PFn:=fnP [false] 14 rA
def DK(T:TT w K mg):Callee P w K mg base "law" 44 ["_law_script"] (sp3 K mg xm):=okP (T.d.get 71 rfl) (au (N:=["_law_script", "_law_feed_here", "_law_kind", "_law_room", "_law_weights", "_law_numbers", "_law_paper", "_law_least", "_law_bout", "_law_more", "_law_bounds", "_law_bound", "_law_handed", "_law_found"]) (by decide)) (λ_ _ _ _ _ _=>ar1 λ_=>rfl) λnd _ _ _ _ _ _ _ hr=>(ao 'd' (ao 'd' (ao (pj (zcF (kM T) hr (bq 'd' (bq (vc (CN hr) (ve (gY jx (gY jx vZ))) 'd' (λ_ _=>rfl)) 'd'))) 'd') 'd')))
end
noncomputable def fdD (cs:List Int) (a l:Int):Val:=.dct [(.inr "cells",.lst (cs.map .int)),(.inr "at",.int a),(.inr "left",.int l)]
def Fd(n:Nat)(v:Val):Prop:=∃cs a l,v=fdD cs a l/\0<=a/\a<=n
def Fd.mono{n m:Nat}{v:Val}(h:Fd n v)(q:n<=m):Fd m v:=by obtain⟨cs,a,l,e,h0,h1⟩:=h;exact⟨cs,a,l,e,h0,by omega⟩
def gU(cs:List Int)(a l:Int):fh.G (fdD cs a l) (.str "cells")=.val (.lst (cs.map .int)):=rfl
def nU(cs:List Int)(a l:Int):fh.G (fdD cs a l) (.str "at")=.val (.int a):=rfl
def jo(cs:List Int)(a l:Int):fh.G (fdD cs a l) (.str "left")=.val (.int l):=rfl
def jd(cs:List Int)(a l x:Int):seD.G (fdD cs a l) (.str "at") (.int x)=some (fdD cs x l):=rfl
def hV(cs:List Int)(a l x:Int):seD.G (fdD cs a l) (.str "left") (.int x)=some (fdD cs a x):=rfl
def rl:mB.G (.int 10) (.int 18)=.val (.int (10^18)):=CH ⟨by decide,by decide,by decide⟩
def d7{a m:Int}(h:0<m):0<=a.fmod m/\a.fmod m<m:=⟨Int.fmod_nonneg_of_pos a h,Int.fmod_lt_of_pos a h⟩
set_option hygiene false in
local macro_rules | `(tactic|simp![$args,*])=>do
 let l <- ("% gB Ir Ij Jb Jd Gd iM IK JD AI w6 Fl Gi HA HN GZ Hd E8 GF Ep Bf HD GA Ge He EK Fo JP IL v_bl Kk Jr v_ty Ie v_un v_op Jf E4 v_fn JF Ka ID Iz v_if c_of c_an c_o c_no c_y x_nx x_ct Jp EF EM ET GL Cg x_if Jk IX Kf C9 BC A8 g_n g_sn g_sc g_t g_x FJ JE JJ Im Ec JT Ks II Jh Kr Fs FZ Jm BF Jq JK Ju G9 Gk FD FI IZ JI Jn jz v_lc Hr GU HK o_n o_s v_sl Iq fx_G Kl Kg k_lt k_gt k_ge Jo IC k_ix E5 ye k_eq k_ne JM JL k_is J3 Iw Iu Jj Jc Gz D5 Ar pv List.getElem?_cons_zero List.getElem?_cons_succ List.set_cons_zero List.set_cons_succ List.length_cons List.length_nil Option.bind_some Option.map_some Option.isSome_some if_true if_false Bool.not_true Bool.not_false Bool.and_true Bool.true_and Bool.and_false Bool.false_and Bool.or_true Bool.true_or Bool.or_false Nat.reduceLeDiff Nat.reduceLT Nat.reduceAdd Nat.reduceSub Nat.zero_add Nat.add_zero Nat.sub_self List.cons_append List.nil_append List.append_nil List.replicate reduceIte reduceCtorEq decide_true decide_false Bool.false_eq_true List.all_cons List.all_nil List.isEmpty_nil List.map_cons List.map_nil Int.reduceBEq Int.reduceLT Int.reduceLE Int.reduceAdd Int.reduceSub Int.reduceMul Int.cast_ofNat_Int GS DQ Fe Gv DJ Bn GR xS Eo Hk Ej zD C3 HB BS FP Dj Fv Bt GK GN EC Je J5 Kj Jl yJ zN yW fo eJ kS AG pD yy kR ati0 ati1 ati2 ati3 bA Hl FK Int.reduceNeg EH Ft E7 g_u g_uL nD Jy uL uU xF uo uP ur uK lG oA zP tI sS l7 qN oE wC uF uE C2 BG wR wy yz rM AL AW yK zx tD uv o8 oY yx uC xA n5 uG qW xg uH mf zQ uR uI sP tf uM xB nO EN".splitOn " ").tail.mapM λs=>`(Lean.Parser.Tactic.simpLemma| $(Lean.mkIdent s.toName):term)
 `(tactic|simp only[$(l.toArray),*,$args,*])
def Dk{ns:List Int}(hl:ns.length<=63):∃v,fH.G [.kl (ns.map .int)]=.ok (.new v) []/\Fd 0 v:=by
 refine⟨fdD ns 0 0,?_,ns,0,0,rfl,by omega,by omega⟩;unfold fH;rw[aE];unfold nJ;have e:aSl (.kl (ns.map Val.int)) none (some 63)=.new (.lst (ns.map Val.int)):=by
  have:=J9 (ns.map Val.int) none (some ((63:Nat):Int))
  rw[nq,Ln (by rw[j_];exact hl)] at this;exact this
 have c:Val.items (.lst (ns.map Val.int))=some (ns.map Val.int):=rfl;simp![nD,e,c];rfl
def az{n:Nat}{v:Val}{m:Int}(f:Fd n v)(hn:n<=1000000000)(h0:0<m)(hm:Sm 8000 m):∃r v',aq.G [v,.int m]=.ok (.val (.int r)) [v']/\Fd (n+1) v'/\0<=r/\r<m:=by
 obtain⟨cs,a,l,rfl,a0,a1⟩:=f;have m0:m≠0:=by omega
 have d1:=λi=>fm (i:=i) m0;have d2:=λi=>kY (i:=i) (CDivB.of m0 hm);unfold aq;rw[aE];unfold nh;have x1:bf.G (.int 61) (.int a)=.val (.int (61*a)):=bp (CMulA.left (by decide) (by decide));have x2:bf.G (.int (61*a)) (.int a)=.val (.int (61*a*a)):=bp (CMulA.right (by omega) (by omega));have x3:bf.G (.int 7) (.int a)=.val (.int (7*a)):=bp (CMulA.left (by decide) (by decide));have x4:∀x:Int,bf.G (.int x) (.int 48271)=.val (.int (x*48271)):=λx=>bp (CMulA.right (by decide) (by decide));have x5:∀x:Int,bf.G (.int x) (.int 69623)=.val (.int (x*69623)):=λx=>bp (CMulA.right (by decide) (by decide));have x6:bf.G (.int 7919) (.int a)=.val (.int (7919*a)):=bp (CMulA.left (by decide) (by decide));have x7:∀x:Int,bf.G (.int x) (.int 16811)=.val (.int (x*16811)):=λx=>bp (CMulA.right (by decide) (by decide));have y1:∀x:Int,bH.G (.int x) (.int 1000003)=.val (.int (x.fmod 1000003)):=λx=>fm (by decide);have y2:∀x:Int,bH.G (.int x) (.int 999983)=.val (.int (x.fmod 999983)):=λx=>fm (by decide);have y3:∀x:Int,bH.G (.int x) (.int 1999993)=.val (.int (x.fmod 1999993)):=λx=>fm (by decide);have y4:∀x:Int,bH.G (.int x) (.int 524287)=.val (.int (x.fmod 524287)):=λx=>fm (by decide);have y5:∀x:Int,iX.G (.int x) (.int 5)=.val (.int (x.fdiv 5)):=λx=>kY (CDivB.of (by decide) (sm8 (by decide)));by_cases hc:0<l
 .have hc':decide (0<l)=true:=x_ hc;refine⟨l.fmod m,fdD cs a (l.fdiv m),?_,⟨cs,a,_,rfl,a0,by omega⟩,d7 h0⟩;simp![hc',d1,d2,gU,nU,jo,jd,hV]
 .have hc':decide (0<l)=false:=v_ hc;have d_:∀x:Int,∃r v',(R3F.ok (Rt.val (.int (x.fmod m))) [fdD cs (a+1) l]:R3F)=.ok (.val (.int r)) [v']/\Fd (n+1) v'/\0<=r/\r<m:=λx=>⟨_,_,rfl,⟨cs,_,_,rfl,by omega,by omega⟩,d7 h0⟩;have z18:((10:Int)^18)=1000000000000000000:=by decide
  by_cases hl:0<cs.length
  .have r:=d7 (a:=a) (m:=(cs.length:Nat)) (by omega);have hi:(a.fmod (cs.length:Nat)).toNat<cs.length:=by omega
   have at1:atI (cs.map Val.int) (a.fmod (cs.length:Nat))=some (.int cs[(a.fmod (cs.length:Nat)).toNat]):=gm r.1 (by rw[Kz,B_ hi];rfl);have l1:decide ((0:Int)<((cs.length:Nat):Int))=true:=x_ (by omega);have e1:bH.G (.int a) (.int (cs.length:Nat))=.val (.int (a.fmod (cs.length:Nat))):=fm (by omega);by_cases hb:(10^18:Int)<=cs[(a.fmod (cs.length:Nat)).toNat]
   .have hb':=x_ hb;by_cases ha:a<(cs.length:Nat)
    .have ha':=x_ ha;refine⟨(cs[(a.fmod (cs.length:Nat)).toNat]).fmod m,fdD cs (a+1) ((cs[(a.fmod (cs.length:Nat)).toNat]).fdiv m),?_,⟨cs,_,_,rfl,by omega,by omega⟩,d7 h0⟩;simp![hc',d1,d2,gU,nU,jo,jd,hV,j_,l1,e1,at1,rl,hb',ha']
    .have ha':=v_ ha;simp![hc',d1,d2,gU,nU,jo,jd,hV,j_,l1,e1,at1,rl,hb',ha',x1,x2,x3,x4,x5,x6,x7,y1,y2,y3,y4,y5];exact d_ _
   .have hb':=v_ hb;simp![hc',d1,d2,gU,nU,jo,jd,hV,j_,l1,e1,at1,rl,hb',x1,x2,x3,x4,x5,x6,x7,y1,y2,y3,y4,y5];exact d_ _
  .have l1:decide ((0:Int)<((cs.length:Nat):Int))=false:=v_ (by omega);have hb':decide ((10^18:Int)<=a)=false:=v_ (by rw[z18];omega);simp![hc',d1,d2,gU,nU,jo,jd,hV,j_,l1,rl,hb',x1,x2,x3,x4,x5,x6,x7,y1,y2,y3,y4,y5];exact d_ _
def Kw:gW [.int 6]=some [.int 0,.int 1,.int 2,.int 3,.int 4,.int 5]:=gM (i:=6) (by decide) (by decide)
def tM{n:Nat}{v:Val}(f:Fd n v)(hn:n<=900000000):∃r v',cP.G [v,.int 6]=.ok (.val (.int r)) [v']/\Fd (n+6) v'/\0<=r:=by have s:Sm 8000 100000:=sm8 (by decide);obtain⟨r1,v1,e1,f1,a1,_⟩:=az (m:=100000) f (by omega) (by decide) s;obtain⟨r2,v2,e2,f2,a2,_⟩:=az (m:=100000) f1 (by omega) (by decide) s;obtain⟨r3,v3,e3,f3,a3,_⟩:=az (m:=100000) f2 (by omega) (by decide) s;obtain⟨r4,v4,e4,f4,a4,_⟩:=az (m:=100000) f3 (by omega) (by decide) s;obtain⟨r5,v5,e5,f5,a5,_⟩:=az (m:=100000) f4 (by omega) (by decide) s;obtain⟨r6,v6,e6,f6,a6,_⟩:=az (m:=100000) f5 (by omega) (by decide) s;have c6:∀x:Int,bf.G (.int x) (.int 100000)=.val (.int (x*100000)):=λx=>bp (CMulA.right (by decide) (by decide));refine⟨((((((0*100000+r1)*100000+r2)*100000+r3)*100000+r4)*100000+r5)*100000+r6),v6,?_,f6.mono (by omega),by omega⟩;unfold cP;rw[aE];unfold lJ kG;simp![Kw,aF,c6,e1,e2,e3,e4,e5,e6]
def uW(a:Int):(if a<0 then -a else a)=((a.natAbs:Nat):Int):=by split <;> omega
theorem rR:∀(n one a_:Nat),a_<=n->(xWh (qOf (pOp bNe (af 1) (ah 0))) cT).G [.sh (.int (one:Nat)),.sh (.int (a_:Nat))]=.nx [.sh (.int (Nat.gcd one a_:Nat)),.sh (.int 0)]
 |
  n,one,0,_=>by
  rw[xk];simp![gB];rw[Nat.gcd_zero_right];try rfl
 |0,one,a_+1,hl=>absurd hl (by omega)
 |
  n+1,one,a_+1,hl=>by
  rw[xk];have e:((((a_+1:Nat):Int)==0))=false:=by rw[r_];omega
  have e1:bH.G (.int (one:Nat)) (.int ((a_+1:Nat):Int))=.val (.int (((one:Nat):Int).fmod ((a_+1:Nat):Int))):=fm (by omega);have e2:((one:Nat):Int).fmod ((a_+1:Nat):Int)=((one % (a_+1):Nat):Int):=by rw[Int.fmod_eq_emod_of_nonneg _ (by omega)];rfl
  have ih:=rR n (a_+1) (one % (a_+1)) (by have:=Nat.mod_lt one (show a_+1>0 by omega);omega);rw[Fr.euc] at ih;rw[e2] at e1;have bb:cT.G [.sh (.int (one:Nat)),.sh (.int ((a_+1:Nat):Int))]=.nx [.sh (.int ((a_+1:Nat):Int)),.sh (.int ((one % (a_+1):Nat):Int))]:=by unfold cT;simp![e1]
  simp![e,bb,ih]
def cU(a b:Int):bJ.G [.int a,.int b]=.ok (.val (.int (Int.gcd a b:Nat))) []:=by
 unfold bJ;rw[aE];unfold gO
 have:=rR b.natAbs a.natAbs b.natAbs (m_ _)
 simp![uW,this];rfl
def dO{a b:Int}(hb:b≠0)(hs:Sm 8000 b):bK.G [.int a,.int b]=.ok (.val (fV ((a:Rat)/(b:Rat)))) []:=by
 unfold bK;rw[aE];unfold m7;have e:(b==0)=false:=by rw[r_];exact hb
 have c:∀x,CDivB x (Fr.dv a b):=λx=>CDivB.of (Fr.dv_ne hb) (hs.of_le (by rw[Fr.dv_abs];exact Nat.le_of_dvd (by omega) (Nat.gcd_dvd_right a.natAbs b.natAbs)));have k1:=kY (c a);have k2:=kY (c b);have hh:=nC (a:=a) hb;have d_:Val.tup [.int (a.fdiv (Fr.dv a b)),.int (b.fdiv (Fr.dv a b))]=fV ((a:Rat)/(b:Rat)):=by unfold fV;rw[<- hh.1,<- hh.2];rfl
 by_cases hn:b<0
 .have hd:Fr.dv a b=-((Int.gcd a b:Nat):Int):=by unfold Fr.dv;rw[if_pos hn]
  rw[hd] at k1 k2 d_;simp![e,cU,x_ hn,k1,k2,d_]
 .have hd:Fr.dv a b=((Int.gcd a b:Nat):Int):=by unfold Fr.dv;rw[if_neg hn]
  rw[hd] at k1 k2 d_;simp![e,cU,v_ hn,k1,k2,d_]
def Be{p q:Rat}{n m:Nat}(hp:Sz n p)(hq:Sz m q)(h:n+m<=8000):ju.G [fV p,fV q]=.ok (.val (fV (p+q))) []:=by have c1:=bp (CMulA.of hp.top hq.bot (by omega) (by omega));have c2:=bp (CMulA.of hq.top hp.bot (by omega) (by omega));have c3:=bp (CMulA.of hp.bot hq.bot (by omega) (by omega));have fe:=dO (a:=p.num*q.den+q.num*p.den) (b:=p.den*q.den) (Lp (bU p) (bU q)) ((hp.bot.mul hq.bot).mono h);rw[<- pf] at fe;unfold ju;rw[aE];unfold vg;rw[show fV p=.tup [.int p.num,.int p.den] from rfl,show fV q=.tup [.int q.num,.int q.den] from rfl];simp![c1,c2,c3,fe]
def mH{p q:Rat}{n m:Nat}(hp:Sz n p)(hq:Sz m q)(h:n+m<=8000):gc.G [fV p,fV q]=.ok (.val (fV (p*q))) []:=by have c1:=bp (CMulA.of hp.top hq.top (by omega) (by omega));have c2:=bp (CMulA.of hp.bot hq.bot (by omega) (by omega));have fe:=dO (a:=p.num*q.num) (b:=p.den*q.den) (Lp (bU p) (bU q)) ((hp.bot.mul hq.bot).mono h);rw[<- oh] at fe;unfold gc;rw[aE];unfold uX;rw[show fV p=.tup [.int p.num,.int p.den] from rfl,show fV q=.tup [.int q.num,.int q.den] from rfl];simp![c1,c2,fe]
def dD{p q:Rat}{n m:Nat}(hp:Sz n p)(hq:Sz m q)(h1:n<=100000)(h2:m<=100000):b8.G [fV p,fV q]=.ok (.val (.bl (decide (p<q)))) []:=by have c1:=bp (CMulA.of hp.top hq.bot h1 h2);have c2:=bp (CMulA.of hq.top hp.bot h2 h1);unfold b8;rw[aE];unfold qz;rw[show fV p=.tup [.int p.num,.int p.den] from rfl,show fV q=.tup [.int q.num,.int q.den] from rfl];simp![c1,c2];rw[show decide (p.num*(q.den:Int)<q.num*(p.den:Int))=decide (p<q) from Mo.mpr (yk p q).symm]
def cH{v:Val}(hk:knV v=true):(aO bc).G [v,.ty "tuple"]=.val (.bl (dW v)):=by cases v <;> first |rfl |cases hk
def dP{v:Val}(hk:knV v=true):bY.G [v]=.ok (.val (.bl (eQ v))) []:=by unfold bY;rw[aE];unfold nQ;cases v <;> first |rfl |cases hk
def dm(v:Val):dW v=false\/∃xs,v=.tup xs:=by cases v <;> first |exact .inr ⟨_,rfl⟩ |exact .inl rfl
def eR(v:Val):eQ v=false\/∃i,v=.int i:=by cases v <;> first |exact .inr ⟨_,rfl⟩ |exact .inl rfl
def Kt{v:Val}(h:dW v=false):aR v=false:=by cases v <;> first |rfl |cases h
def JB{v:Val}(h:dW v=false):gk v=false:=by cases v <;> first |rfl |cases h
def F9{a b:Val}(h:eQ a=false):aR (.tup [a,b])=false:=by cases a <;> first |rfl |cases h
def FN{i:Int}{b:Val}(h:eQ b=false):aR (.tup [.int i,b])=false:=by cases b <;> first |rfl |cases h
def J6{xs:List Val}(hl:xs.length≠2):aR (.tup xs)=false:=by
 unfold aR;split
 .rename_i e;injection e with e;subst e;exact absurd rfl hl
 .rfl
def Il{xs:List Val}(hl:xs.length≠4):gk (.tup xs)=false:=by
 unfold gk;split
 .rename_i e;injection e with e;subst e;exact absurd rfl hl
 .rfl
def Cz{k:Nat}{v:Val}(ha:iU k v=true)(h:dW v=false):knV v=true:=by
 cases v with
 |tup xs=>cases h
 |_=>cases k <;> exact ha
def oT{v:Val}(ha:iU 1 v=true):cI.G [v]=.ok (.val (.bl (aR v))) []:=by
 unfold cI;rw[aE];unfold j6;rcases dm v with ht |⟨xs,rfl⟩
 .have it:=cH (Cz ha ht);rw[ht] at it;simp![it,Kt ht]
 have it:=cH (v:=.tup xs) rfl;by_cases hl:xs.length=2
 .match xs,hl,ha with
  |
   [a,b],_,ha=>
   have ha':(knV a&&(knV b&&true))=true:=by simpa [iU] using ha
   simp only[p_] at ha';have w1:=dP ha'.1;have w2:=dP ha'.2.1;rcases eR a with h1 |⟨i,rfl⟩
   .rw[h1] at w1;simp![it,dW,w1,F9 h1]
   rcases eR b with h2 |⟨j,rfl⟩
   .rw[h2] at w2;simp![it,dW,w1,eQ,w2,FN h2]
   have f:aR (.tup [.int i,.int j])=(decide (1<=j)&&decide (Int.gcd i j=1)):=rfl;have g:((((Int.gcd i j:Nat):Int)==1):Bool)=decide (Int.gcd i j=1):=by rw[L5,KH,Ld];omega
   by_cases hj:1<=j
   .simp![it,dW,w1,w2,eQ,cU,x_ hj,f,g]
   .simp![it,dW,w1,w2,eQ,cU,v_ hj,f,g]
 .have e:(((xs.length:Nat):Int)==2)=false:=by rw[r_];omega
  simp![it,dW,e,J6 hl]
def p8{v:Val}(ha:iU 2 v=true):ir.G [v]=.ok (.val (.bl (gk v))) []:=by
 unfold ir;rw[aE];unfold tL;rcases dm v with ht |⟨xs,rfl⟩
 .have it:=cH (Cz ha ht);rw[ht] at it;simp![it,JB ht]
 have it:=cH (v:=.tup xs) rfl;by_cases hl:xs.length=4
 .match
   xs,hl,ha with
  |
   [a,b,c,d],_,ha=>
   have e1:gk (.tup [a,b,c,d])=(aR a&&(aR b&&(aR c&&(aR d&&(jH c&&jH d))))):=rfl;have bl4:∀x y z w:Bool,jO [.bl x,.bl y,.bl z,.bl w]=some [x,y,z,w]:=λ_ _ _ _=>rfl;obtain⟨e',⟨s',rfl,_⟩,lc⟩:=oQ (g:=(gtN 0).G) (F:=(ai cI (aa (af 0) ag)).G) (f:=λv=>.bl (aR v)) (λe=>∃s,e=[s]/\s.pl=true) [a,b,c,d] [] [.no] ⟨.no,rfl,rfl⟩ (by
    rintro v hv e ⟨s,rfl,hs⟩;have hv':iU 1 v=true:=D_.mp (by simpa [iU] using ha) v hv;refine⟨[.sh v],.val (.bl (aR v)),[.sh v],?_,?_,rfl,⟨_,rfl,rfl⟩⟩
    .simp![hs]
    .simp![oT hv']) (by simp)
   have cy:cY=qY.G:=rfl;rw[cy,Kx] at lc;simp only[s_,KD] at lc;cases hA:(aR a&&(aR b&&(aR c&&aR d))) with
   |
    true=>
    simp only[p_] at hA;obtain⟨p,rfl⟩:=zT hA.2.2.1;obtain⟨q,rfl⟩:=zT hA.2.2.2;rw[hA.1,hA.2.1,hA.2.2.1,hA.2.2.2] at e1 lc;have e2:gk (.tup [a,b,fV p,fV q])=(decide (0<p.num)&&decide (0<q.num)):=by rw[e1];rfl
    rw[e2];have i1:(fV p).items=some [.int p.num,.int p.den]:=rfl;have i2:(fV q).items=some [.int q.num,.int q.den]:=rfl;by_cases hp:0<p.num
    .simp![it,dW,lc,bA,bl4,id,i1,i2,x_ hp]
    .simp![it,dW,lc,bA,bl4,id,i1,v_ hp]
   |
    false=>
    have e2:gk (.tup [a,b,c,d])=false:=by rw[e1];revert hA;generalize aR a=a',aR b=b',aR c=c',aR d=d',(jH c&&jH d)=z;revert a' b' c' d' z;decide
    rw[e2];simp![it,dW,lc,bA,bl4,id,hA]
 .have e:(((xs.length:Nat):Int)==4)=false:=by rw[r_];omega
  simp![it,dW,e,Il hl]
def tR{v:Val}(ha:iU 2 v=true):bL.G [v]=if gk v=true then .ok (.val .non) [] else .exc "NoBox" []:=by
 unfold bL;rw[aE];unfold lT;cases h:gk v with
 |true=>simp![p8 ha,h]
 |false=>simp![p8 ha,h]
def gR{b:Bx}(hb:b.Ok):bL.G [bV b]=.ok (.val .non) []:=by rw[tR (FW b),A0 hb];rfl
def IE{v:Val}(h:eQ v=false):iN v=false:=by cases v <;> first |rfl |cases h
def A5(v:Val):kJ v=false\/∃xs,v=.lst xs:=by cases v <;> first |exact .inr ⟨_,rfl⟩ |exact .inl rfl
def tS{v:Val}(hk:knV v=true):dS.G [v]=.ok (.val (.bl (iN v))) []:=by
 have w:=dP hk;unfold dS;rw[aE];unfold lO;rcases eR v with h |⟨i,rfl⟩
 .rw[h] at w;simp![w,IE h]
 .simp![w,eQ];rfl
def vT{v:Val}(hk:knV v=true):(aO bc).G [v,.ty "list"]=.val (.bl (kJ v)):=by cases v <;> first |rfl |cases hk
noncomputable def xo (v:Val):R3F:=match v with
 |.lst xs=>if xs=[] then .exc "NoWeights" [] else if xs.all iN=true then (if xs.length<=40 then .ok (.val .non) [] else .exc "TooMany" []) else .exc "NoWeights" []
 |_=>.exc "NoWeights" []
def GB{v:Val}(h:kJ v=false):xo v=.exc "NoWeights" []:=by cases v <;> first |rfl |cases h
noncomputable def rK:Val->Bool
 |.lst xs=>decide (xs.length<=1000)&&xs.all knV
 |v=>knV v
def Ea{v:Val}(h:rK v=true)(hl:kJ v=false):knV v=true:=by cases v <;> first |(cases hl;done) |exact h
theorem jF(f:Val->Bool):∀xs:List Val,jO (xs.map λv=>.bl (f v))=some (xs.map f)
 | []=>rfl
 |x::xs=>by show (jO (xs.map λv=>.bl (f v))).map (f x :: ·)=_;rw[jF f xs];rfl
def jW(f:Val->Bool)(xs:List Val):(xs.map f).all id=xs.all f:=by rw[List.all_map];rfl
def me{v:Val}(ha:rK v=true):bF.G [v]=xo v:=by
 unfold bF;rw[aE];unfold iA;rcases A5 v with hv |⟨xs,rfl⟩
 .have il:=vT (Ea ha hv);rw[hv] at il;rw[GB hv];simp![il]
 .have ha':xs.length<=1000/\xs.all knV=true:=by simpa [rK] using ha
  have il:=vT (v:=.lst xs) rfl;unfold xo;dsimp only;by_cases h0:xs=[]
  .subst h0;simp![il]
  .have e0:(((xs.length:Nat):Int)==0)=false:=by rw[r_];intro z;exact h0 (Li.mp (by omega))
   rw[if_neg h0];obtain⟨e',p',lc⟩:=oQ (g:=(gtN 0).G) (F:=(ai dS (aa (af 0) ag)).G) (f:=λv=>.bl (iN v)) (λe=>∃s,e=[s]/\s.pl=true) xs [] [.no] ⟨.no,rfl,rfl⟩ (by
    rintro v hv e ⟨s,rfl,hs⟩;refine⟨[.sh v],.val (.bl (iN v)),[.sh v],?_,?_,rfl,⟨_,rfl,rfl⟩⟩
    .simp![hs]
    .simp![tS (D_.mp ha'.2 v hv)]) (by simp;omega)
   obtain⟨s',rfl,_⟩:=p';have cy:cY=qY.G:=rfl;rw[cy,Kx] at lc;have b_:(xs.map λv=>Val.bl (iN v)).length<=16777216:=by rw[j_];omega
   by_cases hw:xs.all iN=true
   .rw[if_pos hw];by_cases h40:xs.length<=40
    .have hd:decide ((40:Int)<((xs.length:Nat):Int))=false:=v_ (by omega);rw[if_pos h40];simp![il,e0,bA,lc,b_,jF,jW,hw,hd]
    .have hd:decide ((40:Int)<((xs.length:Nat):Int))=true:=x_ (by omega);rw[if_neg h40];simp![il,e0,bA,lc,b_,jF,jW,hw,hd]
   .have hw':xs.all iN=false:=Bool.eq_false_iff.mpr hw;rw[if_neg hw];simp![il,e0,bA,lc,b_,jF,jW,hw']
def yh{ws:List Int}(h0:ws≠[])(h1:∀w∈ws,1<=w)(h2:ws.length<=40):bF.G [.lst (ws.map .int)]=.ok (.val .non) []:=by
 have ha:rK (.lst (ws.map .int))=true:=by simp only[rK,p_,Ld,j_];exact⟨by omega,by rw[D_];intro v hv;obtain⟨w,_,rfl⟩:=KP.mp hv;rfl⟩
 rw[me ha];unfold xo;dsimp only;rw[if_neg (by intro z;exact h0 (List.map_eq_nil_iff.mp z)),if_pos (by rw[D_];intro v hv;obtain⟨w,hw,rfl⟩:=KP.mp hv;exact x_ (h1 w hw)),if_pos (by rw[j_];exact h2)]
def mJ{p q:Rat}(hq:q≠0):p/q=((p.num*q.den:Int):Rat)/((p.den*q.num:Int):Rat):=by
 have h1:=ia (bU p);have h2:=ia (bU q);have h3:q.num≠0:=λz=>hq (MB.mp z);have h4:=ia h3
 conv=>lhs;rw[gK p,gK q]
 rw[Mz,Mz];simp only[Rat.div_def,Rat.inv_mul_rev,Rat.inv_inv];rw[Rat.mul_assoc,Rat.mul_assoc,Rat.mul_comm (((p.den:Int):Rat))⁻¹,Rat.mul_assoc]
def vx{p q:Rat}{n m:Nat}(hp:Sz n p)(hq:Sz m q)(h0:0<q)(h:n+m<=8000):jm.G [fV p,fV q]=.ok (.val (fV (p/q))) []:=by
 have c1:=bp (CMulA.of hp.top hq.bot (by omega) (by omega));have c2:=bp (CMulA.of hp.bot hq.top (by omega) (by omega));have hq0:q≠0:=λz=>by rw[z] at h0;exact absurd h0 (by decide)
 have hn:q.num≠0:=λz=>hq0 (MB.mp z);have fe:=dO (a:=p.num*q.den) (b:=p.den*q.num) (Lp (bU p) hn) ((hp.bot.mul hq.top).mono h);rw[<- mJ hq0] at fe;unfold jm;rw[aE];unfold zh;rw[show fV p=.tup [.int p.num,.int p.den] from rfl,show fV q=.tup [.int q.num,.int q.den] from rfl];simp![c1,c2,fe]
noncomputable def Ac (b:Bx):Str:=if b.w<b.h then "down" else "across"
def uQ{b:Bx}{n:Nat}(hb:b.Ok)(hs:b.Sz n)(h:n<=8000):fu.G [bV b]=.ok (.val (.str (Ac b))) []:=by
 have cb:=gR hb;have il:=dD hs.w hs.h (by omega) (by omega);have ib:(bV b).items=some [fV b.l,fV b.t,fV b.w,fV b.h]:=rfl;unfold fu Ac;rw[aE];unfold mP;by_cases hl:b.w<b.h
 .rw[if_pos hl];rw[x_ hl] at il;simp![cb,ib,il]
 .rw[if_neg hl];rw[v_ hl] at il;simp![cb,ib,il]
def tQ:cq (.str "down") (.str "across")=some false:=by rw[L3.eq_str (by decide) (by decide)];exact K3 some (by decide)
def rQ:cq (.str "across") (.str "across")=some true:=by rw[L3.eq_str (by decide) (by decide)];exact K3 some (by decide)
def mE{b:Bx}{n:Nat}(hb:b.Ok)(hs:b.Sz n)(h:n+n<=8000):fR.G [bV b]=.ok (.val (fV (c7 b))) []:=by
 have lw:=uQ hb hs (by omega);have ib:(bV b).items=some [fV b.l,fV b.t,fV b.w,fV b.h]:=rfl;have o1:=vx hs.w hs.h hb.2 h;have o2:=vx hs.h hs.w hb.1 h;unfold fR c7;rw[aE];unfold vF;unfold Ac at lw;by_cases hl:b.w<b.h
 .rw[if_pos hl] at lw ⊢;simp![lw,ib,o1,o2,tQ]
 .rw[if_neg hl] at lw ⊢;simp![lw,ib,o1,o2,rQ]
def Sz.over{p q:Rat}{n m:Nat}(hp:Sz n p)(hq:Sz m q)(h0:0<q):Sz (n+m) (p/q):=by
 have hq0:q≠0:=λz=>by rw[z] at h0;exact absurd h0 (by decide)
 have hn:q.num≠0:=λz=>hq0 (MB.mp z);rw[mJ hq0];exact Sz.div (Lp (bU p) hn) (hp.top.mul hq.bot) (hp.bot.mul hq.top) (n+m) (m_ _) (m_ _)
def kD{b:Bx}{n:Nat}(hb:b.Ok)(hs:b.Sz n):Sz (n+n) (c7 b):=by
 unfold c7;split
 .exact Sz.over hs.h hs.w hb.1
 .exact Sz.over hs.w hs.h hb.2
def tJ{p q:Rat}{n m:Nat}(hp:Sz n p)(hq:Sz m q)(h1:n<=100000)(h2:m<=100000):dM.G [.lst [fV p,fV q]]=.ok (.val (fV (if p<q then q else p))) []:=by
 have l1:=dD hp hp h1 h1;have l2:=dD hp hq h1 h2;rw[v_ (MV:¬ p<p)] at l1;unfold dM;rw[aE];unfold kf jb;by_cases hl:p<q
 .rw[x_ hl] at l2;rw[if_pos hl];simp![aF,l1,l2]
 .rw[v_ hl] at l2;rw[if_neg hl];simp![aF,l1,l2]
noncomputable def prV (p:Rat×Rat):Val:=.tup [fV p.1,fV p.2]
theorem vL{s l:Rat}{n m:Nat}{W:Int}{wv:Val}(hs:Sz n s)(hl:Sz n l)(hW:0<W)(mW:Sm m W)(h:n+n+m<=8000):∀(ws:List Int) (a:Int) (acc:List (Rat×Rat)) (s6 s7:Sl),s6.pl=true->s7.pl=true->0<=a->(∀w∈ws,0<=w)->a+ws.sum<=W->acc.length+ws.length<=16777216->∃s6' s7',bQ (gtN 6).G iI.G (ws.map .int) [.sh (fV s),.sh (fV l),.sh wv,.sh (.int W),.sh (.int a),.ow (.lst (acc.map prV)),s6,s7]=.nx [.sh (fV s),.sh (fV l),.sh wv,.sh (.int W),.sh (.int (a+ws.sum)),.ow (.lst ((acc++shL s l W a ws).map prV)),s6',s7']
 | [],a,acc,s6,s7,h6,h7,ha,hw,hsum,b_=>⟨s6,s7,by rw[KD,jz,List.sum_nil,Int.add_zero];unfold shL;rw[K2]⟩
 |
  w::ws,a,acc,s6,s7,h6,h7,ha,hw,hsum,b_=>by
  have hw0:=hw w (l_ ..);have hws:0<=ws.sum:=by
   have:∀l:List Int,(∀w∈l,0<=w)->0<=l.sum:=by
    intro l;induction l with
    |nil=>intro _;simp
    |cons x l ih=>intro hx;rw[J_];have:=hx x (l_ ..);have:=ih λw hw=>hx w (k_ _ hw);omega
   exact this ws λx hx=>hw x (k_ _ hx)
  rw[J_] at hsum;rw[o_] at b_;have sa:Sm m a:=mW.of_le (by omega);have sw:Sm m w:=mW.of_le (by omega);have f1:=dO (a:=a) (b:=W) (by omega) (mW.mono (by omega));have f2:=dO (a:=w) (b:=W) (by omega) (mW.mono (by omega));have z1:Sz m ((a:Rat)/(W:Rat)):=Sz.div (by omega) sa mW m (m_ _) (m_ _);have z2:Sz m ((w:Rat)/(W:Rat)):=Sz.div (by omega) sw mW m (m_ _) (m_ _);have t1:=mH hl z1 (by omega);have t2:=mH hl z2 (by omega);have ad:=Be hs (hl.mul z1) (by omega);have ll:(acc.map prV).length<16777216:=by rw[j_];omega
  obtain⟨t6,t7,ih⟩:=vL (wv:=wv) hs hl hW mW h ws (a+w) (acc++[(s+l*((a:Rat)/(W:Rat)),l*((w:Rat)/(W:Rat)))]) (.sh (.int w)) (.sh (fV (s+l*((a:Rat)/(W:Rat))))) rfl rfl (by omega) (λx hx=>hw x (k_ _ hx)) (by omega) (by simp;omega);refine⟨t6,t7,?_⟩;have g1:(gtN 6).G (.int w) [.sh (fV s),.sh (fV l),.sh wv,.sh (.int W),.sh (.int a),.ow (.lst (acc.map prV)),s6,s7]=some [.sh (fV s),.sh (fV l),.sh wv,.sh (.int W),.sh (.int a),.ow (.lst (acc.map prV)),.sh (.int w),s7]:=by simp![h6]
  have b1:iI.G [.sh (fV s),.sh (fV l),.sh wv,.sh (.int W),.sh (.int a),.ow (.lst (acc.map prV)),.sh (.int w),s7]=.nx [.sh (fV s),.sh (fV l),.sh wv,.sh (.int W),.sh (.int (a+w)),.ow (.lst ((acc++[(s+l*((a:Rat)/(W:Rat)),l*((w:Rat)/(W:Rat)))]).map prV)),.sh (.int w),.sh (fV (s+l*((a:Rat)/(W:Rat))))]:=by unfold iI;rw[La];simp![h7,f1,f2,t1,t2,ad,ll,prV]
  rw[s_,aF,g1];simp only[b1,iM];rw[ih,J_];rw[show shL s l W a (w::ws)=(s+l*((a:Rat)/(W:Rat)),l*((w:Rat)/(W:Rat)))::shL s l W (a+w) ws from rfl,KZ,show a+w+ws.sum=a+(w+ws.sum) by omega];rfl
def pG{s l:Rat}{n m:Nat}{ws:List Int}(hs:Sz n s)(hl:Sz n l)(hw:∀w∈ws,0<=w)(h0:0<ws.sum)(mW:Sm m ws.sum)(h:n+n+m<=8000)(b_:ws.length<=1000):gb.G [fV s,fV l,.lst (ws.map .int)]=.ok (.new (.lst ((shL s l ws.sum 0 ws).map prV))) []:=by obtain⟨s6,s7,lo⟩:=vL (wv:=.lst (ws.map .int)) hs hl h0 mW h ws 0 [] .no .no rfl rfl (by omega) hw (by omega) (by simp;omega);rw[Kx,KD] at lo;unfold gb;rw[aE];unfold uk;simp![lo]
def E6{way:Str}(hw:way="across" \/ way="down"):eI.G [.str way]=.ok (.val .non) []:=by
 have i1:∀x:Str,(aO bc).G [.str x,.ty "str"]=.val (.bl true):=λ_=>rfl;have i2:bIn.G (.str way) (.tup [.str "across",.str "down"])=.val (.bl true):=by rcases hw with rfl |rfl <;> rfl
 have e1:gX.G [.str way]=.ok (.val (.bl true)) []:=by unfold gX;rw[aE];unfold tu;simp![i1,i2]
 unfold eI;rw[aE];unfold lP;simp![e1]
def yI{b:Bx}{n m:Nat}{way:Str}{ws:List Int}(hb:b.Ok)(hs:b.Sz n)(hway:way="across" \/ way="down")(h0:ws≠[])(hw:∀w∈ws,1<=w)(mW:Sm m ws.sum)(h:n+n+m<=8000)(b_:ws.length<=40):fO.G [bV b,.str way,.lst (ws.map .int)]=.ok (.new (.lst ((d8 b way ws).map bV))) []:=by
 have cw:=yh h0 hw b_;have cy:=E6 hway;have sp:0<ws.sum:=by
  cases ws with
  |nil=>exact absurd rfl h0
  |
   cons x l=>
   rw[J_]
   have:=hw x (l_ ..)
   have:∀l:List Int,(∀w∈l,1<=w)->0<=l.sum:=by
    intro l;induction l with
    |nil=>intro _;simp
    |cons x l ih=>intro hx;rw[J_];have:=hx x (l_ ..);have:=ih λw hw=>hx w (k_ _ hw);omega
   have:=this l λx hx=>hw x (k_ _ hx)
   omega
 have cb:bL.G [.tup [fV b.l,fV b.t,fV b.w,fV b.h]]=.ok (.val .non) []:=gR hb;have sh1:=pG hs.l hs.w (λw z=>by have:=hw w z;omega) sp mW h (by omega);have sh2:=pG hs.t hs.h (λw z=>by have:=hw w z;omega) sp mW h (by omega);show fO.G [.tup [fV b.l,fV b.t,fV b.w,fV b.h],.str way,.lst (ws.map .int)]=_;unfold fO d8;rw[aE];unfold ua;rcases hway with rfl |rfl
 .rw[if_pos (rfl:("across" : Str)="across")];have ln:=oD b.l b.w ws.sum ws 0;obtain⟨e',⟨s,t,rfl,_,_⟩,lc⟩:=fU (g:=(gtT 2 (aM (gtN 0) (aM (gtN 1) cQ))).G) (F:=(aH (aa (af 0) (aa (af 2) (aa (af 1) (aa (af 3) ag))))).G) prV (λp=>bV ⟨p.1,b.t,p.2,b.h⟩) (λe=>∃s t,e=[s,t,.sh (fV b.t),.sh (fV b.h)]/\s.pl=true/\t.pl=true) (shL b.l b.w ws.sum 0 ws) [] [.no,.no,.sh (fV b.t),.sh (fV b.h)] ⟨.no,.no,rfl,rfl,rfl⟩ (by
   rintro p hp e ⟨s,t,rfl,hs,ht⟩;refine⟨[.sh (fV p.1),.sh (fV p.2),.sh (fV b.t),.sh (fV b.h)],.val (bV ⟨p.1,b.t,p.2,b.h⟩),[.sh (fV p.1),.sh (fV p.2),.sh (fV b.t),.sh (fV b.h)],?_,?_,rfl,⟨_,_,rfl,rfl,rfl⟩⟩
   .simp![prV,hs,ht]
   .simp![bV]) (by rw[ln,KG];omega)
  rw[Kx] at lc;have ll:((shL b.l b.w ws.sum 0 ws).map λp=>bV ⟨p.1,b.t,p.2,b.h⟩).length<=16777216:=by rw[j_,ln];omega
  rw[LC,show (bV ∘ λp:Rat×Rat=>(⟨p.1,b.t,p.2,b.h⟩:Bx))=λp=>bV ⟨p.1,b.t,p.2,b.h⟩ from rfl];simp![cb,cy,cw,rQ,sh1,lc,ll]
 .have hne:¬ (("down" : Str)="across"):=by decide
  rw[if_neg hne];have ln:=oD b.t b.h ws.sum ws 0;obtain⟨e',⟨s,t,rfl,_,_⟩,lc⟩:=fU (g:=(gtT 2 (aM (gtN 0) (aM (gtN 1) cQ))).G) (F:=(aH (aa (af 2) (aa (af 0) (aa (af 3) (aa (af 1) ag))))).G) prV (λp=>bV ⟨b.l,p.1,b.w,p.2⟩) (λe=>∃s t,e=[s,t,.sh (fV b.l),.sh (fV b.w)]/\s.pl=true/\t.pl=true) (shL b.t b.h ws.sum 0 ws) [] [.no,.no,.sh (fV b.l),.sh (fV b.w)] ⟨.no,.no,rfl,rfl,rfl⟩ (by
   rintro p hp e ⟨s,t,rfl,hs,ht⟩;refine⟨[.sh (fV p.1),.sh (fV p.2),.sh (fV b.l),.sh (fV b.w)],.val (bV ⟨b.l,p.1,b.w,p.2⟩),[.sh (fV p.1),.sh (fV p.2),.sh (fV b.l),.sh (fV b.w)],?_,?_,rfl,⟨_,_,rfl,rfl,rfl⟩⟩
   .simp![prV,hs,ht]
   .simp![bV]) (by rw[ln,KG];omega)
  rw[Kx] at lc;have ll:((shL b.t b.h ws.sum 0 ws).map λp=>bV ⟨b.l,p.1,b.w,p.2⟩).length<=16777216:=by rw[j_,ln];omega
  rw[LC,show (bV ∘ λp:Rat×Rat=>(⟨b.l,p.1,b.w,p.2⟩:Bx))=λp=>bV ⟨b.l,p.1,b.w,p.2⟩ from rfl];simp![cb,cy,cw,tQ,sh2,lc,ll]
def qZ{ws nums:List Int}(hr:Inr ws nums)(hl:nums.length<=1000):∃s,lcV (gtN 0).G qY.G (pOp bIx (af 1) (af 0)).G (nums.map .int) [] [.no,.sh (.lst (ws.map .int))]=.ok ((nums.map (bB ws)).map Val.int) [s,.sh (.lst (ws.map .int))]:=by
 obtain⟨e',⟨s,rfl,_⟩,lc⟩:=fU (g:=(gtN 0).G) (F:=(pOp bIx (af 1) (af 0)).G) Val.int (λi=>.int (bB ws i)) (λe=>∃s,e=[s,.sh (.lst (ws.map .int))]/\s.pl=true) nums [] [.no,.sh (.lst (ws.map .int))] ⟨.no,rfl,rfl⟩ (by
  rintro i hi e ⟨s,rfl,hs⟩;have a1:=wU (hr i hi).1 (hr i hi).2;refine⟨[.sh (.int i),.sh (.lst (ws.map .int))],.val (.int (bB ws i)),[.sh (.int i),.sh (.lst (ws.map .int))],?_,?_,rfl,⟨_,rfl,rfl⟩⟩
  .simp![hs]
  .simp![a1]) (by simp;omega)
 rw[Kx,show nums.map (λi=>Val.int (bB ws i))=(nums.map (bB ws)).map Val.int by rw[LC];rfl] at lc;exact⟨s,lc⟩
def gN{ws nums:List Int}(hr:Inr ws nums)(hl:nums.length<=1000):bZ.G [liV nums,liV ws]=.ok (.val (.int (wt ws nums))) []:=by
 obtain⟨s,lc⟩:=qZ hr hl;have ll:((nums.map (bB ws)).map Val.int).length<=16777216:=by rw[j_,j_];omega
 show bZ.G [.lst (nums.map .int),.lst (ws.map .int)]=_;unfold bZ wt;rw[aE];unfold lR;simp![bA,lc,ll]
theorem kK{B:PSt}(hB:B=(ax false 2 (pOp aK (af 2) (pLC (ba (af 2)) [none,some 3] (by decide) (gtN 0) qY (pOp aK (af 0) (aY (aa (af 1) ag))))))){nv kv:Val}:∀(rest:List Int) (L:List (List Int)) (s3:Sl),s3.pl=true->L.length*2^rest.length<=1000000->(∀l∈L,l.length+rest.length<=1000)->∃s3',bQ (gtN 3).G B.G (rest.map .int) [.sh nv,.sh kv,.sh (.lst (L.map liV)),s3]=.nx [.sh nv,.sh kv,.sh (.lst ((fk L rest).map liV)),s3']
 | [],L,s3,h3,hb,hl=>⟨s3,by rw[KD,jz];rfl⟩
 |
  x::rest,L,s3,h3,hb,hl=>by
  rw[o_,Nat.pow_succ] at hb;have hpow:1<=2^rest.length:=Nat.one_le_two_pow;have hb1:L.length<=1000000:=F_ (Nat.le_mul_of_pos_right _ (Nat.mul_pos hpow (by decide))) hb;have hll:(L++L.map λl=>l++[x]).length=L.length+L.length:=by rw[z_,j_]
  obtain⟨s',ih⟩:=kK hB (nv:=nv) (kv:=kv) rest (L++L.map λl=>l++[x]) (.sh (.int x)) rfl (by
   rw[hll,<- Nat.two_mul,Mx 2,Nat.mul_assoc,Mx 2];exact hb) (λl h=>by
   rcases Ls.mp h with h |h
   .have:=hl l h
    rw[o_] at this;omega
   .obtain⟨l',h',rfl⟩:=KP.mp h
    have:=hl l' h'
    rw[o_] at this;rw[z_];show l'.length+1+_<=_;omega)
  refine⟨s',?_⟩;have g1:(gtN 3).G (.int x) [.sh nv,.sh kv,.sh (.lst (L.map liV)),s3]=some [.sh nv,.sh kv,.sh (.lst (L.map liV)),.sh (.int x)]:=by simp![h3]
  obtain⟨e',⟨s,rfl,_⟩,lc⟩:=fU (g:=(gtN 0).G) (F:=(pOp aK (af 0) (aY (aa (af 1) ag))).G) liV (λl=>liV (l++[x])) (λe=>∃s,e=[s,.sh (.int x)]/\s.pl=true) L [] [.no,.sh (.int x)] ⟨.no,rfl,rfl⟩ (by
   rintro l h e ⟨s,rfl,hs⟩;have ll:=hl l h;have cl:(l.map Val.int).length+1<=16777216:=by rw[j_];omega
   have e2:liV (l++[x])=.lst (l.map .int++[.int x]):=by unfold liV;rw[La];rfl
   refine⟨[.sh (liV l),.sh (.int x)],.new (liV (l++[x])),[.sh (liV l),.sh (.int x)],?_,?_,rfl,⟨_,rfl,rfl⟩⟩
   .simp![hs]
   .rw[e2];simp![liV,cl]) (by rw[KG];omega)
  rw[Kx] at lc;have c1:(L.map λl=>liV (l++[x])).length<=16777216:=by rw[j_];omega
  have c2:(L.map liV).length+(L.map λl=>liV (l++[x])).length<=16777216:=by rw[j_,j_];omega
  have hcat:L.map liV++(L.map λl=>liV (l++[x]))=(L++L.map λl=>l++[x]).map liV:=by simp
  have b1:B.G [.sh nv,.sh kv,.sh (.lst (L.map liV)),.sh (.int x)]=.nx [.sh nv,.sh kv,.sh (.lst (L.map liV++(L.map λl=>liV (l++[x])))),.sh (.int x)]:=by rw[hB];simp![bA,lc,c1,c2]
  rw[hcat] at b1;rw[s_,aF,g1];simp only[b1,iM];exact ih
def yo:cq (.str "order") (.str "order")=some true:=by rw[L3.eq_str (by decide) (by decide)];exact K3 some (by decide)
def ym:cq (.str "any") (.str "order")=some false:=by rw[L3.eq_str (by decide) (by decide)];exact K3 some (by decide)
def vJ{n:Nat}(h:n<=1000):tX [.int 1,.int (n:Nat)]=some ((List.range' 1 (n-1)).map λi=>Val.int (i:Nat)):=by unfold tX;dsimp only;rw[if_pos ⟨⟨by decide,by decide⟩,⟨by omega,by omega⟩⟩];unfold ud;rw[List.range'_eq_map_range,LC,show (((n:Nat):Int)-1).toNat=n-1 by omega];congr 1
def vj{nums:List Int}(hl:nums.length<=1000):∃s,lcV (gtN 0).G qY.G (pSl (af 1) oN (oS (af 0))).G ((List.range' 1 (nums.length-1)).map λi=>Val.int (i:Nat)) [] [.no,.sh (.lst (nums.map .int))]=.ok ((bh "order" nums).map liV) [s,.sh (.lst (nums.map .int))]:=by
 obtain⟨e',⟨s,rfl,_⟩,lc⟩:=fU (g:=(gtN 0).G) (F:=(pSl (af 1) oN (oS (af 0))).G) (λi:Nat=>Val.int (i:Nat)) (λi=>liV (nums.take i)) (λe=>∃s,e=[s,.sh (.lst (nums.map .int))]/\s.pl=true) (List.range' 1 (nums.length-1)) [] [.no,.sh (.lst (nums.map .int))] ⟨.no,rfl,rfl⟩ (by
  rintro i hi e ⟨s,rfl,hs⟩;have sl:aSl (.lst (nums.map Val.int)) none (some ((i:Nat):Int))=.new (.lst ((nums.take i).map .int)):=by rw[jc,nq,List.map_take]
  refine⟨[.sh (.int (i:Nat)),.sh (.lst (nums.map .int))],.new (liV (nums.take i)),[.sh (.int (i:Nat)),.sh (.lst (nums.map .int))],?_,?_,rfl,⟨_,rfl,rfl⟩⟩
  .simp![hs]
  .simp![liV,sl]) (by simp;omega)
 rw[Kx] at lc;refine⟨s,?_⟩;rw[lc];unfold bh;rw[if_pos rfl,LC];rfl
def wH{nums:List Int}{kind:Str}(hk:kind="order" \/ kind="any")(h2:nums≠[])(hl:nums.length<=10):dh.G [liV nums,.str kind]=.ok (.new (.lst ((bh kind nums).map liV))) []:=by
 have b_:=hX (kind:=kind) hl;rcases hk with rfl |rfl
 .obtain⟨s,lc⟩:=vj (nums:=nums) (by omega);have rg:=vJ (n:=nums.length) (by omega);have ll:((bh "order" nums).map liV).length<=16777216:=by rw[j_];omega
  have lm:((nums.map Val.int).length:Nat)=nums.length:=j_ ..;show dh.G [.lst (nums.map .int),.str "order"]=_;unfold dh;rw[aE];unfold kz;simp![yo,lm,rg,bA,lc,ll]
 .match nums,h2 with
  |
   x::rest,h2=>
   rw[o_] at hl;obtain⟨s',q4⟩:=kK (B:=mY) rfl (nv:=.lst ((x::rest).map .int)) (kv:=.str "any") rest [[x]] .no rfl (by have:2^rest.length<=2^9:=Em (by decide) (by omega);simp;omega) (by intro l hl';rw[K8] at hl';subst hl';simp;omega);have s1:aSl (.lst (Val.int x::rest.map .int)) none (some 1)=.new (liV [x]):=by rw[jc,show (some 1:Option Int)=some ((1:Nat):Int) from rfl,nq];rfl
   have s2:aSl (.lst (Val.int x::rest.map .int)) (some 1) none=.new (.lst (rest.map .int)):=by rw[jc,show (some 1:Option Int)=some ((1:Nat):Int) from rfl,jE];rfl
   have s3:aSl (.lst ((fk [[x]] rest).map liV)) none (some (-1))=.new (.lst ((bh "any" (x::rest)).map liV)):=by rw[jc,vW];unfold bh;rw[if_neg (by decide),List.map_dropLast]
   show dh.G [.lst ((x::rest).map .int),.str "any"]=_;unfold dh;rw[aE];unfold kz;rw[show [[x]].map liV=[liV [x]] from rfl,show (x::rest).map Val.int=Val.int x::rest.map Val.int from rfl] at q4;simp![ym,s1,s2,q4,s3]
def sO(nums l:List Int)(hl:nums.length<=1000):∃s,lcV (gtN 0).G (qOf (pOp gw (af 0) (af 1))).G (af 0).G (nums.map .int) [] [.no,.sh (liV l)]=.ok ((rst nums l).map .int) [s,.sh (liV l)]:=by
 obtain⟨e',⟨s,rfl,_⟩,lc⟩:=oX (g:=(gtN 0).G) (c:=(qOf (pOp gw (af 0) (af 1))).G) (F:=(af 0).G) (λx=>!l.contains x) Val.int Val.int (λe=>∃s,e=[s,.sh (liV l)]/\s.pl=true) nums [] [.no,.sh (liV l)] ⟨.no,rfl,rfl⟩ (by
  rintro x hx e ⟨s,rfl,hs⟩;have k1:gw.G (.int x) (liV l)=.val (.bl (!l.contains x)):=p7 l x;refine⟨[.sh (.int x),.sh (liV l)],[.sh (.int x),.sh (liV l)],?_,?_,⟨_,rfl,rfl⟩,λ_=>⟨.val (.int x),[.sh (.int x),.sh (liV l)],?_,rfl,⟨_,rfl,rfl⟩⟩⟩
  .simp![hs]
  .simp![k1]
  .simp![gB]) (by rw[KG];omega)
 rw[Kx] at lc;exact⟨s,lc⟩
def EX{nums l:List Int}{kv:Val}{acc:List (Str×List Int×List Int)}{s4:Sl}(h4:s4.pl=true)(hl:nums.length<=1000)(ha:acc.length<=1000000):gy.G [.sh (liV nums),.sh kv,.ow (.lst (acc.map cuV)),.sh (liV l),s4]=.nx [.sh (liV nums),.sh kv,.ow (.lst ((acc++cA nums l).map cuV)),.sh (liV l),.sh (.str "down")]:=by
 obtain⟨s,lc⟩:=sO nums l hl;have lr:((rst nums l).map Val.int).length<=16777216:=by
  rw[j_]
  have:=List.length_filter_le (λx=>!l.contains x) nums
  show (nums.filter _).length<=_;omega
 have it:(liV l).items=some (l.map .int):=rfl;have sq:fK (.val (.lst (nums.map .int)))=fK (.val (liV nums)):=rfl;have b1:∀(acc:List (Str×List Int×List Int)) (way:Str),acc.length<=1000001->jS.G [.sh (liV nums),.sh kv,.ow (.lst (acc.map cuV)),.sh (liV l),.sh (.str way)]=.nx [.sh (liV nums),.sh kv,.ow (.lst ((acc++[(way,l,rst nums l)]).map cuV)),.sh (liV l),.sh (.str way)]:=by
  intro acc way ha;have la:(acc.map cuV).length<16777216:=by rw[j_];omega
  have e2:(acc++[(way,l,rst nums l)]).map cuV=acc.map cuV++[.tup [.str way,.lst (l.map .int),.lst ((rst nums l).map .int)]]:=by rw[La];rfl
  rw[e2];unfold jS;unfold liV at lc ⊢;simp![ye,bA,lc,lr,la]
 unfold gy;have e3:acc++cA nums l=(acc++[(("across" : Str),l,rst nums l)])++[(("down" : Str),l,rst nums l)]:=by unfold cA;simp
 rw[e3];have c1:=b1 acc "across" (by omega);have c2:=b1 (acc++[(("across" : Str),l,rst nums l)]) "down" (by rw[z_];show acc.length+1<=_;omega);simp![aF,h4,c1,c2]
def jU{nums:List Int}{kind:Str}(hk:kind="order" \/ kind="any")(h2:nums≠[])(hl:nums.length<=10):dY.G [liV nums,.str kind]=.ok (.new (.lst ((aA kind nums).map cuV))) []:=by
 have lo:=wH hk h2 hl;have ln:=hX (kind:=kind) hl;have fold:∀(ls:List (List Int)) (acc:List (Str×List Int×List Int)) (s3 s4:Sl),s3.pl=true->s4.pl=true->acc.length+2*ls.length<=1000000->∃s3' s4',bQ (gtN 3).G gy.G (ls.map liV) [.sh (liV nums),.sh (.str kind),.ow (.lst (acc.map cuV)),s3,s4]=.nx [.sh (liV nums),.sh (.str kind),.ow (.lst ((acc++ls.flatMap (cA nums)).map cuV)),s3',s4']:=by
  intro ls;induction ls with
  |nil=>intro acc s3 s4 _ _ _;exact⟨s3,s4,by rw[KD,jz,List.flatMap_nil,K2]⟩
  |
   cons l ls ih=>
   intro acc s3 s4 h3 h4 hb;rw[o_] at hb;have g1:(gtN 3).G (liV l) [.sh (liV nums),.sh (.str kind),.ow (.lst (acc.map cuV)),s3,s4]=some [.sh (liV nums),.sh (.str kind),.ow (.lst (acc.map cuV)),.sh (liV l),s4]:=by simp![h3]
   have b2:=EX (kv:=.str kind) (nums:=nums) (l:=l) (acc:=acc) h4 (by omega) (by omega);obtain⟨t3,t4,q⟩:=ih (acc++cA nums l) (.sh (liV l)) (.sh (.str "down")) rfl rfl (by rw[z_];show acc.length+2+_<=_;omega);refine⟨t3,t4,?_⟩;rw[s_,aF,g1];simp only[b2,iM];rw[q,List.flatMap_cons,KZ]
 obtain⟨s3,s4,fr⟩:=fold (bh kind nums) [] .no .no rfl rfl (by rw[KG];omega);rw[Kx,KD] at fr;unfold dY aA;rw[aE];unfold pq;simp![lo,fr]
def iP{c:Str×List Int×List Int}{b:Bx}{ws:List Int}{n m:Nat}(hb:b.Ok)(hs:b.Sz n)(hway:c.1="across" \/ c.1="down")(r1:Inr ws c.2.1)(r2:Inr ws c.2.2)(l1:c.2.1.length<=1000)(l2:c.2.2.length<=1000)(h1:1<=wt ws c.2.1)(h2:1<=wt ws c.2.2)(mW:Sm m (wt ws c.2.1+wt ws c.2.2))(h:n+n+m<=8000):cK.G [cuV c,bV b,liV ws]=.ok (.new (.lst [bV (bT b c.1 (wt ws c.2.1) (wt ws c.2.2)),bV (bW b c.1 (wt ws c.2.1) (wt ws c.2.2))])) []:=by
 have w1:=gN r1 l1;have w2:=gN r2 l2;have pe:=yI (ws:=[wt ws c.2.1,wt ws c.2.2]) hb hs hway (by simp) (by intro w hw;simp at hw;omega) (m:=m) (by simpa using mW) h (by simp);have p2:d8 b c.1 [wt ws c.2.1,wt ws c.2.2]=[bT b c.1 (wt ws c.2.1) (wt ws c.2.2),bW b c.1 (wt ws c.2.1) (wt ws c.2.2)]:=by unfold bT bW d8;split <;> rfl
 rw[p2,s_,s_,KD,s_,s_,KD] at pe;show cK.G [.tup [.str c.1,liV c.2.1,liV c.2.2],bV b,liV ws]=_;unfold cK;rw[aE];unfold nc;simp![w1,w2,pe]
theorem rE(x y:Val):∀(n one a_:Nat),a_<=n->(xWh (qOf (pOp bGt (af 3) (ah 0))) gG).G [.sh x,.sh y,.sh (.int (one:Nat)),.sh (.int (a_:Nat))]=.nx [.sh x,.sh y,.sh (.int (Nat.gcd one a_:Nat)),.sh (.int 0)]
 |
  n,one,0,_=>by
  rw[xk];simp![Nat.gcd_zero_right,Int.natCast_zero,Int.lt_irrefl]
 |0,one,a_+1,hl=>absurd hl (by omega)
 |
  n+1,one,a_+1,hl=>by
  rw[xk];have e:decide ((0:Int)<((a_+1:Nat):Int))=true:=x_ (by omega);have e1:bH.G (.int (one:Nat)) (.int ((a_+1:Nat):Int))=.val (.int (((one:Nat):Int).fmod ((a_+1:Nat):Int))):=fm (by omega);have e2:((one:Nat):Int).fmod ((a_+1:Nat):Int)=((one % (a_+1):Nat):Int):=by rw[Int.fmod_eq_emod_of_nonneg _ (by omega)];rfl
  have ih:=rE x y n (a_+1) (one % (a_+1)) (by have:=Nat.mod_lt one (show a_+1>0 by omega);omega);rw[Fr.euc] at ih;rw[e2] at e1;have bb:gG.G [.sh x,.sh y,.sh (.int (one:Nat)),.sh (.int ((a_+1:Nat):Int))]=.nx [.sh x,.sh y,.sh (.int ((a_+1:Nat):Int)),.sh (.int ((one % (a_+1):Nat):Int))]:=by unfold gG;simp![e1]
  simp![e,bb,ih]
def d5{a b:Int}(hb:0<b)(hs:Sm 8000 b):bo.G [.int a,.int b]=.ok (.val (fV ((a:Rat)/(b:Rat)))) []:=by
 unfold bo;rw[aE];unfold qF;have hb0:b≠0:=by omega
 have lo:=rE (.int a) (.int b) b.natAbs a.natAbs b.natAbs (m_ _);rw[show Nat.gcd a.natAbs b.natAbs=Int.gcd a b from rfl,show ((b.natAbs:Nat):Int)=b by omega] at lo;have c:∀x,CDivB x (Fr.dv a b):=λx=>CDivB.of (Fr.dv_ne hb0) (hs.of_le (by rw[Fr.dv_abs];exact Nat.le_of_dvd (by omega) (Nat.gcd_dvd_right a.natAbs b.natAbs)));have k1:=kY (c a);have k2:=kY (c b);have hh:=nC (a:=a) hb0;have d_:Val.tup [.int (a.fdiv (Fr.dv a b)),.int (b.fdiv (Fr.dv a b))]=fV ((a:Rat)/(b:Rat)):=by unfold fV;rw[<- hh.1,<- hh.2];rfl
 have hd:Fr.dv a b=((Int.gcd a b:Nat):Int):=by unfold Fr.dv;rw[if_neg (by omega)]
 rw[hd] at k1 k2 d_;simp![uW,lo,k1,k2,d_]
def bO{p q:Rat}{n m:Nat}(hp:Sz n p)(hq:Sz m q)(h:n+m<=8000):bt.G [fV p,fV q]=.ok (.val (fV (p*q))) []:=by have c1:=bp (CMulA.of hp.top hq.top (by omega) (by omega));have c2:=bp (CMulA.of hp.bot hq.bot (by omega) (by omega));have dp:=p.den_pos;have dq:=q.den_pos;have lo:=d5 (a:=p.num*q.num) (b:=p.den*q.den) (Int.mul_pos (by omega) (by omega)) ((hp.bot.mul hq.bot).mono h);rw[<- oh] at lo;unfold bt;rw[aE];unfold lL;rw[show fV p=.tup [.int p.num,.int p.den] from rfl,show fV q=.tup [.int q.num,.int q.den] from rfl];simp![c1,c2,lo]
def gD{p q:Rat}{n m:Nat}(hp:Sz n p)(hq:Sz m q)(h:n+m<=8000):de.G [fV p,fV q]=.ok (.val (fV (p+q))) []:=by have c1:=bp (CMulA.of hp.top hq.bot (by omega) (by omega));have c2:=bp (CMulA.of hq.top hp.bot (by omega) (by omega));have c3:=bp (CMulA.of hp.bot hq.bot (by omega) (by omega));have dp:=p.den_pos;have dq:=q.den_pos;have lo:=d5 (a:=p.num*q.den+q.num*p.den) (b:=p.den*q.den) (Int.mul_pos (by omega) (by omega)) ((hp.bot.mul hq.bot).mono h);rw[<- pf] at lo;unfold de;rw[aE];unfold pR;rw[show fV p=.tup [.int p.num,.int p.den] from rfl,show fV q=.tup [.int q.num,.int q.den] from rfl];simp![c1,c2,c3,lo]
def gi{p q:Rat}{n m:Nat}(hp:Sz n p)(hq:Sz m q)(h0:0<q)(h:n+m<=8000):dJ.G [fV p,fV q]=.ok (.val (fV (p/q))) []:=by
 have c1:=bp (CMulA.of hp.top hq.bot (by omega) (by omega));have c2:=bp (CMulA.of hp.bot hq.top (by omega) (by omega));have hq0:q≠0:=λz=>by rw[z] at h0;exact absurd h0 (by decide)
 have hn:0<q.num:=vv.mpr h0;have dp:=p.den_pos;have lo:=d5 (a:=p.num*q.den) (b:=p.den*q.num) (Int.mul_pos (by omega) hn) ((hp.bot.mul hq.top).mono h);rw[<- mJ hq0] at lo;unfold dJ;rw[aE];unfold nW;rw[show fV p=.tup [.int p.num,.int p.den] from rfl,show fV q=.tup [.int q.num,.int q.den] from rfl];simp![c1,c2,lo]
def gh{p q:Rat}{n m:Nat}(hp:Sz n p)(hq:Sz m q)(h1:n<=100000)(h2:m<=100000):cN.G [fV p,fV q]=.ok (.val (.bl (decide (p<q)))) []:=by have c1:=bp (CMulA.of hp.top hq.bot h1 h2);have c2:=bp (CMulA.of hq.top hp.bot h2 h1);unfold cN;rw[aE];unfold nI;rw[show fV p=.tup [.int p.num,.int p.den] from rfl,show fV q=.tup [.int q.num,.int q.den] from rfl];simp![c1,c2];rw[show decide (p.num*(q.den:Int)<q.num*(p.den:Int))=decide (p<q) from Mo.mpr (yk p q).symm]
def rZ{b:Bx}{n:Nat}(hb:b.Ok)(hs:b.Sz n)(h:n+n<=8000):eK.G [bV b]=.ok (.val (fV (c7 b))) []:=by
 have il:=gh hs.w hs.h (by omega) (by omega);have ib:(bV b).items=some [fV b.l,fV b.t,fV b.w,fV b.h]:=rfl;have o1:=gi hs.w hs.h hb.2 h;have o2:=gi hs.h hs.w hb.1 h;unfold eK c7;rw[aE];unfold lN;by_cases hl:b.w<b.h
 .rw[if_pos hl];rw[x_ hl] at il;simp![il,ib,o1,o2]
 .rw[if_neg hl];rw[v_ hl] at il;simp![il,ib,o1,o2]
def jX{nums:List Int}{kind:Str}(hk:kind="order" \/ kind="any")(h2:nums≠[])(hl:nums.length<=10):bE.G [liV nums,.str kind]=.ok (.new (.lst ((bh kind nums).map liV))) []:=by
 have b_:=hX (kind:=kind) hl;rcases hk with rfl |rfl
 .obtain⟨s,lc⟩:=vj (nums:=nums) (by omega);have rg:=vJ (n:=nums.length) (by omega);have ll:((bh "order" nums).map liV).length<=16777216:=by rw[j_];omega
  have lm:((nums.map Val.int).length:Nat)=nums.length:=j_ ..;show bE.G [.lst (nums.map .int),.str "order"]=_;unfold bE;rw[aE];unfold gS;simp![yo,lm,rg,bA,lc,ll]
 .match nums,h2 with
  |
   x::rest,h2=>
   rw[o_] at hl;obtain⟨s',q4⟩:=kK (B:=kj) rfl (nv:=.lst ((x::rest).map .int)) (kv:=.str "any") rest [[x]] .no rfl (by have:2^rest.length<=2^9:=Em (by decide) (by omega);simp;omega) (by intro l hl';rw[K8] at hl';subst hl';simp;omega);have s2:aSl (.lst (Val.int x::rest.map .int)) (some 1) none=.new (.lst (rest.map .int)):=by rw[jc,show (some 1:Option Int)=some ((1:Nat):Int) from rfl,jE];rfl
   have s3:aSl (.lst ((fk [[x]] rest).map liV)) none (some (-1))=.new (.lst ((bh "any" (x::rest)).map liV)):=by rw[jc,vW];unfold bh;rw[if_neg (by decide),List.map_dropLast]
   show bE.G [.lst ((x::rest).map .int),.str "any"]=_;unfold bE;rw[aE];unfold gS;rw[show [[x]].map liV=[.lst [.int x]] from rfl,show (x::rest).map Val.int=Val.int x::rest.map Val.int from rfl] at q4;simp![ym,s2,q4,s3]
noncomputable def prt (b:Bx) (way:Str) (W a:Int) (ws:List Int):List Bx:=if way="across" then (shL b.l b.w W a ws).map λp=>⟨p.1,b.t,p.2,b.h⟩ else (shL b.t b.h W a ws).map λp=>⟨b.l,p.1,b.w,p.2⟩
def Ib(b:Bx)(W a w:Int)(ws:List Int):prt b "across" W a (w::ws)=(⟨b.l+b.w*((a:Rat)/(W:Rat)),b.t,b.w*((w:Rat)/(W:Rat)),b.h⟩:Bx)::prt b "across" W (a+w) ws:=by unfold prt;rw[if_pos rfl,if_pos rfl];rfl
def IS(b:Bx)(W a w:Int)(ws:List Int):prt b "down" W a (w::ws)=(⟨b.l,b.t+b.h*((a:Rat)/(W:Rat)),b.w,b.h*((w:Rat)/(W:Rat))⟩:Bx)::prt b "down" W (a+w) ws:=by
 have hne:¬ (("down" : Str)="across"):=by decide
 unfold prt;rw[if_neg hne,if_neg hne];rfl
def D2(b:Bx)(way:Str)(W a:Int):prt b way W a []=[]:=by unfold prt;split <;> rfl
theorem ml{b:Bx}{n m:Nat}{W:Int}{wl:List Int}(hb:b.Ok)(hs:b.Sz n)(hW:0<W)(mW:Sm m W)(h:n+n+m<=8000)(hsum:wl.sum=W){way:Str}(hway:way="across" \/ way="down"):∀(ws:List Int) (a:Int) (acc:List Bx) (s9 s10 s11:Sl),s9.pl=true->s10.pl=true->s11.pl=true->0<=a->(∀w∈ws,1<=w)->a+ws.sum<=W->acc.length+ws.length<=1000->∃s8' s9' s10' s11',bQ (gtN 9).G eA.G (ws.map .int) [.sh (bV b),.sh (.str way),.sh (.lst (wl.map .int)),.sh (fV b.l),.sh (fV b.t),.sh (fV b.w),.sh (fV b.h),.ow (.lst (acc.map bV)),.sh (.int a),s9,s10,s11]=.nx [.sh (bV b),.sh (.str way),.sh (.lst (wl.map .int)),.sh (fV b.l),.sh (fV b.t),.sh (fV b.w),.sh (fV b.h),.ow (.lst ((acc++prt b way W a ws).map bV)),s8',s9',s10',s11']
 | [],a,acc,s9,s10,s11,h9,h10,h11,ha,hw,hs',b_=>⟨.sh (.int a),s9,s10,s11,by rw[KD,jz,D2,K2]⟩
 |
  w::ws,a,acc,s9,s10,s11,h9,h10,h11,ha,hw,hs',b_=>by
  have hw0:=hw w (l_ ..);have hws:=jr (l:=ws) λx hx=>hw x (k_ _ hx);rw[J_] at hs';rw[o_] at b_;have sa:Sm m a:=mW.of_le (by omega);have sw:Sm m w:=mW.of_le (by omega);have f1:=d5 (a:=a) (b:=W) hW (mW.mono (by omega));have f2:=d5 (a:=w) (b:=W) hW (mW.mono (by omega));have z1:Sz m ((a:Rat)/(W:Rat)):=Sz.div (by omega) sa mW m (m_ _) (m_ _);have z2:Sz m ((w:Rat)/(W:Rat)):=Sz.div (by omega) sw mW m (m_ _) (m_ _);have ll:(acc.map bV).length<16777216:=by rw[j_];omega
  have g1:(gtN 9).G (.int w) [.sh (bV b),.sh (.str way),.sh (.lst (wl.map .int)),.sh (fV b.l),.sh (fV b.t),.sh (fV b.w),.sh (fV b.h),.ow (.lst (acc.map bV)),.sh (.int a),s9,s10,s11]=some [.sh (bV b),.sh (.str way),.sh (.lst (wl.map .int)),.sh (fV b.l),.sh (fV b.t),.sh (fV b.w),.sh (fV b.h),.ow (.lst (acc.map bV)),.sh (.int a),.sh (.int w),s10,s11]:=by simp![h9]
  rcases hway with rfl |rfl
  .have t1:=bO hs.w z1 (by omega);have t2:=bO hs.w z2 (by omega);have ad:=gD hs.l (hs.w.mul z1) (by omega);obtain⟨t8,t9,t10,t11,ih⟩:=ml hb hs hW mW h hsum (.inl rfl) ws (a+w) (acc++[(⟨b.l+b.w*((a:Rat)/(W:Rat)),b.t,b.w*((w:Rat)/(W:Rat)),b.h⟩:Bx)]) (.sh (.int w)) (.sh (fV ((a:Rat)/(W:Rat)))) (.sh (fV ((w:Rat)/(W:Rat)))) rfl rfl rfl (by omega) (λx hx=>hw x (k_ _ hx)) (by omega) (by rw[z_];show acc.length+1+_<=_;omega);refine⟨t8,t9,t10,t11,?_⟩;have b1:eA.G [.sh (bV b),.sh (.str "across"),.sh (.lst (wl.map .int)),.sh (fV b.l),.sh (fV b.t),.sh (fV b.w),.sh (fV b.h),.ow (.lst (acc.map bV)),.sh (.int a),.sh (.int w),s10,s11]=.nx [.sh (bV b),.sh (.str "across"),.sh (.lst (wl.map .int)),.sh (fV b.l),.sh (fV b.t),.sh (fV b.w),.sh (fV b.h),.ow (.lst ((acc++[(⟨b.l+b.w*((a:Rat)/(W:Rat)),b.t,b.w*((w:Rat)/(W:Rat)),b.h⟩:Bx)]).map bV)),.sh (.int (a+w)),.sh (.int w),.sh (fV ((a:Rat)/(W:Rat))),.sh (fV ((w:Rat)/(W:Rat)))]:=by unfold eA;rw[La,show [(⟨b.l+b.w*((a:Rat)/(W:Rat)),b.t,b.w*((w:Rat)/(W:Rat)),b.h⟩:Bx)].map bV=[.tup [fV (b.l+b.w*((a:Rat)/(W:Rat))),fV b.t,fV (b.w*((w:Rat)/(W:Rat))),fV b.h]] from rfl];simp![h10,h11,hsum,f1,f2,t1,t2,ad,ll,rQ]
   rw[s_,aF,g1];simp only[b1,iM];rw[ih,Ib,KZ];rfl
  .have t1:=bO hs.h z1 (by omega);have t2:=bO hs.h z2 (by omega);have ad:=gD hs.t (hs.h.mul z1) (by omega);obtain⟨t8,t9,t10,t11,ih⟩:=ml hb hs hW mW h hsum (.inr rfl) ws (a+w) (acc++[(⟨b.l,b.t+b.h*((a:Rat)/(W:Rat)),b.w,b.h*((w:Rat)/(W:Rat))⟩:Bx)]) (.sh (.int w)) (.sh (fV ((a:Rat)/(W:Rat)))) (.sh (fV ((w:Rat)/(W:Rat)))) rfl rfl rfl (by omega) (λx hx=>hw x (k_ _ hx)) (by omega) (by rw[z_];show acc.length+1+_<=_;omega);refine⟨t8,t9,t10,t11,?_⟩;have b1:eA.G [.sh (bV b),.sh (.str "down"),.sh (.lst (wl.map .int)),.sh (fV b.l),.sh (fV b.t),.sh (fV b.w),.sh (fV b.h),.ow (.lst (acc.map bV)),.sh (.int a),.sh (.int w),s10,s11]=.nx [.sh (bV b),.sh (.str "down"),.sh (.lst (wl.map .int)),.sh (fV b.l),.sh (fV b.t),.sh (fV b.w),.sh (fV b.h),.ow (.lst ((acc++[(⟨b.l,b.t+b.h*((a:Rat)/(W:Rat)),b.w,b.h*((w:Rat)/(W:Rat))⟩:Bx)]).map bV)),.sh (.int (a+w)),.sh (.int w),.sh (fV ((a:Rat)/(W:Rat))),.sh (fV ((w:Rat)/(W:Rat)))]:=by unfold eA;rw[La,show [(⟨b.l,b.t+b.h*((a:Rat)/(W:Rat)),b.w,b.h*((w:Rat)/(W:Rat))⟩:Bx)].map bV=[.tup [fV b.l,fV (b.t+b.h*((a:Rat)/(W:Rat))),fV b.w,fV (b.h*((w:Rat)/(W:Rat)))]] from rfl];simp![h10,h11,hsum,f1,f2,t1,t2,ad,ll,tQ]
   rw[s_,aF,g1];simp only[b1,iM];rw[ih,IS,KZ];rfl
def xy{b:Bx}{n m:Nat}{way:Str}{u v:Int}(hb:b.Ok)(hs:b.Sz n)(hway:way="across" \/ way="down")(hu:1<=u)(hv:1<=v)(mW:Sm m (u+v))(h:n+n+m<=8000):gp.G [bV b,.str way,.lst [.int u,.int v]]=.ok (.new (.lst [bV (bT b way u v),bV (bW b way u v)])) []:=by
 have es:[u,v].sum=u+v:=by simp
 obtain⟨s8,s9,s10,s11,lo⟩:=ml (wl:=[u,v]) hb hs (by omega:0<u+v) mW h es hway [u,v] 0 [] .no .no .no rfl rfl rfl (by omega) (by intro w hw;simp at hw;omega) (by rw[es];omega) (by simp);have pe:prt b way (u+v) 0 [u,v]=[bT b way u v,bW b way u v]:=by rw[<- uj];unfold d8 prt;rw[es]
 rw[Kx,pe,KD,s_,s_,KD,s_,s_,KD] at lo;have e0:bV b=.tup [fV b.l,fV b.t,fV b.w,fV b.h]:=rfl;rw[e0] at lo ⊢;unfold gp;rw[aE];unfold p9;simp![lo]
structure Ok51(ws nums:List Int)(b:Bx)(n m:Nat):Prop where
 ne:nums≠[]
 nd:nums.Nodup
 inr:Inr ws nums
 len:nums.length<=10
 mw:Sm m (wt ws nums)
 ok:b.Ok
 sz:b.Sz n
 bd:(n+m+1)*2^nums.length<=4000
def Ok51.nm{ws nums:List Int}{b:Bx}{n m:Nat}(h:Ok51 ws nums b n m):n+m+1<=2000:=by have h1:=I_.mpr h.ne;have h2:2^1<=2^nums.length:=Em (by decide) h1;have h3:=h.bd;have:(n+m+1)*2^1<=4000:=F_ (L4 _ h2) h3;omega
structure Sub51(ws nums:List Int)(b:Bx)(n m:Nat)(c:Str×List Int×List Int):Prop where
 w1:1<=wt ws c.2.1
 w2:1<=wt ws c.2.2
 sm:Sm m (wt ws c.2.1+wt ws c.2.2)
 o1:Ok51 ws c.2.1 (bT b c.1 (wt ws c.2.1) (wt ws c.2.2)) (n+(n+m)+1) m
 o2:Ok51 ws c.2.2 (bW b c.1 (wt ws c.2.1) (wt ws c.2.2)) (n+(n+m)+1) m
def Ok51.cut{ws nums:List Int}{b:Bx}{n m:Nat}(h:Ok51 ws nums b n m)(hw:∀w∈ws,1<=w){c:Str×List Int×List Int}(hc:CutOk nums c):Sub51 ws nums b n m c:=by
 have r1:Inr ws c.2.1:=λi hi=>h.inr i (hc.one.sub.subset hi);have r2:Inr ws c.2.2:=λi hi=>h.inr i (hc.two.sub.subset hi);have l1:=I_.mpr hc.one.ne;have l2:=I_.mpr hc.two.ne;have g1:=CT hw r1;have g2:=CT hw r2;have es:wt ws c.2.1+wt ws c.2.2=wt ws nums:=by rw[<- Gm];have p:=mK hc.one.sub h.nd;rw[<- hc.rest] at p;exact jt p
 have sm:Sm m (wt ws c.2.1+wt ws c.2.2):=by rw[es];exact h.mw
 have k1:=Es (way:=c.1) h.ok h.sz (by omega:1<=wt ws c.2.1) (by omega:1<=wt ws c.2.2) sm;have k2:=Dt (way:=c.1) h.ok h.sz (by omega:1<=wt ws c.2.1) (by omega:1<=wt ws c.2.2) sm;have bd:∀l:List Int,Lot nums l->(n+(n+m)+1+m+1)*2^l.length<=4000:=by intro l hl;have h1:=hl.lt;have h2:2^(l.length+1)<=2^nums.length:=Em (by decide) h1;have h3:=h.bd;have h4:(n+m+1)*2^(l.length+1)<=4000:=F_ (L4 _ h2) h3;rw[Nat.pow_succ,Mx (2^l.length),<- Nat.mul_assoc] at h4;rw[show n+(n+m)+1+m+1=(n+m+1)*2 by omega];exact h4
 have hl:=h.len;have q1:=hc.one.lt;have q2:=hc.two.lt;exact⟨by omega,by omega,sm,⟨hc.one.ne,h.nd.sublist hc.one.sub,r1,by omega,sm.of_le (by omega),k1.1,k1.2,bd _ hc.one⟩,⟨hc.two.ne,h.nd.sublist hc.two.sub,r2,by omega,sm.of_le (by omega),k2.1,k2.2,bd _ hc.two⟩⟩
def yE{nums:List Int}(nd:nums.Nodup){c:Str×List Int×List Int}(h:c∈aA "order" nums):c.2.1++c.2.2=nums:=by
 have hc:=fX nd h;obtain⟨l,hl,hc'⟩:=List.mem_flatMap.mp h;unfold bh at hl;rw[if_pos rfl] at hl;obtain⟨i,_,rfl⟩:=KP.mp hl;have e:c.2.1=nums.take i:=by
  unfold cA at hc';rcases C_.mp hc' with rfl |hc'
  .rfl
  .rw[K8] at hc';subst hc';rfl
 rw[hc.rest,e,AQ nd,LS]
def F3(kind:Str)(ws nums:List Int)(b:Bx)(o:Option Rat)(bv:Val):Prop:=match o with
 |none=>bv=.non
 |some q=>∃t ls,bv=.tup [fV q,t]/\Sz 4000 q/\ls.Perm nums/\(kind="order"->ls=nums)/\Tr ws b ls t q
def CK(q:Rat):L3.flatV (fV q)=true:=by unfold fV;simp [kR,eJ,fo,kS]
def J7{x y:Rat}{n:Nat}(hx:Sz n x)(hy:Sz n y):Sz n (mx x y):=by
 unfold mx;split
 .exact hy
 .exact hx
def Jv{x y:Rat}:¬ mx x y<x:=by
 unfold mx;split
 .rename_i h;exact LK.mpr (Rat.le_of_lt h)
 .exact MV
theorem je{kind:Str}{ws:List Int}{m:Nat}(hk:kind="order" \/ kind="any")(hw:∀w∈ws,1<=w):∀(k:Nat) (nums:List Int) (b:Bx) (n:Nat),Ok51 ws nums b n m->nums.length<=k->∃t ls,(cR k).G [bV b,liV ws,.str kind,liV nums]=.ok (.val (.tup [fV (bst kind ws k b nums),t])) []/\Sz 4000 (bst kind ws k b nums)/\ls.Perm nums/\(kind="order"->ls=nums)/\Tr ws b ls t (bst kind ws k b nums)
 |0,nums,b,n,H,hl=>absurd (I_.mpr H.ne) (by omega)
 |
  k+1,nums,b,n,H,hl=>by
  have nm:=H.nm;show ∃t ls,(PFx.of [false,false,false,false] 11 (eL (cR k))).G [bV b,liV ws,.str kind,liV nums]=_/\_;by_cases h1:nums.length=1
  .have eb:bst kind ws (k+1) b nums=c7 b:=by unfold bst;rw[if_pos h1]
   rw[eb]
   match nums,h1 with
   |[i],_=>have sh:=mE H.ok H.sz (by omega);refine⟨.int i,[i],?_,(kD H.ok H.sz).mono (by omega),List.Perm.refl _,λ_=>rfl,.leaf b i⟩;rw[lF];unfold eL;show (if _ then _ else _)=_;have it:(liV [i])=.lst [.int i]:=rfl;rw[it];simp![sh]
  .have hl2:2<=nums.length:=by have:=I_.mpr H.ne;omega
   have hne:((((nums.map Val.int).length:Nat):Int)==1)=false:=by rw[r_,j_];omega
   have ce:=jU hk H.ne H.len;obtain⟨q,eq⟩:=vh (λc=>iR (bst kind ws k) ws b c) (vb (kind:=kind) hl2);have eb:bst kind ws (k+1) b nums=q:=by unfold bst;rw[if_neg h1,eq];rfl
   obtain⟨e',⟨bv,s5,s6,s7,s8,s9,s10,rfl,_,hbv⟩,fr⟩:=qE (g:=(gtN 5).G) (B:=(cW (cR k)).G) cuV (λo c=>fI o (iR (bst kind ws k) ws b c)) (λo e=>∃bv s5 s6 s7 s8 s9 s10,e=[.sh (bV b),.sh (liV ws),.sh (.str kind),.sh (liV nums),.sh bv,s5,s6,s7,s8,s9,s10]/\(s5.pl=true/\s6.pl=true/\s7.pl=true/\s8.pl=true/\s9.pl=true/\s10.pl=true)/\F3 kind ws nums b o bv) (aA kind nums) none [.sh (bV b),.sh (liV ws),.sh (.str kind),.sh (liV nums),.sh .non,.no,.no,.no,.no,.no,.no] ⟨_,_,_,_,_,_,_,rfl,⟨rfl,rfl,rfl,rfl,rfl,rfl⟩,rfl⟩ (by
    rintro c hc o e ⟨bv,s5,s6,s7,s8,s9,s10,rfl,⟨g5,g6,g7,g8,g9,g10⟩,hbv⟩;have co:=fX H.nd hc;have su:=H.cut hw co;have b_:=H.len;have q1:=co.one.lt;have q2:=co.two.lt;have pb:=iP (c:=c) H.ok H.sz co.way su.o1.inr su.o2.inr (by omega) (by omega) su.w1 su.w2 su.sm (by omega);obtain⟨t1,l1,e1,z1,p1,c1,r1⟩:=je hk hw k c.2.1 _ _ su.o1 (by omega);obtain⟨t2,l2,e2,z2,p2,c2,r2⟩:=je hk hw k c.2.2 _ _ su.o2 (by omega);have ic:(cuV c).items=some [.str c.1,liV c.2.1,liV c.2.2]:=rfl;have fl1:L3.flatVs [fV (bst kind ws k (bT b c.1 (wt ws c.2.1) (wt ws c.2.2)) c.2.1),t1]=true:=by simp [eJ,fo,CK,r1.flat]
    have fl2:L3.flatVs [fV (bst kind ws k (bW b c.1 (wt ws c.2.1) (wt ws c.2.2)) c.2.2),t2]=true:=by simp [eJ,fo,CK,r2.flat]
    have tr:Tr ws b (l1++l2) (.tup [.str c.1,.tup [t1,t2]]) (iR (bst kind ws k) ws b c):=by
     refine Tr.node co.way ?_ ?_
     .rw[jt p1,jt p2];exact r1
     .rw[jt p1,jt p2];exact r2
    have pm:(l1++l2).Perm nums:=by have p:=mK co.one.sub H.nd;rw[<- co.rest] at p;exact (p1.append p2).trans p
    have oc:kind="order"->l1++l2=nums:=λz=>by rw[c1 z,c2 z];subst z;exact yE H.nd hc
    have zz:Sz 4000 (iR (bst kind ws k) ws b c):=J7 z1 z2;have gr:=tJ z1 z2 (by omega) (by omega);rw[show (if bst kind ws k (bT b c.1 (wt ws c.2.1) (wt ws c.2.2)) c.2.1<bst kind ws k (bW b c.1 (wt ws c.2.1) (wt ws c.2.2)) c.2.2 then bst kind ws k (bW b c.1 (wt ws c.2.1) (wt ws c.2.2)) c.2.2 else bst kind ws k (bT b c.1 (wt ws c.2.1) (wt ws c.2.2)) c.2.1)=iR (bst kind ws k) ws b c from rfl] at gr;have hge:¬ iR (bst kind ws k) ws b c<bst kind ws k (bT b c.1 (wt ws c.2.1) (wt ws c.2.2)) c.2.1:=Jv;generalize hb1:bT b c.1 (wt ws c.2.1) (wt ws c.2.2)=b1 at *;generalize hb2:bW b c.1 (wt ws c.2.1) (wt ws c.2.2)=b2 at *;generalize hx1:bst kind ws k b1 c.2.1=x1 at *;generalize hx2:bst kind ws k b2 c.2.2=x2 at *;generalize hcd:iR (bst kind ws k) ws b c=cd at *;refine⟨[.sh (bV b),.sh (liV ws),.sh (.str kind),.sh (liV nums),.sh bv,.sh (cuV c),s6,s7,s8,s9,s10],?_⟩;have gg:(gtN 5).G (cuV c) [.sh (bV b),.sh (liV ws),.sh (.str kind),.sh (liV nums),.sh bv,s5,s6,s7,s8,s9,s10]=some [.sh (bV b),.sh (liV ws),.sh (.str kind),.sh (liV nums),.sh bv,.sh (cuV c),s6,s7,s8,s9,s10]:=by simp![g5]
    cases o with
    |none=>have hbv':bv=.non:=hbv;subst hbv';refine⟨[.sh (bV b),.sh (liV ws),.sh (.str kind),.sh (liV nums),.sh (.tup [fV cd,.tup [.str c.1,.tup [t1,t2]]]),.sh (cuV c),.sh (bV b1),.sh (bV b2),.sh (.tup [fV x1,t1]),.sh (.tup [fV x2,t2]),.sh (fV cd)],gg,.inl ?_,_,_,_,_,_,_,_,rfl,⟨rfl,rfl,rfl,rfl,rfl,rfl⟩,_,_,rfl,zz,pm,oc,tr⟩;unfold cW;simp![pb,e1,e2,gr,ic,fl1,fl2,g6,g7,g8,g9,g10]
    |
     some p=>
     obtain⟨t0,l0,rfl,z0,p0,c0,r0⟩:=hbv;have il:=dD z1 z0 (by omega) (by omega);by_cases hx:x1<p
     .rw[x_ hx] at il;have ig:=dD zz z0 (by omega) (by omega);by_cases hy:cd<p
      .rw[x_ hy] at ig;have ms:fI (some p) cd=some cd:=if_pos hy;rw[ms];refine⟨[.sh (bV b),.sh (liV ws),.sh (.str kind),.sh (liV nums),.sh (.tup [fV cd,.tup [.str c.1,.tup [t1,t2]]]),.sh (cuV c),.sh (bV b1),.sh (bV b2),.sh (.tup [fV x1,t1]),.sh (.tup [fV x2,t2]),.sh (fV cd)],gg,.inl ?_,_,_,_,_,_,_,_,rfl,⟨rfl,rfl,rfl,rfl,rfl,rfl⟩,_,_,rfl,zz,pm,oc,tr⟩;unfold cW;simp![pb,e1,e2,gr,ic,fl1,fl2,il,ig,g6,g7,g8,g9,g10]
      .rw[v_ hy] at ig;have ms:fI (some p) cd=some p:=if_neg hy;rw[ms];refine⟨[.sh (bV b),.sh (liV ws),.sh (.str kind),.sh (liV nums),.sh (.tup [fV p,t0]),.sh (cuV c),.sh (bV b1),.sh (bV b2),.sh (.tup [fV x1,t1]),.sh (.tup [fV x2,t2]),.sh (fV cd)],gg,.inl ?_,_,_,_,_,_,_,_,rfl,⟨rfl,rfl,rfl,rfl,rfl,rfl⟩,_,_,rfl,z0,p0,c0,r0⟩;unfold cW;simp![pb,e1,e2,gr,ic,fl1,fl2,il,ig,g6,g7,g8,g9,g10]
     .rw[v_ hx] at il;have hy:¬ cd<p:=LK.mpr (Rat.le_trans (LK.mp hx) (LK.mp hge));have ms:fI (some p) cd=some p:=if_neg hy;rw[ms];refine⟨[.sh (bV b),.sh (liV ws),.sh (.str kind),.sh (liV nums),.sh (.tup [fV p,t0]),.sh (cuV c),.sh (bV b1),.sh (bV b2),.sh (.tup [fV x1,t1]),s9,s10],gg,.inr ?_,_,_,_,_,_,_,_,rfl,⟨rfl,rfl,rfl,rfl,g9,g10⟩,_,_,rfl,z0,p0,c0,r0⟩;unfold cW;simp![pb,e1,ic,fl1,il,g6,g7,g8])
   rw[eq] at hbv;obtain⟨t,ls,rfl,z,pm,oc,tr⟩:=hbv;rw[eb];refine⟨t,ls,?_,z,pm,oc,tr⟩;rw[lF];unfold eL;have it:(liV nums)=.lst (nums.map .int):=rfl;rw[it] at fr ce ⊢;simp![hne,ce,fr]
def Dh{l:List Int}(h:∀x∈l,1<=x){y:Int}(hy:y∈l):y<=l.sum:=by
 induction l with
 |nil=>cases hy
 |
  cons a l ih=>
  have hn:=jr (l:=l) λx hx=>h x (k_ _ hx);rw[J_];rcases C_.mp hy with rfl |hy
  .omega
  .have:=ih (λx hx=>h x (k_ _ hx)) hy
   have:=h a (l_ ..)
   omega
def qt{b:Bx}{bd:Rat}{n β:Nat}{x y:Val}(hb:b.Ok)(hs:b.Sz n)(h:n+n<=8000)(zb:Sz β bd)(hβ:β<=8000):fZ.G [bV b,.tup [x,y,fV bd]]=.ok (.val (.bl (!decide (c7 b<bd)))) []:=by have e1:=mE hb hs h;have e2:=dD (kD hb hs) zb (by omega) (by omega);unfold fZ;rw[aE];unfold sE;simp![e1,e2]
def sT{ws nums:List Int}{i:Int}(hw:∀w∈ws,1<=w)(hr:Inr ws nums)(hi:i∈nums):1<=bB ws i/\bB ws i<=wt ws nums:=by
 have h1:∀x∈nums.map (bB ws),1<=x:=λx hx=>by obtain⟨j,hj,rfl⟩:=KP.mp hx;exact hw _ (so (hr j hj).1 (hr j hj).2)
 exact⟨h1 _ (MK hi),Dh h1 (MK hi)⟩
def rD{ws nums:List Int}{b:Bx}{n m:Nat}{i:Int}(H:Ok51 ws nums b n m)(hw:∀w∈ws,1<=w)(hi:i∈nums):Sz m ((bB ws i:Rat)/(wt ws nums:Rat))/\Sz (n+n+m) (thn ws b i nums):=by
 have hq:=sT hw H.inr hi;have mw:(wt ws nums).natAbs<2^m:=H.mw;have sm1:Sm m (bB ws i):=by show (bB ws i).natAbs<2^m;omega
 have z1:=Sz.div (by omega) sm1 H.mw m (m_ _) (m_ _);exact⟨z1,(kD H.ok H.sz).mul z1⟩
def nA{ws nums:List Int}{b:Bx}{n m β:Nat}{bd:Rat}{y:Val}{i:Int}(H:Ok51 ws nums b n m)(hw:∀w∈ws,1<=w)(hi:i∈nums)(zb:Sz β bd)(hβ:β<=8000):eY.G [.int i,bV b,liV nums,.tup [liV ws,y,fV bd]]=.ok (.val (.bl (!decide (thn ws b i nums<bd)))) []:=by
 have nm:=H.nm;have ln:=H.len;have hq:=sT hw H.inr hi;obtain⟨z1,z2⟩:=rD H hw hi;have e1:=mE H.ok H.sz (by omega);have e2:=dO (a:=bB ws i) (b:=wt ws nums) (by omega) (H.mw.mono (by omega));have e3:=mH (kD H.ok H.sz) z1 (by omega);have e4:=dD z2 zb (by omega) (by omega);have e5:=gN H.inr (by omega:nums.length<=1000);have e6:=wU (H.inr i hi).1 (H.inr i hi).2;have e7:fL.G [bV b,.int (bB ws i),.int (wt ws nums)]=.ok (.val (fV (thn ws b i nums))) []:=by unfold fL;rw[aE];unfold mZ;simp![e1,e2,e3];rfl
 unfold eY;rw[aE];unfold pZ;unfold liV at e5 ⊢;simp![e5,e6,e7,e4]
noncomputable def oP (o:Option Val):Val:=o.getD .non
def D9{kind:Str}{ws:List Int}{bd:Rat}{k:Nat}{b:Bx}{nums:List Int}{v:Val}(h:brg kind ws bd k b nums=some v):∃l,v=.tup l:=by
 have:=(nr h).1
 cases k with
 |zero=>exact this.elim
 |succ k=>rcases this with ⟨_,rfl⟩ |⟨_,_,_,rfl⟩ |⟨_,_,rfl,_⟩ <;> exact⟨_,rfl⟩
noncomputable def oR (o:Option (Bool×Val)):Val:=match o with
 |some r=>rwV r
 |none=>.non
def Fq{s:PFx [false,false,false]}{c:Str×List Int×List Int}{ws:List Int}{b:Bx}{n m:Nat}{bd:Rat}{kv:Val}{nums:List Int}{f:Bx->List Int->Option Val}(H:Ok51 ws nums b n m)(hw:∀w∈ws,1<=w)(hc:CutOk nums c)(hf:∀x l v,f x l=some v->∃l,v=.tup l)
 (e1:s.G [bV (bT b c.1 (wt ws c.2.1) (wt ws c.2.2)),liV c.2.1,.tup [liV ws,kv,fV bd]]=.ok (.val (oP (f (bT b c.1 (wt ws c.2.1) (wt ws c.2.2)) c.2.1))) [])
 (e2:s.G [bV (bW b c.1 (wt ws c.2.1) (wt ws c.2.2)),liV c.2.2,.tup [liV ws,kv,fV bd]]=.ok (.val (oP (f (bW b c.1 (wt ws c.2.1) (wt ws c.2.2)) c.2.2))) []):
 (bu s).G [cuV c,bV b,.tup [liV ws,kv,fV bd]]=.ok (.val (oR (brw f ws b c))) []:=by
 have S:=H.cut hw hc;have nm:=H.nm;have ln:=H.len;have l1:=hc.one.lt;have l2:=hc.two.lt;have pb:=iP H.ok H.sz hc.way S.o1.inr S.o2.inr (by omega) (by omega) S.w1 S.w2 S.sm (by omega);have ff:=hf (bT b c.1 (wt ws c.2.1) (wt ws c.2.2)) c.2.1;have fg:=hf (bW b c.1 (wt ws c.2.1) (wt ws c.2.2)) c.2.2;unfold brw;generalize bT b c.1 (wt ws c.2.1) (wt ws c.2.2)=b1 at *;generalize bW b c.1 (wt ws c.2.1) (wt ws c.2.2)=b2 at *;generalize f b1 c.2.1=o1 at *;generalize f b2 c.2.2=o2 at *;have ec:cuV c=.tup [.str c.1,liV c.2.1,liV c.2.2]:=rfl;rw[ec] at pb ⊢;generalize liV c.2.1=x1 at *;generalize liV c.2.2=x2 at *;generalize liV ws=xw at *;generalize bV b1=y1 at *;generalize bV b2=y2 at *;generalize fV bd=z at *;have en:iO 0 [y1,y2]=[.tup [.int 0,y1],.tup [.int 1,y2]]:=rfl;unfold bu;rw[aE];unfold j8 i6;cases o1 with
 |some v=>obtain⟨l,rfl⟩:=ff v rfl;unfold oP at e1;simp![pb,en,aF,e1,Option.getD_some];rfl
 |
  none=>
  unfold oP at e1;cases o2 with
  |some v=>obtain⟨l,rfl⟩:=fg v rfl;unfold oP at e2;simp![pb,en,aF,e1,e2,Option.getD_some,Mn];rfl
  |none=>unfold oP at e2;simp![pb,en,aF,e1,e2,Mn];rfl
theorem qu{s:PFx [false,false,false]}{ws nums:List Int}{b:Bx}{n m β:Nat}{bd:Rat}{y:Val}(H:Ok51 ws nums b n m)(hw:∀w∈ws,1<=w)(zb:Sz β bd)(hβ:β<=8000):∀(l:List Int),(∀i∈l,i∈nums)->∀s3:Sl,s3.pl=true->(∃s3':Sl,s3'.pl=true/\(l.find? λi=>!decide (thn ws b i nums<bd))=none/\bQ (gtN 3).G (fD s).G (l.map .int) [.sh (bV b),.sh (liV nums),.sh (.tup [liV ws,y,fV bd]),s3,.no,.no,.no]=.nx [.sh (bV b),.sh (liV nums),.sh (.tup [liV ws,y,fV bd]),s3',.no,.no,.no])\/(∃i,(l.find? λi=>!decide (thn ws b i nums<bd))=some i/\bQ (gtN 3).G (fD s).G (l.map .int) [.sh (bV b),.sh (liV nums),.sh (.tup [liV ws,y,fV bd]),s3,.no,.no,.no]=.rt (.val (.tup [.str "thin",.int i])) [.sh (bV b),.sh (liV nums),.sh (.tup [liV ws,y,fV bd]),.sh (.int i),.no,.no,.no])
 | [],_,s3,h3=>.inl ⟨s3,h3,rfl,rfl⟩
 |
  i::l,hl,s3,h3=>by
  have e:=nA (y:=y) H hw (hl i (l_ ..)) zb hβ;have ih:=qu H hw zb hβ l (λj hj=>hl j (k_ _ hj)) (s:=s) (y:=y) (.sh (.int i)) rfl;rw[s_,K_];generalize hd:(!decide (thn ws b i nums<bd))=d at *;have eb:(fD s).G [.sh (bV b),.sh (liV nums),.sh (.tup [liV ws,y,fV bd]),.sh (.int i),.no,.no,.no]=if d=true then .rt (.val (.tup [.str "thin",.int i])) [.sh (bV b),.sh (liV nums),.sh (.tup [liV ws,y,fV bd]),.sh (.int i),.no,.no,.no] else .nx [.sh (bV b),.sh (liV nums),.sh (.tup [liV ws,y,fV bd]),.sh (.int i),.no,.no,.no]:=by unfold fD;cases d <;> simp![e]
  have eg:(gtN 3).G (.int i) [.sh (bV b),.sh (liV nums),.sh (.tup [liV ws,y,fV bd]),s3,.no,.no,.no]=some [.sh (bV b),.sh (liV nums),.sh (.tup [liV ws,y,fV bd]),.sh (.int i),.no,.no,.no]:=by simp![h3]
  cases d with
  |true=>refine .inr ⟨i,rfl,?_⟩;rw[aF,eg];dsimp only;rw[eb,if_pos rfl];rfl
  |false=>rw[aF,eg];dsimp only;rw[eb,if_neg h_];exact ih
theorem pM{s:PFx [false,false,false]}{v0 v1 v2:Val}{s3:Sl}{g:Str×List Int×List Int->Option (Bool×Val)}:∀(l:List (Str×List Int×List Int)),(∀c∈l,(bu s).G [cuV c,v0,v2]=.ok (.val (oR (g c))) [])->∀(acc:List Val) (s5 s6:Sl),s5.pl=true->s6.pl=true->acc.length+l.length<=100000->((l.all λc=>(g c).isSome)=true/\∃s5' s6',bQ (gtN 5).G (dH s).G (l.map cuV) [.sh v0,.sh v1,.sh v2,s3,.ow (.lst acc),s5,s6]=.nx [.sh v0,.sh v1,.sh v2,s3,.ow (.lst (acc++l.map λc=>rwV ((g c).getD (false,.non)))),s5',s6'])\/((l.all λc=>(g c).isSome)=false/\∃s4 s5' s6',bQ (gtN 5).G (dH s).G (l.map cuV) [.sh v0,.sh v1,.sh v2,s3,.ow (.lst acc),s5,s6]=.rt (.val .non) [.sh v0,.sh v1,.sh v2,s3,s4,s5',s6'])
 | [],_,acc,s5,s6,_,_,_=>.inl ⟨rfl,s5,s6,by rw[KD,KD,K2];rfl⟩
 |
  c::l,hr,acc,s5,s6,h5,h6,hl=>by
  rw[o_] at hl;have e:=hr c (l_ ..);have ll:acc.length<16777216:=by omega
  have eg:(gtN 5).G (cuV c) [.sh v0,.sh v1,.sh v2,s3,.ow (.lst acc),s5,s6]=some [.sh v0,.sh v1,.sh v2,s3,.ow (.lst acc),.sh (cuV c),s6]:=by simp![h5]
  rw[s_,LG,s_,aF,eg];dsimp only;cases hg:g c with
  |
   none=>
   rw[hg] at e;have e':(bu s).G [cuV c,v0,v2]=.ok (.val .non) []:=e;have eb:(dH s).G [.sh v0,.sh v1,.sh v2,s3,.ow (.lst acc),.sh (cuV c),s6]=.rt (.val .non) [.sh v0,.sh v1,.sh v2,s3,.ow (.lst acc),.sh (cuV c),.sh .non]:=by unfold dH;generalize cuV c=cv at *;simp![e',h6]
   refine .inr ⟨rfl,.ow (.lst acc),.sh (cuV c),.sh .non,?_⟩;rw[eb];rfl
  |
   some r=>
   rw[hg] at e;have e':(bu s).G [cuV c,v0,v2]=.ok (.val (.tup [.int (if r.1 then 1 else 0),r.2])) []:=e;have eb:(dH s).G [.sh v0,.sh v1,.sh v2,s3,.ow (.lst acc),.sh (cuV c),s6]=.nx [.sh v0,.sh v1,.sh v2,s3,.ow (.lst (acc++[rwV r])),.sh (cuV c),.sh (rwV r)]:=by unfold dH rwV;generalize cuV c=cv at *;generalize (if r.1 then (1:Int) else 0)=z at *;simp![e',h6,ll]
   rw[eb];have ih:=pM (s:=s) (v1:=v1) (s3:=s3) l (λd hd=>hr d (k_ _ hd)) (acc++[rwV r]) (.sh (cuV c)) (.sh (rwV r)) rfl rfl (by rw[z_,KQ];omega);rw[KZ] at ih;exact ih
def A9{kind:Str}{nums:List Int}(h:nums.length<=10):(aA kind nums).length<=2000:=by
 have h1:=hX (kind:=kind) h;unfold aA;rw[MH];have:∀l:List (List Int),((l.map λa=>(cA nums a).length).sum)=2*l.length:=λl=>by
  induction l with
  |nil=>rfl
  |cons a l ih=>rw[s_,J_,ih,o_];show 2+2*l.length=_;omega
 rw[this];omega
theorem jQ{kind:Str}{ws:List Int}{m β:Nat}{bd:Rat}(hk:kind="order" \/ kind="any")(hw:∀w∈ws,1<=w)(zb:Sz β bd)(hβ:β<=8000):∀(k:Nat) (nums:List Int) (b:Bx) (n:Nat),Ok51 ws nums b n m->nums.length<=k->(dg k).G [bV b,liV nums,.tup [liV ws,.str kind,fV bd]]=.ok (.val (oP (brg kind ws bd k b nums))) []
 |0,nums,b,n,H,hl=>absurd (I_.mpr H.ne) (by omega)
 |
  k+1,nums,b,n,H,hl=>by
  have nm:=H.nm;have ln:=H.len;have hp:=I_.mpr H.ne;have fa:=qt (x:=liV ws) (y:=.str kind) H.ok H.sz (by omega) zb hβ;have lq:((nums.map Val.int).length:Nat)=nums.length:=j_ ..;have itl:∀xs:List Val,(Val.lst xs).items=some xs:=λ_=>rfl;show (PFx.of [false,false,false] 7 (iC (dg k))).G [bV b,liV nums,.tup [liV ws,.str kind,fV bd]]=_;rw[lF];unfold iC brg;by_cases h1:nums.length=1
  .have hd:(((nums.length:Nat):Int)==1)=true:=by rw[h1];rfl
   rw[if_pos h1];generalize c7 b=q at *;by_cases hq:q<bd
   .rw[if_pos hq];rw[x_ hq] at fa;unfold liV at *;simp![lq,hd,fa];rfl
   .rw[if_neg hq];rw[v_ hq] at fa;unfold liV at *;simp![lq,hd,fa];rfl
  .have hd:(((nums.length:Nat):Int)==1)=false:=by rw[r_];omega
   rw[if_neg h1];rcases qu (s:=dg k) (y:=.str kind) H hw zb hβ nums (λ_ h=>h) .no rfl with ⟨s3,h3,e,fr⟩ |⟨i,e,fr⟩
   .rw[e];dsimp only;have co:=jU hk H.ne ln;have cl:=A9 (kind:=kind) ln;have row:∀c∈aA kind nums,(bu (dg k)).G [cuV c,bV b,.tup [liV ws,.str kind,fV bd]]=.ok (.val (oR (brw (brg kind ws bd k) ws b c))) []:=λc hc=>by have cc:=fX H.nd hc;have l1:=cc.one.lt;have l2:=cc.two.lt;have S:=H.cut hw cc;exact Fq H hw cc (λ_ _ _ h=>D9 h) (jQ hk hw zb hβ k _ _ _ S.o1 (by omega)) (jQ hk hw zb hβ k _ _ _ S.o2 (by omega))
    rcases pM (v1:=liV nums) (s3:=s3) (aA kind nums) row [] .no .no rfl rfl (by rw[KG];omega) with ⟨ha,s5,s6,fr2⟩ |⟨ha,s4,s5,s6,fr2⟩
    .rw[if_pos ha];rw[Kx] at fr2;generalize (aA kind nums).map cuV=cv at *;generalize hR:((aA kind nums).map λc=>rwV ((brw (brg kind ws bd k) ws b c).getD (false,.non)))=rv at *;have lr:rv.length<=16777216:=by rw[<- hR,j_];omega
     generalize fV bd=z at *;unfold liV at *;simp![lq,hd,itl,fr,co,fr2,lr];rfl
    .have hz:¬ (((aA kind nums).all λc=>(brw (brg kind ws bd k) ws b c).isSome)=true):=by rw[ha];exact h_
     rw[if_neg hz];generalize (aA kind nums).map cuV=cv at *;generalize fV bd=z at *;unfold liV at *;simp![lq,hd,itl,fr,co,fr2];rfl
   .rw[e];dsimp only;generalize fV bd=z at *;unfold liV at *;simp![lq,hd,itl,fr];rfl
def ay(xs:List Val):(aO bc).G [.tup xs,.ty "tuple"]=.val (.bl true):=rfl
def J4(r:Bool):gw.G (.int (if r then 1 else 0)) (.tup [.int 0,.int 1])=.val (.bl false):=by show aIn true (.int (if r then 1 else 0)) (.tup [.int 0,.int 1])=_;unfold aIn;dsimp only [Val.items];rw[if_pos ⟨rfl,rfl⟩];cases r <;> rfl
def lM{s:PFx [false,false,false,false]}{c:Str×List Int×List Int}{ws nums:List Int}{b:Bx}{n m:Nat}{r t:Bool}{p kv z:Val}(H:Ok51 ws nums b n m)(hw:∀w∈ws,1<=w)(hc:CutOk nums c)(e:s.G [p,bV (eG ws b c r),liV (cX c r),.tup [liV ws,kv,z]]=.ok (.val (.bl t)) []):(bx s).G [rwV (r,p),cuV c,bV b,.tup [liV ws,kv,z]]=.ok (.val (.bl t)) []:=by
 have S:=H.cut hw hc;have nm:=H.nm;have ln:=H.len;have l1:=hc.one.lt;have l2:=hc.two.lt;have pb:=iP H.ok H.sz hc.way S.o1.inr S.o2.inr (by omega) (by omega) S.w1 S.w2 S.sm (by omega);have ni:=J4 r;have iw:=dP (v:=.int (if r then 1 else 0)) rfl;rw[show eQ (.int (if r then 1 else 0))=true from rfl] at iw;have ec:cuV c=.tup [.str c.1,liV c.2.1,liV c.2.2]:=rfl;have er:rwV (r,p)=.tup [.int (if r then 1 else 0),p]:=rfl;rw[ec] at pb ⊢;rw[er];unfold eG cX at e;generalize bT b c.1 (wt ws c.2.1) (wt ws c.2.2)=b1 at *;generalize bW b c.1 (wt ws c.2.1) (wt ws c.2.2)=b2 at *;unfold bx;rw[aE];unfold eh;cases r with
 |false=>rw[if_neg h_,if_neg h_] at e;rw[if_neg h_] at ni iw ⊢;generalize liV c.2.1=x1 at *;generalize liV c.2.2=x2 at *;generalize liV ws=xw at *;generalize bV b1=y1 at *;generalize bV b2=y2 at *;simp![ay,iw,ni,pb,e]
 |true=>rw[if_pos rfl,if_pos rfl] at e;rw[if_pos rfl] at ni iw ⊢;generalize liV c.2.1=x1 at *;generalize liV c.2.2=x2 at *;generalize liV ws=xw at *;generalize bV b1=y1 at *;generalize bV b2=y2 at *;simp![ay,iw,ni,pb,e]
def DN{w h q:Rat}(hw:0<w)(hh:0<h):w*h*q/((if h<w then h else w)*(if h<w then h else w))=(if w<h then h/w else w/h)*q:=by
 have h1:w≠0:=λz=>by rw[z] at hw;exact MV hw
 have h2:h≠0:=λz=>by rw[z] at hh;exact MV hh
 by_cases a:h<w
 .rw[if_pos a,if_neg (LK.mpr (Rat.le_of_lt a))];grind
 .rw[if_neg a];by_cases c:w<h
  .rw[if_pos c];grind
  .have:w=h:=Rat.le_antisymm (LK.mp a) (LK.mp c);subst this;rw[if_neg c];grind
def uN{ws nums:List Int}{b:Bx}{n m:Nat}{i:Int}(H:Ok51 ws nums b n m)(hw:∀w∈ws,1<=w)(hi:i∈nums):fq.G [bV b,.int i,liV nums,liV ws]=.ok (.val (fV (thn ws b i nums))) []:=by
 have nm:=H.nm;have ln:=H.len;have hq:=sT hw H.inr hi;obtain⟨z1,z2⟩:=rD H hw hi;obtain⟨lb,tb,wb,hb⟩:=b;obtain⟨o1,o2⟩:=H.ok;obtain⟨_,_,s1,s2⟩:=H.sz;dsimp only at o1 o2 s1 s2;have ebv:bV (⟨lb,tb,wb,hb⟩:Bx)=.tup [fV lb,fV tb,fV wb,fV hb]:=rfl;have e0:=gh s2 s1 (by omega) (by omega);have e1:=d5 (a:=bB ws i) (b:=wt ws nums) (by omega) (H.mw.mono (by omega));have e2:=bO s1 s2 (by omega);have e3:=bO (s1.mul s2) z1 (by omega);have e6:=wU (H.inr i hi).1 (H.inr i hi).2;obtain⟨sa,la⟩:=qZ H.inr (by omega:nums.length<=1000);have c1:((nums.map (bB ws)).map Val.int).length<=16777216:=by rw[j_,j_];omega
 have itl:∀xs:List Val,(Val.lst xs).items=some xs:=λ_=>rfl;have id:=DN (q:=(bB ws i:Rat)/(wt ws nums:Rat)) o1 o2;have et:thn ws ⟨lb,tb,wb,hb⟩ i nums=(if wb<hb then hb/wb else wb/hb)*((bB ws i:Rat)/(wt ws nums:Rat)):=rfl;rw[et,<- id,ebv];unfold wt at z1 e1 e3 ⊢;generalize hsum:(nums.map (bB ws)).sum=W at *;generalize ((bB ws i:Rat)/(W:Rat))=q at *;unfold fq;rw[aE];unfold nH;unfold liV;by_cases a:hb<wb
 .rw[x_ a] at e0;have e4:=bO s2 s2 (by omega);have p0:0<hb*hb:=Rat.mul_pos o2 o2;have e5:=gi ((s1.mul s2).mul z1) (s2.mul s2) p0 (by omega);rw[if_pos a];simp![itl,bA,la,c1,hsum,e0,e6,e1,e2,e3,e4,e5]
 .rw[v_ a] at e0;have e4:=bO s1 s1 (by omega);have p0:0<wb*wb:=Rat.mul_pos o1 o1;have e5:=gi ((s1.mul s2).mul z1) (s1.mul s1) p0 (by omega);rw[if_neg a];simp![itl,bA,la,c1,hsum,e0,e6,e1,e2,e3,e4,e5]
noncomputable def aw (n:Nat):List Int:=(List.range n).map λi=>((i:Nat):Int)
def kZ(n:Nat):rgV n=(aw n).map Val.int:=by unfold aw rgV;rw[LC];rfl
def Et{kind:Str}{mo:Int}(hk:kind="order" /\ mo=6\/kind="any" /\ mo=5):dZ.G [.str kind]=.ok (.val .non) []:=by
 have i1:(aO bc).G [.str kind,.ty "str"]=.val (.bl true):=rfl;have i2:lkS bI kind=some mo:=by rcases hk with ⟨rfl,rfl⟩ |⟨rfl,rfl⟩ <;> decide +kernel
 unfold dZ;rw[aE];unfold kC;simp![i1,FX,i2]
def rS{kind:Str}{mo:Int}{ws:List Int}{b:Bx}(hk:kind="order" /\ mo=6\/kind="any" /\ mo=5)(hw:∀w∈ws,1<=w)(h0:ws≠[])(hl:(ws.length:Int)<=mo)(ok:b.Ok):cF.G [bV b,.lst (ws.map .int),.str kind]=.ok (.val .non) []:=by
 have m6:mo<=6:=by rcases hk with ⟨_,rfl⟩ |⟨_,rfl⟩ <;> decide
 have cb:=gR ok;have cw:=yh h0 hw (by omega);have i1:(aO bc).G [.str kind,.ty "str"]=.val (.bl true):=rfl;have i2:lkS bI kind=some mo:=by rcases hk with ⟨rfl,rfl⟩ |⟨rfl,rfl⟩ <;> decide +kernel
 have kg:(rp "MOST_THINGS" bI).G (.glb "MOST_THINGS") (.str kind)=.val (.int mo):=G5 i2;have lw:((ws.map Val.int).length:Nat)=ws.length:=j_ ..;have hd:decide (mo<((ws.length:Nat):Int))=false:=v_ (by omega);have ko:=Et hk;unfold cF;rw[aE];unfold jZ;simp![cb,cw,ko,kg,lw,hd]
def ji{kind:Str}{mo:Int}{ws:List Int}{b:Bx}{n m:Nat}(hk:kind="order" /\ mo=6\/kind="any" /\ mo=5)(hw:∀w∈ws,1<=w)(h0:ws≠[])(hl:(ws.length:Int)<=mo)(H:Ok51 ws (aw ws.length) b n m):∃t,cG.G [bV b,.lst (ws.map .int),.str kind]=.ok (.val (.tup [fV (bst kind ws 7 b (aw ws.length)),t])) []/\L3.flatV t=true:=by
 have m6:mo<=6:=by rcases hk with ⟨_,rfl⟩ |⟨_,rfl⟩ <;> decide
 have nl:(aw ws.length).length=ws.length:=by unfold aw;rw[j_,K0]
 obtain⟨t,ls,e,z,_,_,tr⟩:=je (hk.imp LU LU) hw 7 (aw ws.length) b n H (by omega);refine⟨t,?_,tr.flat⟩;have ca:=rS hk hw h0 hl H.ok;have lw:((ws.map Val.int).length:Nat)=ws.length:=j_ ..;have lr:fc.G [.int (ws.length:Nat)]=.new (.lst ((aw ws.length).map Val.int)):=by rw[rj ⟨by omega,by omega⟩,<- kZ];rfl
 generalize bst kind ws 7 b (aw ws.length)=q at *;unfold liV at e;unfold cG;rw[aE];unfold j9;simp![ca,lw,lr,e]
def Br{kind:Str}{mo:Int}{ws:List Int}{b:Bx}{n m:Nat}(hk:kind="order" /\ mo=6\/kind="any" /\ mo=5)(hw:∀w∈ws,1<=w)(h0:ws≠[])(hl:(ws.length:Int)<=mo)(H:Ok51 ws (aw ws.length) b n m):∃p,fj.G [bV b,.lst (ws.map .int),.str kind]=.ok (.val p) []/\Brs kind ws (bst kind ws 7 b (aw ws.length)) 7 b (aw ws.length) p true:=by
 have m6:mo<=6:=by rcases hk with ⟨_,rfl⟩ |⟨_,rfl⟩ <;> decide
 have hk':kind="order" \/ kind="any":=hk.imp LU LU;have nl:(aw ws.length).length=ws.length:=by unfold aw;rw[j_,K0]
 obtain⟨t,le,_⟩:=ji hk hw h0 hl H;obtain⟨_,_,_,z,_,_,_⟩:=je hk' hw 7 (aw ws.length) b n H (by omega);obtain⟨p,hp⟩:=mD (kind:=kind) (ws:=ws) (bd:=bst kind ws 7 b (aw ws.length)) (k:=7) (b:=b) H.nd H.ne (by omega) MP;have br:=jQ hk' hw z (by omega) 7 (aw ws.length) b n H (by omega);rw[hp] at br;refine⟨p,?_,(nr hp).2⟩;have lw:((ws.map Val.int).length:Nat)=ws.length:=j_ ..;have lr:fc.G [.int (ws.length:Nat)]=.new (.lst ((aw ws.length).map Val.int)):=by rw[rj ⟨by omega,by omega⟩,<- kZ];rfl
 clear hp;generalize bst kind ws 7 b (aw ws.length)=q at *;unfold liV oP at *;unfold fj;rw[aE];unfold nM;simp![le,lw,lr,br,Option.getD_some]
def p30:mB.G (.int 10) (.int 30)=.val (.int 1000000000000000000000000000000):=CH ⟨by decide,by decide,by decide⟩
def iJ{β:Nat}{a b:Int}(h0:0<=a)(h:a<=b)(hb:Sm β b):Sm β a:=hb.of_le (by omega)
def va{n β:Nat}{v:Val}{far:Int}(f:Fd n v)(hn:n<=800000000)(h1:1<=far)(hf:Sm β far)(h60:Sm β 60)(hβ:β<=8000):∃q v',eC.G [v,.int far]=.ok (.val (fV q)) [v']/\Fd (n+13) v'/\0<q/\Sz β q:=by
 obtain⟨w,v1,e1,f1,w0,w5⟩:=az (m:=5) f (by omega) (by decide) (sm8 (by decide));unfold eC;rw[aE];unfold mR;by_cases h2:w<2
 .obtain⟨a,v2,e2,f2,a0,a1⟩:=az (m:=12) f1 (by omega) (by decide) (sm8 (by decide));refine⟨((1+a:Int):Rat),v2,?_,f2.mono (by omega),oK (by omega),iJ (by show (0:Int)<=1+a;omega) (by show 1+a<=60;omega) h60,iJ (a:=1) (by decide) (by decide) h60⟩;have i1:fV ((1+a:Int):Rat)=.tup [.int (1+a),.int 1]:=rfl;rw[i1];simp![e1,e2,x_ h2]
 .have d2:=v_ h2;by_cases h3:w=2
  .subst h3;refine⟨1,v1,?_,f1.mono (by omega),by decide,iJ (a:=1) (by decide) (by decide) h60,iJ (a:=1) (by decide) (by decide) h60⟩;have i1:fV 1=.tup [.int 1,.int 1]:=rfl;rw[i1];simp![e1,d2]
  .have d3:(w==2)=false:=by rw[r_];exact h3
   by_cases h4:w=3
   .subst h4;obtain⟨a,v2,e2,f2,a0,a1⟩:=az (m:=60) f1 (by omega) (by decide) (sm8 (by decide));obtain⟨b,v3,e3,f3,b0,b1⟩:=az (m:=12) f2 (by omega) (by decide) (sm8 (by decide));have sb:Sm β (1+b):=iJ (by omega) (by omega) h60;have lo:=d5 (a:=1+a) (b:=1+b) (by omega) (sb.mono hβ);refine⟨((1+a:Int):Rat)/((1+b:Int):Rat),v3,?_,f3.mono (by omega),mq (by omega) (by omega),Sz.div (by omega) (iJ (by omega) (by omega) h60) sb β (m_ _) (m_ _)⟩;simp![e1,e2,e3,d2,lo]
   .have d4:(w==3)=false:=by rw[r_];exact h4
    obtain⟨a,v2,e2,f2,a0⟩:=tM f1 (by omega);obtain⟨b,v3,e3,f3,b0⟩:=tM f2 (by omega);have m1:∀x:Int,bH.G (.int x) (.int far)=.val (.int (x.fmod far)):=λx=>fm (by omega);have r1:=d7 (a:=a) (m:=far) (by omega);have r2:=d7 (a:=b) (m:=far) (by omega);have sb:Sm β (1+b.fmod far):=iJ (by omega) (by omega) hf;have lo:=d5 (a:=1+a.fmod far) (b:=1+b.fmod far) (by omega) (sb.mono hβ);refine⟨((1+a.fmod far:Int):Rat)/((1+b.fmod far:Int):Rat),v3,?_,f3.mono (by omega),mq (by omega) (by omega),Sz.div (by omega) (iJ (by omega) (by omega) hf) sb β (m_ _) (m_ _)⟩;simp![e1,e2,e3,d2,d3,d4,m1,lo]
def Cd:gW [.int 2]=some [.int 0,.int 1]:=gM (i:=2) (by decide) (by decide)
structure Ca(mo:Int)(b:Bx)(ws:List Int)(far:Int)(β μ mn:Nat):Prop where
 len:ws.length=mn
 m1:1<=mn
 m5:(mn:Int)<=mo
 m6:mn<=6
 le:∀w∈ws,1<=w/\w<=far
 h60:60<=far
 ok:b.Ok
 sz:b.Sz β
 mu:((mn:Int)*far).natAbs<2^μ
 bd:(β+μ+1)*2^mn<=4000
def caQ(mo:Int)(n:Nat)(r:SR3):Prop:=∃b ws far β μ mn v',Ca mo b ws far β μ mn/\Fd (n+200) v'/\mi [true,false] r=.ok (.val (.tup [bV b,liV ws])) [v']
theorem yU{far:Int}:∀{ws:List Int},(∀w∈ws,1<=w/\w<=far)->ws.sum<=(ws.length:Int)*far
 | [],_=>by simp
 |
  x::l,h=>by
  rw[J_,o_];have h1:=h x (l_ ..);have h2:=yU (ws:=l) λw hw=>h w (k_ _ hw);rw[Int.natCast_add,Int.add_mul];show x+l.sum<=(l.length:Int)*far+1*far;omega
def pw5{i:Nat}(h:i<6):1<=(1:Int)*2^i/\(1:Int)*2^i<=32:=by
 match i,h with
 |0,_=>decide
 |1,_=>decide
 |2,_=>decide
 |3,_=>decide
 |4,_=>decide
 |5,_=>decide
def Af{N mn:Nat}{mo far way same:Int}{sl st sp sq:Sl}(hN:N<=100000)(hmn:mn<=6)(h60:60<=far)(w0:0<=way)(w4:way<4)(s1:1<=same)(s2:same<=60){v:Val}(f:Fd N v):∃e',(∃(v:Val) (ws:List Int) (s11:Sl),Fd (N+8*mn) v/\ws.length=mn/\(∀w∈ws,1<=w/\w<=far)/\s11.pl=true/\e'=[.mu v,.sh (.int mo),.sh (.int far),.sh (.int (mn:Nat)),sp,sq,sl,st,.sh (.int way),.sh (.int same),.ow (.lst (ws.map .int)),s11])/\bQ (gtN 11).G bC.G (rgV mn) [.mu v,.sh (.int mo),.sh (.int far),.sh (.int (mn:Nat)),sp,sq,sl,st,.sh (.int way),.sh (.int same),.ow (.lst []),.no]=.nx e':=by
 refine Ay (g:=(gtN 11).G) (B:=bC.G) (λi e=>∃(v:Val) (ws:List Int) (s11:Sl),Fd (N+8*i) v/\ws.length=i/\(∀w∈ws,1<=w/\w<=far)/\s11.pl=true/\e=[.mu v,.sh (.int mo),.sh (.int far),.sh (.int (mn:Nat)),sp,sq,sl,st,.sh (.int way),.sh (.int same),.ow (.lst (ws.map .int)),s11]) mn ⟨v,[],.no,f,rfl,(λ_ h=>nomatch h),rfl,rfl⟩ ?_;rintro i hi e ⟨v,ws,s11,f,hl,hw,h11,rfl⟩;obtain⟨a,v1,e1,f1,a0,a1⟩:=az (m:=3) f (by omega) (by decide) (sm8 (by decide));obtain⟨g,v2,e2,f2,g0⟩:=tM f1 (by omega);have sh:=Ja (i:=1) (j:=(i:Nat)) ⟨by omega,by omega,by decide⟩;rw[show ((i:Nat):Int).toNat=i from rfl] at sh;have m1:bH.G (.int g) (.int far)=.val (.int (g.fmod far)):=fm (by omega);have r1:=d7 (a:=g) (m:=far) (by omega);have p5:=pw5 (i:=i) (by omega);have ll:(ws.map Val.int).length<16777216:=by rw[j_];omega
 have key:∀w:Int,(1<=w/\w<=far)->bC.G [.mu v,.sh (.int mo),.sh (.int far),.sh (.int (mn:Nat)),sp,sq,sl,st,.sh (.int way),.sh (.int same),.ow (.lst (ws.map .int)),.sh (.int (i:Nat))]=.nx [.mu v2,.sh (.int mo),.sh (.int far),.sh (.int (mn:Nat)),sp,sq,sl,st,.sh (.int way),.sh (.int same),.ow (.lst (ws.map .int++[.int w])),.sh (.int (i:Nat))]->∃e1 e2,(gtN 11).G (.int (i:Nat)) [.mu v,.sh (.int mo),.sh (.int far),.sh (.int (mn:Nat)),sp,sq,sl,st,.sh (.int way),.sh (.int same),.ow (.lst (ws.map .int)),s11]=some e1/\(bC.G e1=.nx e2\/bC.G e1=.ct e2)/\∃(v:Val) (ws:List Int) (s11:Sl),Fd (N+8*(i+1)) v/\ws.length=i+1/\(∀w∈ws,1<=w/\w<=far)/\s11.pl=true/\e2=[.mu v,.sh (.int mo),.sh (.int far),.sh (.int (mn:Nat)),sp,sq,sl,st,.sh (.int way),.sh (.int same),.ow (.lst (ws.map .int)),s11]:=by
  intro w hw1 hB;refine⟨_,_,?_,.inl hB,v2,ws++[w],.sh (.int (i:Nat)),f2.mono (by omega),by rw[z_,hl];rfl,?_,rfl,by rw[La];rfl⟩
  .simp![h11]
  .intro x hx;rcases Ls.mp hx with hx |hx
   .exact hw x hx
   .rw[K8] at hx;subst hx;exact hw1
 obtain rfl |rfl |rfl |rfl:way=0\/way=1\/way=2\/way=3:=by omega
 .refine key same (by omega) ?_;unfold bC;simp![e1,e2,sh,m1,ll]
 .refine key (1+a) (by omega) ?_;unfold bC;simp![e1,e2,sh,m1,ll]
 .refine key (1*2^i) (by omega) ?_;unfold bC;simp![e1,e2,sh,m1,ll]
 .refine key (1+g.fmod far) (by omega) ?_;unfold bC;simp![e1,e2,sh,m1,ll]
def DZ{mo:Int}(ho:3<=mo)(ho6:mo<=6){n:Nat}{v:Val}(f:Fd n v)(hn:n<=1000):∃b ws far β μ mn v',Ca mo b ws far β μ mn/\Fd (n+200) v'/\gz.G [v,.int mo]=.ok (.val (.tup [bV b,liV ws])) [v']:=by
 show ∃b ws far β μ mn v',Ca mo b ws far β μ mn/\Fd (n+200) v'/\(fnP [true,false] 12 gE).G [v,.int mo]=_;rw[Ck rfl];show caQ mo n (gE.G _);unfold gE;rw[show sls [true,false] [v,.int mo]++List.replicate (12-[v,.int mo].length) .no=[.mu v,.sh (.int mo),.no,.no,.no,.no,.no,.no,.no,.no,.no,.no] from rfl];obtain⟨a,v1,e1,f1,a0,a1⟩:=az (m:=mo) f (by omega) (by omega) (sm8 (by omega));refine aN (λe=>e=[.mu v1,.sh (.int mo),.sh (.int 60),.sh (.int (1+a)),.no,.no,.no,.no,.no,.no,.no,.no]) ⟨_,by simp![e1],rfl⟩ ?_;rintro _ rfl;obtain⟨d,v2,e2,f2,d0,d1⟩:=az (m:=5) f1 (by omega) (by decide) (sm8 (by decide));refine aN (λe=>∃(v:Val) (far:Int) (mn β μ:Nat),Fd (n+3) v/\60<=far/\Sm β far/\Sm β 60/\β<=100/\1<=mn/\(mn:Int)<=mo/\((mn:Int)*far).natAbs<2^μ/\(β+μ+1)*2^mn<=4000/\e=[.mu v,.sh (.int mo),.sh (.int far),.sh (.int (mn:Nat)),.no,.no,.no,.no,.no,.no,.no,.no]) ?_ ?_
 .by_cases hd:d=0
  .subst hd;obtain⟨k,v3,e3,f3,k0,k1⟩:=az (m:=3) f2 (by omega) (by decide) (sm8 (by decide));obtain⟨k',rfl⟩:=Mf k0;refine⟨_,by simp![e2,e3,p30];rfl,v3,999999999999999999999999999999,1+k',100,102,f3,by decide,by unfold Sm;decide,by unfold Sm;decide,by omega,by omega,by omega,?_,?_,by rw[Int.natCast_add];rfl⟩
   .have:((1+k':Nat):Int)<=3:=by omega
    have h2:((1+k':Nat):Int)*999999999999999999999999999999<=3*999999999999999999999999999999:=Int.mul_le_mul_of_nonneg_right this (by decide);have h3:(2:Nat)^102=5070602400912917605986812821504:=by decide
    rw[h3];omega
   .have:2^(1+k')<=2^3:=Em (by decide) (by omega);omega
  .have hd':(d==0)=false:=by rw[r_];exact hd
   obtain⟨k',rfl⟩:=Mf a0;refine⟨[.mu v2,.sh (.int mo),.sh (.int 60),.sh (.int (1+(k':Nat))),.no,.no,.no,.no,.no,.no,.no,.no],by simp![e2,hd'],v2,60,1+k',6,9,f2.mono (by omega),by decide,by unfold Sm;decide,by unfold Sm;decide,by omega,by omega,by omega,?_,?_,by rw[Int.natCast_add];rfl⟩
   .have h3:(2:Nat)^9=512:=by decide
    rw[h3];omega
   .have:2^(1+k')<=2^6:=Em (by decide) (by omega);omega
 rintro _ ⟨v,far,mn,β,μ,f,h60,hf,hs60,hβ,m1,m6,hμ,hbd,rfl⟩;obtain⟨p,v3,e3,f3,p0,ps⟩:=va f (by omega) (by omega) hf hs60 (by omega);obtain⟨q,v4,e4,f4,q0,qs⟩:=va f3 (by omega) (by omega) hf hs60 (by omega);refine aN (λe=>e=[.mu v4,.sh (.int mo),.sh (.int far),.sh (.int (mn:Nat)),.sh (fV p),.sh (fV q),.no,.no,.no,.no,.no,.no]) ⟨_,by simp![e3,e4],rfl⟩ ?_;rintro _ rfl;obtain⟨d2,v5,e5,f5,d20,d21⟩:=az (m:=5) f4 (by omega) (by decide) (sm8 (by decide));refine aN (λe=>∃q:Rat,0<q/\Sz β q/\e=[.mu v5,.sh (.int mo),.sh (.int far),.sh (.int (mn:Nat)),.sh (fV p),.sh (fV q),.no,.no,.no,.no,.no,.no]) ?_ ?_
 .by_cases hd:d2=0
  .subst hd;exact⟨_,by simp![e5],p,p0,ps,rfl⟩
  .have hd':(d2==0)=false:=by rw[r_];exact hd
   exact⟨_,by simp![e5,hd'],q,q0,qs,rfl⟩
 rintro _ ⟨q,q0,qs,rfl⟩;obtain⟨b1,u1,g1,j1,b10,b11⟩:=az (m:=41) f5 (by omega) (by decide) (sm8 (by decide));obtain⟨b2,u2,g2,j2,b20,b21⟩:=az (m:=9) j1 (by omega) (by decide) (sm8 (by decide));obtain⟨b3,u3,g3,j3,b30,b31⟩:=az (m:=41) j2 (by omega) (by decide) (sm8 (by decide));obtain⟨b4,u4,g4,j4,b40,b41⟩:=az (m:=9) j3 (by omega) (by decide) (sm8 (by decide));have l1:=d5 (a:=b1-20) (b:=1+b2) (by omega) (sm8 (by omega));have l2:=d5 (a:=b3-20) (b:=1+b4) (by omega) (sm8 (by omega));have sl:∀a b:Int,0<=a->a<41->0<=b->b<9->Sz β (((a-20:Int):Rat)/((1+b:Int):Rat)):=λa b u1 u2 u3 u4=>Sz.div (by omega) (hs60.of_le (by omega)) (hs60.of_le (by omega)) β (m_ _) (m_ _);have sl1:=sl b1 b2 b10 b11 b20 b21;have sl2:=sl b3 b4 b30 b31 b40 b41;generalize ((b1-20:Int):Rat)/((1+b2:Int):Rat)=lf at *;generalize ((b3-20:Int):Rat)/((1+b4:Int):Rat)=tp at *;refine aN (λe=>e=[.mu u4,.sh (.int mo),.sh (.int far),.sh (.int (mn:Nat)),.sh (fV p),.sh (fV q),.sh (fV lf),.sh (fV tp),.no,.no,.no,.no]) ⟨_,by simp![Cd,bA,lcV,g1,g2,g3,g4,l1,l2],rfl⟩ ?_;rintro _ rfl;obtain⟨w,v6,e6,f6,w0,w1⟩:=az (m:=4) j4 (by omega) (by decide) (sm8 (by decide));refine aN (λe=>e=[.mu v6,.sh (.int mo),.sh (.int far),.sh (.int (mn:Nat)),.sh (fV p),.sh (fV q),.sh (fV lf),.sh (fV tp),.sh (.int w),.no,.no,.no]) ⟨_,by simp![e6],rfl⟩ ?_;rintro _ rfl;obtain⟨sm,v7,e7,f7,sm0,sm1⟩:=az (m:=60) f6 (by omega) (by decide) (sm8 (by decide));refine aN (λe=>e=[.mu v7,.sh (.int mo),.sh (.int far),.sh (.int (mn:Nat)),.sh (fV p),.sh (fV q),.sh (fV lf),.sh (fV tp),.sh (.int w),.sh (.int (1+sm)),.no,.no]) ⟨_,by simp![e7],rfl⟩ ?_;rintro _ rfl;refine aN (λe=>e=[.mu v7,.sh (.int mo),.sh (.int far),.sh (.int (mn:Nat)),.sh (fV p),.sh (fV q),.sh (fV lf),.sh (fV tp),.sh (.int w),.sh (.int (1+sm)),.ow (.lst []),.no]) ⟨_,by simp![gB],rfl⟩ ?_;rintro _ rfl;obtain⟨e',he',fr⟩:=Af (mo:=mo) (mn:=mn) (sp:=.sh (fV p)) (sq:=.sh (fV q)) (sl:=.sh (fV lf)) (st:=.sh (fV tp)) (far:=far) (way:=w) (same:=1+sm) (by omega) (by omega) h60 w0 w1 (by omega) (by omega) f7;have rg:gW [.int (mn:Nat)]=some (rgV mn):=gM (i:=(mn:Nat)) (by omega) (by omega);refine aN (λe=>∃(v:Val) (ws:List Int) (s11:Sl),(Fd (n+200) v/\ws.length=mn/\∀w∈ws,1<=w/\w<=far)/\e=[.mu v,.sh (.int mo),.sh (.int far),.sh (.int (mn:Nat)),.sh (fV p),.sh (fV q),.sh (fV lf),.sh (fV tp),.sh (.int w),.sh (.int (1+sm)),.ow (.lst (ws.map .int)),s11]) ?_ ?_
 .obtain⟨v,ws,s11,fv,hl,hw,_,rfl⟩:=he';exact⟨_,by simp![rg,fr],v,ws,s11,⟨fv.mono (by omega),hl,hw⟩,rfl⟩
 rintro _ ⟨v,ws,s11,⟨fv,hl,hw⟩,rfl⟩;refine⟨⟨lf,tp,p,q⟩,ws,far,β,μ,mn,v,⟨hl,m1,m6,by omega,hw,h60,⟨p0,q0⟩,⟨sl1,sl2,ps,qs⟩,hμ,hbd⟩,fv,?_⟩;have eb:bV (⟨lf,tp,p,q⟩:Bx)=.tup [fV lf,fV tp,fV p,fV q]:=rfl;rw[eb];unfold liV;simp![cV]
def FC(ws:List Int):wt ws (aw ws.length)=ws.sum:=by unfold wt;congr 1;refine List.ext_getElem (by simp [aw]) λi h1 h2=>?_;simp [aw,bB,KY,h2]
def oB(n:Nat):(aw n).Nodup:=by unfold aw;rw[List.nodup_iff_pairwise_ne,List.pairwise_map];exact List.nodup_range.imp λh z=>h (Int.ofNat.inj z)
def Ca.h51{mo:Int}{b:Bx}{ws:List Int}{far:Int}{β μ mn:Nat}(C:Ca mo b ws far β μ mn):Ok51 ws (aw ws.length) b β μ:=by
 have nl:(aw ws.length).length=ws.length:=by unfold aw;rw[j_,K0]
 have h1:=C.len;have h2:=C.m1;have h3:=C.m6;have hsum:=yU C.le;have hnn:=jr (l:=ws) λw h=>(C.le w h).1;have hm:=C.mu;rw[h1] at hsum;refine⟨λz=>?_,oB _,λi hi=>?_,by omega,?_,C.ok,C.sz,by rw[nl,h1];exact C.bd⟩
 .rw[z,KG] at nl;omega
 .obtain⟨j,hj,rfl⟩:=KP.mp hi;rw[LR] at hj;omega
 .rw[FC];show ws.sum.natAbs<2^μ;omega
def ky(k:Nat)(x:Val)(xs:List Val):bj k (x::xs)=(wfV k x&&bj k xs):=by rw[dk,dk,LG]
def Gg(k:Nat)(xs:List Val):wfV (k+1) (.tup xs)=bj k xs:=by simp [wfV]
def kO(k:Nat)(xs:List Val):wfV (k+1) (.lst xs)=bj k xs:=by simp [wfV]
def C6(k:Nat)(i:Int):wfV k (.int i)=true:=by cases k <;> simp [wfV]
def oy{x:Val}{xs:List Val}(h:wfV 60 (.lst (x::xs))=true):cq (.lst (x::xs)) (.lst [])=some false:=by rw[wM h (by rw[kO,dk];rfl)];simp [vq,vqs]
theorem wo{lo hi:Int}{i:Nat}{e:E3}:(By lo hi i).G e=(match e[i]? with
 |some (.sh (.int v))=>R3.ok (decide (lo<=v)&&decide (v<=hi)) e
 |_=>R3.stuck):=rfl
def Al(x:Val)(xs:List Val):oI.G (.lst (x::xs)) [.int 0]=some (.lst xs,x):=by
 show kH (.lst (x::xs)) [.int 0]=_;unfold kH;dsimp only;rw[if_pos (by decide)];have:seqIndex? 0 (x::xs).length=some 0:=by unfold seqIndex?;rw[o_];simp;try omega
 rw[this];rfl
def jA(i:Int):(aO bc).G [.int i,.ty "int"]=.val (.bl true):=rfl
def jh(i:Int):(aO bc).G [.int i,.ty "bool"]=.val (.bl false):=rfl
def IH{s:PFx [false,false,false,false,false,false]}{ws nums l:List Int}{b:Bx}{n m:Nat}{way:Str}{kv z p:Val}{rest:List Val}{r t:Bool}{s5 s11 s12:Sl}(H:Ok51 ws nums b n m)(hw:∀w∈ws,1<=w)(hc:CutOk nums (way,l,rst nums l))(hr:wfV 60 (.lst (rwV (r,p)::rest))=true)(e:s.G [bV (eG ws b (way,l,rst nums l) r),liV (cX (way,l,rst nums l) r),liV ws,kv,z,p]=.ok (.val (.bl t)) [])(h11:s11.pl=true)(h12:s12.pl=true):
 (bD s).G [.sh (bV b),.sh (liV nums),.sh (liV ws),.sh kv,.sh z,s5,.ow (.lst (rwV (r,p)::rest)),.sh (liV l),.sh (liV (rst nums l)),.sh (.lst [.int (wt ws l),.int (wt ws (rst nums l))]),.sh (.str way),s11,s12]=if t=true then .nx [.sh (bV b),.sh (liV nums),.sh (liV ws),.sh kv,.sh z,s5,.ow (.lst rest),.sh (liV l),.sh (liV (rst nums l)),.sh (.lst [.int (wt ws l),.int (wt ws (rst nums l))]),.sh (.str way),.sh (.int (if r then 1 else 0)),.sh p] else .rt (.val (.bl false)) [.sh (bV b),.sh (liV nums),.sh (liV ws),.sh kv,.sh z,s5,.ow (.lst rest),.sh (liV l),.sh (liV (rst nums l)),.sh (.lst [.int (wt ws l),.int (wt ws (rst nums l))]),.sh (.str way),.sh (.int (if r then 1 else 0)),.sh p]:=by
 have S:=H.cut hw hc;have nm:=H.nm;have cu:=xy H.ok H.sz hc.way S.w1 S.w2 S.sm (by omega);dsimp only at cu;unfold eG cX at e;dsimp only at e;have er:=oy hr;have ew:rwV (r,p)=.tup [.int (if r then 1 else 0),p]:=rfl;rw[ew] at er ⊢;have po:=Al (.tup [.int (if r then 1 else 0),p]) rest;generalize bT b way (wt ws l) (wt ws (rst nums l))=b1 at *;generalize bW b way (wt ws l) (wt ws (rst nums l))=b2 at *;generalize wt ws l=u1 at *;generalize wt ws (rst nums l)=u2 at *;generalize liV ws=xw at *;generalize liV nums=xn at *;unfold bD;cases r with
 |false=>rw[if_neg h_,if_neg h_] at e;rw[if_neg h_] at er po ⊢;generalize liV (rst nums l)=x2 at *;generalize liV l=x1 at *;generalize bV b1=y1 at *;generalize bV b2=y2 at *;cases t <;> simp![wo,er,ay,po,h11,h12,jA,jh,cu,e]
 |true=>rw[if_pos rfl,if_pos rfl] at e;rw[if_pos rfl] at er po ⊢;generalize liV (rst nums l)=x2 at *;generalize liV l=x1 at *;generalize bV b1=y1 at *;generalize bV b2=y2 at *;cases t <;> simp![wo,er,ay,po,h11,h12,jA,jh,cu,e]
def DY(k:Nat)(is:List Int):wfV (k+1) (.lst (is.map .int))=true:=by rw[kO,dk,D_];intro v hv;obtain⟨i,_,rfl⟩:=KP.mp hv;exact C6 k i
def DM{kind:Str}{ws:List Int}{bd:Rat}{k:Nat}{b:Bx}{nums:List Int}{v:Val}{t:Bool}(h:Brs kind ws bd k b nums v t):Pap kind k nums v:=by
 induction h with
 |sh h1=>exact .inl ⟨h1,rfl⟩
 |th hi=>exact .inr (.inl ⟨_,hi,rfl⟩)
 |cs g t h1 hg ih=>exact .inr (.inr ⟨h1,g,rfl,ih⟩)
def zU:cq (.lst []) (.lst [])=some true:=by
 have w:wfV 60 (.lst [])=true:=by rw[kO,dk];rfl
 rw[wM w w,oi 60 _ w]
def Fg{i:Int}(h0:i≠0)(h1:i≠1):gw.G (.int i) (.tup [.int 0,.int 1])=.val (.bl true):=by show aIn true (.int i) (.tup [.int 0,.int 1])=_;unfold aIn;dsimp only [Val.items];rw[if_pos ⟨rfl,rfl⟩];show Bv.val (.bl (!(((0:Int)==i) || (((1:Int)==i) || false))))=_;rw[r_.mpr (Ne.symm h0),r_.mpr (Ne.symm h1)];rfl
def zk{x:Val}(hk:knV x=true)(h:eQ x=false):(aO bc).G [x,.ty "bool"]=.val (.bl true)\/((aO bc).G [x,.ty "bool"]=.val (.bl false)/\(aO bc).G [x,.ty "int"]=.val (.bl false)):=by cases x <;> first |exact .inl rfl |exact .inr ⟨rfl,rfl⟩ |(cases h;done) |(cases hk;done)
def zJ{f:Str×List Int×List Int->Bool->Val->Bool}{c:Str×List Int×List Int}{r:Val}(h:dW r=false):bP f c r=false:=by cases r <;> first |rfl |cases h
def zp{f:Str×List Int×List Int->Bool->Val->Bool}{c:Str×List Int×List Int}{xs:List Val}(h:xs.length≠2):bP f c (.tup xs)=false:=by
 unfold bP;split
 .rename_i e;injection e with e;subst e;exact absurd rfl h
 .rfl
def yp{f:Str×List Int×List Int->Bool->Val->Bool}{c:Str×List Int×List Int}{a p:Val}(h:eQ a=false):bP f c (.tup [a,p])=false:=by cases a <;> first |rfl |cases h
def AB{xs:List α}(h:xs.length=2):∃a p,xs=[a,p]:=by
 match xs,h with
 | [a,p],_=>exact⟨a,p,rfl⟩
def cM{d:Nat}{xs:List Val}(h:bj d xs=true){x:Val}(hx:x∈xs):wfV d x=true:=by rw[dk,D_] at h;exact h x hx
def eV{d:Nat}{xs:List Val}(h:wfV d (.tup xs)=true):∃k,d=k+1/\bj k xs=true:=by
 cases d with
 |zero=>simp [wfV] at h
 |succ k=>exact⟨k,rfl,by rw[Gg] at h;exact h⟩
def Ey{s:PFx [false,false,false,false]}{f:Str×List Int×List Int->Bool->Val->Bool}{c:Str×List Int×List Int}{ws nums:List Int}{b:Bx}{n m d:Nat}{kv z r:Val}(H:Ok51 ws nums b n m)(hw:∀w∈ws,1<=w)(hc:CutOk nums c)(hr:wfV d r=true)(e:∀q p,r=.tup [.int (if q=true then 1 else 0),p]->s.G [p,bV (eG ws b c q),liV (cX c q),.tup [liV ws,kv,z]]=.ok (.val (.bl (f c q p))) []):(bx s).G [r,cuV c,bV b,.tup [liV ws,kv,z]]=.ok (.val (.bl (bP f c r))) []:=by
 have kr:=fG hr;rcases dm r with ht |⟨xs,rfl⟩
 .have it:=cH kr;rw[ht] at it;rw[zJ ht];generalize cuV c=v1;generalize bV b=v2;generalize Val.tup [liV ws,kv,z]=v3;unfold bx;rw[aE];unfold eh;simp![it]
 .by_cases hl:xs.length=2
  .obtain⟨a,p,rfl⟩:=AB hl;obtain⟨k,rfl,hx⟩:=eV hr;have ka:knV a=true:=fG (cM hx (l_ ..));have iw:=dP ka;rcases eR a with hi |⟨i,rfl⟩
   .rw[hi] at iw;rw[yp hi];generalize cuV c=v1;generalize bV b=v2;generalize Val.tup [liV ws,kv,z]=v3;unfold bx;rw[aE];unfold eh;simp![ay,iw]
   .rw[show eQ (.int i)=true from rfl] at iw;by_cases h0:i=0
    .subst h0;exact lM (r:=false) (p:=p) H hw hc (e false p rfl)
    .by_cases h1:i=1
     .subst h1;exact lM (r:=true) (p:=p) H hw hc (e true p rfl)
     .have ni:=Fg h0 h1;have hB:bP f c (.tup [.int i,p])=false:=by show (if i=0 then _ else if i=1 then _ else false)=false;rw[if_neg h0,if_neg h1]
      rw[hB];generalize cuV c=v1;generalize bV b=v2;generalize Val.tup [liV ws,kv,z]=v3;unfold bx;rw[aE];unfold eh;simp![ay,iw,ni]
  .have hq:(((xs.length:Nat):Int)==2)=false:=by rw[r_];omega
   rw[zp hl];generalize cuV c=v1;generalize bV b=v2;generalize Val.tup [liV ws,kv,z]=v3;unfold bx;rw[aE];unfold eh;simp![ay,hq]
theorem vX{s:PFx [false,false,false,false]}{v1 v3:Val}{s0 s2 s4:Sl}{f:Str×List Int×List Int->Bool->Val->Bool}:∀(cs:List (Str×List Int×List Int)) (rs:List Val),rs.length=cs.length->(∀c∈cs,∀r∈rs,(bx s).G [r,cuV c,v1,v3]=.ok (.val (.bl (bP f c r))) [])->∀(s5 s6:Sl),s5.pl=true->s6.pl=true->∃s5' s6',bQ (gtX (gtT 2 (aM (gtN 5) (aM (gtN 6) cQ)))).G (dG s).G (List.zipWith (λx y=>Val.tup [x,y]) rs (cs.map cuV)) [s0,.sh v1,s2,.sh v3,s4,s5,s6]=if eD f cs rs=true then .nx [s0,.sh v1,s2,.sh v3,s4,s5',s6'] else .rt (.val (.bl false)) [s0,.sh v1,s2,.sh v3,s4,s5',s6']
 | [],[],_,_,s5,s6,_,_=>⟨s5,s6,rfl⟩
 | [],_::_,h,_,_,_,_,_=>nomatch h
 |_::_,[],h,_,_,_,_,_=>nomatch h
 |
  c::cs,r::rs,hl,hr,s5,s6,h5,h6=>by
  have e:=hr c (l_ ..) r (l_ ..);have ih:=vX (s:=s) (v1:=v1) (v3:=v3) (s0:=s0) (s2:=s2) (s4:=s4) (f:=f) cs rs (by simpa using hl) (λx hx y hy=>hr x (k_ _ hx) y (k_ _ hy)) (.sh r) (.sh (cuV c)) rfl rfl;have eq:eD f (c::cs) (r::rs)=(bP f c r&&eD f cs rs):=rfl;rw[eq,s_,List.zipWith_cons_cons];generalize cuV c=cv at *;generalize bP f c r=tc at *;have eg:(gtX (gtT 2 (aM (gtN 5) (aM (gtN 6) cQ)))).G (.tup [r,cv]) [s0,.sh v1,s2,.sh v3,s4,s5,s6]=some [s0,.sh v1,s2,.sh v3,s4,.sh r,.sh cv]:=by simp![h5,h6]
  rw[aF,eg];dsimp only;have eb:(dG s).G [s0,.sh v1,s2,.sh v3,s4,.sh r,.sh cv]=if tc=true then .nx [s0,.sh v1,s2,.sh v3,s4,.sh r,.sh cv] else .rt (.val (.bl false)) [s0,.sh v1,s2,.sh v3,s4,.sh r,.sh cv]:=by unfold dG;cases tc <;> simp![e]
  rw[eb];cases tc with
  |true=>rw[if_pos rfl,MR];exact ih
  |false=>rw[if_neg h_,LQ,];exact⟨_,_,(if_neg h_).symm⟩
def EG{s:PFx [false,false,false,false]}{f:Str×List Int×List Int->Bool->Val->Bool}{kind:Str}{ws nums:List Int}{b:Bx}{n m:Nat}{z:Val}{rs:List Val}(hk:kind="order" \/ kind="any")(H:Ok51 ws nums b n m)(row:∀c∈aA kind nums,∀r∈rs,(bx s).G [r,cuV c,bV b,.tup [liV ws,.str kind,z]]=.ok (.val (.bl (bP f c r))) []):(bR s).G [.tup rs,bV b,liV nums,.tup [liV ws,.str kind,z]]=.ok (.val (.bl (eD f (aA kind nums) rs))) []:=by
 have co:=jU hk H.ne H.len;have lo:∀xs:List Val,fM (.lst xs)=some xs:=λ_=>rfl;have lt:∀xs:List Val,fM (.tup xs)=some xs:=λ_=>rfl;have l2:((aA kind nums).map cuV).length=(aA kind nums).length:=j_ ..;by_cases hl:rs.length=(aA kind nums).length
 .obtain⟨s5,s6,fr⟩:=vX (s:=s) (v1:=bV b) (v3:=.tup [liV ws,.str kind,z]) (s0:=.sh (.tup rs)) (s2:=.sh (liV nums)) (s4:=.sh (.lst ((aA kind nums).map cuV))) (aA kind nums) rs hl row .no .no rfl rfl;generalize eD f (aA kind nums) rs=t at *;rw[<- hl] at l2;generalize (aA kind nums).map cuV=cv at *;have hd:((rs.length:Int)==(rs.length:Int))=true:=by rw[beq_self_eq_true]
  unfold bR;rw[aE];unfold fA;generalize liV nums=x2 at *;generalize liV ws=xw at *;cases t with
  |true=>rw[if_pos rfl] at fr;simp![co,l2,hd,lo,lt,fr]
  |false=>rw[if_neg h_] at fr;simp![co,l2,hd,lo,lt,fr]
 .rw[pF hl];have hd:((rs.length:Int)==((aA kind nums).length:Int))=false:=by rw[r_];omega
  generalize (aA kind nums).map cuV=cv at *;unfold bR;rw[aE];unfold fA;generalize liV nums=x2 at *;generalize liV ws=xw at *;simp![co,l2,hd]
def js:PyData.strOk "shape"=true/\PyData.strOk "thin"=true/\PyData.strOk "cases"=true:=by decide
def sJ{kind:Str}{ws:List Int}{bd:Rat}{k:Nat}{b:Bx}{nums:List Int}{xs:List Val}(h1:xs.length≠1)(h2:xs.length≠2):brV kind ws bd (k+1) b nums (.tup xs)=false:=by
 match xs,h1,h2 with
 | [],_,_=>rfl
 | [_],h,_=>exact absurd rfl h
 | [_,_],_,h=>exact absurd rfl h
 |_::_::_::_,_,_=>rfl
def Cs{kind:Str}{ws:List Int}{bd:Rat}{k:Nat}{b:Bx}{nums:List Int}{v:Val}(h:dW v=false):brV kind ws bd (k+1) b nums v=false:=by cases v <;> first |rfl |cases h
def yj(kind:Str)(ws:List Int)(bd:Rat)(k:Nat)(b:Bx)(nums:List Int)(w:Val):brV kind ws bd (k+1) b nums (.tup [w])=(isS "shape" w&&(decide (nums.length=1) && !decide (c7 b<bd))):=rfl
def yY(kind:Str)(ws:List Int)(bd:Rat)(k:Nat)(b:Bx)(nums:List Int)(w h:Val):brV kind ws bd (k+1) b nums (.tup [w,h])=if isS "thin" w=true then thB ws bd b nums h else if isS "cases" w=true then (decide (1<nums.length)&&csB (λc r p=>brV kind ws bd k (eG ws b c r) (cX c r) p) (aA kind nums) h) else false:=rfl
def Co{ws:List Int}{bd:Rat}{b:Bx}{nums:List Int}{h:Val}(hi:eQ h=false):thB ws bd b nums h=false:=by cases h <;> first |rfl |cases hi
def len1{xs:List α}(h:xs.length=1):∃a,xs=[a]:=by
 match xs,h with
 | [a],_=>exact⟨a,rfl⟩
theorem l6{kind:Str}{ws:List Int}{m β:Nat}{bd:Rat}(hk:kind="order" \/ kind="any")(hw:∀w∈ws,1<=w)(zb:Sz β bd)(hβ:β<=8000):∀(k:Nat) (v:Val) (d:Nat) (nums:List Int) (b:Bx) (n:Nat),d<=60->wfV d v=true->nums.length<=k->Ok51 ws nums b n m->(iq k).G [v,bV b,liV nums,.tup [liV ws,.str kind,fV bd]]=.ok (.val (.bl (brV kind ws bd k b nums v))) []
 |0,v,d,nums,b,n,hd,hv,hl,H=>absurd (I_.mpr H.ne) (by omega)
 |
  k+1,v,d,nums,b,n,hd,hv,hl,H=>by
  have nm:=H.nm;have kv:=fG hv;have lq:((nums.map Val.int).length:Nat)=nums.length:=j_ ..;show (PFx.of [false,false,false,false] 6 (c5 (iq k))).G _=_;rw[lF];rcases dm v with ht |⟨xs,rfl⟩
  .have it:=cH kv;rw[ht] at it;rw[Cs ht];generalize bV b=v1;generalize liV nums=v2;generalize Val.tup [liV ws,.str kind,fV bd]=v3;unfold c5;simp![it]
  obtain⟨j,rfl,hx⟩:=eV hv;by_cases h1:xs.length=1
  .obtain⟨w,rfl⟩:=len1 h1;have es:=og (by omega) (cM hx (l_ ..)) js.1;have fa:=qt (x:=liV ws) (y:=.str kind) H.ok H.sz (by omega) zb hβ;rw[yj];generalize isS "shape" w=t at *;generalize (!decide (c7 b<bd))=u at *;have hD:(((nums.length:Nat):Int)==1)=decide (nums.length=1):=by rw[L5,KH,Ld];omega
   generalize decide (nums.length=1)=r at *;unfold c5;unfold liV at *;cases t with
   |false=>simp![ay,es]
   |
    true=>
    cases r with
    |false=>simp![ay,es,lq,hD]
    |true=>simp![ay,es,lq,hD,fa]
  by_cases h2:xs.length=2
  .obtain⟨w,h,rfl⟩:=AB h2;have hww:=cM hx (l_ ..);have hhw:=cM hx (k_ _ (l_ ..));have et:=og (by omega) hww js.2.1;have ec:=og (by omega) hww js.2.2;have kh:=fG hhw;have iw:=dP kh;rw[yY];generalize isS "thin" w=t at *;generalize isS "cases" w=u at *;cases t with
   |
    true=>
    rw[if_pos rfl];rcases eR h with hi |⟨i,rfl⟩
    .rw[hi] at iw;rw[Co hi];generalize bV b=v1;generalize liV nums=v2;generalize Val.tup [liV ws,.str kind,fV bd]=v3;unfold c5;simp![ay,et,iw]
    .rw[show eQ (.int i)=true from rfl] at iw;have ki:=BR nums i;have eth:thB ws bd b nums (.int i)=(nums.contains i && !decide (thn ws b i nums<bd)):=rfl;rw[eth];by_cases hi:i∈nums
     .have ft:=nA (y:=.str kind) H hw hi zb hβ;rw[KC.mpr hi] at ki ⊢;generalize (!decide (thn ws b i nums<bd))=q at *;unfold c5;unfold liV at *;simp![ay,et,iw,ki,ft]
     .have hc:nums.contains i=false:=by rw[<- Bool.not_eq_true,KC];exact hi
      rw[hc] at ki ⊢;generalize (!decide (thn ws b i nums<bd))=q at *;unfold c5;unfold liV at *;simp![ay,et,iw,ki]
   |
    false=>
    rw[if_neg h_];cases u with
    |false=>rw[if_neg h_];generalize bV b=v1;generalize liV nums=v2;generalize Val.tup [liV ws,.str kind,fV bd]=v3;unfold c5;simp![ay,et,ec]
    |
     true=>
     rw[if_pos rfl];have hD:decide ((1:Int)<((nums.length:Nat):Int))=decide (1<nums.length):=by rw[Mo];omega
     by_cases hq:1<nums.length
     .rw[x_ hq] at hD ⊢;rcases dm h with ht |⟨rs,rfl⟩
      .have it:=cH kh;rw[ht] at it;rw[CM ht];generalize bV b=v1;unfold c5;unfold liV;simp![ay,et,ec,lq,hD,it]
      .obtain⟨i,rfl,hy⟩:=eV hhw;have ac:=EG (s:=iq k) (z:=fV bd) (f:=λc r p=>brV kind ws bd k (eG ws b c r) (cX c r) p) (rs:=rs) hk H λc hc r hr=>by
        have cc:=fX H.nd hc;have l1:=cc.one.lt;have l2:=cc.two.lt;have S:=H.cut hw cc;refine Ey H hw cc (cM hy hr) λq p e=>?_;subst e;obtain⟨i',rfl,hz⟩:=eV (cM hy hr);have hp:=cM hz (k_ _ (l_ ..));cases q with
        |false=>exact l6 hk hw zb hβ k p i' c.2.1 _ (n+(n+m)+1) (by omega) hp (by omega) S.o1
        |true=>exact l6 hk hw zb hβ k p i' c.2.2 _ (n+(n+m)+1) (by omega) hp (by omega) S.o2
       rw[y9];generalize eD (λc r p=>brV kind ws bd k (eG ws b c r) (cX c r) p) (aA kind nums) rs=q at *;unfold c5;unfold liV at *;simp![ay,et,ec,lq,hD,ac]
     .rw[v_ hq] at hD ⊢;rw[LQ];generalize bV b=v1;unfold c5;unfold liV;simp![ay,et,ec,lq,hD]
  .rw[sJ h1 h2];have q1:(((xs.length:Nat):Int)==1)=false:=by rw[r_];omega
   have q2:(((xs.length:Nat):Int)==2)=false:=by rw[r_];omega
   generalize bV b=v1;generalize liV nums=v2;generalize Val.tup [liV ws,.str kind,fV bd]=v3;unfold c5;simp![ay,q1,q2]
noncomputable def trn (f:Str×List Int×List Int->Bool->Val->Bool) (c:Str×List Int×List Int):List Val->Option (List Val)
 |x::rest=>if bP f c x=true then some rest else none
 | []=>none
def pI{f:Str×List Int×List Int->Bool->Val->Bool}{c:Str×List Int×List Int}{cs:List (Str×List Int×List Int)}(rs:List Val):gf f (c::cs) rs=(trn f c rs).bind (gf f cs):=by
 cases rs with
 |nil=>rfl
 |cons r rs=>show (if bP f c r=true then gf f cs rs else none)=(if bP f c r=true then some rs else none).bind (gf f cs);cases bP f c r <;> rfl
def mG{d:Nat}(hd:d<=59){xs:List Val}(h:bj d xs=true):wfV 60 (.lst xs)=true:=by rw[kO,dk,D_];intro x hx;exact vP _ _ (cM h hx) _ hd
def qw{s:PFx [false,false,false,false,false,false]}{f:Str×List Int×List Int->Bool->Val->Bool}{ws nums l:List Int}{b:Bx}{n m d:Nat}{way:Str}{kv z:Val}{c_:List Val}{s5 s11 s12:Sl}(H:Ok51 ws nums b n m)(hw:∀w∈ws,1<=w)(hc:CutOk nums (way,l,rst nums l))(hd:d<=59)(hr:bj d c_=true)(e:∀q p,.tup [.int (if q=true then 1 else 0),p]∈c_->s.G [bV (eG ws b (way,l,rst nums l) q),liV (cX (way,l,rst nums l) q),liV ws,kv,z,p]=.ok (.val (.bl (f (way,l,rst nums l) q p))) [])(h11:s11.pl=true)(h12:s12.pl=true):
 ∃t6 t11 t12,(∀rest,trn f (way,l,rst nums l) c_=some rest->t6=.ow (.lst rest))/\t11.pl=true/\t12.pl=true/\(bD s).G [.sh (bV b),.sh (liV nums),.sh (liV ws),.sh kv,.sh z,s5,.ow (.lst c_),.sh (liV l),.sh (liV (rst nums l)),.sh (.lst [.int (wt ws l),.int (wt ws (rst nums l))]),.sh (.str way),s11,s12]=if (trn f (way,l,rst nums l) c_).isSome=true then .nx [.sh (bV b),.sh (liV nums),.sh (liV ws),.sh kv,.sh z,s5,t6,.sh (liV l),.sh (liV (rst nums l)),.sh (.lst [.int (wt ws l),.int (wt ws (rst nums l))]),.sh (.str way),t11,t12] else .rt (.val (.bl false)) [.sh (bV b),.sh (liV nums),.sh (liV ws),.sh kv,.sh z,s5,t6,.sh (liV l),.sh (liV (rst nums l)),.sh (.lst [.int (wt ws l),.int (wt ws (rst nums l))]),.sh (.str way),t11,t12]:=by
 match c_,hr,e with
 |[],_,_=>refine⟨.ow (.lst []),s11,s12,(by intro _ z;cases z),h11,h12,?_⟩;rw[if_neg (by exact h_)];generalize Val.lst [.int (wt ws l),.int (wt ws (rst nums l))]=v9;generalize liV ws=xw at *;generalize liV nums=xn at *;unfold bD;generalize liV (rst nums l)=x2 at *;generalize liV l=x1 at *;generalize bV b=y1 at *;simp![zU]
 |
  x::rest,hr,e=>
  have er:=oy (mG hd hr);have hx:=cM hr (l_ ..);have kx:=fG hx;have et:trn f (way,l,rst nums l) (x::rest)=if bP f (way,l,rst nums l) x=true then some rest else none:=rfl
  rw[et];rcases dm x with ht |⟨xs,rfl⟩
  .have it:=cH kx;rw[ht] at it;rw[zJ ht,if_neg h_];refine⟨.ow (.lst (x::rest)),s11,s12,(by intro _ z;cases z),h11,h12,?_⟩;rw[if_neg (by exact h_)];generalize Val.lst [.int (wt ws l),.int (wt ws (rst nums l))]=v9;generalize liV ws=xw at *;generalize liV nums=xn at *;unfold bD;generalize liV (rst nums l)=x2 at *;generalize liV l=x1 at *;generalize bV b=y1 at *;simp![er,it]
  by_cases hl:xs.length=2
  .obtain⟨a,p,rfl⟩:=AB hl;obtain⟨j,rfl,hy⟩:=eV hx;have ka:knV a=true:=fG (cM hy (l_ ..));rcases eR a with hi |⟨i,rfl⟩
   .rw[yp hi,if_neg h_];refine⟨.ow (.lst rest),.sh a,.sh p,(by intro _ z;cases z),rfl,rfl,?_⟩;rw[if_neg (by exact h_)];have po:=Al (.tup [a,p]) rest;generalize Val.lst [.int (wt ws l),.int (wt ws (rst nums l))]=v9;generalize liV ws=xw at *;generalize liV nums=xn at *;unfold bD;generalize liV (rst nums l)=x2 at *;generalize liV l=x1 at *;generalize bV b=y1 at *;rcases zk ka hi with i1 |⟨i1,i2⟩
    .simp![er,ay,po,h11,h12,i1]
    .simp![er,ay,po,h11,h12,i1,i2]
   .have key:∀q:Bool,i=(if q=true then 1 else 0)->∃t6 t11 t12,(∀r,(if bP f (way,l,rst nums l) (.tup [.int i,p])=true then some rest else none)=some r->t6=.ow (.lst r))/\t11.pl=true/\t12.pl=true/\(bD s).G [.sh (bV b),.sh (liV nums),.sh (liV ws),.sh kv,.sh z,s5,.ow (.lst (.tup [.int i,p]::rest)),.sh (liV l),.sh (liV (rst nums l)),.sh (.lst [.int (wt ws l),.int (wt ws (rst nums l))]),.sh (.str way),s11,s12]=if ((if bP f (way,l,rst nums l) (.tup [.int i,p])=true then some rest else none):Option (List Val)).isSome=true then .nx [.sh (bV b),.sh (liV nums),.sh (liV ws),.sh kv,.sh z,s5,t6,.sh (liV l),.sh (liV (rst nums l)),.sh (.lst [.int (wt ws l),.int (wt ws (rst nums l))]),.sh (.str way),t11,t12] else .rt (.val (.bl false)) [.sh (bV b),.sh (liV nums),.sh (liV ws),.sh kv,.sh z,s5,t6,.sh (liV l),.sh (liV (rst nums l)),.sh (.lst [.int (wt ws l),.int (wt ws (rst nums l))]),.sh (.str way),t11,t12]:=by
     rintro q rfl;have lt:=IH (r:=q) (p:=p) (t:=f (way,l,rst nums l) q p) (s5:=s5) H hw hc (mG hd hr) (e q p (l_ ..)) h11 h12;have eB:bP f (way,l,rst nums l) (.tup [.int (if q=true then 1 else 0),p])=f (way,l,rst nums l) q p:=by cases q <;> rfl
     refine⟨.ow (.lst rest),.sh (.int (if q=true then 1 else 0)),.sh p,λr z=>?_,rfl,rfl,?_⟩
     .rw[eB] at z;have z':some rest=some r:=by
       revert z;cases f (way,l,rst nums l) q p <;> intro z
       .cases (show (none:Option (List Val))=some r from z)
       .exact z
      injection z' with z';rw[z']
     .rw[eB];refine lt.trans ?_;cases f (way,l,rst nums l) q p <;> rfl
    by_cases h0:i=0
    .exact key false h0
    by_cases h1:i=1
    .exact key true h1
    have hB:bP f (way,l,rst nums l) (.tup [.int i,p])=false:=by show (if i=0 then _ else if i=1 then _ else false)=false;rw[if_neg h0,if_neg h1]
    rw[hB,if_neg h_];refine⟨.ow (.lst rest),.sh (.int i),.sh p,(by intro _ z;cases z),rfl,rfl,?_⟩;rw[if_neg (by exact h_)];have po:=Al (.tup [.int i,p]) rest;have hch:(decide ((0:Int)<=i)&&decide (i<=1))=false:=by rw[Bool.and_eq_false_iff,Mh,Mh];omega
    generalize Val.lst [.int (wt ws l),.int (wt ws (rst nums l))]=v9;generalize liV ws=xw at *;generalize liV nums=xn at *;unfold bD;generalize liV (rst nums l)=x2 at *;generalize liV l=x1 at *;generalize bV b=y1 at *;simp![wo,er,ay,po,h11,h12,jA,jh,hch]
  .have hq:(((xs.length:Nat):Int)==2)=false:=by rw[r_];omega
   rw[zp hl,if_neg h_];refine⟨.ow (.lst (.tup xs::rest)),s11,s12,(by intro _ z;cases z),h11,h12,?_⟩;rw[if_neg (by exact h_)];generalize Val.lst [.int (wt ws l),.int (wt ws (rst nums l))]=v9;generalize liV ws=xw at *;generalize liV nums=xn at *;unfold bD;generalize liV (rst nums l)=x2 at *;generalize liV l=x1 at *;generalize bV b=y1 at *;simp![er,ay,hq]
def u6{f:Str×List Int×List Int->Bool->Val->Bool}{c:Str×List Int×List Int}{rs r:List Val}(h:trn f c rs=some r):∃x,rs=x::r:=by
 cases rs with
 |nil=>cases h
 |
  cons x rs=>
  have:(if bP f c x=true then some rs else none)=some r:=h;split at this
  .injection this with this;exact⟨x,by rw[this]⟩
  .cases this
def rX{d:Nat}{x:Val}{xs:List Val}(h:bj d (x::xs)=true):bj d xs=true:=by rw[ky,p_] at h;exact h.2
theorem sk{s:PFx [false,false,false,false,false,false]}{f:Str×List Int×List Int->Bool->Val->Bool}{ws nums:List Int}{b:Bx}{n m d:Nat}{kv z:Val}{s5:Sl}(H:Ok51 ws nums b n m)(hw:∀w∈ws,1<=w)(hd:d<=59):∀(L:List (List Int)),(∀l∈L,Lot nums l)->∀c_:List Val,bj d c_=true->(∀c∈L.flatMap (cA nums),∀q p,.tup [.int (if q=true then 1 else 0),p]∈c_->s.G [bV (eG ws b c q),liV (cX c q),liV ws,kv,z,p]=.ok (.val (.bl (f c q p))) [])->∀s7 s8 s9 s10 s11 s12:Sl,(s7.pl=true/\s8.pl=true/\s9.pl=true/\s10.pl=true/\s11.pl=true/\s12.pl=true)->∃t6 t7 t8 t9 t10 t11 t12,(∀rest,gf f (L.flatMap (cA nums)) c_=some rest->t6=.ow (.lst rest)/\bj d rest=true)/\bQ (gtN 7).G (ck s).G (L.map liV) [.sh (bV b),.sh (liV nums),.sh (liV ws),.sh kv,.sh z,s5,.ow (.lst c_),s7,s8,s9,s10,s11,s12]=if (gf f (L.flatMap (cA nums)) c_).isSome=true then .nx [.sh (bV b),.sh (liV nums),.sh (liV ws),.sh kv,.sh z,s5,t6,t7,t8,t9,t10,t11,t12] else .rt (.val (.bl false)) [.sh (bV b),.sh (liV nums),.sh (liV ws),.sh kv,.sh z,s5,t6,t7,t8,t9,t10,t11,t12]
 | [],_,c_,hr,_,s7,s8,s9,s10,s11,s12,_=>⟨.ow (.lst c_),s7,s8,s9,s10,s11,s12,λrest q=>by have q':some c_=some rest:=q;injection q' with q';subst q';exact⟨rfl,hr⟩,rfl⟩
 |
  l::L,hL,c_,hr,he,s7,s8,s9,s10,s11,s12,⟨g7,g8,g9,g10,g11,g12⟩=>by
  have ln:=H.len;have lo:=hL l (l_ ..);have r2:=lg lo H.nd;have r1':Inr ws l:=λi hi=>H.inr i (lo.sub.subset hi);have r2':Inr ws (rst nums l):=λi hi=>H.inr i (r2.sub.subset hi);have q1:=lo.lt;have q2:=r2.lt;obtain⟨sa,la⟩:=sO nums l (by omega);obtain⟨sb,lb⟩:=qZ r1' (by omega);obtain⟨sc,lc⟩:=qZ r2' (by omega);have c0:((rst nums l).map Val.int).length<=16777216:=by rw[j_];omega
  have c1:((l.map (bB ws)).map Val.int).length<=16777216:=by rw[j_,j_];omega
  have c2:(((rst nums l).map (bB ws)).map Val.int).length<=16777216:=by rw[j_,j_];omega
  have ef:(l::L).flatMap (cA nums)=((("across" : Str),l,rst nums l):Str×List Int×List Int)::((("down" : Str),l,rst nums l):Str×List Int×List Int)::L.flatMap (cA nums):=rfl;rw[ef] at he ⊢;rw[pI];have ih:=sk (s5:=s5) (f:=f) (z:=z) (kv:=kv) (s:=s) H hw hd L (λx hx=>hL x (k_ _ hx));obtain⟨a6,a11,a12,ha,ap11,ap12,b1⟩:=qw (f:=f) (way:="across") (s5:=s5) (s11:=s11) (s12:=s12) H hw ⟨.inl rfl,lo,r2,rfl⟩ hd hr (he _ (l_ ..)) g11 g12;rw[s_];have eg:(gtN 7).G (liV l) [.sh (bV b),.sh (liV nums),.sh (liV ws),.sh kv,.sh z,s5,.ow (.lst c_),s7,s8,s9,s10,s11,s12]=some [.sh (bV b),.sh (liV nums),.sh (liV ws),.sh kv,.sh z,s5,.ow (.lst c_),.sh (liV l),s8,s9,s10,s11,s12]:=by simp![g7]
  rw[aF,eg];dsimp only;cases ht1:trn f (("across" : Str),l,rst nums l) c_ with
  |
   none=>
   rw[ht1,if_neg (by exact h_)] at b1;rw[Option.bind_none];refine⟨a6,.sh (liV l),.sh (liV (rst nums l)),.sh (.lst [.int (wt ws l),.int (wt ws (rst nums l))]),.sh (.str "across"),a11,a12,(by intro _ z;cases z),?_⟩;rw[if_neg (by exact h_)];have eb:(ck s).G [.sh (bV b),.sh (liV nums),.sh (liV ws),.sh kv,.sh z,s5,.ow (.lst c_),.sh (liV l),s8,s9,s10,s11,s12]=.rt (.val (.bl false)) [.sh (bV b),.sh (liV nums),.sh (liV ws),.sh kv,.sh z,s5,a6,.sh (liV l),.sh (liV (rst nums l)),.sh (.lst [.int (wt ws l),.int (wt ws (rst nums l))]),.sh (.str "across"),a11,a12]:=by clear ih;unfold ck;unfold wt at b1 ⊢;unfold liV at la b1 ⊢;simp![aF,g8,g9,g10,bA,la,lb,lc,c0,c1,c2,b1]
   rw[eb];rfl
  |
   some r1=>
   rw[ht1,if_pos (by rfl)] at b1;have e6:=ha r1 ht1;subst e6;obtain⟨x1,rfl⟩:=u6 ht1;have hr1:=rX hr;obtain⟨d6,d11,d12,hd6,dp11,dp12,b2⟩:=qw (f:=f) (way:="down") (s5:=s5) (s11:=a11) (s12:=a12) H hw ⟨.inr rfl,lo,r2,rfl⟩ hd hr1 (λq p h=>he _ (k_ _ (l_ ..)) q p (k_ _ h)) ap11 ap12;rw[Option.bind_some,pI];cases ht2:trn f (("down" : Str),l,rst nums l) r1 with
   |
    none=>
    rw[ht2,if_neg (by exact h_)] at b2;rw[Option.bind_none];refine⟨d6,.sh (liV l),.sh (liV (rst nums l)),.sh (.lst [.int (wt ws l),.int (wt ws (rst nums l))]),.sh (.str "down"),d11,d12,(by intro _ z;cases z),?_⟩;rw[if_neg (by exact h_)];have eb:(ck s).G [.sh (bV b),.sh (liV nums),.sh (liV ws),.sh kv,.sh z,s5,.ow (.lst (x1::r1)),.sh (liV l),s8,s9,s10,s11,s12]=.rt (.val (.bl false)) [.sh (bV b),.sh (liV nums),.sh (liV ws),.sh kv,.sh z,s5,d6,.sh (liV l),.sh (liV (rst nums l)),.sh (.lst [.int (wt ws l),.int (wt ws (rst nums l))]),.sh (.str "down"),d11,d12]:=by clear ih;unfold ck;unfold wt at b1 b2 ⊢;unfold liV at la b1 b2 ⊢;simp![aF,g8,g9,g10,bA,la,lb,lc,c0,c1,c2,b1,b2]
    rw[eb];rfl
   |
    some r2'=>
    rw[ht2,if_pos (by rfl)] at b2;have e6:=hd6 r2' ht2;subst e6;obtain⟨x2,rfl⟩:=u6 ht2;have hr2:=rX hr1;have eb:(ck s).G [.sh (bV b),.sh (liV nums),.sh (liV ws),.sh kv,.sh z,s5,.ow (.lst (x1::x2::r2')),.sh (liV l),s8,s9,s10,s11,s12]=.nx [.sh (bV b),.sh (liV nums),.sh (liV ws),.sh kv,.sh z,s5,.ow (.lst r2'),.sh (liV l),.sh (liV (rst nums l)),.sh (.lst [.int (wt ws l),.int (wt ws (rst nums l))]),.sh (.str "down"),d11,d12]:=by clear ih;unfold ck;unfold wt at b1 b2 ⊢;unfold liV at la b1 b2 ⊢;simp![aF,g8,g9,g10,bA,la,lb,lc,c0,c1,c2,b1,b2]
    rw[eb,Option.bind_some];exact ih r2' hr2 (λc hc q p h=>he c (k_ _ (k_ _ hc)) q p (k_ _ (k_ _ h))) (.sh (liV l)) (.sh (liV (rst nums l))) (.sh (.lst [.int (wt ws l),.int (wt ws (rst nums l))])) (.sh (.str "down")) d11 d12 ⟨rfl,rfl,rfl,rfl,dp11,dp12⟩
def GD{d:Nat}(hd:d<=59){xs:List Val}(h:bj d xs=true):cq (.lst xs) (.lst [])=some xs.isEmpty:=by
 cases xs with
 |nil=>exact zU
 |cons x xs=>exact oy (mG hd h)
theorem ij{kind:Str}{ws:List Int}{m β:Nat}{bd:Rat}(hk:kind="order" \/ kind="any")(hw:∀w∈ws,1<=w)(zb:Sz β bd)(hβ:β<=8000):∀(k:Nat) (v:Val) (d:Nat) (nums:List Int) (b:Bx) (n:Nat),d<=60->wfV d v=true->tz v<=16777216->nums.length<=k->Ok51 ws nums b n m->(cL k).G [bV b,liV nums,liV ws,.str kind,fV bd,v]=.ok (.val (.bl (brV kind ws bd k b nums v))) []
 |0,v,d,nums,b,n,hd,hv,hz,hl,H=>absurd (I_.mpr H.ne) (by omega)
 |
  k+1,v,d,nums,b,n,hd,hv,hz,hl,H=>by
  have nm:=H.nm;have kv:=fG hv;have lq:((nums.map Val.int).length:Nat)=nums.length:=j_ ..;have hp:=I_.mpr H.ne;show (PFx.of [false,false,false,false,false,false] 13 (aZ (cL k))).G _=_;rw[lF];rcases dm v with ht |⟨xs,rfl⟩
  .have it:=cH kv;rw[ht] at it;rw[Cs ht];generalize bV b=v1;generalize liV nums=v2;generalize liV ws=v3;generalize fV bd=v4;unfold aZ;simp![it]
  obtain⟨j,rfl,hx⟩:=eV hv;by_cases h0:xs.length=0
  .obtain rfl:=Li.mp h0;rw[sJ (by decide) (by decide)];generalize bV b=v1;generalize liV nums=v2;generalize liV ws=v3;generalize fV bd=v4;unfold aZ;simp![ay]
  obtain⟨w,ys,rfl⟩:=List.exists_cons_of_ne_nil (λz=>h0 (by rw[z];rfl):xs≠[]);have hww:=cM hx (l_ ..);have es:=og (by omega) hww js.1;have et:=og (by omega) hww js.2.1;have ec:=og (by omega) hww js.2.2;have excl:∀a b:Str,(a==b)=false->isS a w=true->isS b w=false:=λa b hab h=>by
   cases w with
   |str x=>have:x=a:=MQ h;subst this;exact hab
   |_=>cases h
  have xst:=excl "shape" "thin" (by decide);have xsc:=excl "shape" "cases" (by decide);clear excl h0;by_cases h1:ys.length=0
  .obtain rfl:=Li.mp h1;have e1:=rZ H.ok H.sz (by omega);have e2:=gh (kD H.ok H.sz) zb (by omega) (by omega);rw[yj];generalize isS "shape" w=t at *;generalize isS "thin" w=u at *;generalize isS "cases" w=u' at *;generalize decide (c7 b<bd)=g at *;have hD:(((nums.length:Nat):Int)==1)=decide (nums.length=1):=by rw[L5,KH,Ld];omega
   generalize decide (nums.length=1)=r at *;generalize fV (c7 b)=sv at *;generalize fV bd=bw at *;generalize bV b=bv at *;unfold aZ;unfold liV at *;cases t with
   |false=>cases u <;> cases u' <;> simp![ay,es,et,ec]
   |
    true=>
    cases r with
    |false=>simp![ay,es,lq,hD]
    |true=>cases g <;> simp![ay,es,lq,hD,e1,e2]
  by_cases h2:ys.length=1
  .obtain⟨h,rfl⟩:=len1 h2;have hhw:=cM hx (k_ _ (l_ ..));have kh:=fG hhw;rw[yY];generalize isS "shape" w=t0 at *;generalize isS "thin" w=t at *;generalize isS "cases" w=u at *;have hs2:∀x:Bool,(match (some x:Option Bool) with |some true=>(2:Int)==1 |_=>false)=false:=λx=>by cases x <;> rfl
   cases t with
   |
    true=>
    rw[if_pos rfl];rcases eR h with hi |⟨i,rfl⟩
    .rw[Co hi];generalize bV b=v1;generalize liV nums=v2;generalize liV ws=v3;generalize fV bd=v4;unfold aZ;rcases zk kh hi with i1 |⟨i1,i2⟩
     .cases t0 <;> simp![ay,es,et,i1]
     .cases t0 <;> simp![ay,es,et,i1,i2]
    .have ki:=p7 nums i;have eth:thB ws bd b nums (.int i)=(nums.contains i && !decide (thn ws b i nums<bd)):=rfl;rw[eth];by_cases hi:i∈nums
     .have e1:=uN H hw hi;have e2:=gh (rD H hw hi).2 zb (by omega) (by omega);rw[KC.mpr hi] at ki ⊢;generalize decide (thn ws b i nums<bd)=q at *;generalize fV (thn ws b i nums)=sv at *;generalize fV bd=bw at *;generalize bV b=bv at *;unfold aZ;unfold liV at *;cases t0 <;> cases q <;> simp![ay,es,et,jA,jh,ki,e1,e2]
     .have hc:nums.contains i=false:=by rw[<- Bool.not_eq_true,KC];exact hi
      rw[hc] at ki ⊢;generalize (!decide (thn ws b i nums<bd))=q at *;generalize fV bd=bw at *;generalize bV b=bv at *;unfold aZ;unfold liV at *;cases t0 <;> simp![ay,es,et,jA,jh,ki]
   |
    false=>
    rw[if_neg h_];cases u with
    |false=>rw[if_neg h_];generalize bV b=v1;generalize liV nums=v2;generalize liV ws=v3;generalize fV bd=v4;unfold aZ;cases t0 <;> simp![ay,es,et,ec]
    |
     true=>
     rw[if_pos rfl];rcases dm h with ht |⟨rs,rfl⟩
     .have it:=cH kh;rw[ht] at it;rw[CM ht,Bool.and_false];generalize bV b=v1;generalize liV nums=v2;generalize liV ws=v3;generalize fV bd=v4;unfold aZ;cases t0 <;> simp![ay,es,et,ec,it]
     .by_cases hq:nums.length=1
      .have hD:(((nums.length:Nat):Int)==1)=true:=by rw[hq];rfl
       rw[v_ (by omega:¬ 1<nums.length),LQ];generalize bV b=v1;generalize fV bd=v4;unfold aZ;unfold liV;cases t0 <;> simp![ay,es,et,ec,lq,hD]
      .have hD:(((nums.length:Nat):Int)==1)=false:=by rw[r_];omega
       rw[x_ (by omega:1<nums.length),MR];obtain⟨i,rfl,hy⟩:=eV hhw;have lf:=jX hk H.ne H.len;rw[aP,tzs,tzs,tzs,aP] at hz;have lr:rs.length<=16777216:=by
        have:=nY rs
        omega
       obtain⟨t6,t7,t8,t9,t10,t11,t12,ha,fr⟩:=sk (s:=cL k) (f:=λc r p=>brV kind ws bd k (eG ws b c r) (cX c r) p) (kv:=.str kind) (z:=fV bd) (s5:=.sh (.tup [w,.tup rs])) H hw (by omega) (bh kind nums) (λl hl=>mj hl) rs hy (λc hc q p h=>by
        have cc:=fX H.nd hc;have l1:=cc.one.lt;have l2:=cc.two.lt;have S:=H.cut hw cc;obtain⟨i',rfl,hw'⟩:=eV (cM hy h);have tp:tz p<=16777216:=by
         have:=yw h
         rw[aP,tzs,tzs,tzs] at this;omega
        have hp:=cM hw' (k_ _ (l_ ..));cases q with
        |false=>exact ij hk hw zb hβ k p i' c.2.1 _ (n+(n+m)+1) (by omega) hp tp (by omega) S.o1
        |true=>exact ij hk hw zb hβ k p i' c.2.2 _ (n+(n+m)+1) (by omega) hp tp (by omega) S.o2) .no .no .no .no .no .no ⟨rfl,rfl,rfl,rfl,rfl,rfl⟩
       rw[show (bh kind nums).flatMap (cA nums)=aA kind nums from rfl] at ha fr;rw[y9,vA];generalize gf (λc r p=>brV kind ws bd k (eG ws b c r) (cX c r) p) (aA kind nums) rs=o at *;generalize fV bd=bw at *;generalize bV b=bv at *;unfold aZ;unfold liV at *;cases o with
       |none=>rw[if_neg (by exact h_)] at fr;cases t0 <;> simp![ay,es,et,ec,lq,hD,lf,lr,fr]
       |some l=>obtain⟨rfl,hl'⟩:=ha l rfl;have ee:=GD (by omega) hl';rw[if_pos (by rfl)] at fr;change _=R3F.ok (Rt.val (Val.bl l.isEmpty)) [];generalize l.isEmpty=g at *;cases t0 <;> simp![ay,es,et,ec,lq,hD,lf,lr,fr,ee]
  .rw[sJ (by rw[o_];omega) (by rw[o_];omega)];have q1:(((w::ys).length:Int)==1)=false:=by rw[r_,o_];omega
   have q2:(((w::ys).length:Int)==2)=false:=by rw[r_,o_];omega
   have q0:(((w::ys).length:Int)==0)=false:=by rw[r_,o_];omega
   rw[o_] at q0 q1 q2;generalize isS "shape" w=t0 at *;generalize isS "thin" w=t at *;generalize isS "cases" w=u at *;generalize bV b=v1;generalize liV nums=v2;generalize liV ws=v3;generalize fV bd=v4;unfold aZ;cases t0 <;> cases t <;> cases u <;> simp![ay,es,et,ec,q0,q1,q2]
noncomputable def z9:Val->Bool
 |.int _=>true
 |.bl _=>true
 |_=>false
def Di{x:Val}(hk:knV x=true):(aO bc).G [x,.ty "int"]=.val (.bl (z9 x)):=by cases x <;> first |rfl |cases hk
def bnQ(B d N T:Nat)(r:SR3):Prop:=∃x v' r0,(r0=Rt.val x\/r0=Rt.new x)/\Fd (N+2*d+4) v'/\pvP (B+1) (d+2) x=true/\tz x<=2*T+30/\mi [false,true] r=.ok r0 [v']
def wN:PSt:=(aj (ax false 3 (aY (aa (aC "shape") (aa (aC "thin") (aa (aC "cases") (aa (ah 0) (aa (ah 1) (aa (ah 2) (aa (pUn ie (ah 1)) (aa (pBl true) (aa gx (aa (aH ag) (aa (aH (aa (aC "shape") ag)) (aa (aH (aa (aC "thin") (aa (ah 0) ag))) (aa (aY ag) (aa (aH (aa (aC "cases") (aa (aH ag) ag))) ag))))))))))))))))
 (aj (xIf (qAn (qOf (pFn (aO bc) (aa (af 0) (aa (pTy "int") ag)))) (qOf (pOp bGt (af 2) (ah 2)))) (ak (pOp aK (af 0) (pOp bIx (aY (aa (ah 1) (aa (pUn ie (ah 1)) ag))) (pOp bH (af 2) (ah 2))))) xNx)
 (ak (pOp bIx (af 3) (ai aq (aa (af 1) (aa (ah 14) ag)))))))
noncomputable def l14:List Val:=[.str "shape",.str "thin",.str "cases",.int 0,.int 1,.int 2,.int (-1),.bl true,.non,.tup [],.tup [.str "shape"],.tup [.str "thin",.int 0],.lst [],.tup [.str "cases",.tup []]]
def Hy{B d:Nat}(hB:2<=B):∀x∈l14,pvP (B+1) (d+2) x=true/\tz x<=30:=by
 have s1:=λk=>c8 (B:=B+1) (k:=k) (x:="shape") (.inl rfl);have s2:=λk=>c8 (B:=B+1) (k:=k) (x:="thin") (.inr (.inl rfl));have s3:=λk=>c8 (B:=B+1) (k:=k) (x:="cases") (.inr (.inr rfl));have i0:=λk (i:Int) (h:i.natAbs<=2)=>eU (B:=B+1) (k:=k) (i:=i) (by omega);have zb:tz (.bl true)<=30:=by simp only[tz];omega
 have zn:tz .non<=30:=by simp only[tz];omega
 unfold l14;repeat first
  |exact List.forall_mem_nil _
  |refine List.forall_mem_cons.mpr ⟨⟨by first |exact s1 _ |exact s2 _ |exact s3 _ |exact i0 _ _ (by decide) |exact yF _ _ _ |exact vE _ _ |(simp only[aT,jn,aD,s1,s2,s3,i0 _ 0 (by decide),Bool.and_self];done),by first |exact zb |exact zn |(simp only[aP,ue,fB,iZ,tzs];omega)⟩,?_⟩
def iL{B d N:Nat}{x v:Val}{w:Int}{c:PTs}{rest:PSt}(hB:2<=B)(hx:pvP B d x=true)(f:Fd (N+1) v)(hN:N<=900000000)(w0:0<=w)(hc:c.G [.sh x,.mu v,.sh (.int w),.no,.no]=.ok true [.sh x,.mu v,.sh (.int w),.no,.no]):bnQ B d N (tz x) ((aj (xIf c wN xNx) rest).G [.sh x,.mu v,.sh (.int w),.no,.no]):=by
 have ii:=Di (fG (i8 d x hx));by_cases hi:z9 x=true/\2<w
 .obtain⟨hb,h2⟩:=hi;rw[hb] at ii;have dw:=x_ h2;have m2:bH.G (.int w) (.int 2)=.val (.int (w.fmod 2)):=fm (by decide);have mr:=d7 (a:=w) (m:=2) (by decide);have key:∀j:Int,j.natAbs<=1->∃z:Int,aK.G x (.int j)=.val (.int z)/\z.natAbs<=B+1:=by
   intro j hj;cases x with
   |
    int i=>
    have:i.natAbs<=B:=by cases d <;> (simp only[pvP] at hx;exact Le hx)
    exact⟨_,rfl,by omega⟩
   |bl b=>exact⟨_,rfl,by split <;> omega⟩
   |_=>cases hb
  rcases (show w.fmod 2=0\/w.fmod 2=1 by omega) with h |h
  .rw[h] at m2;obtain⟨z,e,hz⟩:=key 1 (by decide);refine⟨.int z,v,.val (.int z),.inl rfl,f.mono (by omega),eU hz,by rw[iZ];omega,?_⟩;unfold wN;simp![hc,ii,dw,m2,e,cV]
  .rw[h] at m2;obtain⟨z,e,hz⟩:=key (-1) (by decide);refine⟨.int z,v,.val (.int z),.inl rfl,f.mono (by omega),eU hz,by rw[iZ];omega,?_⟩;unfold wN;simp![hc,ii,dw,m2,e,cV]
 .obtain⟨q,v2,e2,f2,q0,q1⟩:=az (m:=14) f (by omega) (by decide) (sm8 (by decide));have hin:q.toNat<l14.length:=by show q.toNat<14;omega
  have hx2:atI l14 q=some l14[q.toNat]:=gm q0 (B_ hin);have ox:=Hy (B:=B) (d:=d) hB _ (LV hin);generalize l14[q.toNat]=y at *;unfold l14 at hx2;refine⟨y,v2,.val y,.inl rfl,f2.mono (by omega),ox.1,by omega,?_⟩;unfold wN;cases hb:z9 x with
  |false=>rw[hb] at ii;simp![hc,ii,e2,hx2,cV]
  |true=>rw[hb] at ii;have dw:decide (2<w)=false:=v_ λz=>hi ⟨hb,z⟩;simp![hc,ii,dw,e2,hx2,cV]
def Df{B:Nat}(hB:2<=B):∀(d n:Nat) (x:Val) (N:Nat) (v:Val),d<n->pvP B d x=true->tz x<=5000000->Fd N v->N+2*d<=100000000->∃x' v' r0,(r0=Rt.val x'\/r0=Rt.new x')/\Fd (N+2*d+4) v'/\pvP (B+1) (d+2) x'=true/\tz x'<=2*tz x+30/\(dC n).G [x,v]=.ok r0 [v']:=by
 intro d;induction d with
 |
  zero=>
  intro n x N v hn hx hz f hN;obtain⟨n,rfl⟩:∃m,n=m+1:=⟨n-1,by omega⟩;obtain⟨w,v1,e1,f1,w0,w1⟩:=az (m:=8) f (by omega) (by decide) (sm8 (by decide));have ht:dW x=false:=by cases x <;> first |rfl |(simp only[pvP] at hx;exact absurd hx h_)
  have it:=cH (fG (i8 _ x hx));rw[ht] at it
  suffices bnQ B 0 N (tz x) ((eF (dC n)).G [.sh x,.mu v,.no,.no,.no]) by obtain⟨x',v',r0,h1,h2,h3,h4,h5⟩:=this;exact⟨x',v',r0,h1,h2,h3,h4,(nj rfl).trans h5⟩
  unfold eF;refine aN (λe=>e=[.sh x,.mu v1,.sh (.int w),.no,.no]) ⟨_,by simp![e1],rfl⟩ ?_;rintro _ rfl;exact iL hB hx f1 (by omega) w0 (by simp![it])
 |
  succ k ih=>
  intro n x N v hn hx hz f hN;obtain⟨n,rfl⟩:∃m,n=m+1:=⟨n-1,by omega⟩;obtain⟨w,v1,e1,f1,w0,w1⟩:=az (m:=8) f (by omega) (by decide) (sm8 (by decide))
  suffices bnQ B (k+1) N (tz x) ((eF (dC n)).G [.sh x,.mu v,.no,.no,.no]) by obtain⟨x',v',r0,h1,h2,h3,h4,h5⟩:=this;exact⟨x',v',r0,h1,h2,h3,h4,(nj rfl).trans h5⟩
  unfold eF;refine aN (λe=>e=[.sh x,.mu v1,.sh (.int w),.no,.no]) ⟨_,by simp![e1],rfl⟩ ?_;rintro _ rfl;rcases dm x with ht |⟨xs,rfl⟩
  .have it:=cH (fG (i8 _ x hx));rw[ht] at it;exact iL hB hx f1 (by omega) w0 (by simp![it])
  by_cases h0:xs.length=0
  .obtain rfl:=Li.mp h0;exact iL hB hx f1 (by omega) w0 (by simp![ay])
  have hq:(((xs.length:Nat):Int)==0)=false:=by rw[r_];omega
  by_cases hw0:w=0
  .subst hw0;exact iL hB hx f1 (by omega) w0 (by simp![ay,hq])
  have d0:(w==0)=false:=by rw[r_];exact hw0
  refine aN (λe=>e=[.sh (.tup xs),.mu v1,.sh (.int w),.no,.no]) ⟨_,by simp![ay,hq,d0],rfl⟩ ?_;rintro _ rfl;have hl:=nY xs;rw[aP] at hz;obtain⟨r,v2,e2,f2,r0,r1⟩:=az (m:=(xs.length:Nat)) f1 (by omega) (by omega) (sm8 (by omega));obtain⟨r,rfl⟩:=Mf r0;have hr:r<xs.length:=by omega
  refine aN (λe=>e=[.sh (.tup xs),.mu v2,.sh (.int w),.no,.sh (.int (r:Nat))]) ⟨_,by simp![e2],rfl⟩ ?_;rintro _ rfl;have hxs:aD B k xs=true:=by rw[aT] at hx;exact hx
  have up:∀ys:List Val,aD B k ys=true->aD (B+1) (k+2) ys=true:=λys h=>iG (Nat.le_succ B) k ys h (k+2) (by omega);have sA:=JV hr;have sB:=A7 (r:=r) (by omega:0<xs.length);have sC:=BZ hr;have sD:=FH hr;have lA:(xs.take r).length=r:=by rw[LB];omega
  have lB:(xs.drop (r+1)).length=xs.length-(r+1):=LW ..;have lC:(xs.drop r).length=xs.length-r:=LW ..;have zc:=Dc hr;have pA:=jI (b:=xs.take r) hxs λy hy=>List.mem_of_mem_take hy;have pB:=jI (b:=xs.drop (r+1)) hxs λy hy=>List.mem_of_mem_drop hy;have pC:=jI (b:=xs.drop r) hxs λy hy=>List.mem_of_mem_drop hy;have pX:pvP B k xs[r]=true:=hU.mp hxs _ (LV hr);have zC:tzs (xs.drop r)=(tz xs[r]+2)+tzs (xs.drop (r+1)):=by rw[Lx hr,tzs]
  have cases7:w=1\/w=2\/w=3\/w=4\/5<=w:=by omega
  rcases cases7 with rfl |rfl |rfl |rfl |h5
  .have la:(xs.take r).length+(xs.drop (r+1)).length<=16777216:=by omega
   refine⟨.tup (xs.take r++xs.drop (r+1)),v2,_,.inl rfl,f2.mono (by omega),?_,?_,?_⟩
   .rw[aT];exact up _ (hZ pA pB)
   .rw[aP,aP,ek];omega
   .generalize xs.take r=TA at *;generalize xs.drop (r+1)=TB at *;simp![sA,sB,la,cV]
  .have la:(xs.take r).length+[xs[r]].length<=16777216:=by rw[KQ];omega
   have lb:(xs.take r++[xs[r]]).length+(xs.drop r).length<=16777216:=by rw[z_,KQ];omega
   refine⟨.tup ((xs.take r++[xs[r]])++xs.drop r),v2,_,.inl rfl,f2.mono (by omega),?_,?_,?_⟩
   .rw[aT];exact up _ (hZ (hZ pA (sW pX)) pC)
   .rw[aP,aP,ek,ek,cp];omega
   .generalize xs[r]=xr at *;generalize xs.take r=TA at *;generalize xs.drop r=TC at *;rw[KQ] at la;simp![sA,sC,sD,la,lb,cV]
  .refine⟨.lst xs,v2,_,.inr rfl,f2.mono (by omega),?_,?_,?_⟩
   .rw[jn];exact up _ hxs
   .rw[aP,ue];omega
   .simp![cV]
  .refine⟨.tup xs.reverse,v2,_,.inl rfl,f2.mono (by omega),?_,?_,?_⟩
   .rw[aT];exact up _ (jI hxs λy hy=>List.mem_reverse.mp hy)
   .rw[aP,aP,vo];omega
   .simp![EZ,cV]
  .obtain⟨x',v3,r0',h1,h2,h3,h4,e3⟩:=ih n xs[r] (N+2) v2 (by omega) pX (by omega) f2 (by omega);have atr:atI xs (r:Nat)=some xs[r]:=gm (by omega) (by rw[LO];exact B_ hr);have d1:(w==1)=false:=by rw[r_];omega
   have d2:(w==2)=false:=by rw[r_];omega
   have d3:(w==3)=false:=by rw[r_];omega
   have d4:(w==4)=false:=by rw[r_];omega
   have la:(xs.take r).length+1<=16777216:=by omega
   have lb:(xs.take r++[x']).length+(xs.drop (r+1)).length<=16777216:=by rw[z_,KQ];omega
   refine⟨.tup ((xs.take r++[x'])++xs.drop (r+1)),v3,_,.inl rfl,h2.mono (by omega),?_,?_,?_⟩
   .rw[aT];exact hZ (hZ (up _ pA) (sW (by rw[show k+1+1=k+2 by omega];exact h3))) (up _ pB)
   .rw[aP,aP,ek,ek,cp];omega
   .generalize xs[r]=xr at *;generalize xs.take r=TA at *;generalize xs.drop (r+1)=TB at *;rcases h1 with rfl |rfl
    .simp![atr,sA,sB,d1,d2,d3,d4,e3,la,lb,cV]
    .simp![atr,sA,sB,d1,d2,d3,d4,e3,la,lb,cV]
noncomputable def dN:Nat->Nat
 |0=>4
 |j+1=>4+1000*(2+2*dN j)
noncomputable def tN:Nat->Nat
 |0=>21
 |j+1=>21+32*(tN j+16)
def Cc(j:Nat):21<=tN j:=by
 cases j with
 |zero=>exact m_ _
 |succ j=>show 21<=21+_;omega
def CB(j:Nat):4<=dN j:=by
 cases j with
 |zero=>exact m_ _
 |succ j=>show 4<=4+_;omega
def vp{s:PFx [false,false,true,false]}{f1 f2 nv kv v:Val}{j:Int}{acc:List Val}{s7 s8:Sl}{N D T dd:Nat}(h8:s8.pl=true)(f:Fd N v)(hN:N<=800000000)(hl:acc.length<=100000)(hs:∀(q:Bool) (v:Val),Fd (N+1) v->∃x v',(pvP 9 dd x=true/\tz x<=T)/\Fd (N+1+D) v'/\s.G [if q=true then f2 else f1,kv,v,.int (j-1)]=.ok (.val x) [v']):
 ∃x v' t8,(pvP 9 (dd+1) x=true/\tz x<=T+14)/\Fd (N+1+D) v'/\t8.pl=true/\(fJ s).G [.sh nv,.sh kv,.mu v,.sh (.int j),.ow (.lst acc),.sh f1,.sh f2,s7,s8]=.nx [.sh nv,.sh kv,.mu v',.sh (.int j),.ow (.lst (acc++[x])),.sh f1,.sh f2,s7,t8]:=by
 obtain⟨a,v1,e1,g1,a0,a1⟩:=az (m:=2) f (by omega) (by decide) (sm8 (by decide));have ll:acc.length<16777216:=by omega
 have key:∀q:Bool,a=(if q=true then 1 else 0)->∃x v' t8,(pvP 9 (dd+1) x=true/\tz x<=T+14)/\Fd (N+1+D) v'/\t8.pl=true/\(fJ s).G [.sh nv,.sh kv,.mu v,.sh (.int j),.ow (.lst acc),.sh f1,.sh f2,s7,s8]=.nx [.sh nv,.sh kv,.mu v',.sh (.int j),.ow (.lst (acc++[x])),.sh f1,.sh f2,s7,t8]:=by
  intro q hq;obtain⟨x,v2,⟨p1,p2⟩,g2,e2⟩:=hs q v1 g1;refine⟨.tup [.int a,x],v2,.sh (.int a),⟨?_,?_⟩,g2,rfl,?_⟩
  .rw[aT,aD,eU (by rw[hq];split <;> decide),aD,p1,aD];rfl
  .rw[aP,tzs,cp,iZ];omega
  .cases q with
   |false=>obtain rfl:a=0:=hq;rw[if_neg h_] at e2;unfold fJ;simp![e1,h8,e2,ll]
   |true=>obtain rfl:a=1:=hq;rw[if_pos rfl] at e2;unfold fJ;simp![e1,h8,e2,ll]
 rcases (show a=0\/a=1 by omega) with rfl |rfl
 .exact key false rfl
 .exact key true rfl
theorem rH{s:PFx [false,false,true,false]}{kind:Str}{nums:List Int}{j:Int}{D T dd:Nat}(nd:nums.Nodup)(ln:nums.length<=10)(hs:∀(l:List Int) (N:Nat) (v:Val),Lot nums l->Fd N v->N+D<=800000000->∃x v',(pvP 9 dd x=true/\tz x<=T)/\Fd (N+D) v'/\s.G [liV l,.str kind,v,.int (j-1)]=.ok (.val x) [v']):∀(L:List (List Int)),(∀l∈L,Lot nums l)->∀(acc:List Val) (N:Nat) (v:Val) (s5 s6 s7 s8:Sl),s5.pl=true/\s6.pl=true/\s7.pl=true/\s8.pl=true->Fd N v->N+L.length*(2+2*D)<=800000000->acc.length+2*L.length<=100000->∃acc' v' t5 t6 t7 t8,acc'.length=2*L.length/\Fd (N+L.length*(2+2*D)) v'/\(∀x∈acc',pvP 9 (dd+1) x=true/\tz x<=T+14)/\bQ (gtN 5).G (gC s).G (L.map liV) [.sh (liV nums),.sh (.str kind),.mu v,.sh (.int j),.ow (.lst acc),s5,s6,s7,s8]=.nx [.sh (liV nums),.sh (.str kind),.mu v',.sh (.int j),.ow (.lst (acc++acc')),t5,t6,t7,t8]
 | [],_,acc,N,v,s5,s6,s7,s8,_,f,_,_=>⟨[],v,s5,s6,s7,s8,rfl,f.mono (by omega),(by intro x h;cases h),(by rw[K2];rfl)⟩
 |
  l::L,hL,acc,N,v,s5,s6,s7,s8,⟨g5,g6,g7,g8⟩,f,hN,hl=>by
  rw[o_,Nat.add_mul] at hN;rw[o_] at hl;have lo:=hL l (l_ ..);have r2:=lg lo nd;obtain⟨sa,la⟩:=sO nums l (by omega);have q2:=r2.lt;have c0:((rst nums l).map Val.int).length<=16777216:=by rw[j_];omega
  have hq:∀(N:Nat),N+1+D<=800000000->∀(q:Bool) (v:Val),Fd (N+1) v->∃x v',(pvP 9 dd x=true/\tz x<=T)/\Fd (N+1+D) v'/\s.G [if q=true then liV (rst nums l) else liV l,.str kind,v,.int (j-1)]=.ok (.val x) [v']:=λN hN q v f=>by
   cases q with
   |false=>exact hs l (N+1) v lo f hN
   |true=>exact hs (rst nums l) (N+1) v r2 f hN
  obtain⟨x1,v1,u8,⟨p1,z1⟩,f1,h8,b1⟩:=vp (nv:=liV nums) (s7:=.sh (.int 0)) (acc:=acc) g8 f (by omega) (by omega) (hq N (by omega));obtain⟨x2,v2,u8',⟨p2,z2⟩,f2,h8',b2⟩:=vp (nv:=liV nums) (s7:=.sh (.int 1)) (acc:=acc++[x1]) h8 f1 (by omega) (by rw[z_,KQ];omega) (hq (N+1+D) (by omega));have rg:gW [.int 2]=some [.int 0,.int 1]:=Cd;have eb:(gC s).G [.sh (liV nums),.sh (.str kind),.mu v,.sh (.int j),.ow (.lst acc),.sh (liV l),s6,s7,s8]=.nx [.sh (liV nums),.sh (.str kind),.mu v2,.sh (.int j),.ow (.lst (acc++[x1]++[x2])),.sh (liV l),.sh (liV (rst nums l)),.sh (.int 1),u8']:=by unfold gC;unfold liV at la b1 b2 ⊢;simp![aF,rg,g6,g7,bA,la,c0,b1,b2]
  have eg:(gtN 5).G (liV l) [.sh (liV nums),.sh (.str kind),.mu v,.sh (.int j),.ow (.lst acc),s5,s6,s7,s8]=some [.sh (liV nums),.sh (.str kind),.mu v,.sh (.int j),.ow (.lst acc),.sh (liV l),s6,s7,s8]:=by simp![g5]
  obtain⟨acc',v',t5,t6,t7,t8,i1,i2,i3,i4⟩:=rH nd ln hs L (λx hx=>hL x (k_ _ hx)) (acc++[x1]++[x2]) (N+1+D+1+D) v2 (.sh (liV l)) (.sh (liV (rst nums l))) (.sh (.int 1)) u8' ⟨rfl,rfl,rfl,h8'⟩ f2 (by omega) (by rw[z_,z_,KQ,KQ];omega);refine⟨x1::x2::acc',v',t5,t6,t7,t8,by rw[o_,o_,o_,i1];omega,i2.mono (by rw[o_,Nat.add_mul];omega),λx hx=>?_,?_⟩
  .rcases C_.mp hx with rfl |hx
   .exact⟨p1,z1⟩
   rcases C_.mp hx with rfl |hx
   .exact⟨p2,z2⟩
   exact i3 x hx
  .rw[s_,aF,eg];dsimp only;rw[eb];have ea:acc++[x1]++[x2]++acc'=acc++x1::x2::acc':=by simp
   rw[ea] at i4;exact i4
def anQ(j N:Nat)(r:SR3):Prop:=∃x v',pvP 9 (3*j+1) x=true/\tz x<=tN j/\Fd (N+dN j) v'/\mi [false,false,true,false] r=.ok (.val x) [v']
theorem vN(G:Nat):∀l:List Val,(∀x∈l,tz x<=G)->tzs l<=l.length*(G+2)
 | [],_=>by simp [tzs]
 |
  a::l,h=>by
  have h1:=h a (l_ ..);have h2:=vN G l λx hx=>h x (k_ _ hx);rw[tzs,o_,Nat.add_mul];omega
def jK{j N:Nat}{nums:List Int}{v:Val}{e0:E3}{c:PTs}{rest:PSt}{kv jv:Val}(ne:nums≠[])(ln:nums.length<=10)(hi:∀i∈nums,i.natAbs<=9){M:Nat}(f:Fd M v)(hM:M+1<=N+dN j)(hN:N+dN j<=800000000)(hc:c.G e0=.ok true [.sh (liV nums),.sh kv,.mu v,.sh jv,.no,.no,.no,.no,.no]):anQ j N ((aj (xIf c (ak (aH (aa (aC "thin") (aa (pOp bIx (af 0) (ai aq (aa (af 2) (aa (pFn aJ (aa (af 0) ag)) ag)))) ag)))) xNx) rest).G e0):=by
 have hp:=I_.mpr ne;have g:=Cc j;have lq:((nums.map Val.int).length:Nat)=nums.length:=j_ ..;obtain⟨r,v1,e1,f1,r0,r1⟩:=az (m:=(nums.length:Nat)) f (by omega) (by omega) (sm8 (by omega));have hr:r.toNat<nums.length:=by omega
 have hx:=B_ hr;have at1:atI (nums.map Val.int) r=some (.int nums[r.toNat]):=gm r0 (by rw[Kz,hx];rfl);have hmem:=Ly hx;generalize nums[r.toNat]=i at *;refine⟨.tup [.str "thin",.int i],v1,?_,?_,f1.mono hM,?_⟩
 .rw[aT,aD,c8 (.inr (.inl rfl)),aD,eU (hi i hmem),aD];rfl
 .rw[aP,tzs,cp,fB,iZ];omega
 .unfold liV at hc;simp![hc,lq,e1,at1,cV]
def G0{kind:Str}(hk:kind="order" \/ kind="any"):∀(j k:Nat) (nums:List Int) (N:Nat) (v:Val),j<k->nums≠[]->nums.Nodup->nums.length<=10->(∀i∈nums,i.natAbs<=9)->cnN kind nums.length<=32->Fd N v->N+dN j<=800000000->∃x v',pvP 9 (3*j+1) x=true/\tz x<=tN j/\Fd (N+dN j) v'/\(df k).G [liV nums,.str kind,v,.int (j:Nat)]=.ok (.val x) [v']:=by
 intro j;induction j with
 |
  zero=>
  intro k nums N v hjk ne nd ln hi hc f hN;obtain⟨k,rfl⟩:∃m,k=m+1:=⟨k-1,by omega⟩;have g4:=CB 0;have lq:((nums.map Val.int).length:Nat)=nums.length:=j_ ..
  suffices anQ 0 N ((eW (df k)).G [.sh (liV nums),.sh (.str kind),.mu v,.sh (.int ((0:Nat):Int)),.no,.no,.no,.no,.no]) by obtain⟨x,v',h1,h2,h3,h4⟩:=this;exact⟨x,v',h1,h2,h3,(nj rfl).trans h4⟩
  unfold eW;by_cases h1:nums.length=1
  .have hd:(((nums.length:Nat):Int)==1)=true:=by rw[h1];rfl
   obtain⟨a,v1,e1,f1,a0,a1⟩:=az (m:=4) f (by omega) (by decide) (sm8 (by decide));by_cases ha:0<a
   .have da:=x_ ha;refine⟨.tup [.str "shape"],v1,?_,?_,f1.mono (by omega),?_⟩
    .rw[aT,aD,c8 (.inl rfl),aD];rfl
    .rw[aP,cp,fB];decide
    .unfold liV;simp![lq,hd,e1,da,cV]
   .have da:=v_ ha;refine aN (λe=>e=[.sh (liV nums),.sh (.str kind),.mu v1,.sh (.int ((0:Nat):Int)),.no,.no,.no,.no,.no]) ⟨_,by unfold liV;simp![lq,hd,e1,da],rfl⟩ ?_;rintro _ rfl;exact jK (kv:=.str kind) (jv:=.int ((0:Nat):Int)) ne ln hi f1 (by omega) hN (by unfold liV;simp![lq,hd])
  .have hd:(((nums.length:Nat):Int)==1)=false:=by rw[r_];omega
   have h00:(((0:Nat):Int)==0)=true:=rfl;refine aN (λe=>e=[.sh (liV nums),.sh (.str kind),.mu v,.sh (.int ((0:Nat):Int)),.no,.no,.no,.no,.no]) ⟨_,by unfold liV;simp![lq,hd],rfl⟩ ?_;rintro _ rfl;exact jK (kv:=.str kind) (jv:=.int ((0:Nat):Int)) ne ln hi f (by omega) hN (by unfold liV;simp![lq,hd,h00])
 |
  succ j ih=>
  intro k nums N v hjk ne nd ln hi hc f hN;obtain⟨k,rfl⟩:∃m,k=m+1:=⟨k-1,by omega⟩;have g4:=CB (j+1);have lq:((nums.map Val.int).length:Nat)=nums.length:=j_ ..
  suffices anQ (j+1) N ((eW (df k)).G [.sh (liV nums),.sh (.str kind),.mu v,.sh (.int ((j+1:Nat):Int)),.no,.no,.no,.no,.no]) by obtain⟨x,v',h1,h2,h3,h4⟩:=this;exact⟨x,v',h1,h2,h3,(nj rfl).trans h4⟩
  unfold eW;by_cases h1:nums.length=1
  .have hd:(((nums.length:Nat):Int)==1)=true:=by rw[h1];rfl
   obtain⟨a,v1,e1,f1,a0,a1⟩:=az (m:=4) f (by omega) (by decide) (sm8 (by decide));by_cases ha:0<a
   .have da:=x_ ha;have g21:=Cc (j+1);refine⟨.tup [.str "shape"],v1,?_,?_,f1.mono (by omega),?_⟩
    .rw[aT,aD,c8 (.inl rfl),aD];rfl
    .rw[aP,cp,fB];omega
    .unfold liV;simp![lq,hd,e1,da,cV]
   .have da:=v_ ha;refine aN (λe=>e=[.sh (liV nums),.sh (.str kind),.mu v1,.sh (.int ((j+1:Nat):Int)),.no,.no,.no,.no,.no]) ⟨_,by unfold liV;simp![lq,hd,e1,da],rfl⟩ ?_;rintro _ rfl;exact jK (kv:=.str kind) (jv:=.int ((j+1:Nat):Int)) ne ln hi f1 (by omega) hN (by unfold liV;simp![lq,hd])
  .have hd:(((nums.length:Nat):Int)==1)=false:=by rw[r_];omega
   have h00:(((j+1:Nat):Int)==0)=false:=by rw[r_];omega
   have jj:((j+1:Nat):Int)-1=(j:Nat):=by omega
   generalize ((j+1:Nat):Int)=J at *;refine aN (λe=>e=[.sh (liV nums),.sh (.str kind),.mu v,.sh (.int J),.no,.no,.no,.no,.no]) ⟨_,by unfold liV;simp![lq,hd],rfl⟩ ?_;rintro _ rfl;obtain⟨a,v1,e1,f1,a0,a1⟩:=az (m:=2) f (by omega) (by decide) (sm8 (by decide));rcases (show a=0\/a=1 by omega) with rfl |rfl
   .exact jK (kv:=.str kind) (jv:=.int J) ne ln hi f1 (by omega) hN (by unfold liV;simp![lq,hd,h00,e1])
   refine aN (λe=>e=[.sh (liV nums),.sh (.str kind),.mu v1,.sh (.int J),.no,.no,.no,.no,.no]) ⟨_,by unfold liV;simp![lq,hd,h00,e1],rfl⟩ ?_;rintro _ rfl;refine aN (λe=>e=[.sh (liV nums),.sh (.str kind),.mu v1,.sh (.int J),.ow (.lst []),.no,.no,.no,.no]) ⟨_,by simp![gB],rfl⟩ ?_;rintro _ rfl;have lf:=jX hk ne ln;have ll:=hX (kind:=kind) ln;have hD:dN (j+1)=4+1000*(2+2*dN j):=rfl;have hm:(bh kind nums).length*(2+2*dN j)<=1000*(2+2*dN j):=My _ ll;obtain⟨acc,v2,t5,t6,t7,t8,i1,i2,i3,fr⟩:=rH (s:=df k) (j:=J) (D:=dN j) (T:=tN j) (dd:=3*j+1) nd ln (λl N v lo f hN=>by
    have:=lo.lt
    obtain⟨x,v',h1,h2,h3,h4⟩:=ih k l N v (by omega) lo.ne (nd.sublist lo.sub) (by omega) (λi h=>hi i (lo.sub.subset h)) (F_ (jw (by omega)) hc) f (by omega);rw[jj];exact⟨x,v',⟨h1,h2⟩,h3,h4⟩) (bh kind nums) (λl hl=>mj hl) [] (N+1) v1 .no .no .no .no ⟨rfl,rfl,rfl,rfl⟩ f1 (by omega) (by rw[KG];omega)
   rw[Kx] at fr;have hcn:=vR (kind:=kind) (nums:=nums);have hcl:(aA kind nums).length=2*(bh kind nums).length:=by
    unfold aA;rw[MH];have:∀l:List (List Int),((l.map λa=>(cA nums a).length).sum)=2*l.length:=λl=>by
     induction l with
     |nil=>rfl
     |cons a l ih=>rw[s_,J_,ih,o_];show 2+2*l.length=_;omega
    exact this _
   have hzs:=vN (tN j+14) acc λx hx=>(i3 x hx).2;have lacc:acc.length<=16777216:=by omega
   have hacc:acc.length<=32:=by omega
   refine⟨.tup [.str "cases",.tup acc],v2,?_,?_,i2.mono (by omega),?_⟩
   .have e:3*(j+1)+1=(3*j+1+1)+1+1:=by omega
    rw[e,aT,aD,c8 (.inr (.inr rfl)),aD,aT,hU.mpr λx hx=>(i3 x hx).1,aD];rfl
   .have:=My (tN j+14+2) hacc
    rw[aP,tzs,cp,fB,aP];show _<=21+32*(tN j+16);rw[show tN j+14+2=tN j+16 by omega] at this hzs;omega
   .unfold liV at *;simp![lf,fr,lacc,cV]
def GV(t:Bool):(t==t)=true:=by cases t <;> rfl
def wF{kind:Str}{mo:Int}{ws:List Int}{b:Bx}{n m β d:Nat}{bd:Rat}{p:Val}(hk:kind="order" /\ mo=6\/kind="any" /\ mo=5)(hw:∀w∈ws,1<=w)(h0:ws≠[])(hl:(ws.length:Int)<=mo)(H:Ok51 ws (aw ws.length) b n m)(zb:Sz β bd)(hβ:β<=8000)(hd:d<=60)(hp:wfV d p=true):fW.G [bV b,.lst (ws.map .int),.str kind,fV bd,p]=.ok (.val (.bl (brV kind ws bd 7 b (aw ws.length) p))) []:=by
 have m6:mo<=6:=by rcases hk with ⟨_,rfl⟩ |⟨_,rfl⟩ <;> decide
 have nl:(aw ws.length).length=ws.length:=by unfold aw;rw[j_,K0]
 have ca:=rS hk hw h0 hl H.ok;have lw:((ws.map Val.int).length:Nat)=ws.length:=j_ ..;have lr:fc.G [.int (ws.length:Nat)]=.new (.lst ((aw ws.length).map Val.int)):=by rw[rj ⟨by omega,by omega⟩,<- kZ];rfl
 have br:=l6 (hk.imp LU LU) hw zb hβ 7 p d (aw ws.length) b n hd hp (by omega) H;generalize brV kind ws bd 7 b (aw ws.length) p=t at *;unfold liV at br;unfold fW;rw[aE];unfold sr;simp![ca,lw,lr,br]
def Gy(q:Rat):(Val.tup [.int (0-q.num),.int (q.den:Nat)])=fV (-q):=by rw[Int.zero_sub];rfl
def EU{ws:List Int}{t:Str}(ht:PyData.strOk t=true):cq (.lst [.lst (ws.map .int),.str t]) (.lst [.lst (ws.map .int),.str t])=some true:=by
 have w:wfV 60 (.lst [.lst (ws.map .int),.str t])=true:=by rw[kO,ky,ky,DY 58 ws,dk];show (true&&(wfV 59 (.str t)&&true))=true;rw[show wfV 59 (.str t)=PyData.strOk t by simp only[wfV],ht];rfl
 rw[wM w w,oi 60 _ w]
def yL{N B d T:Nat}{s0 s2 s3 s4 s5 s7 s8 s9 s10 s11 s12 s13:Sl}(hN:N<=90000000)(hB:2<=B)(hd:d<=36)(hT:T<=2000000){v x:Val}(f:Fd N v)(hx:pvP B d x=true)(hz:tz x<=T)(h8:s8.pl=true)(w:Int)(w0:0<=w)(w1:w<3):∃rg x' v' t8,gW [.int w]=some rg/\Fd (N+200) v'/\pvP (B+2) (d+4) x'=true/\tz x'<=4*T+90/\t8.pl=true/\bQ (gtN 8).G kL.G rg [s0,.ow v,s2,s3,s4,s5,.sh x,s7,s8,s9,s10,s11,s12,s13]=.nx [s0,.ow v',s2,s3,s4,s5,.sh x',s7,t8,s9,s10,s11,s12,s13]:=by
 have turn:∀{N B d T:Nat}{v x i:Val}{s8:Sl},N<=95000000->2<=B->d<=38->T<=5000000->Fd N v->pvP B d x=true->tz x<=T->s8.pl=true->∃x' v',Fd (N+100) v'/\pvP (B+1) (d+2) x'=true/\tz x'<=2*T+30/\(gtN 8).G i [s0,.ow v,s2,s3,s4,s5,.sh x,s7,s8,s9,s10,s11,s12,s13]=some [s0,.ow v,s2,s3,s4,s5,.sh x,s7,.sh i,s9,s10,s11,s12,s13]/\kL.G [s0,.ow v,s2,s3,s4,s5,.sh x,s7,.sh i,s9,s10,s11,s12,s13]=.nx [s0,.ow v',s2,s3,s4,s5,.sh x',s7,.sh i,s9,s10,s11,s12,s13]:=by
  intro N B d T v x i s8 hN hB hd hT f hx hz h8;obtain⟨x',v',r0,h1,h2,h3,h4,e⟩:=Df hB d 40 x N v (by omega) hx (by omega) f (by omega);refine⟨x',v',h2.mono (by omega),h3,by omega,by simp![h8],?_⟩;unfold kL;rcases h1 with rfl |rfl
  .simp![e]
  .simp![e]
 rcases (show w=0\/w=1\/w=2 by omega) with rfl |rfl |rfl
 .exact⟨[],x,v,s8,gM (i:=0) (by decide) (by decide),f.mono (by omega),fQ (by omega) d x hx _ (by omega),by omega,h8,rfl⟩
 .obtain⟨x1,v1,f1,p1,z1,g1,b1⟩:=turn (i:=.int 0) (by omega) hB (by omega) (by omega) f hx hz h8;refine⟨[.int 0],x1,v1,.sh (.int 0),gM (i:=1) (by decide) (by decide),f1.mono (by omega),fQ (by omega) _ x1 p1 _ (by omega),by omega,rfl,?_⟩;rw[aF,g1];dsimp only;rw[b1];rfl
 .obtain⟨x1,v1,f1,p1,z1,g1,b1⟩:=turn (i:=.int 0) (by omega) hB (by omega) (by omega) f hx hz h8;obtain⟨x2,v2,f2,p2,z2,g2,b2⟩:=turn (i:=.int 1) (s8:=.sh (.int 0)) (by omega) (by omega) (by omega) (by omega) f1 p1 z1 rfl;refine⟨[.int 0,.int 1],x2,v2,.sh (.int 1),gM (i:=2) (by decide) (by decide),f2.mono (by omega),fQ (by omega) _ x2 p2 _ (by omega),by omega,rfl,?_⟩;rw[aF,g1];dsimp only;rw[b1];show bQ (gtN 8).G kL.G [.int 1] [s0,.ow v1,s2,s3,s4,s5,.sh x1,s7,.sh (.int 0),s9,s10,s11,s12,s13]=_;rw[aF,g2];dsimp only;rw[b2];rfl
def Bg(r:SR3):Prop:=mi [false] r=.ok (.val (.bl true)) []
def Ef{kind:Str}{mo:Int}{n:Nat}(hk:kind="order" /\ mo=6\/kind="any" /\ mo=5)(hn:(n:Int)<=mo):cnN kind n<=32/\gF kind n<=2000000:=by
 rcases hk with ⟨rfl,rfl⟩ |⟨rfl,rfl⟩
 .have h6:n<=6:=by omega
  exact⟨F_ (jw h6) (by decide),F_ (o7 h6) vn.1⟩
 .have h5:n<=5:=by omega
  exact⟨F_ (jw h5) (by decide),F_ (o7 h5) vn.2⟩
def Dl{a c:Int}(a0:0<=a)(a1:a<20)(c0:0<=c)(c1:c<200):Sz 8 (((1+a:Int):Rat)/((1+c:Int):Rat)):=by
 have h8:(2:Nat)^8=256:=by decide
 have s1:Sm 8 (1+a):=by show (1+a).natAbs<2^8;omega
 have s2:Sm 8 (1+c):=by show (1+c).natAbs<2^8;omega
 exact Sz.div (by omega) s1 s2 8 (m_ _) (m_ _)
def zK{n:Nat}{q:Rat}(h:Sz n q):Sz n (-q):=by
 refine⟨?_,?_⟩
 .have:=h.top
  show (-q).num.natAbs<2^n;rw[show (-q).num=-q.num from rfl,Int.natAbs_neg];exact this
 .exact h.bot
def all8{q m:Rat}(z:Sz 4000 q)(zm:Sz 8 m):∀x∈([fV q,fV q,fV (q+m),fV (q + -m),.tup [.int 0,.int 1],.tup [.int (-3),.int 2],.tup [.int 1,.int 1],.tup [.int 999999999999999999999999999999,.int 1]]:List Val),∃bd,x=fV bd/\Sz 4200 bd:=by
 have big:Sz 4200 ⟨999999999999999999999999999999,1,by decide,by decide⟩:=⟨by show (999999999999999999999999999999:Int).natAbs<2^4200;exact w_ (show _<2^100 by decide) (Em (by decide) (by decide)),by show ((1:Nat):Int).natAbs<2^4200;exact w_ (show _<2^1 by decide) (Em (by decide) (by decide))⟩;have m3:Sz 4200 ⟨-3,2,by decide,by decide⟩:=⟨by show (-3:Int).natAbs<2^4200;exact w_ (show _<2^2 by decide) (Em (by decide) (by decide)),by show ((2:Nat):Int).natAbs<2^4200;exact w_ (show _<2^2 by decide) (Em (by decide) (by decide))⟩;have i0:Sz 4200 ⟨0,1,by decide,by decide⟩:=⟨by show (0:Int).natAbs<2^4200;exact w_ (show _<2^1 by decide) (Em (by decide) (by decide)),by show ((1:Nat):Int).natAbs<2^4200;exact w_ (show _<2^1 by decide) (Em (by decide) (by decide))⟩;have i1:Sz 4200 ⟨1,1,by decide,by decide⟩:=⟨by show (1:Int).natAbs<2^4200;exact w_ (show _<2^1 by decide) (Em (by decide) (by decide)),by show ((1:Nat):Int).natAbs<2^4200;exact w_ (show _<2^1 by decide) (Em (by decide) (by decide))⟩;have z1:=(z.add zm).mono (show 4000+8+1<=4200 by decide);have z2:=(z.add (zK zm)).mono (show 4000+8+1<=4200 by decide);have z0:=z.mono (show 4000<=4200 by decide);repeat first
  |exact List.forall_mem_nil _
  |refine List.forall_mem_cons.mpr ⟨by first |exact⟨_,rfl,z0⟩ |exact⟨_,rfl,z1⟩ |exact⟨_,rfl,z2⟩ |exact⟨_,rfl,i0⟩ |exact⟨_,rfl,m3⟩ |exact⟨_,rfl,i1⟩ |exact⟨_,rfl,big⟩,?_⟩
def Dz{kind:Str}{mo:Int}{ws:List Int}{b:Bx}{n m d:Nat}{bd:Rat}{x v:Val}{s0 s7 s8 s9 s10:Sl}(hk:kind="order" /\ mo=6\/kind="any" /\ mo=5)(hw:∀w∈ws,1<=w)(h0:ws≠[])(hl:(ws.length:Int)<=mo)(H:Ok51 ws (aw ws.length) b n m)(zb:Sz 4200 bd)(hd:d<=60)(hx:pvP 20 d x=true)(hz:tz x<=16777216):Bg ((aj (ax false 12 (aY (aa (pFn gq (aa (af 4) ag)) (aa (pFn hE (aa (af 6) ag)) ag))))
 (aj (ax false 13 (ai fW (aa (af 3) (aa (pOp bIx (af 12) (ah 0)) (aa (af 2) (aa (af 11) (aa (af 6) ag)))))))
 (aj (xIf (qO (qNo (qOf (pFn (aO bc) (aa (af 13) (aa (pTy "bool") ag))))) (qOf (pOp bNe (af 12) (aY (aa (af 4) (aa (pFn hE (aa (af 6) ag)) ag)))))) (ak (pBl false)) xNx)
 (ak (pOp bEq (af 13) (ai (cL 7).fn (aa (af 3) (aa (af 5) (aa (af 4) (aa (af 2) (aa (af 11) (aa (af 6) ag)))))))))))).G [s0,.ow v,.sh (.str kind),.sh (bV b),.sh (.lst (ws.map .int)),.sh (.lst ((aw ws.length).map .int)),.sh x,s7,s8,s9,s10,.sh (fV bd),.no,.no]):=by
 have m6:mo<=6:=by rcases hk with ⟨_,rfl⟩ |⟨_,rfl⟩ <;> decide
 have nl:(aw ws.length).length=ws.length:=by unfold aw;rw[j_,K0]
 have hk':kind="order" \/ kind="any":=hk.imp LU LU;have wx:=i8 d x hx;obtain⟨t,ht,es⟩:=En hd hx hz;have e1:=wF hk hw h0 hl H zb (by decide) hd wx;have e2:=ij hk' hw zb (by decide) 7 x d (aw ws.length) b n hd wx hz (by omega) H;generalize brV kind ws bd 7 b (aw ws.length) x=g at *;have wh:=EU (ws:=ws) ht;have ib:(aO bc).G [.bl g,.ty "bool"]=.val (.bl true):=rfl;have bn:=GV g;have tt:(true != true)=false:=rfl;have itl:∀xs:List Val,(Val.lst xs).items=some xs:=λ_=>rfl;have lw:((ws.map Val.int).length:Nat)=ws.length:=j_ ..;have lc:(ws.map Val.int).length<=16777216:=by rw[lw];omega
 unfold liV at e2;unfold Bg;clear hx wx hz;generalize fV bd=bw at *;generalize bV b=bv at *;generalize (aw ws.length).map Val.int=nv at *;generalize ws.map Val.int=wv at *;simp![itl,lc,es,e1,e2,wh,ib,bn,tt,cV]
def zr{kind:Str}{ws:List Int}{b:Bx}{n m:Nat}(hk:kind="order" \/ kind="any")(hw:∀w∈ws,1<=w)(H:Ok51 ws (aw ws.length) b n m)(hl:(aw ws.length).length<=7):∃u:Unit,Sz 4000 (bst kind ws 7 b (aw ws.length)):=by obtain⟨_,_,_,z,_,_,_⟩:=je hk hw 7 (aw ws.length) b n H hl;exact⟨(),z⟩
def EV(ns:List Int)(hl:ns.length<=63):xm.G [.kl (ns.map .int)]=.ok (.val (.bl true)) []:=by
 obtain⟨v,e1,f⟩:=Dk hl;show (fnP [false] 14 rA).G _=_;rw[Ck rfl];show Bg (rA.G [.sh (.kl (ns.map .int)),.no,.no,.no,.no,.no,.no,.no,.no,.no,.no,.no,.no,.no]);unfold rA;generalize ns.map Val.int=kv at *;refine aN (λe=>e=[.sh (.kl kv),.ow v,.no,.no,.no,.no,.no,.no,.no,.no,.no,.no,.no,.no]) ⟨_,by simp![e1],rfl⟩ ?_;rintro _ rfl;obtain⟨c,v1,e2,f1,c0,c1⟩:=az (m:=2) f (by omega) (by decide) (sm8 (by decide));refine aN (λe=>∃(kind:Str) (mo:Int),(kind="order" /\ mo=6\/kind="any" /\ mo=5)/\e=[.sh (.kl kv),.ow v1,.sh (.str kind),.no,.no,.no,.no,.no,.no,.no,.no,.no,.no,.no]) ?_ ?_
 .obtain rfl |rfl:c=0\/c=1:=by omega
  .exact⟨_,by simp![e2],"order",6,.inl ⟨rfl,rfl⟩,rfl⟩
  .exact⟨_,by simp![e2],"any",5,.inr ⟨rfl,rfl⟩,rfl⟩
 rintro _ ⟨kind,mo,hk,rfl⟩;have m6:5<=mo/\mo<=6:=by rcases hk with ⟨_,rfl⟩ |⟨_,rfl⟩ <;> decide
 obtain⟨b,ws,far,β,μ,mn,v2,C,f2,e3⟩:=DZ (by omega) m6.2 f1 (by omega);obtain rfl:=C.len;have hw:∀w∈ws,1<=w:=λw h=>(C.le w h).1;have hm1:=C.m1;have hm5:=C.m5;have hm6:=C.m6;have h0:ws≠[]:=by rintro rfl;exact absurd hm1 (by decide)
 have H:=C.h51;have nl:(aw ws.length).length=ws.length:=by unfold aw;rw[j_,K0]
 have hk':kind="order" \/ kind="any":=hk.imp LU LU;refine aN (λe=>e=[.sh (.kl kv),.ow v2,.sh (.str kind),.sh (bV b),.sh (.lst (ws.map .int)),.no,.no,.no,.no,.no,.no,.no,.no,.no]) ?_ ?_
 .have d1:lkD (κ:=Key) ([Sum.inr ("order" : Str),Sum.inr ("any" : Str)].zip [Val.int 6,Val.int 5]) (Sum.inr ("order" : Str))=some (.int 6):=by kernel_rfl
  have d2:lkD (κ:=Key) ([Sum.inr ("order" : Str),Sum.inr ("any" : Str)].zip [Val.int 6,Val.int 5]) (Sum.inr ("any" : Str))=some (.int 5):=by kernel_rfl
  unfold liV at e3;generalize bV b=bv at *;generalize ws.map Val.int=wv at *;rcases hk with ⟨rfl,rfl⟩ |⟨rfl,rfl⟩
  .exact⟨_,by simp![e1,e2,nD,d1,e3],rfl⟩
  .exact⟨_,by simp![e1,e2,nD,d2,e3],rfl⟩
 rintro _ rfl;have lw:((ws.map Val.int).length:Nat)=ws.length:=j_ ..;have lr:fc.G [.int (ws.length:Nat)]=.new (.lst ((aw ws.length).map Val.int)):=by rw[rj ⟨by omega,by omega⟩,<- kZ];rfl
 refine aN (λe=>e=[.sh (.kl kv),.ow v2,.sh (.str kind),.sh (bV b),.sh (.lst (ws.map .int)),.sh (.lst ((aw ws.length).map .int)),.no,.no,.no,.no,.no,.no,.no,.no]) ⟨_,by simp![lw,lr],rfl⟩ ?_;rintro _ rfl;obtain⟨p,ep,hb⟩:=Br hk hw h0 hm5 H;have pa:=DM hb;have hn9:∀i∈aw ws.length,i.natAbs<=9:=λi hi=>by obtain⟨j,hj,rfl⟩:=KP.mp hi;rw[LR] at hj;omega
 obtain⟨hcn,hg⟩:=Ef hk hm5;obtain⟨p1,p2⟩:=zu ws.length 7 _ _ (oB _) hn9 (by omega) pa;refine aN (λe=>e=[.sh (.kl kv),.ow v2,.sh (.str kind),.sh (bV b),.sh (.lst (ws.map .int)),.sh (.lst ((aw ws.length).map .int)),.sh p,.no,.no,.no,.no,.no,.no,.no]) ⟨_,by simp![ep],rfl⟩ ?_;rintro _ rfl;obtain⟨t,el,_⟩:=ji hk hw h0 hm5 H;obtain⟨_,z⟩:=zr hk' hw H (by omega);generalize bst kind ws 7 b (aw ws.length)=q at *;refine aN (λe=>e=[.sh (.kl kv),.ow v2,.sh (.str kind),.sh (bV b),.sh (.lst (ws.map .int)),.sh (.lst ((aw ws.length).map .int)),.sh p,.sh (fV q),.no,.no,.no,.no,.no,.no]) ⟨_,by simp![el],rfl⟩ ?_;rintro _ rfl;obtain⟨c3,v3,e4,f3,c30,c31⟩:=az (m:=3) f2 (by omega) (by decide) (sm8 (by decide));refine aN (λe=>∃v x,Fd 50000000 v/\pvP 9 21 x=true/\tz x<=2000000/\e=[.sh (.kl kv),.ow v,.sh (.str kind),.sh (bV b),.sh (.lst (ws.map .int)),.sh (.lst ((aw ws.length).map .int)),.sh x,.sh (fV q),.no,.no,.no,.no,.no,.no]) ?_ ?_
 .by_cases hc3:c3=0
  .subst hc3;have dn:dN 2=20010004:=by decide
   obtain⟨x,v4,h1,h2,h3,h4⟩:=G0 hk' 2 4 (aw ws.length) _ v3 (by decide) H.ne (oB _) (by omega) hn9 (by rw[nl];exact hcn) f3 (by omega);have t2:tN 2<=2000000:=by decide
   unfold liV at h4;rw[show (((2:Nat):Int))=2 from rfl] at h4;exact⟨_,by simp![e4,h4],v4,x,h3.mono (by omega),fQ (m_ _) _ x h1 _ (by decide),by omega,rfl⟩
  .have d3:(c3==0)=false:=by rw[r_];exact hc3
   exact⟨_,by simp![e4,d3],v3,p,f3.mono (by omega),p1,by omega,rfl⟩
 rintro _ ⟨v4,x,f4,hx,hz,rfl⟩;obtain⟨w,v5,e5,f5,w0,w1⟩:=az (m:=3) f4 (by omega) (by decide) (sm8 (by decide));obtain⟨rg,x',v6,t8,erg,f6,hx',hz',h8,fr⟩:=yL (s0:=.sh (.kl kv)) (s2:=.sh (.str kind)) (s3:=.sh (bV b)) (s4:=.sh (.lst (ws.map .int))) (s5:=.sh (.lst ((aw ws.length).map .int))) (s7:=.sh (fV q)) (s8:=.no) (s9:=.no) (s10:=.no) (s11:=.no) (s12:=.no) (s13:=.no) (by omega) (by decide) (by decide) (m_ _) f5 hx hz rfl w w0 w1;refine aN (λe=>e=[.sh (.kl kv),.ow v6,.sh (.str kind),.sh (bV b),.sh (.lst (ws.map .int)),.sh (.lst ((aw ws.length).map .int)),.sh x',.sh (fV q),t8,.no,.no,.no,.no,.no]) ⟨_,by simp![e5,erg,fr],rfl⟩ ?_;rintro _ rfl;obtain⟨a,v7,e7,f7,a0,a1⟩:=az (m:=20) f6 (by omega) (by decide) (sm8 (by decide));obtain⟨c,v8,e8,f8,c20,c21⟩:=az (m:=200) f7 (by omega) (by decide) (sm8 (by decide));have lo:=d5 (a:=1+a) (b:=1+c) (by omega) (sm8 (by omega));have zm:=Dl a0 a1 c20 c21;generalize ((1+a:Int):Rat)/((1+c:Int):Rat)=mr at *;refine aN (λe=>e=[.sh (.kl kv),.ow v8,.sh (.str kind),.sh (bV b),.sh (.lst (ws.map .int)),.sh (.lst ((aw ws.length).map .int)),.sh x',.sh (fV q),t8,.sh (fV mr),.no,.no,.no,.no]) ⟨_,by simp![e7,e8,lo],rfl⟩ ?_;rintro _ rfl;have a1':=gD z zm (by decide);have a2':=gD z (zK zm) (by decide);rw[<- Gy mr] at a2';have em:fV mr=.tup [.int mr.num,.int (mr.den:Nat)]:=rfl;have mem8:=all8 z zm;refine aN (λe=>e=[.sh (.kl kv),.ow v8,.sh (.str kind),.sh (bV b),.sh (.lst (ws.map .int)),.sh (.lst ((aw ws.length).map .int)),.sh x',.sh (fV q),t8,.sh (fV mr),.sh (.lst [fV q,fV q,fV (q+mr),fV (q + -mr),.tup [.int 0,.int 1],.tup [.int (-3),.int 2],.tup [.int 1,.int 1]]),.no,.no,.no]) ⟨_,by rw[em] at a1' ⊢;generalize fV (q+mr)=y1 at *;generalize fV (q + -mr)=y2 at *;generalize fV q=y0 at *;generalize mr.num=tn at *;generalize ((mr.den:Nat):Int)=td at *;simp![a1',a2'],rfl⟩ ?_;rintro _ rfl;obtain⟨r,v9,e9,f9,r0,r1⟩:=az (m:=8) f8 (by omega) (by decide) (sm8 (by decide));have hr:r.toNat<([fV q,fV q,fV (q+mr),fV (q + -mr),.tup [.int 0,.int 1],.tup [.int (-3),.int 2],.tup [.int 1,.int 1],.tup [.int 999999999999999999999999999999,.int 1]]:List Val).length:=by show r.toNat<8;omega
 have at8:atI ([fV q,fV q,fV (q+mr),fV (q + -mr),.tup [.int 0,.int 1],.tup [.int (-3),.int 2],.tup [.int 1,.int 1],.tup [.int 999999999999999999999999999999,.int 1]]:List Val) r=some _:=gm r0 (B_ hr);obtain⟨bd,eb,zb⟩:=mem8 _ (LV hr);rw[eb] at at8;refine aN (λe=>e=[.sh (.kl kv),.ow v9,.sh (.str kind),.sh (bV b),.sh (.lst (ws.map .int)),.sh (.lst ((aw ws.length).map .int)),.sh x',.sh (fV q),t8,.sh (fV mr),.sh (.lst [fV q,fV q,fV (q+mr),fV (q + -mr),.tup [.int 0,.int 1],.tup [.int (-3),.int 2],.tup [.int 1,.int 1]]),.sh (fV bd),.no,.no]) ⟨_,by clear mem8 eb a1' a2' el ep;generalize fV (q+mr)=y1 at *;generalize fV (q + -mr)=y2 at *;generalize fV q=y0 at *;generalize fV bd=yb at *;simp![p30,e9,at8],rfl⟩ ?_;rintro _ rfl;exact Dz hk hw h0 hm5 H zb (by decide) (fQ (by decide) _ x' hx' 30 (by decide)) (by omega)
end KK
namespace PySem.W.Fast
def q__:=trivial
def tw10016548093715936859:=q__
def tw10036706565694489511:=q__
def tw10091357318849390494:=q__
def tw10118405888304815981:=q__
def tw10120087301281240030:=q__
def tw10177441755018708996:=q__
def tw10312052820918258632:=q__
def tw10367566237943330831:=q__
def tw1037497715753959917:=q__
def tw10411460567803676627:=q__
def tw1044309248846833254:=q__
def tw10465905509547503694:=q__
def tw10483437896463003191:=q__
def tw1054484239190777256:=q__
def tw10552178869827651235:=q__
def tw10606718767076013252:=q__
def tw10642167024230805053:=q__
def tw10670945329885937137:=q__
def tw10680656558627313884:=q__
def tw10687579855243789221:=q__
def tw10716079155864494661:=q__
def tw10743249715500023921:=q__
def tw10833492859596736869:=q__
def tw10868755889293149672:=q__
def tw1094833378033734452:=q__
def tw10970536049574970409:=q__
def tw1100014766920050986:=q__
def tw11026440241036100836:=q__
def tw11029415936369795366:=q__
def tw11077421132727129435:=q__
def tw11088271813425823939:=q__
def tw11105934218735197955:=q__
def tw11143055710569544118:=q__
def tw11159986330749904861:=q__
def tw11193811948443385483:=q__
def tw11195831256402750336:=q__
def tw11199706900919880297:=q__
def tw11210752444034583768:=q__
def tw11260574317292752871:=q__
def tw11341341297637576510:=q__
def tw11366002005939228923:=q__
def tw11427099040553431309:=q__
def tw11489708678189297397:=q__
def tw11507120152105126692:=q__
def tw11515395948593660838:=q__
def tw11579076478255795354:=q__
def tw115943303990146441:=q__
def tw11603661596210222842:=q__
def tw11605091879121937476:=q__
def tw11610750379487031429:=q__
def tw11662487906674206780:=q__
def tw11683732753343092787:=q__
def tw11787716538831670348:=q__
def tw11849320908629453821:=q__
def tw118556550310432504:=q__
def tw11905243334910860282:=q__
def tw11919068360069619254:=q__
def tw11934638558088477477:=q__
def tw11944627801719377437:=q__
def tw11953852517552088478:=q__
def tw12036362432652426157:=q__
def tw1211696181447197763:=q__
def tw12131290533189923561:=q__
def tw1216254791103480608:=q__
def tw12182638359061723389:=q__
def tw12234709699100642547:=q__
def tw12407284774187609214:=q__
def tw12479559528024898841:=q__
def tw12532117310036642715:=q__
def tw12548914951266306151:=q__
def tw12628799143759822582:=q__
def tw12768099047764858444:=q__
def tw12818283465744659576:=q__
def tw128377216554431395:=q__
def tw1290996010831766780:=q__
def tw1291076789203297946:=q__
def tw12942455953624996594:=q__
def tw12947812001813050960:=q__
def tw12960124058352092809:=q__
def tw12962719492359499337:=q__
def tw13014992615712895498:=q__
def tw13019364193412907745:=q__
def tw13048257270445815733:=q__
def tw13048609265023248472:=q__
def tw13063203223669270541:=q__
def tw13086595631867843940:=q__
def tw13169303317488412262:=q__
def tw13178710653271891574:=q__
def tw13202229633464958176:=q__
def tw13270876045974677738:=q__
def tw13286197238478475637:=q__
def tw13313728069280244474:=q__
def tw13401690133225894165:=q__
def tw13475269596292310420:=q__
def tw13527077185377359547:=q__
def tw13551751320509405510:=q__
def tw13553234110681410636:=q__
def tw13565631013338731835:=q__
def tw13616192690549481733:=q__
def tw13634543813543021509:=q__
def tw13656319972141097243:=q__
def tw13673334634743888855:=q__
def tw13692498755545102:=q__
def tw13713596404791678101:=q__
def tw13734909257004591379:=q__
def tw1376443388322493612:=q__
def tw13773942148663768837:=q__
def tw13814741679927618300:=q__
def tw13818070512736410060:=q__
def tw1389128076179877557:=q__
def tw13931947163938888909:=q__
def tw13948455532033116493:=q__
def tw1396517389477591167:=q__
def tw13966096535510775762:=q__
def tw13989890035492308828:=q__
def tw13997996696814304872:=q__
def tw14010211216513445617:=q__
def tw14013017983646429347:=q__
def tw1403067347686168293:=q__
def tw14107733883809286401:=q__
def tw14232813908031279922:=q__
def tw14240118183530137389:=q__
def tw1424132570439103380:=q__
def tw14248599739116619933:=q__
def tw14267112501606939959:=q__
def tw14274002722665122032:=q__
def tw14278823841106357810:=q__
def tw14294130122118103706:=q__
def tw1435671417740627905:=q__
def tw14388797773815533176:=q__
def tw14455345207946928613:=q__
def tw14461698309838530349:=q__
def tw14461988002835493340:=q__
def tw14489743638991331035:=q__
def tw14497803946277979114:=q__
def tw14563697620032460760:=q__
def tw14667528098039758139:=q__
def tw14676063710937808457:=q__
def tw14678264534148668413:=q__
def tw14746425167057560879:=q__
def tw14751304290805639560:=q__
def tw14781806751862500380:=q__
def tw14835583509347758560:=q__
def tw14840526374149594402:=q__
def tw14862132127785389644:=q__
def tw14932125979339060714:=q__
def tw14954493071744739690:=q__
def tw15115131847177138868:=q__
def tw15192510118682728844:=q__
def tw15233218973767930778:=q__
def tw15234021763045458431:=q__
def tw15339947544940955182:=q__
def tw1538452405232187381:=q__
def tw15416447839101783286:=q__
def tw15418730908552126458:=q__
def tw15497302718875549738:=q__
def tw15561679834461449927:=q__
def tw15582840995150621959:=q__
def tw1560965813938144147:=q__
def tw15614944277704692216:=q__
def tw15714418309762154085:=q__
def tw15937287202772415728:=q__
def tw15990555866331543427:=q__
def tw16006348928827852296:=q__
def tw1603922956494615391:=q__
def tw16077839104965540403:=q__
def tw16080939020489672157:=q__
def tw16198033630175429003:=q__
def tw16211281627319281632:=q__
def tw16236307854476062670:=q__
def tw1626718459934454171:=q__
def tw16344390328298759742:=q__
def tw1634834952620926432:=q__
def tw16391095033764638831:=q__
def tw16471224820101684616:=q__
def tw1649207802671702197:=q__
def tw16517296400800069633:=q__
def tw16655869605842666231:=q__
def tw16681570785156464249:=q__
def tw16716654515308086217:=q__
def tw16718540222965008660:=q__
def tw16802715840964748385:=q__
def tw16818731118005068764:=q__
def tw16886851979752835716:=q__
def tw16892977010954252190:=q__
def tw16893360574912116567:=q__
def tw16893781420734384332:=q__
def tw16956279666863086932:=q__
def tw17135994757835274753:=q__
def tw17194608972556236920:=q__
def tw17198381508833036469:=q__
def tw17226106394599836944:=q__
def tw17256804132989622450:=q__
def tw17299562715910230389:=q__
def tw17304932888497339630:=q__
def tw17341127324003449419:=q__
def tw1742304178766071431:=q__
def tw17511613860369621997:=q__
def tw17602838946559069425:=q__
def tw17641889537981475906:=q__
def tw17691409410715725386:=q__
def tw17707475263467201402:=q__
def tw1775846121341015649:=q__
def tw17781496582077536362:=q__
def tw17886713887043975321:=q__
def tw17899872872436104703:=q__
def tw1797954709021710270:=q__
def tw18060951180240097556:=q__
def tw18074729606466433474:=q__
def tw18077103793071306071:=q__
def tw18142269204653565600:=q__
def tw1814589188235407832:=q__
def tw18148270301254929045:=q__
def tw18150428678173466052:=q__
def tw181522144752463542:=q__
def tw18246842695918076242:=q__
def tw18365657834212507519:=q__
def tw18385104250853480429:=q__
def tw1872279362448273150:=q__
def tw1933556543148298611:=q__
def tw1989589968665081327:=q__
def tw203577424522052953:=q__
def tw2046014045501792747:=q__
def tw2048158295848003949:=q__
def tw2062678148229797941:=q__
def tw2076808002135629957:=q__
def tw2105858631748656380:=q__
def tw2109698930302670212:=q__
def tw2126311725789165924:=q__
def tw2151605009481266689:=q__
def tw2237667709238321011:=q__
def tw2322262065838613379:=q__
def tw2360490912265163734:=q__
def tw2364647189373874945:=q__
def tw2376855142513642717:=q__
def tw2514891384561669608:=q__
def tw2586218237357976163:=q__
def tw2613758970780725626:=q__
def tw2641309918387819021:=q__
def tw2660181702250190965:=q__
def tw2673462200731410445:=q__
def tw2699230371025027545:=q__
def tw2845697423585717963:=q__
def tw2857921434050905338:=q__
def tw2881629501984432069:=q__
def tw2920986309674310708:=q__
def tw2923167576471352502:=q__
def tw2930986412586308667:=q__
def tw3015653843300228808:=q__
def tw3041868650425873119:=q__
def tw3061633482399866918:=q__
def tw3067478466071552784:=q__
def tw3104800968101729320:=q__
def tw3206180119306437268:=q__
def tw3256922591907634515:=q__
def tw3318943879691564788:=q__
def tw33336249547756406:=q__
def tw3367928561275926716:=q__
def tw3440147547113216714:=q__
def tw3466522275331055707:=q__
def tw3498601548001393268:=q__
def tw3517232984284406886:=q__
def tw3569338466963353388:=q__
def tw3601620631287933138:=q__
def tw3607026351826555041:=q__
def tw3691325390399205323:=q__
def tw370436047065481410:=q__
def tw3716621249495975765:=q__
def tw3810482603831254517:=q__
def tw3830845865903811094:=q__
def tw3873339902090190008:=q__
def tw3923383952086676641:=q__
def tw3949449039475109608:=q__
def tw3971054066860005468:=q__
def tw4026697308503315910:=q__
def tw4046237603226876203:=q__
def tw4047598528196679342:=q__
def tw4069510526121244376:=q__
def tw4089517613447201340:=q__
def tw410020897314089993:=q__
def tw4105457668227712831:=q__
def tw4115491267770527124:=q__
def tw4139763284838209174:=q__
def tw4176778981369574870:=q__
def tw4279466520472362114:=q__
def tw4291245147572033209:=q__
def tw4305457029848760887:=q__
def tw4311352334838614598:=q__
def tw4352819454432869165:=q__
def tw4359859603321877557:=q__
def tw4376847925257215930:=q__
def tw4401001057879317366:=q__
def tw4452754517875209069:=q__
def tw446549059833906:=q__
def tw4468095731137998698:=q__
def tw4492131406622183259:=q__
def tw4503105276784827056:=q__
def tw4525807346329209587:=q__
def tw453392613216570061:=q__
def tw4575127680701742689:=q__
def tw4593455533810511448:=q__
def tw4615720321832354525:=q__
def tw4625006181213745511:=q__
def tw4637837762670530036:=q__
def tw4696657931868337621:=q__
def tw4778389571056455634:=q__
def tw4791321158440214899:=q__
def tw4839030677750647693:=q__
def tw487091419207015542:=q__
def tw4876312451748374546:=q__
def tw4934389587214042898:=q__
def tw504025433918680043:=q__
def tw5042362691201095899:=q__
def tw5052416882411045185:=q__
def tw5076803721889645809:=q__
def tw5112820168416880310:=q__
def tw5117371737680322368:=q__
def tw5162259645232558471:=q__
def tw5228894637383431462:=q__
def tw5241703914953790831:=q__
def tw5257901211329831409:=q__
def tw530303417182749423:=q__
def tw5313460599429793836:=q__
def tw5445399446779990765:=q__
def tw5445553010948368996:=q__
def tw5555126639514556221:=q__
def tw5597892956896173773:=q__
def tw5607621148545751530:=q__
def tw5619309436929708013:=q__
def tw5630691941802342292:=q__
def tw5638696568795668502:=q__
def tw5669283497115257869:=q__
def tw5690022394315580784:=q__
def tw5712237670329243755:=q__
def tw5764890650647152513:=q__
def tw5856088430906082779:=q__
def tw5860465976716701753:=q__
def tw5865814238248431346:=q__
def tw5879889726692112994:=q__
def tw5966290846725612489:=q__
def tw5974859135887585612:=q__
def tw5998866541602031937:=q__
def tw6020438402731341557:=q__
def tw603026305720129537:=q__
def tw6036663422261001622:=q__
def tw6098281099479156159:=q__
def tw6251276609021624484:=q__
def tw6297809223232534000:=q__
def tw6319331988553250327:=q__
def tw6324006942055106539:=q__
def tw6356502133340927904:=q__
def tw642154331679159549:=q__
def tw642536386734701803:=q__
def tw6429846742244000085:=q__
def tw6434359988980222319:=q__
def tw6444340205699510556:=q__
def tw6471997248555692699:=q__
def tw6503396037411355231:=q__
def tw6590308335730264725:=q__
def tw66147212422727329:=q__
def tw6649336504318832584:=q__
def tw6726765150553801138:=q__
def tw68164954706339114:=q__
def tw6821795322497734147:=q__
def tw6822466558854254299:=q__
def tw6832426209672855666:=q__
def tw6833859781207128930:=q__
def tw6857976850742462783:=q__
def tw6869274043434819944:=q__
def tw687852747079644820:=q__
def tw6937332633289465709:=q__
def tw6995141703213425884:=q__
def tw7099403594066175392:=q__
def tw7125731316005662571:=q__
def tw714969425909440657:=q__
def tw7150356998756843787:=q__
def tw7160451991246008863:=q__
def tw716765453856133212:=q__
def tw7176820419656010719:=q__
def tw723689642853614402:=q__
def tw7238758892261908133:=q__
def tw7279802156432148019:=q__
def tw7414631078637905298:=q__
def tw752300822760131756:=q__
def tw7529644129883497802:=q__
def tw7530275366312920233:=q__
def tw7543542848871360662:=q__
def tw7604911936755543184:=q__
def tw7656950410648606375:=q__
def tw7688214821854475707:=q__
def tw7742873614564144249:=q__
def tw7782772777345003928:=q__
def tw7827637588727710689:=q__
def tw7829765862207166831:=q__
def tw7954372488162351971:=q__
def tw795911747737167008:=q__
def tw7989811504544793311:=q__
def tw8010666105216873486:=q__
def tw8014659610726278120:=q__
def tw8110663244466900360:=q__
def tw8185756724487433811:=q__
def tw8224479290416514628:=q__
def tw8362650956179281658:=q__
def tw840650845522592908:=q__
def tw8412093534844662535:=q__
def tw841777561044785283:=q__
def tw8519115539036393054:=q__
def tw8578423103212734550:=q__
def tw858008318572816872:=q__
def tw8836183722469851078:=q__
def tw8872276181193812521:=q__
def tw8891426433850866950:=q__
def tw8990814753826827443:=q__
def tw9044267239721186684:=q__
def tw9045163207654184724:=q__
def tw9066680783073530931:=q__
def tw9219074603771771032:=q__
def tw9221745019559183949:=q__
def tw9250752899259476996:=q__
def tw9255969122454782788:=q__
def tw9293676504516295960:=q__
def tw932526765512547229:=q__
def tw9374916744244799586:=q__
def tw9390245130359978120:=q__
def tw9424925001381402858:=q__
def tw9437430273106178872:=q__
def tw9496921766958441487:=q__
def tw9501137066344343572:=q__
def tw9524268918837895214:=q__
def tw953945054429784397:=q__
def tw9560116687847009678:=q__
def tw9564747689917075021:=q__
def tw9576947133843216824:=q__
def tw9586846730829097359:=q__
def tw9741569957179671436:=q__
def tw978298077299242237:=q__
def tw9798723390071233094:=q__
def tw9833746756496212366:=q__
def tw9858478677451678491:=q__
def tw9970519556815436001:=q__
def tw9972710479614079830:=q__
end PySem.W.Fast
open PySem PySem.W PyProof.Rows L2 L3 KK
set_option maxRecDepth 100000 in
set_option maxHeartbeats 0 in
theorem PySem.Challenge.cw_weightrooms_k58_papers_looked_at_holds : PySem.Challenge.rw_weightrooms_k58_papers_looked_at.Holds := by
 w_on;o_law;k_head;(case hw=>w_witness2)
 k_fill
 refine L2.walk_lawD (l:=PySem.Challenge.rw_weightrooms_k58_papers_looked_at) (x:="_law_script") (k:=44) rfl rfl ⟨rfl,by decide,by decide,rfl⟩ (λw h Y=>W.kIn_of Y) ?F ?D
 case F=>
  intro w mg h KX G base kb nb;refine law3 xm (DK ⟨⟨Jw KX G (by kernel_rfl),?_⟩,(by refine' AF (kvs:=bI) KX G ?a9 ?b9 ?c9 ?d9 ?e9;(case a9=>exact rfl);(case b9=>exact rfl);(case c9=>exact rfl);(case d9=>exact (.cons rfl rfl rfl (.cons rfl rfl rfl .nil)));(case e9=>decide))⟩) (GX KX G (by kernel_rfl)) rfl EV;repeat first
   |exact trivial
   |refine⟨by refine' yq KX G ?a ?l ?c ?k;(case a=>k_is);(case l=>k_is);(case c=>k_is);(case k=>k_is),?_⟩
 case D=>
  intro w mg h KX G;refine⟨top 71,?_,(λ_ _ _ _ _ _=>ar1 λ_=>rfl)⟩;refine' yq KX G ?a ?l ?c ?k;case a|l|c|k=>k_is
