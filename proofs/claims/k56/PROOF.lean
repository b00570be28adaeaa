import PyProof.Rows.All
import Wide.All
import OpenK.AllK
import Wide.FinOn
import Lean
import PyProof.EqAt
import PyProof.EqKinds
import PyProof.TupleCall
import PyProof.Rows.SumAny
import PyProof.EnumMake
import PyProof.Draws
import PyProof.ZipIter
import KE.KNestM
import PyProof.StrBlockH
import KE.KUnpack
import KE.KxIndex
import PyProof.SetRoads
import PyProof.SetNew
import PyProof.AutoSeq1
import KE.KRevSl
import PyProof.SeqI3
import PyProof.Rows.SortWalk
import PyProof.Rows.Range3
import KE.KSortTup
import KE.KLam
import PyProof.Rows.SetFrom
import PyProof.FactsAll.list_2
import PyProof.Rows.SortStr
import PyProof.Rows.StrRules
import PyProof.StrOps
import KE.KIntText
import PyProof.CallStr
import PyProof.StrWalks
import PyProof.Rows.StrNews2
import PySem.Challenge.RW_weightrooms_k56_first_cuts
local macro_rules|`(tactic|trivial)=>`(tactic|first|exact Or.inl rfl|exact Or.inr rfl)
local macro_rules|`(tactic|decide)=>`(tactic|decide +kernel)
set_option genSizeOf false
set_option genInjectivity false
set_option bootstrap.genMatcherCode false
noncomputable section
set_option Elab.async false
set_option linter.all false
def e_:=@List.length_map
def f_:=@List.getElem?_eq_some_iff
def g_:=@PySem.wpAny_bind
def h_:=@Bool.false_ne_true
def i_:=@Bool.and_eq_true
def j_:=@List.length_set
def k_:=@List.length_append
def l_:=@PySem.wpAny_pure
def m_:=@PySem.Heap.lt_size
def n_:=@List.map_cons
def o_:=@List.getElem?_eq_getElem
def p_:=@List.length_cons
def q_:=@List.size_toArray
def r_:=@Nat.le_refl
def s_:=@List.mem_cons_of_mem
def t_:=@Nat.lt_of_lt_of_le
def u_:=@Option.some.inj
def v_:=@Option.map_eq_some_iff
def w_:=@PySem.Heap.get?_push_of_some
def x_:=@List.getElem?_map
def y_:=@List.mem_cons_self
def z_:=@PySem.wpAny_mono
def AI:=@List.mem_append_right
def AJ:=@Nat.le_trans
def AK:=@List.all_eq_true
def AL:=@List.mem_cons
def AM:=@List.getElem?_append_left
def AN:=@List.append_nil
def AO:=@decide_eq_false
def AQ:=@beq_iff_eq
def AR:=@List.length_nil
def AS:=@Nat.ne_of_lt
def AU:=@List.nil_append
def AV:=@List.getElem?_set_self
def AW:=@PySem.Heap.get?_push_size
def AX:=@List.map_append
def AY:=@List.contains_iff_mem
def AZ:=@List.map_nil
def A0:=@congrArg
def A2:=@Nat.lt_irrefl
def A3:=@Nat.zero_le
def A4:=@List.getElem?_replicate
def A5:=@Option.bind_eq_some_iff
def A6:=@List.append_assoc
def A7:=@PySem.mem_of_lookup
def A8:=@List.any_cons
def A9:=@List.lookup_cons
def A_:=@Bool.false_eq_true
def Ba:=@List.mem_singleton
def Bb:=@decide_eq_true
def Bc:=@List.getElem?_set_ne
def Bd:=@List.mem_of_getElem?
def Be:=@List.nodup_cons
def Bf:=@List.range_succ
def Bg:=@Option.isSome_iff_exists
def Bh:=@Int.mul_assoc
def Bi:=@PySem.F.plainAttrs_list
def Bj:=@List.filterMap_cons
def Bk:=@List.find?_cons
def Bl:=@List.length_replicate
def Bm:=@List.length_singleton
def Bn:=@Nat.pow_le_pow_right
def Bo:=@List.map_map
def Bp:=@List.set_set
def Bq:=@PySem.F.slot_list_append
def Br:=@PySem.F.type_list_append
def Bt:=@List.length_zipWith
def Bu:=@beq_eq_false_iff_ne
def Bw:=@List.filter_cons_of_neg
def Bx:=@List.filter_cons_of_pos
def By:=@PySem.wpAny_getItem_str_slice
def Bz:=@List.mem_append
def BA:=@Nat.not_lt_zero
def BB:=@PySem.wpAny_Call_Name_kw
def BC:=@List.take_of_length_le
def BD:=@Int.mul_left_comm
def BE:=@List.flatMap_cons
def BF:=@PySem.wpAny_newObj_type
def BG:=@List.getElem?_zipWith
def BH:=@if_true
def BI:=@PyProof.Rows.callWith_type1
def BJ:=@List.length_take
def BK:=@if_false
def BL:=@PySem.Calls.Name_function_global
def BM:=@List.getElem?_append_right
def BN:=@PySem.wpAny_holding
def BO:=@List.flatMap_append
def BP:=@List.mem_or_eq_of_mem_set
def BQ:=@PySem.wpAny_passesOwn
def BR:=@Int.mul_comm
def BS:=@Nat.mul_comm
def BU:=@Nat.one_le_two_pow
def BV:=@PySem.F.args_tuple_add_2
def BW:=@PySem.F.entry_tuple_add
def BX:=@List.getElem?_set
def BY:=@List.length_range
def BZ:=@decide_eq_true_eq
def B0:=@PySem.F.slot_tuple_add
def B1:=@List.all_cons
def B2:=@List.take_nil
def B3:=@List.length_filter_le
def B4:=@PySem.Heap.get?_none_of_le
def B5:=@List.forIn_cons
def B6:=@List.getElem?_append
def B7:=@List.mem_append_left
def B8:=@List.mem_map
def B9:=@List.of_mem_zip
def B_:=@Nat.lt_trans
def Ca:=@Nat.pow_succ
def Cb:=@PySem.codeAny_mono
def Cc:=@PySem.post_val_or_str
def Cd:=@PySem.wpAny_execs_nil
def Cf:=@Array.length_toList
def Cg:=@Int.natAbs_mul
def Ci:=@List.drop_nil
set_option maxRecDepth 100000
namespace L2
open PySem PySem.Spec PyProof.Rows
abbrev _root_.Cj:=Str->Option Value
abbrev _root_.Ck:=List (Addr×Obj)
abbrev _root_.Cm:=Value->Shared->Prop
abbrev _root_.Cn:=List (Option Nat)
abbrev Key:=Sum Int Str
noncomputable def eY:Key->Value->Bool
 |.inl k,v=>Value.isInt k v
 |.inr x,v=>Value.isStrOf x v
noncomputable def keyH (w:World):Key->Int
 |.inl k=>hashInt k
 |.inr x=>hashStr w x
theorem aS:∀{k:Key}{v:Value},eY k v=true->(∃i t,k=Sum.inl i/\v=Value.int i t)\/(∃x t,k=Sum.inr x/\v=Value.str x t)
 |
  .inl i,v,h=>by
  obtain⟨t,e⟩:=Value.isInt_shape (k:=i) (v:=v) h;exact .inl ⟨i,t,rfl,e⟩
 |
  .inr x,v,h=>by
  obtain⟨t,e⟩:=Value.isStrOf_shape (x:=x) (v:=v) h;exact .inr ⟨x,t,rfl,e⟩
def n4(i:Int)(t:Tok):eY (.inl i) (.int i t)=true:=by simp [eY,Value.isInt]
def qr(x:Str)(t:Tok):eY (.inr x) (.str x t)=true:=by simp [eY,Value.isStrOf]
def xm(a b:Int):decide ((Sum.inl a:Key)=Sum.inl b)=(a==b):=by
 by_cases e:a=b
 .subst e;simp
 .have h:¬ (Sum.inl a:Key)=Sum.inl b:=λq=>e (Sum.inl.inj q);rw[AO h];exact (Bu.mpr e).symm
def yj(a b:Str):decide ((Sum.inr a:Key)=Sum.inr b)=decide (a=b):=by
 by_cases e:a=b
 .subst e;simp
 .have h:¬ (Sum.inr a:Key)=Sum.inr b:=λq=>e (Sum.inr.inj q);rw[AO h,AO e]
def yJ(a:Int)(b:Str):decide ((Sum.inl a:Key)=Sum.inr b)=false:=AO (λq=>nomatch q)
def w9(a:Str)(b:Int):decide ((Sum.inr a:Key)=Sum.inl b)=false:=AO (λq=>nomatch q)
noncomputable def aH (prog:Program) (w:World):PySem.KeyKind prog w Key where
 is:=eY
 hash:=keyH w
 inj
  := λv a b ha hb=>by
  rcases aS ha with ⟨i,t,rfl,rfl⟩ |⟨x,t,rfl,rfl⟩
  .rcases aS hb with ⟨j,u,rfl,e⟩ |⟨y,u,rfl,e⟩
   .injection e with e1 _;rw[e1]
   .exact nomatch e
  .rcases aS hb with ⟨j,u,rfl,e⟩ |⟨y,u,rfl,e⟩
   .exact nomatch e
   .injection e with e1 _;rw[e1]
 byValue:=λk v h=>by rcases aS h with ⟨i,t,rfl,rfl⟩ |⟨x,t,rfl,rfl⟩ <;> rfl
 pyHash:=λhv h=>by
  rcases aS hv with ⟨i,t,rfl,rfl⟩ |⟨x,t,rfl,rfl⟩
  .exact wpAny_pyHash_int h
  .exact wpAny_pyHash_str h
 eqBool:=λhu hv h=>by
  rcases aS hu with ⟨i,t,rfl,rfl⟩ |⟨x,t,rfl,rfl⟩
  .rcases aS hv with ⟨j,u,rfl,rfl⟩ |⟨y,u,rfl,rfl⟩
   .rw[xm] at h;exact wpAny_eqBool_int h
   .rw[yJ] at h;exact SeqAt.EqAt.int_str i t y u _ _ _ _ h
  .rcases aS hv with ⟨j,u,rfl,rfl⟩ |⟨y,u,rfl,rfl⟩
   .rw[w9] at h;exact SeqAt.EqAt.str_int x t j u _ _ _ _ h
   .rw[yj] at h;exact wpAny_eqBool_str h
 «strs»:=λk x t v h=>by
  rcases aS h with ⟨i,u,rfl,e⟩ |⟨y,u,rfl,e⟩
  .exact nomatch e
  .injection e with e1 _;subst e1;cases v <;> rfl
def kW(prog:Program)(w:World)(i:Int)(t:Tok):(aH prog w).is (.inl i) (.int i t)=true:=n4 i t
def fA(prog:Program)(w:World)(x:Str)(t:Tok):(aH prog w).is (.inr x) (.str x t)=true:=qr x t
inductive V where
 |non |bl (b:Bool) |int (i:Int) |str (x:Str) |byt (b:Array UInt8) |flt (b:UInt64) |ref (a:Addr) |ty (n:String)
 deriving DecidableEq
def RelV:V->Value->Prop
 |.non,u=>u=Value.none
 |.bl b,u=>u=Value.bool b
 |.int i,u=>∃t,u=Value.int i t
 |.str x,u=>∃t,u=Value.str x t
 |.byt b,u=>∃t,u=Value.bytes b t
 |.flt b,u=>∃t,u=Value.float b t
 |.ref a,u=>u=Value.ref a
 |.ty n,u=>u=Value.type n
abbrev Vals:List V->List Value->Prop:=Paired RelV
def Vals.length(r:Vals xs us):xs.length=us.length:=Paired.length r
def Vals.get{xs:List V}{us:List Value}{i:Nat}{x:V}(r:Vals xs us)(e:xs[i]?=some x):∃u,us[i]?=some u/\RelV x u:=by
 induction r generalizing i with
 |nil=>rw[List.getElem?_nil] at e;cases e
 |
  cons r t ih=>
  cases i with
  |zero=>cases e;exact⟨_,rfl,r⟩
  |succ i=>exact ih (i:=i) e
def Vals.append(r:Vals xs us)(s:Vals ys ws):Vals (xs++ys) (us++ws):=by
 induction r with
 |nil=>exact s
 |cons r t ih=>exact .cons r ih
def Vals.take(n:Nat)(r:Vals xs us):Vals (xs.take n) (us.take n):=by
 induction r generalizing n with
 |nil=>rw[B2,B2];exact .nil
 |
  cons r t ih=>
  cases n with
  |zero=>exact .nil
  |succ n=>exact .cons r (ih n)
def Vals.drop(n:Nat)(r:Vals xs us):Vals (xs.drop n) (us.drop n):=by
 induction r generalizing n with
 |nil=>rw[Ci,Ci];exact .nil
 |
  cons r t ih=>
  cases n with
  |zero=>exact .cons r t
  |succ n=>exact ih n
def RelO:Option V->Option Value->Prop
 |some v,some u=>RelV v u
 |none,none=>True
 |_,_=>False
def KV{κ:Type}:List (κ×V)->List (κ×Value)->Prop:=Paired λ(p:κ×V) (q:κ×Value)=>p.1=q.1/\RelV p.2 q.2
noncomputable def kV:Key->V
 |.inl i=>.int i
 |.inr x=>.str x
inductive HO where
 |lst (xs:List V)
 |tup (xs:List V)
 |dK (kvs:List (Key×V)) |dT (kvs:List (List Key×V))
 |set (S:Int->Bool) (n:Nat)
 |ins (C dx:Addr) (fs:List (Str×V))
 |own (x:Addr)
 |xd (fs:List (Str×V))
 |met (f x:Addr)
 |rng (lo hi:Int)
 |frz (o:Obj) (u:HO)
 |tbl (ps:Array Value)
 |ext (φ:Heap->Prop)
abbrev Hp:=Addr->Option HO
noncomputable def upd (H:Hp) (a:Addr) (o:HO):Hp:=λb=>if b=a then some o else H b
def ar:upd H a o a=some o:=by unfold upd;rw[if_pos rfl]
def aq(h:b≠a):upd H a o b=H b:=by unfold upd;rw[if_neg h]
def zZ{H:Hp}{a b:Addr}{o u:HO}(h:H a=some o)(h':H b=some u)(d:o≠u):a≠b:=by intro e;subst e;rw[h] at h';exact d (u_ h')
def bO{H:Hp}{a b:Addr}{o:HO}(h:H a=some o)(h':H b=none):a≠b:=by intro e;subst e;rw[h] at h';cases h'
section
variable(P:Program)(w:World)
def ObjOk(H:Hp)(h:Heap)(a:Addr):HO->Prop
 |.lst xs=>xs.length<=sizeLine/\∃(its:List Value) (n:Nat),Vals xs its/\h.get? a=some { cls:=.type "list",data:=.seq its.toArray n }
 |.tup xs=>xs.length<=sizeLine/\∃its:List Value,Vals xs its/\IsTup h a its.toArray
 |.dK kvs=>kvs.length<=sizeLine/\(a==sysModules)=false/\∃vs,KV kvs vs/\h.DictOf (aH P w) a vs
 |.dT kvs=>kvs.length<=sizeLine/\(a==sysModules)=false/\∃xs:List (List Key×Addr×Value),
  Paired (λ(p:List Key×V) (q:List Key×Addr×Value)=>p.1=q.1/\H q.2.1=some (.tup (p.1.map kV))/\RelV p.2 q.2.2) kvs xs/\
  ∃o es ep,h.get? a=some o/\o.ExactDict/\o.data=.dict es ep/\es.toList=xs.map (entryOfKey (tupleKind (aH P w)))/\(xs.map (·.1)).Nodup
 |.set S n=>h.SetOf (intKind P w) a S n
 |.ins C dx fs=>H dx=some (.own a)/\fs.length<=1000/\dx≠a/\h.get? a=some (W.instObj C dx)/\
  ∃mA,h.Ns1 dx mA/\(∀f,RelO (fs.lookup f) (mA f))/\PySem.Within mA (fs.map (·.1))
 |.own _=>∃o,h.get? a=some o
 |.xd fs=>∃mA,h.Ns1 a mA/\∀f,RelO (fs.lookup f) (mA f)
 |.rng lo hi=>∃t u v,h.get? a=some { cls:=.type "range",data:=.fields #[.int lo t,.int hi u,.int 1 v] }
 |.frz o u=>h.get? a=some o/\ObjOk H h a u
 |.tbl ps=>h.get? a=some { cls:=.none,data:=.fields ps }
 |.met f x=>h.get? a=some (W.methodObj (.ref f) (.ref x))
 |.ext φ=>φ h/\(∃o,h.get? a=some o)/\∀h1 h2:Heap,φ h1->(∀o,h1.get? a=some o->h2.get? a=some o)->φ h2
def HOk(H:Hp)(h:Heap):Prop:=∀a o,H a=some o->ObjOk P w H h a o
end
section
variable{P:Program}{w:World}{H H':Hp}{h h':Heap}{a:Addr}{o:HO}
def ObjOk.lt(x:ObjOk P w H h a o):a<h.objs.size:=by
 cases o with
 |lst xs=>obtain⟨_,_,_,_,e⟩:=x;exact m_ e
 |tup xs=>obtain⟨_,_,_,p⟩:=x;exact p.lt
 |dK kvs=>obtain⟨_,_,_,_,o,_,_,e,_⟩:=x;exact m_ e
 |dT kvs=>obtain⟨_,_,_,_,o,_,_,e,_⟩:=x;exact m_ e
 |set S n=>obtain⟨o,_,_,_,e,_⟩:=x;exact m_ e
 |ins C dx fs=>obtain⟨_,_,_,e,_⟩:=x;exact m_ e
 |own y=>obtain⟨_,e⟩:=x;exact m_ e
 |xd fs=>obtain⟨_,⟨_,_,_,e,_⟩,_⟩:=x;exact m_ e
 |rng lo hi=>obtain⟨_,_,_,e⟩:=x;exact m_ e
 |frz ob u=>obtain⟨e,_⟩:=x;exact m_ e
 |tbl ps=>exact m_ (show h.get? a=some _ from x)
 |met f y=>exact m_ (show h.get? a=some _ from x)
 |ext φ=>obtain⟨_,⟨_,e⟩,_⟩:=x;exact m_ e
def Paired.mapP(r:Paired F l₁ l₂)(f:∀a b,F a b->G a b):Paired G l₁ l₂:=by
 induction r with
 |nil=>exact .nil
 |cons r t ih=>exact .cons (f _ _ r) ih
def ObjOk.stay(x:ObjOk P w H h a o)(k:∀b u,(b=a\/H b=some (.own a))->h.get? b=some u->h'.get? b=some u)
 (ho:∀b,H b=some (.own a)->H' b=some (.own a)) (ht:∀b xs,H b=some (.tup xs)->H' b=some (.tup xs)):ObjOk P w H' h' a o:=by
 induction o with
 |lst xs=>obtain⟨z,its,n,r,e⟩:=x;exact⟨z,its,n,r,k _ _ (.inl rfl) e⟩
 |tup xs=>obtain⟨z,its,r,ob,e,c⟩:=x;exact⟨z,its,r,ob,k _ _ (.inl rfl) e,c⟩
 |dK kvs=>obtain⟨z,y,vs,r,ob,es,ep,e,c⟩:=x;exact⟨z,y,vs,r,ob,es,ep,k _ _ (.inl rfl) e,c⟩
 |dT kvs=>obtain⟨z,y,xs,r,ob,es,ep,e,c⟩:=x;exact⟨z,y,xs,Paired.mapP r λp q z=>⟨z.1,ht _ _ z.2.1,z.2.2⟩,ob,es,ep,k _ _ (.inl rfl) e,c⟩
 |set S n=>obtain⟨ob,es,ep,t,e,c⟩:=x;exact⟨ob,es,ep,t,k _ _ (.inl rfl) e,c⟩
 |ins C dx fs=>obtain⟨d,z,ne,e,mA,⟨od,es,ep,e2,c⟩,r⟩:=x;exact⟨ho _ d,z,ne,k _ _ (.inl rfl) e,mA,⟨od,es,ep,k _ _ (.inr d) e2,c⟩,r⟩
 |own y=>obtain⟨ob,e⟩:=x;exact⟨ob,k _ _ (.inl rfl) e⟩
 |xd fs=>obtain⟨mA,⟨od,es,ep,e,c⟩,r⟩:=x;exact⟨mA,⟨od,es,ep,k _ _ (.inl rfl) e,c⟩,r⟩
 |rng lo hi=>obtain⟨t,u,v,e⟩:=x;exact⟨t,u,v,k _ _ (.inl rfl) e⟩
 |frz ob u ih=>obtain⟨e,q⟩:=x;exact⟨k _ _ (.inl rfl) e,ih q⟩
 |tbl ps=>have e:h.get? a=some { cls:=.none,data:=.fields ps }:=x;show h'.get? a=some { cls:=.none,data:=.fields ps };exact k a _ (.inl rfl) e
 |met f y=>have e:h.get? a=some (W.methodObj (.ref f) (.ref y)):=x;show h'.get? a=some (W.methodObj (.ref f) (.ref y));exact k a _ (.inl rfl) e
 |ext φ=>obtain⟨p,⟨o,e⟩,st⟩:=x;exact⟨st _ _ p λo q=>k _ _ (.inl rfl) q,⟨o,k _ _ (.inl rfl) e⟩,st⟩
def HOk.lt(x:HOk P w H h)(e:H a=some o):a<h.objs.size:=(x a o e).lt
def HOk.fresh(x:HOk P w H h)(e:h.objs.size<=a):H a=none:=by
 cases q:H a with
 |none=>rfl
 |some u=>exact absurd (t_ (x.lt q) e) (A2 _)
def HOk.kept(x:HOk P w H h)(k:∀b u,h.get? b=some u->h'.get? b=some u):HOk P w H h':=λa o e=>
 (x a o e).stay (λb u _ q=>k b u q) (λ_ q=>q) λ_ _ q=>q
def HOk.laid(x:HOk P w H h)(k:∀b u,h.get? b=some u->h'.get? b=some u)(hp:h.objs.size<=a)(new:ObjOk P w (upd H a o) h' a o):HOk P w (upd H a o) h':=λb u e=>by
 have hn:=x.fresh hp;by_cases hb:b=a
 .subst hb;rw[ar] at e;cases e;exact new
 .rw[aq hb] at e;exact (x b u e).stay (λc v _ q=>k c v q) (λc q=>by rw[aq (bO q hn)];exact q) λc xs q=>by rw[aq (bO q hn)];exact q
end
def Rd(H:Hp)(a:Addr)(u:HO):Prop:=H a=some u\/∃o,H a=some (.frz o u)
def Rd.ok(r:Rd H a u)(x:HOk P w H h):ObjOk P w H h a u:=by
 rcases r with r |⟨o,r⟩
 .exact x a u r
 .obtain⟨_,q⟩:=x a _ r;exact q
def Mut:Option HO->Prop
 |some (.lst _)=>True
 |some (.dK _)=>True
 |some (.dT _)=>True
 |some (.set _ _)=>True
 |some (.ins _ _ _)=>True
 |some (.ext _)=>True
 |_=>False
section
variable{P:Program}{w:World}{H:Hp}{h h':Heap}{x e:Addr}{o':HO}
def HOk.write(ok:HOk P w H h)(mu:Mut (H x))(he:e=x\/H e=some (.own x))(k:∀b u,b≠e->h.get? b=some u->h'.get? b=some u)(heo:∃u,h'.get? e=some u)
 (new:ObjOk P w (upd H x o') h' x o'):HOk P w (upd H x o') h':=λb u q=>by
 have nown:∀c y,H c=some (.own y)->c≠x:=λc y r z=>by subst z;rw[r] at mu;exact mu
 have ntup:∀c xs,H c=some (.tup xs)->c≠x:=λc xs r z=>by subst z;rw[r] at mu;exact mu
 by_cases hb:b=x
 .subst hb;rw[ar] at q;cases q;exact new
 .rw[aq hb] at q;by_cases hbe:b=e
  .have q':H b=some (.own x):=by
    rcases he with z |z
    .exact absurd (hbe.trans z) hb
    .rw[hbe];exact z
   rw[q] at q';cases q';obtain⟨v,hv⟩:=heo;exact⟨v,by rw[hbe];exact hv⟩
  .refine (ok b u q).stay (λc v hc r=>k c v ?_ r) (λc r=>by rw[aq (nown c b r)];exact r) λc xs r=>by rw[aq (ntup c xs r)];exact r
   rcases hc with rfl |hc
   .exact hbe
   .rintro rfl;rcases he with z |z
    .exact nown c b hc z
    .rw[hc] at z;cases z;exact hb rfl
end
structure Un(fs ex:List Addr)(H H':Hp)(h h':Heap):Prop where
 keep:∀b o,h.get? b=some o->H b=none->b∉fs->b∉ex->h'.get? b=some o
 slot:∀b o,h.get? b=some o->H b=none->b∈fs->b∉ex->∃sl,h'.get? b=some { o with slots:=sl }
 free:∀b o,h.get? b=some o->H b=none->b∉ex->H' b=none
 there:∀b o,h.get? b=some o->b∉ex->∃o',h'.get? b=some o'
 tups:∀b xs,H b=some (.tup xs)->H' b=some (.tup xs)
 frzs:∀b o u,H b=some (.frz o u)->H' b=some (.frz o u)
 tbls:∀b ps,H b=some (.tbl ps)->∃more,H' b=some (.tbl (ps++more))
section
variable{fs ex:List Addr}{H H1:Hp}{h h1 h':Heap}{a x e:Addr}{o:HO}
def Un.any(u:Un fs ex H H1 h h1)(q:h.get? b=some ob)(n:H b=none)(hx:b∉ex):∃sl,h1.get? b=some { ob with slots:=sl }:=by
 by_cases hb:b∈fs
 .exact u.slot b ob q n hb hx
 .exact⟨ob.slots,u.keep b ob q n hb hx⟩
def Un.kept(k:∀b u,h.get? b=some u->h'.get? b=some u):Un fs ex H H h h':=
 ⟨λb ob q _ _ _=>k b ob q,λb ob q _ _ _=>⟨ob.slots,k b ob q⟩,λ_ _ _ n _=>n,λb ob q _=>⟨ob,k b ob q⟩,λ_ _ q=>q,λ_ _ _ q=>q,λ_ ps q=>⟨#[],by rw[q];simp⟩⟩
def Un.refl:Un fs ex H H h h:=Un.kept λ_ _ q=>q
def Un.laid(k:∀b u,h.get? b=some u->h'.get? b=some u)(hp:h.objs.size<=a)(hn:H a=none):Un fs ex H (upd H a o) h h' where
 keep:=λb u q _ _ _=>k b u q
 slot:=λb u q _ _ _=>⟨u.slots,k b u q⟩
 free:=λb u q n _=>by rw[aq (AS (t_ (m_ q) hp))];exact n
 there:=λb u q _=>⟨u,k b u q⟩
 tups:=λb xs q=>by rw[aq (bO q hn)];exact q
 frzs:=λb u xs q=>by rw[aq (bO q hn)];exact q
 tbls:=λb ps q=>⟨#[],by rw[aq (bO q hn),q];simp⟩
def Un.write(mu:Mut (H x))(he:e=x\/H e=some (.own x))(k:∀b u,b≠e->h.get? b=some u->h'.get? b=some u)(heo:∃u,h'.get? e=some u):Un fs ex H (upd H x o) h h':=by
 have hx:∀b,H b=none->b≠x:=λb n z=>by subst z;rw[n] at mu;exact mu
 have hb:∀b,H b=none->b≠e:=λb n z=>by
  subst z;rcases he with r |r
  .exact hx b n r
  .rw[n] at r;cases r
 have hm:∀b u,H b=some u->¬ Mut (some u)->b≠x:=λb u q nm z=>by subst z;rw[q] at mu;exact nm mu
 refine⟨λb u q n _ _=>k b u (hb b n) q,λb u q n _ _=>⟨u.slots,k b u (hb b n) q⟩,λb u q n _=>by rw[aq (hx b n)];exact n,λb u q _=>?_,
  λb xs q=>by rw[aq (hm b _ q λz=>z)];exact q,λb u xs q=>by rw[aq (hm b _ q λz=>z)];exact q,λb ps q=>⟨#[],by rw[aq (hm b _ q λz=>z),q];simp⟩⟩
 by_cases hbe:b=e
 .subst hbe;exact heo
 .exact⟨u,k b u hbe q⟩
end
noncomputable def trk (h:Heap) (H:Hp):List Addr:=(List.range h.objs.size).filter λa=>(H a).isSome
noncomputable def ez (h:Heap) (H:Hp):Heap:=W.hideAll h (trk h H)
def oZ(h:Heap)(H:Hp):(ez h H).objs.size=h.objs.size:=W.hideAll_size _ _
def qT(e:h.get? b=some o)(n:H b=none):(ez h H).get? b=some o:=
 W.hideAll_get _ e λhm=>by have q:(H b).isSome=true:=(List.mem_filter.mp hm).2;rw[n] at q;simp at q
def vc(e:(ez h H).get? b=some o):h.get? b=some o/\H b=none:=by
 have e':h.get? b=some o:=W.of_hideAll (trk h H) e;refine⟨e',?_⟩;cases q:H b with
 |none=>rfl
 |some x=>have hm:b∈trk h H:=List.mem_filter.mpr ⟨List.mem_range.mpr (m_ e'),by simp [q]⟩;have z:(ez h H).get? b=none:=W.hideAll_none (trk h H) hm;rw[z] at e;cases e
noncomputable def vz (g h:Heap) (L:Addr):List (Addr×Obj):=(List.range h.objs.size).filterMap λa=>if a=L\/(g.get? a).isSome=true then none else (h.get? a).map λo=>(a,o)
noncomputable def ah (g h:Heap) (L d:Addr):List (Addr×Obj):=(vz g h L).filter λp=>decide (p.1≠d)
structure Mod(K:W.Frag)(mg:Cj)(base:Heap):Prop where
 kin:K.In base
 glob:base.Ns mainGlobals mg
 blt:∃mb,base.Ns builtinsNs mb/\∀x:Str,x ≠ "__name__"->mb x=bootBuiltins x
 nolimit:base.NoLimit
structure Cx where
 prog:Program
 w:World
 K:W.Frag
 mg:Str->Option Value
 base:Heap
 A:Around
 N:List Str
 s₀:Shared
 H₀:Hp
 env:Env
 outer:List Env
 stack:List Env
 ex:List Addr
 fn:Str->Bool
 calm:Bool
 pn:List (Addr×Obj)
 xe:Value->Shared->Prop
noncomputable def frs (l:List Env):List Addr:=l.filterMap (·.frame)
abbrev Cx.fs(X:Cx):List Addr:=frs X.outer
def Vis(sc:Scope)(x:Str):Prop:=sc.names.lookup x=some .local\/sc.names.lookup x=some .cell\/sc.names.lookup x=some .free
def Loc(sc:Scope)(x:Str):Prop:=sc.names.lookup x=some .local\/sc.names.lookup x=some .cell
def qV(env:Env)(h:Heap)(m:Cj)(x:Str)(u:Value):Prop:=
 (env.kindOf x=some .local/\m x=some u)\/((env.kindOf x=some .cell\/env.kindOf x=some .free)/\∃c,env.cells.lookup x=some c/\h.IsCell c (some u))
structure Cx.Ok(X:Cx):Prop where
 mod:Mod X.K X.mg X.base
 kind:X.env.scope.kind=.function
 glob:X.env.globals=mainGlobals
 blt:X.env.builtins=builtinsNs
 above:X.s₀.heap.objs.size<=X.env.locals
 inj:∀x y c,X.env.cells.lookup x=some c->X.env.cells.lookup y=some c->x=y
 has:∀x,(X.env.kindOf x=some .cell\/X.env.kindOf x=some .free)->∃c,X.env.cells.lookup x=some c
 cab:∀x c,X.fn x=true->X.env.cells.lookup x=some c->X.s₀.heap.objs.size<=c
 hd:X.calm=true->X.A.handled=none
 frames:X.A.frames=some X.stack
 stk:X.stack=X.outer\/(X.stack=X.env::X.outer/\X.env.frame=some X.env.locals)
 exf:∀b∈X.ex,b≠X.env.locals/\∀x c,X.env.cells.lookup x=some c->c≠b
 bs:∀b o,X.base.get? b=some o->X.s₀.heap.get? b=some o/\X.H₀ b=none
 bsz:X.base.objs.size<=X.s₀.heap.objs.size
 noex:∀b o,X.base.get? b=some o->b∉X.ex
 exfs:∀b∈X.ex,b∉X.fs
 funs:X.s₀.heap.FunFrames X.base X.outer
 frf:∀b∈X.fs,X.H₀ b=none
structure Inv(X:Cx)(pins:Ck)(σ:List (Option V))(H:Hp)(s:Shared):Prop where
 ok:X.Ok
 os:s.os=X.s₀.os
 bare:AllBare s.gens
 base:Un X.fs X.ex X.H₀ H X.s₀.heap s.heap
 loc:∃m,s.heap.Ns X.env.locals m/\∀(i:Nat) (x:Str) (v:V),X.N[i]?=some x->σ[i]?=some (some v)->Vis X.env.scope x->∃u,RelV v u/\qV X.env s.heap m x u
 cell:∀x c,X.env.cells.lookup x=some c->∃v,s.heap.IsCell c v
 free:H X.env.locals=none
 freeC:∀x c,X.env.cells.lookup x=some c->H c=none
 pin:∀p∈X.pn++pins,s.heap.get? p.1=some p.2/\H p.1=none/\p.1≠X.env.locals/\p.1∉X.fs/\∀v,p.2.data ≠ .cell v
 hok:HOk X.prog X.w H s.heap
 len:σ.length=X.N.length
section
variable{X:Cx}{pins:Ck}{σ:List (Option V)}{H H':Hp}{s:Shared}{h':Heap}
def Cx.Ok.nofr(ok:X.Ok)(e:X.base.get? b=some o):b∉X.fs:=λhb=>by
 have:=(ok.funs.mem hb).1
 rw[e] at this;cases this
def Inv.bs(I:Inv X pins σ H s):∀b o,X.base.get? b=some o->s.heap.get? b=some o/\H b=none:=λb o e=>
 ⟨I.base.keep b o (I.ok.bs b o e).1 (I.ok.bs b o e).2 (I.ok.nofr e) (I.ok.noex b o e),I.base.free b o (I.ok.bs b o e).1 (I.ok.bs b o e).2 (I.ok.noex b o e)⟩
def Inv.bk(I:Inv X pins σ H s):∀b o,X.base.get? b=some o->s.heap.get? b=some o:=λb o e=>(I.bs b o e).1
def Inv.mod(I:Inv X pins σ H s):Mod X.K X.mg X.base:=I.ok.mod
def Inv.kIn(I:Inv X pins σ H s):X.K.In s.heap:=I.ok.mod.kin.keeps I.bk
def Inv.lt(I:Inv X pins σ H s):X.env.locals<s.heap.objs.size:=let ⟨_,hn,_⟩:=I.loc;hn.lt
def Inv.sz(I:Inv X pins σ H s):X.s₀.heap.objs.size<=s.heap.objs.size:=AJ I.ok.above (Nat.le_of_lt I.lt)
def Inv.nofs(I:Inv X pins σ H s)(h:s.heap.objs.size<=a):a∉X.fs:=λhb=>by obtain⟨_,o,ho,_⟩:=I.ok.funs.mem hb;exact absurd (t_ (m_ ho) (AJ I.sz h)) (A2 _)
def Inv.cne(I:Inv X pins σ H s):∀x c,X.env.cells.lookup x=some c->c≠X.env.locals:=λx c e z=>by obtain⟨v,o,ho,hd⟩:=I.cell x c e;obtain⟨m,⟨o',es,ep,ho',hd',_⟩,_⟩:=I.loc;rw[z,ho'] at ho;cases ho;rw[hd'] at hd;cases hd
def Inv.funs(I:Inv X pins σ H s):s.heap.FunFrames X.base X.outer:=by
 have all:∀(l:List Env),(∀b∈frs l,b∈X.fs)->X.s₀.heap.FunFrames X.base l->s.heap.FunFrames X.base l:=by
  intro l;induction l with
  |nil=>intro _ _;trivial
  |cons env r ih=>intro hs hl;obtain⟨hk,⟨L,o,hf,hn,ho,hd⟩,hr⟩:=hl;have hL:L∈X.fs:=hs L (by unfold frs;rw[Bj,hf];exact y_);obtain⟨sl,e⟩:=I.base.slot L o ho (I.ok.frf L hL) hL λz=>I.ok.exfs L z hL;exact⟨hk,⟨L,_,hf,hn,e,hd⟩,ih (λb hb=>hs b (by unfold frs;rw[Bj,hf];exact s_ _ hb)) hr⟩
 exact all X.outer (λ_ hb=>hb) I.ok.funs
def Inv.stack(I:Inv X pins σ H s):s.heap.FunFrames X.base X.stack:=by
 rcases I.ok.stk with e |⟨e,hf⟩
 .rw[e];exact I.funs
 .rw[e];obtain⟨m,hn,_⟩:=I.loc;refine .cons (by rw[I.ok.kind];decide) hf hn ?_ I.funs;exact B4 (AJ I.ok.bsz I.ok.above)
def Inv.stkSub(I:Inv X pins σ H s):∀b∈frs X.stack,b∈X.env.locals::X.fs:=λb hb=>by
 rcases I.ok.stk with e |⟨e,hf⟩
 .rw[e] at hb;exact s_ _ hb
 .rw[e] at hb;unfold frs at hb;rw[Bj,hf] at hb;exact hb
def Inv.stkFree(I:Inv X pins σ H s):∀b∈frs X.stack,H b=none:=λb hb=>by
 rcases AL.mp (I.stkSub b hb) with e |hb
 .rw[e];exact I.free
 .obtain⟨_,o,ho,_⟩:=I.ok.funs.mem hb;exact I.base.free b o ho (I.ok.frf b hb) λz=>I.ok.exfs b z hb
def Inv.step{g':Array GenState}{t':Nat}{d':Drawn}{ch:List Addr}(I:Inv X pins σ H s)
 (hch:∀b∈ch,(b∈X.ex\/X.s₀.heap.objs.size<=b)/\b≠X.env.locals/\(∀x c,X.env.cells.lookup x=some c->c≠b)/\∀p∈X.pn++pins,p.1≠b)
 (keep:∀b o,b≠X.env.locals->b∉X.fs->b∉ch->s.heap.get? b=some o->H b=none->h'.get? b=some o)
 (slot:∀b o,b≠X.env.locals->b∈X.fs->b∉ch->s.heap.get? b=some o->H b=none->∃sl,h'.get? b=some { o with slots:=sl }) (free:∀b o,b∉ch->s.heap.get? b=some o->H b=none->H' b=none)
 (there:∀b o,b∉ch->s.heap.get? b=some o->∃o',h'.get? b=some o')
 (tups:∀b xs,H b=some (.tup xs)->H' b=some (.tup xs)) (frzs:∀b o u,H b=some (.frz o u)->H' b=some (.frz o u)) (tbls:∀b ps,H b=some (.tbl ps)->∃more,H' b=some (.tbl (ps++more)))
 (ns:∀m,s.heap.Ns X.env.locals m->h'.Ns X.env.locals m) (hok:HOk X.prog X.w H' h') (hg:AllBare g'):
 Inv X pins σ H' { s with heap:=h',gens:=g',drawn:=d',toks:=t' }:=by
 have neL:∀b o,X.s₀.heap.get? b=some o->b≠X.env.locals:=λb o e=>AS (t_ (m_ e) I.ok.above);have neC:∀b o,X.s₀.heap.get? b=some o->b∉X.ex->b∉ch:=λb o e hx hb=>by
  rcases (hch b hb).1 with z |z
  .exact hx z
  .exact absurd (t_ (m_ e) z) (A2 _)
 have cellK:∀x c,X.env.cells.lookup x=some c->∀v,s.heap.IsCell c v->h'.IsCell c v:=λx c e v ⟨o,ho,hd⟩=>by
  have nch:c∉ch:=λz=>(hch c z).2.2.1 x c e rfl;by_cases hc:c∈X.fs
  .obtain⟨sl,q⟩:=slot c o (I.cne x c e) hc nch ho (I.freeC x c e);exact⟨_,q,hd⟩
  .exact⟨o,keep c o (I.cne x c e) hc nch ho (I.freeC x c e),hd⟩
 refine⟨I.ok,I.os,hg,⟨λb o e n hb hx=>?_,λb o e n hb hx=>?_,λb o e n hx=>?_,λb o e hx=>?_,λb xs e=>tups b xs (I.base.tups b xs e),λb o xs e=>frzs b o xs (I.base.frzs b o xs e),λb ps e=>?_⟩,?_,λx c e=>?_,?_,λx c e=>?_,λp hp=>?_,hok,I.len⟩
 .exact keep b o (neL b o e) hb (neC b o e hx) (I.base.keep b o e n hb hx) (I.base.free b o e n hx)
 .obtain⟨sl,e1⟩:=I.base.slot b o e n hb hx;obtain⟨sl',e2⟩:=slot b _ (neL b o e) hb (neC b o e hx) e1 (I.base.free b o e n hx);exact⟨sl',e2⟩
 .obtain⟨o',e1⟩:=I.base.there b o e hx;exact free b o' (neC b o e hx) e1 (I.base.free b o e n hx)
 .obtain⟨o',e1⟩:=I.base.there b o e hx;exact there b o' (neC b o e hx) e1
 .obtain⟨m1,e1⟩:=I.base.tbls b ps e;obtain⟨m2,e2⟩:=tbls b _ e1;exact⟨m1++m2,by rw[e2,Array.append_assoc]⟩
 .obtain⟨m,hn,hl⟩:=I.loc;refine⟨m,ns m hn,λi x v e1 e2 e3=>?_⟩;obtain⟨u,r,l⟩:=hl i x v e1 e2 e3;refine⟨u,r,?_⟩;rcases l with l |⟨k,c,e,z⟩
  .exact .inl l
  .exact .inr ⟨k,c,e,cellK x c e _ z⟩
 .obtain⟨v,z⟩:=I.cell x c e;exact⟨v,cellK x c e v z⟩
 .obtain⟨m,⟨o,_,_,ho,_⟩,_⟩:=I.loc;exact free _ o (λz=>(hch _ z).2.1 rfl) ho I.free
 .obtain⟨v,o,ho,hd⟩:=I.cell x c e;exact free c o (λz=>(hch c z).2.2.1 x c e rfl) ho (I.freeC x c e)
 .obtain⟨e,n,ne,nf,d⟩:=I.pin p hp;have nch:p.1∉ch:=λz=>(hch p.1 z).2.2.2 p hp rfl;exact⟨keep p.1 p.2 ne nf nch e n,free p.1 p.2 nch e n,ne,nf,d⟩
def Inv.un{t':Nat}(I:Inv X pins σ H s)(u:Un X.fs [] H H' s.heap h')(hok:HOk X.prog X.w H' h'):Inv X pins σ H' { s with heap:=h',toks:=t' }:=by obtain⟨m,⟨o,es,ep,ho,r⟩,_⟩:=id I.loc;obtain⟨sl,hL⟩:=u.any ho I.free (by simp);exact I.step (g':=s.gens) (d':=s.drawn) (ch:=[]) (λ_ z=>nomatch z) (λb o _ hb _ e n=>u.keep b o e n hb (by simp)) (λb o _ hb _ e n=>u.slot b o e n hb (by simp)) (λb o _ e n=>u.free b o e n (by simp)) (λb o _ e=>u.there b o e (by simp)) u.tups u.frzs u.tbls (λm' hm=>by obtain⟨o',es',ep',ho',r'⟩:=hm;rw[ho] at ho';cases ho';exact⟨_,es',ep',hL,r'⟩) hok I.bare
def Inv.call{g':Array GenState}{t':Nat}{d':Drawn}{ch:List Addr}(I:Inv X pins σ H s)(u:Un (frs X.stack) ch H H' s.heap h')(hok:HOk X.prog X.w H' h')(hg:AllBare g')
 (hch:∀b∈ch,(b∈X.ex\/X.s₀.heap.objs.size<=b)/\b≠X.env.locals/\(∀x c,X.env.cells.lookup x=some c->c≠b)/\∀p∈X.pn++pins,p.1≠b):
 Inv X pins σ H' { s with heap:=h',gens:=g',drawn:=d',toks:=t' }:=by
 obtain⟨m,⟨o,es,ep,ho,r⟩,_⟩:=id I.loc;obtain⟨sl,hL⟩:=u.any ho I.free λz=>(hch _ z).2.1 rfl;exact I.step (ch:=ch) hch (λb o hL hb hc e n=>u.keep b o e n (λz=>(AL.mp (I.stkSub b z)).elim hL hb) hc) (λb o _ _ hc e n=>u.any e n hc) (λb o hc e n=>u.free b o e n hc) (λb o hc e=>u.there b o e hc) u.tups u.frzs u.tbls (λm' hm=>by obtain⟨o',es',ep',ho',r'⟩:=hm;rw[ho] at ho';cases ho';exact⟨_,es',ep',hL,r'⟩) hok hg
def Inv.turned{t':Nat}{it:Addr}(I:Inv X pins σ H s)(k:∀b o,b≠it->s.heap.get? b=some o->h'.get? b=some o)(hn:H it=none)(hL:it≠X.env.locals)
 (h1:it∈X.ex\/X.s₀.heap.objs.size<=it) (h2:∀x c,X.env.cells.lookup x=some c->c≠it) (h3:∀p∈X.pn++pins,p.1≠it):Inv X pins σ H { s with heap:=h',toks:=t' }:=by
 have nit:∀b u,H b=some u->b≠it:=λb u e z=>by rw[z,hn] at e;cases e
 refine I.step (g':=s.gens) (d':=s.drawn) (ch:=[it]) (λb hb=>?_) (λb o _ _ hc e _=>k b o (λz=>hc (by simp [z])) e) (λb o _ _ hc e _=>⟨o.slots,k b o (λz=>hc (by simp [z])) e⟩) (λ_ _ _ _ n=>n)
  (λb o hc e=>⟨o,k b o (λz=>hc (by simp [z])) e⟩) (λ_ _ e=>e) (λ_ _ _ e=>e) (λb ps e=>⟨#[],by rw[e];simp⟩) (λm hm=>?_) (λb u e=>?_) I.bare
 .have e:b=it:=by simpa using hb
  subst e;exact⟨h1,hL,h2,h3⟩
 .obtain⟨o,es,ep,ho,r⟩:=hm;exact⟨o,es,ep,k _ o (Ne.symm hL) ho,r⟩
 .refine (I.hok b u e).stay (λc v hc q=>k c v ?_ q) (λ_ q=>q) λ_ _ q=>q;rcases hc with z |z
  .rw[z];exact nit b u e
  .exact nit c _ z
def Inv.tok(I:Inv X pins σ H s)(t:Nat):Inv X pins σ H { s with toks:=t }:=I.un (h':=s.heap) (t':=t) Un.refl I.hok
def Inv.kept(I:Inv X pins σ H s)(k:∀b u,s.heap.get? b=some u->h'.get? b=some u):Inv X pins σ H { s with heap:=h',toks:=t' }:=I.un (Un.kept k) (I.hok.kept k)
def Inv.laid(I:Inv X pins σ H s)(k:∀b u,s.heap.get? b=some u->h'.get? b=some u)(hp:s.heap.objs.size<=a)(new:ObjOk X.prog X.w (upd H a o) h' a o):
 Inv X pins σ (upd H a o) { s with heap:=h',toks:=t' }:=I.un (Un.laid k hp (I.hok.fresh hp)) (I.hok.laid k hp new)
def Inv.write(I:Inv X pins σ H s)(mu:Mut (H x))(he:e=x\/H e=some (.own x))(k:∀b u,b≠e->s.heap.get? b=some u->h'.get? b=some u)(heo:∃u,h'.get? e=some u)
 (new:ObjOk X.prog X.w (upd H x o) h' x o):Inv X pins σ (upd H x o) { s with heap:=h',toks:=t' }:=I.un (Un.write mu he k heo) (I.hok.write mu he k heo new)
def Inv.pins_of(I:Inv X pins σ H s)(h:∀p∈pins',s.heap.get? p.1=some p.2/\H p.1=none/\p.1≠X.env.locals/\p.1∉X.fs/\∀v,p.2.data ≠ .cell v):Inv X pins' σ H s:=
 ⟨I.ok,I.os,I.bare,I.base,I.loc,I.cell,I.free,I.freeC,λp hp=>(Bz.mp hp).elim (λz=>I.pin p (B7 _ z)) (h p),I.hok,I.len⟩
def fI{N:List Str}(hN:N.Nodup){i j:Nat}{x:Str}(a:N[i]?=some x)(b:N[j]?=some x):i=j:=by obtain⟨h1,e1⟩:=f_.mp a;obtain⟨h2,e2⟩:=f_.mp b;exact (List.getElem_inj hN).mp (e1.trans e2.symm)
def iR(I:Inv X pins σ H s)(hN:X.N.Nodup)(hi:X.N[i]?=some x)(hx:Loc X.env.scope x)(r:RelV v u)
 (h:∀s',Inv X pins (σ.set i (some v)) H s'->(∃a,Heap.SameBut a s.heap s'.heap/\(a=X.env.locals\/X.env.cells.lookup x=some a))->Q () s') (hf:X.fn x=true\/X.env.scope.names.lookup x=some .local):wpAny M A (storeName X.env x u) Q E s:=by
 obtain⟨m,hn,hl⟩:=id I.loc;have hcls:(X.env.scope.kind == .class || (X.env.scope.kind == .module&&X.env.locals != X.env.globals))=false:=by rw[I.ok.kind];rfl
 have hiσ:i<σ.length:=by rw[I.len];exact (f_.mp hi).1
 have cne:=I.cne;have tracked:∀{a:Addr}{h':Heap},(∃o,s.heap.get? a=some o/\H a=none)->Heap.SameBut a s.heap h'->HOk X.prog X.w H h':=λ{a h'} ha hs b ob e=>by
  obtain⟨_,_,hfree⟩:=ha;refine (I.hok b ob e).stay (λc w' hc q=>(hs.2 c ?_).trans q) (λ_ q=>q) λ_ _ q=>q;rintro rfl;rcases hc with rfl |hc
  .rw[hfree] at e;cases e
  .rw[hfree] at hc;cases hc
 rcases hx with hk |hk
 .refine wpAny_storeName_local hk hn (λh' hn' hs=>?_) hcls;obtain⟨oL,_,_,hoL,_⟩:=id hn;refine h _ ⟨I.ok,I.os,I.bare,⟨λb o e n hb hx=>?_,λb o e n hb hx=>?_,I.base.free,λb o e hx=>?_,I.base.tups,I.base.frzs,I.base.tbls⟩,⟨_,hn',λj y v' e1 e2 e3=>?_⟩,λy c e=>?_,I.free,I.freeC,λp hp=>?_,tracked ⟨oL,hoL,I.free⟩ hs,by simpa using I.len⟩ ⟨_,hs,.inl rfl⟩
  .exact (hs.2 b (AS (t_ (m_ e) I.ok.above))).trans (I.base.keep b o e n hb hx)
  .obtain⟨sl,e1⟩:=I.base.slot b o e n hb hx;exact⟨sl,(hs.2 b (AS (t_ (m_ e) I.ok.above))).trans e1⟩
  .obtain⟨o',e1⟩:=I.base.there b o e hx;exact⟨o',(hs.2 b (AS (t_ (m_ e) I.ok.above))).trans e1⟩
  .by_cases hj:j=i
   .subst hj;rw[hi] at e1;cases e1;rw[AV hiσ] at e2;cases e2;exact⟨u,r,.inl ⟨hk,by simp⟩⟩
   .rw[Bc (Ne.symm hj)] at e2;obtain⟨u',r',q⟩:=hl j y v' e1 e2 e3;refine⟨u',r',?_⟩;rcases q with ⟨k,e⟩ |⟨k,c,e,z⟩
    .refine .inl ⟨k,?_⟩;have:y≠x:=λe=>hj (fI hN e1 (e ▸ hi));simp [this,e]
    .exact .inr ⟨k,c,e,z.sameBut hs (cne y c e)⟩
  .obtain⟨w',z⟩:=I.cell y c e;exact⟨w',z.sameBut hs (cne y c e)⟩
  .obtain⟨e,n,ne,nf,d⟩:=I.pin p hp;exact⟨(hs.2 p.1 ne).trans e,n,ne,nf,d⟩
 .have hfn:X.fn x=true:=by
   rcases hf with z |z
   .exact z
   .rw[z] at hk;cases hk
  obtain⟨c,hc⟩:=I.ok.has x (.inl hk);obtain⟨w',z⟩:=I.cell x c hc;refine wpAny_storeName_cell I.ok.kind hk hc z (λh' hc' hs=>?_);obtain⟨oc,hoc,hocd⟩:=id z;refine h { s with heap:=h' } ⟨I.ok,I.os,I.bare,⟨λb o e n hb hx=>?_,λb o e n hb hx=>?_,I.base.free,λb o e hx=>?_,I.base.tups,I.base.frzs,I.base.tbls⟩,⟨m,hn.sameBut hs (Ne.symm (cne x c hc)),λj y v' e1 e2 e3=>?_⟩,λy c' e=>?_,I.free,I.freeC,λp hp=>?_,tracked ⟨oc,hoc,I.freeC x c hc⟩ hs,by simpa using I.len⟩ ⟨c,hs,.inr hc⟩
  .exact (hs.2 b (AS (t_ (m_ e) (I.ok.cab x c hfn hc)))).trans (I.base.keep b o e n hb hx)
  .obtain⟨sl,e1⟩:=I.base.slot b o e n hb hx;exact⟨sl,(hs.2 b (AS (t_ (m_ e) (I.ok.cab x c hfn hc)))).trans e1⟩
  .obtain⟨o',e1⟩:=I.base.there b o e hx;exact⟨o',(hs.2 b (AS (t_ (m_ e) (I.ok.cab x c hfn hc)))).trans e1⟩
  .by_cases hj:j=i
   .subst hj;rw[hi] at e1;cases e1;rw[AV hiσ] at e2;cases e2;exact⟨u,r,.inr ⟨.inl hk,c,hc,hc'⟩⟩
   .rw[Bc (Ne.symm hj)] at e2;obtain⟨u',r',q⟩:=hl j y v' e1 e2 e3;refine⟨u',r',?_⟩;rcases q with q |⟨k,c',e,z'⟩
    .exact .inl q
    .refine .inr ⟨k,c',e,z'.sameBut hs ?_⟩;rintro rfl;exact hj (fI hN e1 (I.ok.inj _ _ _ e hc ▸ hi))
  .by_cases hcc:c'=c
   .subst hcc;exact⟨_,hc'⟩
   .obtain⟨w2,z2⟩:=I.cell y c' e;exact⟨w2,z2.sameBut hs hcc⟩
  .obtain⟨e,n,ne,nf,d⟩:=I.pin p hp;refine⟨(hs.2 p.1 ?_).trans e,n,ne,nf,d⟩;intro q;rw[q,hoc] at e;have q':oc=p.2:=u_ e;exact d w' (by rw[<- q'];exact hocd)
def fO(I:Inv X pins σ H s)(hN:X.N.Nodup)(hi:X.N[i]?=some x)(hx:Loc X.env.scope x)(r:RelV v u)
 (h:∀s',Inv X pins (σ.set i (some v)) H s'->Q () s') (hf:X.fn x=true\/X.env.scope.names.lookup x=some .local):wpAny M A (storeName X.env x u) Q E s:=
 iR I hN hi hx r (λs' I' _=>h s' I') hf
def Inv.call'(I:Inv X pins σ H s)(ho:s'.os=s.os)(u:Un (frs X.stack) ch H H' s.heap s'.heap)(hok:HOk X.prog X.w H' s'.heap)(hg:AllBare s'.gens)
 (hch:∀b∈ch,(b∈X.ex\/X.s₀.heap.objs.size<=b)/\b≠X.env.locals/\(∀x c,X.env.cells.lookup x=some c->c≠b)/\∀p∈X.pn++pins,p.1≠b):Inv X pins σ H' s':=by
 obtain⟨h',g',d',t',o'⟩:=s';have e:o'=s.os:=ho;subst e;exact I.call (g':=g') (t':=t') (d':=d') u hok hg hch
end
abbrev XK:=Value->Option Addr->Hp->Prop
abbrev St:=List (Option V)
abbrev VK:=V->Hp->Prop
abbrev TE:=St->Hp->VK->Prop
abbrev TT:=St->Hp->(Bool->Hp->Prop)->Prop
abbrev TA:=St->Hp->(List V->Hp->Prop)->Prop
structure Ends where
 nx:St->Hp->Prop
 rt:VK
 bk:St->Hp->Prop:=λ_ _=>False
 ct:St->Hp->Prop:=λ_ _=>False
abbrev TS:=Ends->St->Hp->Prop
def EP(X:Cx)(pins:Ck)(σ:St)(Q:VK)(u:Value)(s':Shared):Prop:=∃v H',Inv X pins σ H' s'/\RelV v u/\Q v H'
def TP(X:Cx)(pins:Ck)(σ:St)(Q:Bool->Hp->Prop)(b:Bool)(s':Shared):Prop:=∃H',Inv X pins σ H' s'/\Q b H'
def AP(X:Cx)(pins:Ck)(σ:St)(Q:List V->Hp->Prop)(us:List Value)(s':Shared):Prop:=∃vs H',Inv X pins σ H' s'/\Vals vs us/\Q vs H'
def SP(X:Cx)(pins:Ck)(D:Ends)(f:Flow)(s':Shared):Prop:=
 match f with
 |.next=>∃σ' H',Inv X pins σ' H' s'/\D.nx σ' H'
 |.brk=>∃σ' H',Inv X pins σ' H' s'/\D.bk σ' H'
 |.cont=>∃σ' H',Inv X pins σ' H' s'/\D.ct σ' H'
 |.ret u=>∃v σ' H',Inv X pins σ' H' s'/\RelV v u/\D.rt v H'
def exA{α:Type}{A B C:α->Hp->Prop}{Z:Prop}(h:∃v H',A v H'/\B v H'/\C v H')(k:∀v H',A v H'->B v H'->C v H'->Z):Z:=by obtain⟨v,H',a,b,c⟩:=h;exact k v H' a b c
def PE(X:Cx)(e:Expr)(t:TE):Prop:=
 ∀(pins:Ck) (s:Shared) (σ:St) (H:Hp) (Q:VK),Inv X pins σ H s->t σ H Q->wpAny (model X.prog X.w) X.A (eval e X.env) (EP X pins σ Q) X.xe s
def PT(X:Cx)(e:Expr)(t:TT):Prop:=
 ∀(pins:Ck) (s:Shared) (σ:St) (H:Hp) (Q:Bool->Hp->Prop),Inv X pins σ H s->t σ H Q->wpAny (model X.prog X.w) X.A (isTrue e X.env (eval e X.env)) (TP X pins σ Q) X.xe s
def PW(X:Cx)(e:Expr)(t:TT):Prop:=
 ∀(whole:Sem Value) (pins:Ck) (s:Shared) (σ:St) (H:Hp) (Q:Bool->Hp->Prop),Inv X pins σ H s->t σ H Q->wpAny (model X.prog X.w) X.A (isTrue e X.env whole) (TP X pins σ Q) X.xe s
def PW.pt(h:PW X e t):PT X e t:=h _
def PA(X:Cx)(es:List Expr)(t:TA):Prop:=
 ∀(pos:Pos) (pins:Ck) (s:Shared) (σ:St) (H:Hp) (Q:List V->Hp->Prop),Inv X pins σ H s->t σ H Q->wpAny (model X.prog X.w) X.A (spliced (backTo pos (starEach es X.env))) (AP X pins σ Q) X.xe s
def PS(X:Cx)(st:Stmt)(t:TS):Prop:=
 ∀(pins:Ck) (s:Shared) (σ:St) (H:Hp) (D:Ends),Inv X pins σ H s->t D σ H->wpAny (model X.prog X.w) X.A (exec st X.env) (SP X pins D) X.xe s
def PSs(X:Cx)(st:List Stmt)(t:TS):Prop:=
 ∀(pins:Ck) (s:Shared) (σ:St) (H:Hp) (D:Ends),Inv X pins σ H s->t D σ H->wpAny (model X.prog X.w) X.A (execs st X.env) (SP X pins D) X.xe s
def thn(h:wpAny M A t Q E s)(hQ:∀a s,Q a s->Q' a s):wpAny M A t Q' E s:=z_ h hQ λ_ _ x=>x
section
variable{X:Cx}
def dC(i:Nat):TE:=λσ H Q=>∃v,σ[i]?=some (some v)/\Q v H
def tC(v:V):TE:=λ_ H Q=>Q v H
def c7(hN:X.N[i]?=some x)(hv:Vis X.env.scope x)(hd:(x==("__debug__" : Str))=false)(hcd:(x==("__classdict__" : Str))=false):PE X (.Name x pos) (dC i):=by
 intro pins s σ H Q I h;obtain⟨v,e,h⟩:=h;obtain⟨m,hn,hl⟩:=I.loc;obtain⟨u,r,l⟩:=hl i x v hN e hv;have fin:EP X pins σ Q u s:=⟨v,H,I,r,h⟩;rcases l with ⟨hk,hm⟩ |⟨hk,c,hc,hcell⟩
 .exact wpAny_Name (wpAny_loadName_local I.ok.kind hk hn hm fin) hd
 .rcases hk with hk |hk
  .exact wpAny_Name (wpAny_loadName_cell I.ok.kind hk hc hcell fin) hd
  .exact wpAny_Name (wpAny_loadName_free I.ok.kind hk hc hcell fin hcd) hd
def gy{i j pos}:PE X (.Constant (.int i) j pos) (tC (.int i)):=λ_ _ _ H _ I h=>wpAny_Constant_int ⟨.int i,H,I.tok _,⟨_,rfl⟩,h⟩
def zW{b j pos}:PE X (.Constant (.bool b) j pos) (tC (.bl b)):=λ_ _ _ H _ I h=>Constant_bool ⟨.bl b,H,I,rfl,h⟩
def pS{x j pos}:PE X (.Constant (.str x) j pos) (tC (.str x)):=λ_ _ _ H _ I h=>Calls.Constant_str ⟨.str x,H,I.tok _,⟨_,rfl⟩,h⟩
def Gl(X:Cx)(x:Str):Prop:=X.env.kindOf x=some .globalImplicit
def dZ(I:Inv X pins σ H s)(hg:Gl X x)(hm:X.mg x=some u)(h:Q u s)
 (hd:(x==("__debug__" : Str))=false):wpAny (model X.prog X.w) X.A (eval (.Name x pos) X.env) Q E s:=
 BL I.ok.kind hg (Calls.loadGlobal_global (by rw[I.ok.glob];exact I.mod.glob.keeps I.bk) hm h) hd
def eT(I:Inv X pins σ H s)(hg:Gl X x)(hm:X.mg x=none)(hv:bootBuiltins x=some u)(h:Q u s)
 (hn:x ≠ "__name__":=by decide) (hd:(x==("__debug__" : Str))=false:=by decide):wpAny (model X.prog X.w) X.A (eval (.Name x pos) X.env) Q E s:=by
 obtain⟨mb,h1,h2⟩:=I.mod.blt;exact BL I.ok.kind hg (Calls.loadGlobal_builtin (by rw[I.ok.glob];exact I.mod.glob.keeps I.bk) hm (by rw[I.ok.blt];exact h1.keeps I.bk) ((h2 x hn).trans hv) h) hd
def lq(hg:Gl X x)(hm:X.mg x=some u)(r:RelV v u)(hd:(x==("__debug__" : Str))=false):PE X (.Name x pos) (tC v):=
 λ_ _ _ H _ I h=>dZ I hg hm ⟨v,H,I,r,h⟩ hd
def vt(hg:Gl X x)(hm:X.mg x=none)(hv:bootBuiltins x=some u)(r:RelV v u)(hn:x ≠ "__name__")(hd:(x==("__debug__" : Str))=false):PE X (.Name x pos) (tC v):=
 λ_ _ _ H _ I h=>eT I hg hm hv ⟨v,H,I,r,h⟩ hn hd
variable{a b:Expr}{pos:Pos}
def tB(t:TE):TT:=λσ H Q=>t σ H λx H1=>∃c,x=.bl c/\Q c H1
def xy(h:PE X e t)(he:∀whole,isTrue e X.env whole=(do let v <- whole;standAt e.pos;holding [v] (truthy v))):PT X e (tB t):=by intro pins s σ H Q I hw;refine isTrue_plain (thn (h pins s σ H _ I hw) λv s1 zz=>exA zz λx H1 I1 r1 q1=>?_) (he _);obtain⟨d,rfl,q⟩:=q1;cases r1;exact wpAny_truthy_bool ⟨H1,I1,q⟩
variable{tA tB':TT}{ah:List Expr}
def tAnd(t u:TT):TT:=λσ H Q=>t σ H λc H1=>if c=true then u σ H1 Q else Q false H1
def tOr(t u:TT):TT:=λσ H Q=>t σ H λc H1=>if c=true then Q true H1 else u σ H1 Q
def tNot(t:TT):TT:=λσ H Q=>t σ H λc H1=>Q (!c) H1
def vk(ha:PT X a tA):PW X (.BoolOp .And [a] pos) tA:=by
 intro wh pins s σ H Q I h;refine isTrue_and (thn (ha pins s σ H Q I h) λc s1 e=>?_);cases c with
 |true=>exact isTrue_and_nil e
 |false=>exact e
def yz(ha:PT X a tA):PW X (.BoolOp .Or [a] pos) tA:=by
 intro wh pins s σ H Q I h;refine isTrue_or (thn (ha pins s σ H Q I h) λc s1 e=>?_);cases c with
 |false=>exact isTrue_or_nil e
 |true=>exact e
def wI(ha:PT X a tA)(hb:PW X (.BoolOp .And (b::ah) pos) tB'):PW X (.BoolOp .And (a::b::ah) pos) (tAnd tA tB'):=by
 intro wh pins s σ H Q I h;refine isTrue_and (thn (ha pins s σ H _ I h) λc s1 ⟨H1,I1,q1⟩=>?_);cases c with
 |true=>exact hb wh pins s1 σ H1 Q I1 q1
 |false=>exact⟨H1,I1,q1⟩
def zx(ha:PT X a tA)(hb:PW X (.BoolOp .Or (b::ah) pos) tB'):PW X (.BoolOp .Or (a::b::ah) pos) (tOr tA tB'):=by
 intro wh pins s σ H Q I h;refine isTrue_or (thn (ha pins s σ H _ I h) λc s1 ⟨H1,I1,q1⟩=>?_);cases c with
 |true=>exact⟨H1,I1,q1⟩
 |false=>exact hb wh pins s1 σ H1 Q I1 q1
def xq(ha:PT X a tA):PT X (.UnaryOp .Not a pos) (tNot tA):=by intro pins s σ H Q I h;exact isTrue_not (ha pins s σ H (λc H1=>Q (!c) H1) I h)
end
def SqL(K:W.Frag)(H:Hp)(a:Addr)(xs:List V):Prop:=
 Rd H a (.lst xs)\/
  ∃(o:Obj) (its:Array Value) (n:Nat),K.lookup a=some o/\o.cls=.type "list" /\ o.dict=none/\o.data=.seq its n/\its.size<=sizeLine/\Vals xs its.toList
def SqT(K:W.Frag)(H:Hp)(a:Addr)(xs:List V):Prop:=
 Rd H a (.tup xs)\/
  ∃(o:Obj) (its:Array Value) (n:Nat),K.lookup a=some o/\o.cls=.type "tuple" /\ o.data=.seq its n/\its.size<=sizeLine/\Vals xs its.toList
noncomputable def absV:Value->Option V
 |.none=>some .non
 |.bool b=>some (.bl b)
 |.int i _=>some (.int i)
 |.str x _=>some (.str x)
 |.bytes b _=>some (.byt b)
 |.float b _=>some (.flt b)
 |.ref a=>some (.ref a)
 |.type n=>some (.ty n)
 |_=>none
def RelV.abs(r:RelV x u):absV u=some x:=by
 cases x with
 |non=>cases r;rfl
 |bl _=>cases r;rfl
 |int _=>obtain⟨t,rfl⟩:=r;rfl
 |str _=>obtain⟨t,rfl⟩:=r;rfl
 |byt _=>obtain⟨t,rfl⟩:=r;rfl
 |flt _=>obtain⟨t,rfl⟩:=r;rfl
 |ref _=>cases r;rfl
 |ty _=>cases r;rfl
def RelV.inj(r:RelV x u)(q:RelV y u):x=y:=u_ (r.abs.symm.trans q.abs)
def Vals.inj(r:Vals xs us)(q:Vals ys us):xs=ys:=by
 induction r generalizing ys with
 |nil=>cases q;rfl
 |
  cons r t ih=>
  cases q with
  |cons q t'=>rw[r.inj q,ih t']
section
variable{X:Cx}{pins:Ck}{σ:St}{H:Hp}{s:Shared}{a:Addr}{xs ys:List V}
def SqL.of{K:W.Frag}(h:H a=some (.lst xs)):SqL K H a xs:=.inl (.inl h)
def SqT.of{K:W.Frag}(h:H a=some (.tup xs)):SqT K H a xs:=.inl (.inl h)
def Inv.list(I:Inv X pins σ H s)(h:SqL X.K H a xs):∃its:List Value,Vals xs its/\PlainL s.heap a its.toArray/\xs.length<=sizeLine:=by
 rcases h with h |⟨o,its,n,hk,hc,hd,hs,hz,r⟩
 .obtain⟨z,its,n,r,e⟩:=h.ok I.hok;exact⟨its,r,⟨_,n,e,rfl,rfl,rfl⟩,z⟩
 .refine⟨its.toList,r,⟨o,n,I.kIn a o hk,hc,hd,by simpa using hs⟩,?_⟩;have e:=r.length;simp only[Cf] at e;omega
def Inv.tuple(I:Inv X pins σ H s)(h:SqT X.K H a xs):∃its:List Value,Vals xs its/\IsTup s.heap a its.toArray/\xs.length<=sizeLine:=by
 rcases h with h |⟨o,its,n,hk,hc,hs,hz,r⟩
 .obtain⟨z,its,r,p⟩:=h.ok I.hok;exact⟨its,r,p,z⟩
 .refine⟨its.toList,r,⟨o,I.kIn a o hk,hc,n,by simpa using hs⟩,?_⟩;have e:=r.length;simp only[Cf] at e;omega
def Inv.list_inj(I:Inv X pins σ H s)(h:SqL X.K H a xs)(h':SqL X.K H a ys):xs=ys:=by
 obtain⟨its,r,⟨o,n,e,_,_,d⟩,_⟩:=I.list h;obtain⟨its',r',⟨o',n',e',_,_,d'⟩,_⟩:=I.list h';rw[e] at e';cases e';rw[d] at d';injection d' with d1 _;have:its=its':=by simpa using A0 Array.toList d1
 subst this;exact r.inj r'
def Inv.tuple_inj(I:Inv X pins σ H s)(h:SqT X.K H a xs)(h':SqT X.K H a ys):xs=ys:=by
 obtain⟨its,r,⟨o,e,_,n,d⟩,_⟩:=I.tuple h;obtain⟨its',r',⟨o',e',_,n',d'⟩,_⟩:=I.tuple h';rw[e] at e';cases e';rw[d] at d';injection d' with d1 _;have:its=its':=by simpa using A0 Array.toList d1
 subst this;exact r.inj r'
end
section
variable{X:Cx}{st:Stmt}{ah:List Stmt}{t u:TS}{e:Expr}{te:TE}{pos:Pos}
def eX:TS:=λD σ H=>D.nx σ H
def f9(t u:TS):TS:=λD σ H=>t { D with nx:=u D } σ H
def eZ:PSs X [] eX:=λ_ _ σ H _ I h=>Cd ⟨σ,H,I,h⟩
def bL(h1:PS X st t)(h2:PSs X ah u):PSs X (st::ah) (f9 t u):=by
 intro pins s σ H D I h;refine wpAny_execs_cons (thn (h1 pins s σ H { D with nx:=u D } I h) λf s1 q=>?_);cases f with
 |next=>obtain⟨σ',H',I',q⟩:=q;exact h2 pins s1 σ' H' D I' q
 |ret v=>exact q
 |brk=>exact q
 |cont=>exact q
def uN(h1:PS X st t):PSs X [st] t:=by
 intro pins s σ H D I h;refine wpAny_execs_cons (thn (h1 pins s σ H D I h) λf s1 q=>?_);cases f with
 |next=>exact Cd q
 |ret v=>exact q
 |brk=>exact q
 |cont=>exact q
def Inv.quiet(I:Inv X pins σ H s):interactive X.env=false:=by simp [interactive,I.ok.kind]
def gk(te:TE):TS:=λD σ H=>te σ H λ_ H1=>D.nx σ H1
def fk(he:PE X e te)(hs:swapsWith e none pos.line X.env=pure false):PS X (.Expr e pos) (gk te):=by intro pins s σ H D I h;exact wpAny_Expr_any (thn (he pins s σ H _ I h) λv s1 zz=>exA zz λx H1 I1 r1 q1=>⟨σ,H1,I1,q1⟩) I.quiet hs
def tRet(te:TE):TS:=λD σ H=>te σ H D.rt
def xa(he:PE X e te):PS X (.Return (some e) pos) (tRet te):=by intro pins s σ H D I h;exact wpAny_Return_some (thn (he pins s σ H _ I h) λv s1 zz=>exA zz λx H1 I1 r1 q1=>⟨x,σ,H1,I1,r1,q1⟩)
def j3(c:TT)(t u:TS):TS:=λD σ H=>c σ H λb H1=>if b=true then t D σ H1 else u D σ H1
def mK(hc:PT X c tc)(ha:PSs X a t)(hb:PSs X b u):PS X (.If c a b pos) (j3 tc t u):=by
 intro pins s σ H D I h;refine wpAny_If (thn (hc pins s σ H _ I h) λd s1 ⟨H1,I1,q1⟩=>?_);cases d with
 |true=>exact ha pins s1 σ H1 D I1 q1
 |false=>exact hb pins s1 σ H1 D I1 q1
end
abbrev TG:=V->St->Hp->(St->Hp->Prop)->Prop
abbrev TGs:=List V->St->Hp->(St->Hp->Prop)->Prop
def PG(X:Cx)(target:Expr)(t:TG):Prop:=
 ∀
  (pins:Ck) (s:Shared) (σ:St) (H:Hp) (v:V) (u:Value) (Q:St->Hp->Prop),Inv X pins σ H s->RelV v u->t v σ H Q->
  wpAny (model X.prog X.w) X.A (assign target X.env u) (λ_ s'=>∃σ' H',Inv X pins σ' H' s'/\Q σ' H') X.xe s
def PGs(X:Cx)(ts:List Expr)(t:TGs):Prop:=
 ∀
  (pins:Ck) (s:Shared) (σ:St) (H:Hp) (vs:List V) (us:List Value) (Q:St->Hp->Prop),Inv X pins σ H s->Vals vs us->t vs σ H Q->
  wpAny (model X.prog X.w) X.A (assignInOrder ((assignEach ts X.env).map (·.2)) us) (λ_ s'=>∃σ' H',Inv X pins σ' H' s'/\Q σ' H') X.xe s
abbrev kz:=V->V->V->Hp->(Hp->Prop)->Prop
def si(X:Cx)(t:kz):Prop:=
 ∀
  (pins:Ck) (s:Shared) (σ:St) (H:Hp) (o i v:V) (ov iv u:Value) (Q:Hp->Prop),Inv X pins σ H s->RelV o ov->RelV i iv->RelV v u->t o i v H Q->
  wpAny (model X.prog X.w) X.A (setItem ov iv u) (λ_ s'=>∃H',Inv X pins σ H' s'/\Q H') X.xe s
section
variable{X:Cx}{pos:Pos}
def dz(i:Nat):TG:=λv σ H Q=>Q (σ.set i (some v)) H
def gX(hN:X.N.Nodup)(hi:X.N[i]?=some x)(hx:Loc X.env.scope x)(hf:X.fn x=true\/X.env.scope.names.lookup x=some .local):PG X (.Name x pos) (dz i):=by intro pins s σ H v u Q I r h;exact wpAny_assign_Name (fO I hN hi hx r (λs' I'=>⟨_,H,I',h⟩) hf)
def gSub(to ti:TE)(t:kz):TG:=λv σ H Q=>to σ H λo H1=>ti σ H1 λi H2=>t o i v H2 λH3=>Q σ H3
def wR(ho:PE X o to)(hi:PE X i ti)(hs:si X t)
 (ha:∀v,assign (.Subscript o i pos) X.env v=(do
  let ov <- holding [v] (eval o X.env)
  let iv <- holding [v,ov] (eval i X.env)
  standAt pos
  holding [v,ov,iv] (setItem ov iv v)
  release [v,ov,iv] [])):PG X (.Subscript o i pos) (gSub to ti t):=by
 intro pins s σ H v u Q I r h;rw[ha];refine g_ (BN (thn (ho pins s σ H _ I h) λov s1 zz=>exA zz λx H1 I1 r1 q1=>?_));refine g_ (BN (thn (hi pins s1 σ H1 _ I1 q1) λiv s2 zz=>exA zz λy H2 I2 r2 q2=>?_));refine g_ (wpAny_standAt (g_ (BN (thn (hs pins s2 σ H2 x y v ov iv u _ I2 r1 r2 r q2) λ_ s3 ⟨H3,I3,q3⟩=>?_))));exact wpAny_release ⟨σ,H3,I3,q3⟩
def kq(te:TE)(g:TG):TS:=λD σ H=>te σ H λx H1=>g x σ H1 D.nx
def qt(he:PE X e te)(hg:PG X tg g)(hs:swapsWithSole [tg] e pos.line X.env=pure false)(hw:swappedStores [tg] e X.env=pure none)
 (h1:(assignEach [tg] X.env).map (·.2)=[assign tg X.env]):PS X (.Assign [tg] e pos) (kq te g):=by
 intro pins s σ H D I h;refine wpAny_Assign_stores (thn (he pins s σ H _ I h) λv s1 zz=>exA zz λx H1 I1 r1 q1=>?_) hs hw;rw[h1];exact thn (hg pins s1 σ H1 x v _ I1 r1 q1) λ_ s2 q=>q
def wA(hN:X.N.Nodup)(hi:X.N[i]?=some x)(hx:Loc X.env.scope x)(he:PE X e te)(hs:swapsWith e (some (.Name x pos')) pos.line X.env=pure false)(hf:X.fn x=true\/X.env.scope.names.lookup x=some .local):
 PS X (.Assign [.Name x pos'] e pos) (kq te (dz i)):=by
 intro pins s σ H D I h;refine wpAny_Assign_Name (thn (he pins s σ H _ I h) λv s1 zz=>exA zz λy H1 I1 r1 q1=>?_) hs;exact fO I1 hN hi hx r1 (λs2 I2=>⟨_,H1,I2,q1⟩) hf
end
structure It where
 go:Nat->Hp->Prop
 yld:Nat->Hp->V->Hp->Prop
 stop:Nat->Hp->Prop
def fZ(X:Cx)(pins:Ck)(H:Hp)(b:Addr):Prop:=
 H b=none/\b≠X.env.locals/\b∉X.fs/\(b∈X.ex\/X.s₀.heap.objs.size<=b)/\(∀x c,X.env.cells.lookup x=some c->c≠b)/\∀p∈X.pn++pins,p.1≠b
def Inv.fpOk(I:Inv X pins σ H s)(hb:s.heap.objs.size<=b)(hn:H' b=none):fZ X pins H' b:=by
 refine⟨hn,Nat.ne_of_gt (t_ I.lt hb),I.nofs hb,.inr (AJ I.sz hb),λx c e z=>?_,λp hp z=>?_⟩
 .obtain⟨v,q⟩:=I.cell x c e;exact absurd (t_ q.lt (by rw[z];exact hb)) (A2 _)
 .exact absurd (t_ (m_ (I.pin p hp).1) (by rw[z];exact hb)) (A2 _)
structure Turn(P:Program)(w:World)(K:W.Frag)(tg:Expr)(J:It)(fp:List Addr)(it:Addr)(tn:Nat->Heap->Prop):Prop where
 mem:it∈fp
 obj:∀i h,tn i h->∀b∈fp,∃o,h.get? b=some o/\∀v,o.data ≠ .cell v
 keep:∀i h h',tn i h->(∀b∈fp,∀o,h.get? b=some o->h'.get? b=some o)->tn i h'
 item:∀(X:Cx),X.prog=P->X.w=w->X.K=K->X.calm=true->∀(i:Nat) (pins:Ck) (s:Shared) (σ:St) (H:Hp) (E:Cm),Inv X pins σ H s->(∀b∈fp,fZ X pins H b)->tn i s.heap->J.go i H->
  wpAny (model P w) X.A (pyNext (.ref it)) (λr s1=>∃u,r=some u/\
   wpAny (model P w) X.A (letOwnedTupleGo tg (.ref it) u) (λ_ s2=>∃x H',Inv X pins σ H' s2/\RelV x u/\J.yld i H x H'/\tn (i+1) s2.heap/\∀b∈fp,H' b=none) E s1) E s
 done:∀(X:Cx),X.prog=P->X.w=w->X.K=K->X.calm=true->∀(i:Nat) (pins:Ck) (s:Shared) (σ:St) (H:Hp) (E:Cm),Inv X pins σ H s->(∀b∈fp,fZ X pins H b)->tn i s.heap->J.stop i H->
  wpAny (model P w) X.A (pyNext (.ref it)) (λr s1=>r=none/\Inv X pins σ H s1) E s
 self:∀(A:Around) (i:Nat) (s:Shared) (Q:Cm) (E:Cm),tn i s.heap->Q (.ref it) s->wpAny (model P w) A (pyIter (.ref it)) Q E s
abbrev TI:=St->Hp->(It->Hp->Prop)->Prop
def PIE(X:Cx)(pins:Ck)(σ:St)(tg:Expr)(R:It->Hp->Prop)(itv:Value)(s2:Shared):Prop:=
 ∃(it:Addr) (fp:List Addr) (tn:Nat->Heap->Prop) (J:It) (H':Hp),itv=.ref it/\Inv X pins σ H' s2/\Turn X.prog X.w X.K tg J fp it tn/\tn 0 s2.heap/\(∀b∈fp,fZ X pins H' b)/\R J H'
def PI(X:Cx)(tg iter:Expr)(wi:TI):Prop:=
 ∀
  (pins:Ck) (s:Shared) (σ:St) (H:Hp) (R:It->Hp->Prop),Inv X pins σ H s->wi σ H R->
  wpAny (model X.prog X.w) X.A (eval iter X.env) (λv s1=>wpAny (model X.prog X.w) X.A (pyIter v) (PIE X pins σ tg R) X.xe s1) X.xe s
def m3(ho:s.heap.get? it=some o)(hc:o.cls=.type n)(hd:o.data=.fields vs)
 (hn:["enumerate", "zip", "dict_itemiterator", "dict_reverseitemiterator", "odict_iterator", "itertools.zip_longest", "itertools.pairwise"].contains n=false) (hQ:Q () s):wpAny M A (letOwnedTupleGo tg (.ref it) u) Q E s:=by
 unfold letOwnedTupleGo;cases tg
  <;> first
  |exact l_ hQ
  |(cases u <;> first
   |exact l_ hQ
   |(
    refine g_ (wpAny_load ho ?_);rw[hc,hd];show wpAny M A (if (["enumerate", "zip", "dict_itemiterator", "dict_reverseitemiterator", "odict_iterator", "itertools.zip_longest", "itertools.pairwise"].contains n&&vs[0]?==some (rawInt _))=true then _ else _) Q E s;rw[if_neg (by intro h;rw[hn,Bool.false_and] at h;cases h)];exact l_ hQ))
noncomputable def Itl (K:W.Frag) (a:Addr):It:=
 ⟨λi H=>∃xs x,SqL K H a xs/\xs[i]?=some x,λi H x H'=>H'=H/\∀xs,SqL K H a xs->xs[i]?=some x,λi H=>∃xs,SqL K H a xs/\xs.length<=i⟩
noncomputable def Itt (K:W.Frag) (a:Addr):It:=
 ⟨λi H=>∃xs x,SqT K H a xs/\xs[i]?=some x,λi H x H'=>H'=H/\∀xs,SqT K H a xs->xs[i]?=some x,λi H=>∃xs,SqT K H a xs/\xs.length<=i⟩
noncomputable def Itr (lo:Int) (n:Nat):It:=⟨λi _=>i<n,λi H x H'=>H'=H/\x=.int (lo+i),λi _=>n<=i⟩
def pM{P:Program}{w:World}{K:W.Frag}{tg:Expr}(a it:Addr):Turn P w K tg (Itl K a) [it] it (λi h=>h.IsListIter it a i) where
 mem:=by simp
 obj:=λi h st b hb=>by
  have e:b=it:=by simpa using hb
  subst e;obtain⟨o,e,c,d⟩:=st;exact⟨o,e,λv z=>by rw[d] at z;cases z⟩
 keep:=λi h h' st k=>st.at λo e=>k it (by simp) o e
 item:=by intro X hP hw hK hc i pins s σ H E I hf st hg;subst hP hw hK;obtain⟨xs,x,hq,hx⟩:=hg;obtain⟨its,rv,p,hz⟩:=I.list hq;obtain⟨u,hu,ru⟩:=rv.get hx;obtain⟨f0,f1,f2,f3,f4,f5⟩:=hf it (by simp);refine wpAny_pyNext_list_item st p.isList (x:=u) (by simpa using hu) λh' st' sb=>?_;have I1:Inv X pins σ H { s with heap:=h' }:=I.turned (t':=s.toks) (λb o hb e=>(sb.2 b hb).trans e) f0 f1 f3 f4 f5;obtain⟨o,e,c,d⟩:=id st';exact⟨u,rfl,m3 (s:={ s with heap:=h' }) e c d (by decide) ⟨x,H,I1,ru,⟨rfl,λys hy=>by rw[I.list_inj hy hq];exact hx⟩,st',λb hb=>(hf b hb).1⟩⟩
 done:=by intro X hP hw hK hc i pins s σ H E I hf st hg;subst hP hw hK;obtain⟨xs,hq,hx⟩:=hg;obtain⟨its,rv,p,hz⟩:=I.list hq;obtain⟨f0,f1,f2,f3,f4,f5⟩:=hf it (by simp);have hl:=rv.length;exact wpAny_pyNext_list_end (I.ok.hd hc) st p.isList (by simp;omega) λh' eb=>⟨rfl,I.turned (t':=s.toks) (λb o hb e=>eb b o hb e) f0 f1 f3 f4 f5⟩
 self:=λ_ _ _ _ _ st h=>wpAny_pyIter_listiter st h
def mQ{P:Program}{w:World}{K:W.Frag}{tg:Expr}(a it:Addr):Turn P w K tg (Itt K a) [it] it (λi h=>h.IsTupleIter it a i) where
 mem:=by simp
 obj:=λi h st b hb=>by
  have e:b=it:=by simpa using hb
  subst e;obtain⟨o,e,c,d⟩:=st;exact⟨o,e,λv z=>by rw[d] at z;cases z⟩
 keep:=λi h h' st k=>st.at λo e=>k it (by simp) o e
 item:=by intro X hP hw hK hc i pins s σ H E I hf st hg;subst hP hw hK;obtain⟨xs,x,hq,hx⟩:=hg;obtain⟨its,rv,p,hz⟩:=I.tuple hq;obtain⟨u,hu,ru⟩:=rv.get hx;obtain⟨f0,f1,f2,f3,f4,f5⟩:=hf it (by simp);refine wpAny_pyNext_tuple_item st (show s.heap.IsTuple a its.toArray from p) (x:=u) (by simpa using hu) λh' st' sb=>?_;have I1:Inv X pins σ H { s with heap:=h' }:=I.turned (t':=s.toks) (λb o hb e=>(sb.2 b hb).trans e) f0 f1 f3 f4 f5;obtain⟨o,e,c,d⟩:=id st';exact⟨u,rfl,m3 (s:={ s with heap:=h' }) e c d (by decide) ⟨x,H,I1,ru,⟨rfl,λys hy=>by rw[I.tuple_inj hy hq];exact hx⟩,st',λb hb=>(hf b hb).1⟩⟩
 done:=by intro X hP hw hK hc i pins s σ H E I hf st hg;subst hP hw hK;obtain⟨xs,hq,hx⟩:=hg;obtain⟨its,rv,p,hz⟩:=I.tuple hq;obtain⟨f0,f1,f2,f3,f4,f5⟩:=hf it (by simp);have hl:=rv.length;exact wpAny_pyNext_tuple_end (I.ok.hd hc) st (show s.heap.IsTuple a its.toArray from p) (by simp;omega) λh' eb=>⟨rfl,I.turned (t':=s.toks) (λb o hb e=>eb b o hb e) f0 f1 f3 f4 f5⟩
 self:=λ_ _ _ _ _ st h=>wpAny_pyIter_tupleiter st h
def mG{P:Program}{w:World}{K:W.Frag}{tg:Expr}(it:Addr)(lo:Int)(n:Nat):Turn P w K tg (Itr lo n) [it] it (λi h=>IsRangeIter h it (lo+(i:Nat)*1) ((n:Int)-(i:Nat)) 1) where
 mem:=by simp
 obj
  := λi h st b hb=>by
  have e:b=it:=by simpa using hb
  subst e;exact⟨_,st,λv z=>by have z':Data.fields _=Data.cell v:=z;cases z'⟩
 keep:=λi h h' st k=>k it (by simp) _ st
 item:=by intro X hP hw hK hc i pins s σ H E I hf st hg;subst hP hw hK;obtain⟨f0,f1,f2,f3,f4,f5⟩:=hf it (by simp);have W:=Walks.range (prog:=X.prog) (w:=X.w) (I.ok.hd hc) it lo 1 n;refine W.item i s _ _ hg st λv h' tk hv st' kk=>?_;obtain⟨t,rfl⟩:=hv;have I1:Inv X pins σ H { s with heap:=h',toks:=tk }:=I.turned (λb o hb e=>kk b o (by simpa using hb) e) f0 f1 f3 f4 f5;refine⟨_,rfl,m3 (s:={ s with heap:=h',toks:=tk }) (n:="range_iterator") st' rfl rfl (by decide) ⟨.int (lo+i),H,I1,⟨t,?_⟩,⟨rfl,rfl⟩,st',λb hb=>(hf b hb).1⟩⟩;rw[Int.mul_one]
 done:=by intro X hP hw hK hc i pins s σ H E I hf st hg;subst hP hw hK;obtain⟨f0,f1,f2,f3,f4,f5⟩:=hf it (by simp);exact wpAny_pyNext_range_end (I.ok.hd hc) st (by have:n<=i:=hg;omega) λh' eb=>⟨rfl,I.turned (t':=s.toks) (λb o hb e=>eb b o hb e) f0 f1 f3 f4 f5⟩
 self:=λ_ _ _ _ _ st h=>wpAny_pyIter_rangeiter st h
section
variable{X:Cx}{tg:Expr}
def jO{pins:Ck}{σ:St}{H:Hp}{s:Shared}{R:It->Hp->Prop}{E:Cm}{lo hi:Int}{t u v:Tok}{tk:Nat}(I:Inv X pins σ H s)(h1:-(2^62)<=lo)(h2:lo<2^62)(h3:-(2^62)<=hi)(h4:hi<2^62)
 (q:R (Itr lo (hi-lo).toNat) H):wpAny (model X.prog X.w) X.A (pyIter (.ref s.heap.objs.size)) (PIE X pins σ tg R) E { s with heap:=s.heap.push { cls:=.type "range",data:=.fields #[.int lo t,.int hi u,.int 1 v] },toks:=tk }:=by
 refine wpAny_pyIter_range (IsRange.new ..) (small_one h1 h2 h3 h4) ?_;have I1:Inv X pins σ H { s with heap:=s.heap.push { cls:=.type "range",data:=.fields #[.int lo t,.int hi u,.int 1 v] },toks:=tk }:=I.kept λb o e=>w_ _ e;refine⟨(s.heap.push { cls:=.type "range",data:=.fields #[.int lo t,.int hi u,.int 1 v] }).objs.size,[(s.heap.push { cls:=.type "range",data:=.fields #[.int lo t,.int hi u,.int 1 v] }).objs.size],_,_,H,rfl,
  I1.kept (t':=tk) λb o e=>w_ _ e,mG _ lo (hi-lo).toNat,?_,λb hb=>?_,q⟩
 .have e1:lo+((0:Nat):Int)*1=lo:=by simp
  have e2:(((hi-lo).toNat:Nat):Int)-((0:Nat):Int)=Builtin.Range.rangeSize lo hi 1:=by rw[rangeSize_one];split <;> omega
  show IsRangeIter _ _ (lo+((0:Nat):Int)*1) ((((hi-lo).toNat:Nat):Int)-((0:Nat):Int)) 1;rw[e1,e2];exact AW _ rfl
 .have e:b=(s.heap.push { cls:=.type "range",data:=.fields #[.int lo t,.int hi u,.int 1 v] }).objs.size:=by simpa using hb
  subst e;exact I1.fpOk (r_ _) (I1.hok.fresh (r_ _))
def Az(ta:TA):TI:=λσ H R=>ta σ H λvs H1=>∃j:Int,vs=[.int j]/\-(2^62)<=j/\j<2^62/\R (Itr 0 j.toNat) H1
def zf(ta:TA):TI:=λσ H R=>ta σ H λvs H1=>∃i j:Int,vs=[.int i,.int j]/\(-(2^62)<=i/\i<2^62/\-(2^62)<=j/\j<2^62)/\R (Itr i (j-i).toNat) H1
def pV(hg:Gl X "range")(hm:X.mg "range"=none)(ha:PA X [a] ta)(hs:starEach [a] X.env=[(false,eval a X.env)]):PI X tg (.Call (.Name "range" p) [a] [] pos) (Az ta):=by
 intro pins s σ H R I h;refine Call_ (eT I hg hm boot_range (BI (thn (ha pos pins s σ H _ I h) λus s1 zz=>exA zz λvs H1 I1 r1 q1=>?_) hs rfl));obtain⟨j,e,q1,q2,q⟩:=q1;subst e;cases r1 with
 |cons r rr=>cases rr;obtain⟨t,rfl⟩:=r;exact call_range_1 (jO I1 (by omega) (by omega) q1 q2 (by simpa using q))
def oG(hg:Gl X "range")(hm:X.mg "range"=none)(ha:PA X [a,b] ta)(hs:starEach [a,b] X.env=[(false,eval a X.env),(false,eval b X.env)])(hs2:starEach [b] X.env=[(false,eval b X.env)]):
 PI X tg (.Call (.Name "range" p) [a,b] [] pos) (zf ta):=by
 intro pins s σ H R I h;refine Call_ (eT I hg hm boot_range (BI (thn (ha pos pins s σ H _ I h) λus s1 zz=>exA zz λvs H1 I1 r1 q1=>?_) (by rw[hs,hs2]) (by rw[hs2];rfl)));obtain⟨i,j,e,⟨q1,q2,q3,q4⟩,q⟩:=q1;subst e;cases r1 with
 |
  cons r rr=>
  cases rr with
  |cons r' rr=>cases rr;obtain⟨t,rfl⟩:=r;obtain⟨t',rfl⟩:=r';exact call_range_2 (jO I1 q1 q2 q3 q4 q)
def qF(wi:TI)(g:TG)(tb:TS):TS:=λD σ H=>wi σ H λJ H1=>∃W:Nat->Nat->St->Hp->Prop,(∃m,W 0 m σ H1)/\∀i m σ H,W i m σ H->
 (J.stop i H/\D.nx σ H)\/(J.go i H/\∃N:St->Hp->Prop,(∀σ' H',N σ' H'->∃m',m'<m/\W (i+1) m' σ' H')/\∀x H',J.yld i H x H'->g x σ H' λσ2 H2=>tb { D with nx:=N,ct:=N,bk:=D.nx } σ2 H2)
noncomputable def eQ (fp:List Addr) (h:Heap):List (Addr×Obj):=fp.filterMap λb=>(h.get? b).map λo=>(b,o)
def cR(hb:b∈fp)(e:h.get? b=some o):(b,o)∈eQ fp h:=List.mem_filterMap.mpr ⟨b,hb,by rw[e];rfl⟩
def pL(hp:p∈eQ fp h):p.1∈fp/\h.get? p.1=some p.2:=by
 obtain⟨b,hb,e⟩:=List.mem_filterMap.mp hp;cases q:h.get? b with
 |none=>rw[q] at e;cases e
 |some o=>rw[q] at e;have e':(b,o)=p:=u_ e;subst e';exact⟨hb,q⟩
def Inv.pinned(I:Inv X pins σ H s)(hf:∀b∈fp,fZ X pins H b)(ho:∀b∈fp,∃o,s.heap.get? b=some o/\∀v,o.data ≠ .cell v):Inv X (pins++eQ fp s.heap) σ H s:=
 I.pins_of λp hp=>(Bz.mp hp).elim (λz=>I.pin p (AI _ z)) λz=>by obtain⟨hb,e⟩:=pL z;obtain⟨f0,f1,f2,_⟩:=hf p.1 hb;obtain⟨o,e',d⟩:=ho p.1 hb;rw[e] at e';cases e';exact⟨e,f0,f1,f2,d⟩
def Inv.unpinned(I:Inv X (pins++pl) σ H s):Inv X pins σ H s:=I.pins_of λp hp=>I.pin p (AI _ (B7 _ hp))
def nW(hp:PassesOwn (model X.prog X.w) X.A X.env X.xe)(hc:X.calm=true)(hi:PI X tg iter wi)(hg:PG X tg g)(hb:PSs X body tb)
 (hs:∀x,foldedSetIterable iter X.env x=pure x):PS X (.For tg iter body [] pos) (qF wi g tb):=by
 intro pins s σ H D I h;refine wpAny_For (thn (hi pins s σ H _ I h) λv s1 h1=>thn h1 λitv s2 h2=>?_) hs;obtain⟨it,fp,tn,J,H2,e,I2,T,st2,f2,W,⟨m0,w0⟩,turn⟩:=h2;subst e;have stat:∀{H':Hp},(∀b∈fp,H' b=none)->∀b∈fp,fZ X pins H' b:=λhn b hb=>⟨hn b hb,(f2 b hb).2⟩;refine codeAny_forLoop_any (λn s'=>∃i σ' H',Inv X pins σ' H' s'/\tn i s'.heap/\(∀b∈fp,H' b=none)/\W i n σ' H') ?_ m0 ⟨0,σ,H2,I2,st2,λb hb=>(f2 b hb).1,w0⟩;rintro n s3 ⟨i,σ3,H3,I3,st3,fr3,w3⟩;rcases turn i n σ3 H3 w3 with ⟨stop,qn⟩ |⟨go,N,hN,step⟩
 .refine BQ hp (thn (T.done X rfl rfl rfl hc i pins s3 σ3 H3 X.xe I3 (stat fr3) st3 stop) λr s4 ⟨hr,I4⟩=>?_);subst hr;exact Cd ⟨σ3,H3,I4,qn⟩
 .refine BQ hp (thn (T.item X rfl rfl rfl hc i pins s3 σ3 H3 X.xe I3 (stat fr3) st3 go) λr s4 ⟨u,hr,h4⟩=>?_);subst hr;refine BQ hp (thn h4 λ_ s5 ⟨x,H5,I5,r5,y5,st5,fr5⟩=>?_);have I5':=I5.pinned (stat fr5) (T.obj _ _ st5);refine BQ hp (thn (hg _ s5 σ3 H5 x u _ I5' r5 (step x H5 y5)) λ_ s6 ⟨σ6,H6,I6,q6⟩=>?_);refine BQ hp (thn (hb _ s6 σ6 H6 _ I6 q6) λf s7 q7=>?_);have again:∀{σ7:St}{H7:Hp},Inv X (pins++eQ fp s5.heap) σ7 H7 s7->N σ7 H7->∃m,m<n/\∃i σ' H',Inv X pins σ' H' s7/\tn i s7.heap/\(∀b∈fp,H' b=none)/\W i m σ' H':=λ{σ7 H7} I7 n7=>by obtain⟨m',hm,w7⟩:=hN σ7 H7 n7;refine⟨m',hm,i+1,σ7,H7,I7.unpinned,T.keep _ _ _ st5 λb hb o e=>(I7.pin (b,o) (AI _ (AI _ (cR hb e)))).1,λb hb=>?_,w7⟩;obtain⟨o,e,d⟩:=T.obj _ _ st5 b hb;exact (I7.pin (b,o) (AI _ (AI _ (cR hb e)))).2.1
  cases f with
  |next=>obtain⟨σ7,H7,I7,n7⟩:=q7;exact again I7 n7
  |cont=>obtain⟨σ7,H7,I7,n7⟩:=q7;exact again I7 n7
  |brk=>obtain⟨σ7,H7,I7,q7⟩:=q7;exact⟨σ7,H7,I7.unpinned,q7⟩
  |ret v=>obtain⟨x7,σ7,H7,I7,r7,q7⟩:=q7;exact⟨x7,σ7,H7,I7.unpinned,r7,q7⟩
end
def qI{K:W.Frag}{a:Addr}{xs:List V}{g:TG}{tb:TS}{D:Ends}{σ:St}{H:Hp}(Pv:Nat->St->Hp->Prop)(h0:Pv 0 σ H)(hl:∀i σ H,i<=xs.length->Pv i σ H->SqL K H a xs)
 (hs:∀i x σ H,xs[i]?=some x->Pv i σ H->g x σ H λσ2 H2=>tb { D with nx:=Pv (i+1),ct:=Pv (i+1),bk:=D.nx } σ2 H2) (hd:∀σ H,Pv xs.length σ H->D.nx σ H):
 ∃
  W:Nat->Nat->St->Hp->Prop,(∃m,W 0 m σ H)/\∀i m σ H,W i m σ H->
  ((Itl K a).stop i H/\D.nx σ H)\/((Itl K a).go i H/\∃N:St->Hp->Prop,(∀σ' H',N σ' H'->∃m',m'<m/\W (i+1) m' σ' H')/\∀x H',(Itl K a).yld i H x H'->g x σ H' λσ2 H2=>tb { D with nx:=N,ct:=N,bk:=D.nx } σ2 H2):=by
 refine⟨λi m σ H=>m=xs.length-i/\i<=xs.length/\Pv i σ H,⟨xs.length,by simp,A3 _,h0⟩,?_⟩;rintro i m σ H ⟨rfl,hi,p⟩;have q:=hl i σ H hi p;by_cases hlt:i<xs.length
 .refine .inr ⟨⟨xs,xs[i],q,by simp [hlt]⟩,Pv (i+1),λσ' H' p'=>⟨xs.length-(i+1),by omega,rfl,hlt,p'⟩,λx H' y=>?_⟩;obtain⟨e,y⟩:=y;subst e;exact hs i x σ _ (y xs q) p
 .have e:i=xs.length:=by omega
  subst e;exact .inl ⟨⟨xs,q,r_ _⟩,hd σ H p⟩
abbrev R2:=V->V->Hp->VK->Prop
def OpR(X:Cx)(f:Value->Value->Sem Value)(r:R2):Prop:=
 ∀
  (pins:Ck) (s:Shared) (σ:St) (H:Hp) (x y:V) (v u:Value) (Q:VK),Inv X pins σ H s->RelV x v->RelV y u->r x y H Q->
  wpAny (model X.prog X.w) X.A (f v u) (EP X pins σ Q) X.xe s
def UnR(X:Cx)(f:Value->Sem Value)(r:V->Hp->VK->Prop):Prop:=
 ∀
  (pins:Ck) (s:Shared) (σ:St) (H:Hp) (x:V) (v:Value) (Q:VK),Inv X pins σ H s->RelV x v->r x H Q->
  wpAny (model X.prog X.w) X.A (f v) (EP X pins σ Q) X.xe s
def CallR(X:Cx)(f:Value)(r:List V->Hp->VK->Prop):Prop:=
 ∀
  (pins:Ck) (s:Shared) (σ:St) (H:Hp) (xs:List V) (us:List Value) (Q:VK),Inv X pins σ H s->Vals xs us->r xs H Q->
  wpAny (model X.prog X.w) X.A (call f us) (EP X pins σ Q) X.xe s
def tOp(r:R2)(ta tb:TE):TE:=λσ H Q=>ta σ H λx H1=>tb σ H1 λy H2=>r x y H2 Q
def tUn(r:V->Hp->VK->Prop)(ta:TE):TE:=λσ H Q=>ta σ H λx H1=>r x H1 Q
def rI(C:Int->Int->Prop)(g:Int->Int->V):R2:=λx y H Q=>∃i j,x=.int i/\y=.int j/\C i j/\Q (g i j) H
def rI0(g:Int->Int->V):R2:=λx y H Q=>∃i j,x=.int i/\y=.int j/\Q (g i j) H
def rU(g:Int->V):V->Hp->VK->Prop:=λx H Q=>∃i,x=.int i/\Q (g i) H
section
variable{X:Cx}{a b:Expr}{ta tb:TE}{pos:Pos}
def rR(ha:PE X a ta)(hb:PE X b tb){pins:Ck}{s:Shared}{σ:St}{H:Hp}{R:V->V->Hp->Prop}(I:Inv X pins σ H s)
 (h:ta σ H λx H1=>tb σ H1 λy H2=>R x y H2) {Q:Cm}{f:Value->Value->Sem Value}
 (hf:∀v u s2 x y H2,Inv X pins σ H2 s2->RelV x v->RelV y u->R x y H2->wpAny (model X.prog X.w) X.A (f v u) Q X.xe s2):
 wpAny (model X.prog X.w) X.A (eval a X.env) (λv s₁=>wpAny (model X.prog X.w) X.A (eval b X.env) (λu s₂=>wpAny (model X.prog X.w) X.A (f v u) Q X.xe s₂) X.xe s₁) X.xe s:=by
 refine thn (ha pins s σ H _ I h) λv s1 zz=>exA zz λx H1 I1 r1 q1=>?_;refine thn (hb pins s1 σ H1 _ I1 q1) λu s2 zz=>exA zz λy H2 I2 r2 q2=>?_;exact hf v u s2 x y H2 I2 r1 r2 q2
def zQ(ho:OpR X (binaryOp op) r)(ha:PE X a ta)(hb:PE X b tb):PE X (.BinOp a op b pos) (tOp r ta tb):=by intro pins s σ H Q I h;exact wpAny_BinOp (rR ha hb I h λv u s2 x y H2 I2 rx ry q=>ho pins s2 σ H2 x y v u Q I2 rx ry q)
def zd(ho:UnR X (unaryOp op) r)(ha:PE X a ta):PE X (.UnaryOp op a pos) (tUn r ta):=by intro pins s σ H Q I h;exact UnaryOp_ (thn (ha pins s σ H _ I h) λv s1 zz=>exA zz λx H1 I1 r1 q1=>ho pins s1 σ H1 x v Q I1 r1 q1)
def opI{f:Value->Value->Sem Value}{C:Int->Int->Prop}{g:Int->Int->Int}
 (rule:∀(i j:Int) (t u:Tok) (s:Shared) (Q:Cm) (E:Cm),C i j->Q (.int (g i j) s.toks) { s with toks:=s.toks+1 }->wpAny (model X.prog X.w) X.A (f (.int i t) (.int j u)) Q E s):
 OpR X f (rI C λi j=>.int (g i j)):=by
 intro pins s σ H x y v u Q I rx ry h;obtain⟨i,j,rfl,rfl,hc,q⟩:=h;obtain⟨t,rfl⟩:=rx;obtain⟨t',rfl⟩:=ry;exact rule i j t t' s _ _ hc ⟨.int (g i j),H,I.tok _,⟨_,rfl⟩,q⟩
def opI0{f:Value->Value->Sem Value}{g:Int->Int->Int}
 (rule:∀(i j:Int) (t u:Tok) (s:Shared) (Q:Cm) (E:Cm),Q (.int (g i j) s.toks) { s with toks:=s.toks+1 }->wpAny (model X.prog X.w) X.A (f (.int i t) (.int j u)) Q E s):
 OpR X f (rI0 λi j=>.int (g i j)):=by
 intro pins s σ H x y v u Q I rx ry h;obtain⟨i,j,rfl,rfl,q⟩:=h;obtain⟨t,rfl⟩:=rx;obtain⟨t',rfl⟩:=ry;exact rule i j t t' s _ _ ⟨.int (g i j),H,I.tok _,⟨_,rfl⟩,q⟩
def qX{f:Value->Value->Sem Value}{g:Int->Int->Bool}
 (rule:∀(i j:Int) (t u:Tok) (s:Shared) (Q:Cm) (E:Cm),Q (.bool (g i j)) s->wpAny (model X.prog X.w) X.A (f (.int i t) (.int j u)) Q E s):
 OpR X f (rI0 λi j=>.bl (g i j)):=by
 intro pins s σ H x y v u Q I rx ry h;obtain⟨i,j,rfl,rfl,q⟩:=h;obtain⟨t,rfl⟩:=rx;obtain⟨t',rfl⟩:=ry;exact rule i j t t' s _ _ ⟨.bl (g i j),H,I,rfl,q⟩
def eV(i j:Int):Prop:=0<=j/\j<=1000000/\i.natAbs<2^64
def CMul(i j:Int):Prop:=(-(2^64)<i/\i<2^64)\/(-(2^64)<j/\j<2^64)
def CMul.ok(h:CMul i j):IntMulOk i j:=by
 rcases h with ⟨h1,h2⟩ |⟨h1,h2⟩
 .exact .of_left (intBits_le_64 h1 h2)
 .exact .of_right (intBits_le_64 h1 h2)
def yD:OpR X (binaryOp .Add) (rI0 λi j=>.int (i+j)):=opI0 λ_ _ _ _ _ _ _ q=>add_int q
def wD:OpR X (binaryOp .Sub) (rI0 λi j=>.int (i-j)):=opI0 λ_ _ _ _ _ _ _ q=>sub_int q
def xK:OpR X (binaryOp .Mult) (rI CMul λi j=>.int (i*j)):=opI λ_ _ _ _ _ _ _ hc q=>mul_int q hc.ok
def uG:OpR X (binaryOp .Mod) (rI (λ_ j=>j≠0) λi j=>.int (i.fmod j)):=opI λ_ _ _ _ _ _ _ hc q=>mod_int' hc q
def xv:OpR X (binaryOp .Pow) (rI eV λi j=>.int (i^j.toNat)):=opI λ_ _ _ _ _ _ _ hc q=>pow_int_small hc.1 hc.2.1 hc.2.2 q
def yM:OpR X (binaryOp .LShift) (rI eV λi j=>.int (i*2^j.toNat)):=opI λ_ _ _ _ _ _ _ hc q=>lshift_int_small hc.1 hc.2.1 hc.2.2 q
def unI{f:Value->Sem Value}{g:Int->Int}
 (rule:∀(i:Int) (t:Tok) (s:Shared) (Q:Cm) (E:Cm),Q (.int (g i) s.toks) { s with toks:=s.toks+1 }->wpAny (model X.prog X.w) X.A (f (.int i t)) Q E s):
 UnR X f (rU λi=>.int (g i)):=by
 intro pins s σ H x v Q I rx h;obtain⟨i,rfl,q⟩:=h;obtain⟨t,rfl⟩:=rx;exact rule i t s _ _ ⟨.int (g i),H,I.tok _,⟨_,rfl⟩,q⟩
def yg:UnR X (unaryOp .USub) (rU λi=>.int (-i)):=unI λ_ _ _ _ _ q=>neg_int q
end
section
variable{X:Cx}{a b c:Expr}{ta tb:TE}{pos:Pos}
def nK(I:Inv X pins σ H s)(q:Q (.bl k) H)(e:k=k'):EP X pins σ Q (.bool k') s:=by subst e;exact⟨.bl k,H,I,rfl,q⟩
def zO:OpR X (compareOp .Lt) (rI0 λi j=>.bl (decide (i<j))):=qX λ_ _ _ _ _ _ _ q=>lt_int q
def ze:OpR X (compareOp .Gt) (rI0 λi j=>.bl (decide (j<i))):=qX λ_ _ _ _ _ _ _ q=>gt_int q
def yS:OpR X (compareOp .GtE) (rI0 λi j=>.bl (decide (j<=i))):=qX λ_ _ _ _ _ _ _ q=>ge_int q
def OpR.or(h:OpR X f r)(h':OpR X f r'):OpR X f (λx y H Q=>r x y H Q\/r' x y H Q):=by
 intro pins s σ H x y v u Q I rx ry q;rcases q with q |q
 .exact h pins s σ H x y v u Q I rx ry q
 .exact h' pins s σ H x y v u Q I rx ry q
def jX(b:Expr)(h:op ≠ .In:=by decide)(h2:op ≠ .NotIn:=by decide):behindInMarks op b=false:=by
 have e1:(op==CmpOp.In)=false:=by cases op <;> first |rfl |exact absurd rfl h
 have e2:(op==CmpOp.NotIn)=false:=by cases op <;> first |rfl |exact absurd rfl h2
 cases b <;> simp [behindInMarks,e1,e2]
def vB(ho:OpR X (compareOp op) r)(ha:PE X a ta)(hb:PE X b tb)(hm:behindInMarks op b=false):PE X (.Compare a [op] [b] pos) (tOp r ta tb):=by intro pins s σ H Q I h;exact wpAny_Compare1 (rR ha hb I h λv u s2 x y H2 I2 rx ry q=>ho pins s2 σ H2 x y v u Q I2 rx ry q) hm
def zF(t:TE):TT:=λσ H Q=>t σ H λx H'=>∃k,x=.bl k/\Q k H'
def vQ(ho:OpR X (compareOp op) r)(ha:PE X a ta)(hb:PE X b tb)(hm:behindInMarks op b=false):PT X (.Compare a [op] [b] pos) (zF (tOp r ta tb)):=by
 intro pins s σ H Q I h;refine wpAny_isTrue_Compare1 (thn (ha pins s σ H _ I h) λv s1 zz=>exA zz λx H1 I1 r1 q1=>thn (hb pins s1 σ H1 _ I1 q1) λu s2 zz=>exA zz λy H2 I2 r2 q2=>
  thn (ho pins s2 σ H2 x y v u _ I2 r1 r2 q2) λc s3 ⟨z,H3,I3,r3,k,e,q3⟩=>?_) hm
 subst e;cases r3;exact wpAny_truthy_bool ⟨H3,I3,q3⟩
def eJ:(sizeLine:Nat)<2^63:=by rw[sizeLine_eq];decide
def mI(r:Vals [x] us):∃u,us=[u]/\RelV x u:=by
 cases r with
 |cons r1 r2=>cases r2;exact⟨_,rfl,r1⟩
def m9(r:Vals [x,y] us):∃u w',us=[u,w']/\RelV x u/\RelV y w':=by
 cases r with
 |
  cons r1 r2=>
  cases r2 with
  |cons r3 r4=>cases r4;exact⟨_,_,rfl,r1,r3⟩
def nL(hc:X.calm=true):CallR X (.builtin "min") (λxs H Q=>∃i j,xs=[.int i,.int j]/\Q (.int (if j<i then j else i)) H):=by
 intro pins s σ H xs us Q I r h;obtain⟨i,j,rfl,q⟩:=h;obtain⟨u,w',rfl,⟨t,rfl⟩,⟨t',rfl⟩⟩:=m9 r;refine min_two_ints (I.ok.hd hc) λh' tk k=>⟨_,H,I.kept k,?_,q⟩;by_cases hj:j<i
 .rw[if_pos hj,if_pos hj];exact⟨_,rfl⟩
 .rw[if_neg hj,if_neg hj];exact⟨_,rfl⟩
end
structure ObjM(h:Heap)(x dx C:Addr)(mA:Cj):Prop where
 obj:h.get? x=some (W.instObj C dx)
 ns:h.Ns1 dx mA
 ne:dx≠x
def om{h:Heap}{dx:Addr}{mA:Cj}(n:h.Ns1 dx mA):∃od,h.get? dx=some od/\∀name,W.lookIn name od=some (mA name):=by
 obtain⟨o,es,ep,ho,hd,hk,_,hm⟩:=n;refine⟨o,ho,λname=>?_⟩;have e:=hm name;unfold nsFind findBy at e;rw[<- Array.find?_toList] at e;unfold W.lookIn;rw[hd];dsimp only;split
 .rename_i y q;rw[q] at e;exact A0 some e
 .rename_i q;rw[q] at e;have a:es.toList.any (·.refKey)=false:=by rw[List.any_eq_false];intro y hy;obtain⟨z,t,hkey⟩:=hk y (Array.mem_toList_iff.mp hy);simp [DictEntry.refKey,hkey]
  have a':¬ es.toList.any (·.refKey)=true:=by rw[a];exact h_
  rw[if_neg a'];exact A0 some e
def ObjM.look(I:ObjM h x dx C mA):∃od,W.InstAt h x (W.instObj C dx) C (some od)/\∀name,W.lookIn name od=some (mA name):=
 let ⟨od,ho,hl⟩:=om I.ns
 ⟨od,⟨I.obj,rfl,rfl,ho⟩,hl⟩
def RelO.some_of(r:RelO (some v) o):∃u,o=some u/\RelV v u:=by
 cases o with
 |none=>exact (show False from r).elim
 |some u=>exact⟨u,rfl,r⟩
section
variable{P:Program}{w:World}{H:Hp}{h:Heap}{a C dx:Addr}{fs:List (Str×V)}
def v8(hok:HOk P w H h)(e:H a=some (.ins C dx fs)):∃mA,ObjM h a dx C mA/\(∀f,RelO (fs.lookup f) (mA f))/\PySem.Within mA (fs.map (·.1))/\fs.length<=1000/\H dx=some (.own a):=by obtain⟨d,z,ne,ob,mA,n,r,q⟩:=(show ObjOk P w H h a (.ins C dx fs) from hok a _ e);exact⟨mA,⟨ob,n,ne⟩,r,q,z,d⟩
end
structure Cls(K:W.Frag)(C:Addr):Prop where
 pg:W.plainGet K C Str.empty=true
 hd:W.hasDictIn K C=true
 po:W.plainOver K C=true
 sa:W.findIn K (.ref C) "__setattr__"=some (some (.builtin "object.__setattr__"))
def Cls.get{K:W.Frag}{C:Addr}(c:Cls K C)(f:Str):W.plainGet K C f=true:=c.pg
section
variable{H:Hp}
inductive TyOf(K:W.Frag)(H:Hp):V->Value->Prop where
 |non:TyOf K H .non (.type "NoneType")
 |bl (x:Bool):TyOf K H (.bl x) (.type "bool")
 |int (i:Int):TyOf K H (.int i) (.type "int")
 |str (x:Str):TyOf K H (.str x) (.type "str")
 |flt (x:UInt64):TyOf K H (.flt x) (.type "float")
 |lst {a:Addr}{xs:List V} (e:H a=some (.lst xs)):TyOf K H (.ref a) (.type "list")
 |frz {a:Addr}{o:Obj}{xs:List V} (e:H a=some (.frz o (.lst xs))):TyOf K H (.ref a) (.type "list")
 |tup {a:Addr}{xs:List V} (e:H a=some (.tup xs)):TyOf K H (.ref a) (.type "tuple")
 |dK {a:Addr}{kvs:List (Key×V)} (e:H a=some (.dK kvs)):TyOf K H (.ref a) (.type "dict")
 |dT {a:Addr}{kvs:List (List Key×V)} (e:H a=some (.dT kvs)):TyOf K H (.ref a) (.type "dict")
 |ins {a C dx:Addr}{fs:List (Str×V)} (e:H a=some (.ins C dx fs)) (cl:Cls K C) (ha:W.findIn K (.ref C) "__class__"=some (some (.builtin "object.__class__")))
  (hn:W.specialIn K (.builtin "object.__class__") "__get__"=some (some (.builtin "getset_descriptor.__get__"))) (htk:W.takesIn K (.builtin "object.__class__")=some true)
  (hm:W.mroIn K C (.type "object")=some true):TyOf K H (.ref a) (.ref C)
end
structure Room(k:Nat)(A:Around):Prop where
 hd:A.handled=none
 dp:A.depth+3*k+5<recursionLimit
 un:A.units+16*k+200<cLine
def Room.mono(r:Room k A)(h:j<=k):Room j A:=⟨r.hd,by have:=r.dp;omega,by have:=r.un;omega⟩
def Room.deeper(r:Room (k+1) A)(env:Env):Room k (A.deeper env):=
 ⟨r.hd,by have:=r.dp;show A.depth+1+3*k+5<_;omega,by have:=r.un;show A.units+3+16*k+200<_;omega⟩
def Room.depth(r:Room k A):A.depth<recursionLimit:=by have:=r.dp;omega
def Room.units(r:Room k A):A.units+64<cLine:=by have:=r.un;omega
def nc:TA:=λ_ H Q=>Q [] H
def fm(ta:TE)(tr:TA):TA:=λσ H Q=>ta σ H λx H1=>tr σ H1 λxs H2=>Q (x::xs) H2
section
variable{X:Cx}{e:Expr}{es:List Expr}{te:TE}{t:TA}{pos:Pos}
def kM:PA X [] nc:=λ_ _ _ _ H Q I h=>Calls.spliced_nil ⟨[],H,I,.nil,h⟩
def fj(ha:PE X e te)(hr:PA X es t)(hs:starEach (e::es) X.env=(false,eval e X.env)::starEach es X.env):PA X (e::es) (fm te t):=by intro pos pins s σ H Q I h;rw[hs];show wpAny _ _ (spliced ((false,eval e X.env)::backTo pos (starEach es X.env))) _ _ s;refine Calls.spliced_cons (thn (ha pins s σ H _ I h) λu s1 zz=>exA zz λx H1 I1 r1 q1=>?_);exact thn (hr pos pins s1 σ H1 _ I1 q1) λus s2 zz=>exA zz λxs H2 I2 r2 q2=>⟨x::xs,H2,I2,.cons r1 r2,q2⟩
def tTup(t:TA):TE:=λσ H Q=>t σ H λxs H1=>xs.length<=sizeLine/\∀p,H1 p=none->Q (.ref p) (upd H1 p (.tup xs))
def tLst(t:TA):TE:=λσ H Q=>t σ H λxs H1=>xs.length<=sizeLine/\∀p,H1 p=none->Q (.ref p) (upd H1 p (.lst xs))
def xf{x1}(h:PA X es t):PE X (.Tuple es x1 pos) (tTup t):=by intro pins s σ H Q I hq;refine wpAny_Tuple_spliced (thn (h pos pins s σ H _ I hq) λus s1 ⟨xs,H1,I1,r,z,q⟩=>⟨by rw[<- r.length];exact z,?_⟩);have hf:H1 s1.heap.objs.size=none:=I1.hok.fresh (r_ _);refine⟨.ref s1.heap.objs.size,upd H1 s1.heap.objs.size (.tup xs),I1.laid (t':=s1.toks) (λb u e=>w_ _ e) (r_ _) ?_,rfl,q _ hf⟩;exact⟨z,us,r,⟨_,AW _ rfl,rfl,_,rfl⟩⟩
def yI(h:PA X es t):PE X (.List es pos) (tLst t):=by intro pins s σ H Q I hq;refine wpAny_List_spliced (thn (h pos pins s σ H _ I hq) λus s1 ⟨xs,H1,I1,r,z,q⟩=>⟨by rw[<- r.length];exact z,?_⟩);have hf:H1 s1.heap.objs.size=none:=I1.hok.fresh (r_ _);refine⟨.ref s1.heap.objs.size,upd H1 s1.heap.objs.size (.lst xs),I1.laid (t':=s1.toks) (λb u e=>w_ _ e) (r_ _) ?_,rfl,q _ hf⟩;exact⟨z,us,0,r,AW _ rfl⟩
end
abbrev Sp:=List V->Hp->VK->XK->Prop
abbrev CXT:=List Env->Hp->Shared->XK->Value->Shared->Prop
structure Env0(P:Program)(w:World)(K:W.Frag)(mg:Cj)(base:Heap)(A:Around)(outer:List Env)(s:Shared)(H:Hp):Prop where
 frames:A.frames=some outer
 mod:Mod K mg base
 bs:∀b o,base.get? b=some o->s.heap.get? b=some o/\H b=none
 bsz:base.objs.size<=s.heap.objs.size
 funs:s.heap.FunFrames base outer
 frf:∀b∈frs outer,H b=none
 hok:HOk P w H s.heap
 bare:AllBare s.gens
def CE(outer:List Env)(P:Program)(w:World)(H:Hp)(s:Shared)(Q:VK)(u:Value)(s':Shared):Prop:=
 ∃v H',s'.os=s.os/\AllBare s'.gens/\Un (frs outer) [] H H' s.heap s'.heap/\HOk P w H' s'.heap/\RelV v u/\Q v H'
def CR(CX:CXT)(outer:List Env)(P:Program)(w:World)(H:Hp)(s:Shared)(Q:VK)(E:XK)(r:Result)(s':Shared):Prop:=
 match r with
 |.ok (.ret u)=>CE outer P w H s Q u s'
 |.ok _=>False
 |.error e=>CX outer H s E e s'
structure FnOk(P:Program)(w:World)(K:W.Frag)(mg:Cj)(base:Heap)(CX:CXT)(k:Nat)(f:Addr)(fd:FuncData)(ps:List Str)(sp:Sp):Prop where
 len:∀vs H Q E,sp vs H Q E->vs.length=ps.length
 run:∀(A:Around) (outer:List Env) (s:Shared) (H:Hp) (args:Args) (us:List Value) (vs:List V) (Q:VK) (E:XK),Room k A->Env0 P w K mg base A outer s H->BindsTo s fd args (ps.zip us)->Vals vs us->sp vs H Q E->
  codeAny (model P w) A (.call (.ref f) args) (CR CX outer P w H s Q E) s
def FnOk.imp{P:Program}{w:World}{K:W.Frag}{mg:Cj}{base:Heap}{CX:CXT}{k:Nat}{f:Addr}{fd:FuncData}{ps:List Str}{sp sp':Sp}(F:FnOk P w K mg base CX k f fd ps sp)
 (h:∀vs H Q E,sp' vs H Q E->sp vs H Q E):FnOk P w K mg base CX k f fd ps sp':=
 ⟨λvs H Q E q=>F.len vs H Q E (h _ _ _ _ q),λA outer s H args us vs Q E hr he hb hv hs=>F.run A outer s H args us vs Q E hr he hb hv (h _ _ _ _ hs)⟩
section
variable{X:Cx}{pins:Ck}{σ:St}{H:Hp}{s s':Shared}
def Inv.env0(I:Inv X pins σ H s):Env0 X.prog X.w X.K X.mg X.base X.A X.stack s H:=
 ⟨I.ok.frames,I.ok.mod,I.bs,AJ I.ok.bsz I.sz,I.stack,I.stkFree,I.hok,I.bare⟩
def Inv.after(I:Inv X pins σ H s)(h:CE X.stack X.prog X.w H s Q u s'):EP X pins σ Q u s':=by obtain⟨v,H',os,bare,un,hok,r,q⟩:=h;obtain⟨hh,g,d,t,os'⟩:=s';obtain rfl:os'=s.os:=os;exact⟨v,H',I.call (h':=hh) (g':=g) (d':=d) (t':=t) (ch:=[]) un hok bare (λb z=>absurd z (by simp)),r,q⟩
end
def Binds(K:W.Frag)(fd:FuncData)(ps:List Str)(ds:List Value):Prop:=
 ∀(s:Shared) (us:List Value),K.In s.heap->(us++ds).length=ps.length->BindsTo s fd ⟨us,[]⟩ (ps.zip (us++ds))
def Binds.all{K:W.Frag}{fd:FuncData}{ps:List Str}(h:∀us:List Value,us.length=ps.length->bindArgs fd ⟨us,[]⟩=pure (ps.zip us)):Binds K fd ps []:=λs us _ hl=>by rw[AN] at hl ⊢;exact .of_eq (h us hl)
def kG(CX:CXT)(X:Cx)(E:XK):Prop:=∀(pins:Ck) (σ:St) (H:Hp) (s:Shared) (e:Value) (s':Shared),Inv X pins σ H s->CX X.stack H s E e s'->X.xe e s'
structure FnScope(N P:List Str)(sc:Scope):Prop where
 kind:sc.kind=.function
 co:sc.isCoroutine=false
 gen:sc.isGenerator=false
 nd:N.Nodup
 pre:N.take P.length=P
 par:∀x∈P,sc.names.lookup x=some .local\/sc.names.lookup x=some .cell
 nofree:∀y∈sc.names,y.2 ≠ .free
theorem iy{kindOf:Str->Option NameKind}{x:Str}:∀{binds:List (Str×Value)}{m:Cj},(∀v,(x,v)∉binds)->bindL kindOf binds m x=m x
 | [],_,_=>rfl
 |
  (n,v)::r,m,h=>by
  unfold bindL;rw[iy λw hw=>h w (s_ _ hw)];split
  .have:x≠n:=by rintro rfl;exact h v y_
   simp [this]
  .rfl
theorem iQ{kindOf:Str->Option NameKind}{x:Str}:∀{binds:List (Str×Value)}{m:Cj},(∀v,(x,v)∉binds)->bindC kindOf binds m x=m x
 | [],_,_=>rfl
 |
  (n,v)::r,m,h=>by
  unfold bindC;rw[iQ λw hw=>h w (s_ _ hw)];split
  .rfl
  .have:x≠n:=by rintro rfl;exact h v y_
   simp [this]
theorem iB{kindOf:Str->Option NameKind}{x:Str}{v:Value}:∀{P:List Str}{vs:List Value}{i:Nat}{m:Cj},P.Nodup->P[i]?=some x->vs[i]?=some v->kindOf x=some .local->
 bindL kindOf (P.zip vs) m x=some v
 | [],_,_,_,_,h,_,_=>by simp at h
 |_::_,[],_,_,_,_,h,_=>by simp at h
 |
  p::P,w::vs,0,m,nd,h1,h2,hk=>by
  simp at h1 h2;subst h1;subst h2;show bindL kindOf ((p,w)::P.zip vs) m p=_;unfold bindL;rw[iy λv hv=>(Be.mp nd).1 (B9 hv).1,if_pos hk];simp
 |
  p::P,w::vs,i+1,m,nd,h1,h2,hk=>by
  show bindL kindOf ((p,w)::P.zip vs) m x=_;unfold bindL;exact iB (i:=i) (Be.mp nd).2 (by simpa using h1) (by simpa using h2) hk
theorem iH{kindOf:Str->Option NameKind}{x:Str}{v:Value}:∀{P:List Str}{vs:List Value}{i:Nat}{m:Cj},P.Nodup->P[i]?=some x->vs[i]?=some v->kindOf x≠some .local->
 bindC kindOf (P.zip vs) m x=some v
 | [],_,_,_,_,h,_,_=>by simp at h
 |_::_,[],_,_,_,_,h,_=>by simp at h
 |
  p::P,w::vs,0,m,nd,h1,h2,hk=>by
  simp at h1 h2;subst h1;subst h2;show bindC kindOf ((p,w)::P.zip vs) m p=_;unfold bindC;rw[iQ λv hv=>(Be.mp nd).1 (B9 hv).1,if_neg hk];simp
 |
  p::P,w::vs,i+1,m,nd,h1,h2,hk=>by
  show bindC kindOf ((p,w)::P.zip vs) m x=_;unfold bindC;exact iH (i:=i) (Be.mp nd).2 (by simpa using h1) (by simpa using h2) hk
noncomputable def bt (N:List Str) (vs:List V):St:=vs.map some++List.replicate (N.length-vs.length) none
noncomputable def bT (CX:CXT) (P:Program) (w:World) (K:W.Frag) (mg:Cj) (base:Heap) (N:List Str) (qual:Str) (scope:Scope) (f:Addr) (cd:Value) (A:Around) (outer:List Env) (s:Shared) (H:Hp) (E:XK):Cx where
 prog:=P
 w:=w
 K:=K
 mg:=mg
 base:=base
 A:=A.deeper (envOfC qual scope s.heap.objs.size f cd)
 N:=N
 s₀:=s
 H₀:=H
 env:=envOfC qual scope s.heap.objs.size f cd
 outer:=outer
 stack:=envOfC qual scope s.heap.objs.size f cd::outer
 ex:=[]
 calm:=true
 fn:=λ_=>true
 pn:=[]
 xe:=λe s'=>wpAny (model P w) (A.deeper (envOfC qual scope s.heap.objs.size f cd)) (leaving (envOfC qual scope s.heap.objs.size f cd) e) (λ_ s''=>CX outer H s E e s'') (λe' s''=>CX outer H s E e' s'') s'
def jU{sc:Scope}{n:Nat}{x:Str}(h:sc.names.lookup x=some .cell):∃c,(cellsFrom n sc.names []).lookup x=some c:=by have q:=W.cellsFrom_some sc.names n [] (.inl h);exact Bg.mp q
def iL{CX:CXT}{P:Program}{w:World}{K:W.Frag}{mg:Cj}{base:Heap}{N ps:List Str}{qual:Str}{scope:Scope}{f:Addr}{cd:Value}{A:Around}{outer:List Env}{s s1:Shared}{H:Hp}{E:XK}{us:List Value}{vs:List V}
 (S:FnScope N ps scope) (hd:A.handled=none) (e0:Env0 P w K mg base A outer s H) (hl:vs.length=ps.length) (r:Vals vs us)
 (x:InCallC s s.heap.objs.size (bindL (envOfC qual scope s.heap.objs.size f cd).kindOf (ps.zip us) λ_=>none) (cellsFrom (s.heap.objs.size+1) scope.names []) (bindC (envOfC qual scope s.heap.objs.size f cd).kindOf (ps.zip us) λ_=>none) s1):
 Inv (bT CX P w K mg base N qual scope f cd A outer s H E) [] (bt N vs) H s1:=by
 have hpl:ps.length<=N.length:=by have:=A0 List.length S.pre;rw[BJ] at this;omega
 obtain⟨h1,tk,rfl,hk⟩:=x.done;have noA:∀b:Addr,b∉(bT CX P w K mg base N qual scope f cd A outer s H E).ex:=λb z=>absurd (show b∈([]:List Addr) from z) (by simp);refine⟨⟨e0.mod,S.kind,rfl,rfl,r_ _,λy z c h1 h2=>?_,λy hy=>?_,λy c _ h=>?_,λ_=>hd,Around.frames_deeper e0.frames,.inr ⟨rfl,rfl⟩,λb z=>absurd z (noA b),e0.bs,e0.bsz,λb _ _=>noA b,λb z=>absurd z (noA b),e0.funs,e0.frf⟩,
  rfl,e0.bare,Un.kept hk,⟨_,x.toInCall.ns,λi y v h1 h2 h3=>?_⟩,λy c h=>⟨_,x.cell y c h⟩,e0.hok.fresh (r_ _),λy c h=>?_,λp hp=>absurd (show p∈([]:Ck) from hp) (by simp),e0.hok.kept hk,?_⟩
 .exact name_of_addr x.apart (A7 h1) (A7 h2)
 .have hy:scope.names.lookup y=some .cell\/scope.names.lookup y=some .free:=hy;rcases hy with hy |hy
  .exact jU hy
  .exact absurd rfl (S.nofree _ (A7 hy))
 .exact Nat.le_of_lt (x.above y c (A7 h))
 .have hi:i<vs.length:=by
   unfold bt at h2;by_cases hi:i<vs.length
   .exact hi
   .rw[BM (by simpa using hi)] at h2;rw[A4] at h2;split at h2 <;> cases h2
  have ha:vs[i]?=some v:=by
   unfold bt at h2;rw[AM (by simpa using hi),x_] at h2;cases e:vs[i]? with
   |none=>rw[e] at h2;cases h2
   |some a=>rw[e] at h2;cases h2;rfl
  obtain⟨u,hu,rv⟩:=r.get ha;have hp:ps[i]?=some y:=by rw[<- S.pre,List.getElem?_take_of_lt (by omega)];exact h1
  have ndP:ps.Nodup:=by rw[<- S.pre];exact S.nd.sublist (List.take_sublist _ _)
  refine⟨u,rv,?_⟩;rcases S.par y (Bd hp) with k |k
  .exact .inl ⟨k,iB ndP hp hu k⟩
  .obtain⟨c,e⟩:=jU (n:=s.heap.objs.size+1) k;refine .inr ⟨.inl k,c,e,?_⟩;have q:=x.cell y c e;rw[iH ndP hp hu (by show scope.names.lookup y≠_;rw[k];decide)] at q;exact q
 .exact e0.hok.fresh (Nat.le_of_lt (x.above y c (A7 h)))
 .unfold bt;show _=N.length;rw[k_,e_,Bl];omega
def zJ{CX:CXT}{P:Program}{w:World}{K:W.Frag}{mg:Cj}{base:Heap}{k:Nat}{f:Addr}{name qual:Str}{params:Arguments}{body:List Stmt}{scope:Scope}{dV kV doc pm cdv ct oc:Value}{an od:Option Addr}
 {osl:Array (Option Value)}{N ps:List Str}{sp:Sp} (lk:K.lookup f=some ⟨oc,od,.func (W.fnOf name qual params body scope dV kV doc pm an cdv ct),osl⟩) (hcd:W.codeIn K cdv qual=true) (S:FnScope N ps scope)
 (len:∀vs H Q E,sp vs H Q E->vs.length=ps.length)
 (a_:∀(A:Around) (outer:List Env) (s:Shared) (H:Hp) (vs:List V) (Q:VK) (E:XK),Room k (A.deeper (envOfC qual scope s.heap.objs.size f cdv))->sp vs H Q E->
  ∃t,PSs (bT CX P w K mg base N qual scope f cdv A outer s H E) body t/\t { nx:=λ_ H'=>Q .non H',rt:=Q } (bt N vs) H):
 FnOk P w K mg base CX (k+1) f (W.fnOf name qual params body scope dV kV doc pm an cdv ct) ps sp:=by
 refine⟨len,λA outer s H args us vs Q E hr e0 hb r hsp=>?_⟩;have hl:=len _ _ _ _ hsp;have KX:K.In s.heap:=e0.mod.kin.keeps λb o e=>(e0.bs b o e).1;have lim:s.heap.NoLimit:=e0.mod.nolimit.keeps λb o e=>(e0.bs b o e).1;have hkind:∀y∈ps.zip us,scope.names.lookup y.1=some .local\/(scope.names.lookup y.1=some .cell/\((cellsFrom (s.heap.objs.size+1) scope.names []).lookup y.1).isSome=true):=λ⟨n,v⟩ hy=>by
  rcases S.par n (B9 hy).1 with q |q
  .exact .inl q
  .exact .inr ⟨q,W.cellsFrom_some _ _ _ (.inl q)⟩
 refine codeAny_call_function hr.depth (KX _ _ lk) rfl S.co S.gen rfl (W.codeRec_of KX hcd) (hb _ _ _ _ ?_);refine wpAny_newFunctionEnv_cells S.kind hkind λenv he s1 x=>?_;subst he;refine⟨lim.keeps x.toInCall.keep,codeAny_func ?_⟩;obtain⟨t,ht,hq⟩:=a_ A outer s H vs Q E (hr.deeper _) hsp;have I:Inv (bT CX P w K mg base N qual scope f cdv A outer s H E) [] (bt N vs) H s1:=iL S hr.hd e0 hl r x;refine z_ (ht [] s1 (bt N vs) H _ I hq) (λfl s' hs=>?_) λe s' hs=>hs;have fin:∀{σ':St}{H':Hp}{v:V}{u:Value},Inv (bT CX P w K mg base N qual scope f cdv A outer s H E) [] σ' H' s'->RelV v u->Q v H'->CE outer P w H s Q u s':=
  λ{σ' H' v u} J rv q=>⟨v,H',J.os,J.bare,J.base,J.hok,rv,q⟩
 cases fl with
 |ret u=>obtain⟨v,σ',H',J,rv,q⟩:=hs;exact fin J rv q
 |next=>obtain⟨σ',H',J,q⟩:=hs;exact fin (v:=V.non) (u:=Value.none) J rfl q
 |brk=>obtain⟨_,_,_,q⟩:=hs;exact False.elim q
 |cont=>obtain⟨_,_,_,q⟩:=hs;exact False.elim q
section
variable{X:Cx}{x:Str}{p pos:Pos}{e:Expr}{es:List Expr}{t:TA}{id T:String}{r:List V->Hp->VK->Prop}
def tCB(r:List V->Hp->VK->Prop)(t:TA):TE:=λσ H Q=>t σ H λvs H1=>r vs H1 Q
def qx(hc:CallR X (.builtin id) r)(hg:Gl X x)(hm:X.mg x=none)(hv:bootBuiltins x=some (.builtin id))(ha:PA X (e::es) t)(hn:x ≠ "__name__")(hdb:(x==("__debug__" : Str))=false)
 (he:starEach (e::es) X.env=(false,eval e X.env)::starEach es X.env) (hpl:(backTo pos (starEach es X.env)).any (·.1)=false):PE X (.Call (.Name x p) (e::es) [] pos) (tCB r t):=by
 intro pins s σ H Q I h;refine BB (eT I hg hm hv ?_ hn hdb);exact PyProof.Rows.callWith_builtin1 (thn (ha pos pins s σ H _ I h) λus s1 zz=>exA zz λvs H1 I1 r1 q1=>hc pins s1 σ H1 vs us Q I1 r1 q1) he hpl
def ql(hc:CallR X (.type T) r)(hg:Gl X x)(hm:X.mg x=none)(hv:bootBuiltins x=some (.type T))(ha:PA X (e::es) t)(hn:x ≠ "__name__")(hdb:(x==("__debug__" : Str))=false)
 (he:starEach (e::es) X.env=(false,eval e X.env)::starEach es X.env) (hpl:(backTo pos (starEach es X.env)).any (·.1)=false):PE X (.Call (.Name x p) (e::es) [] pos) (tCB r t):=by
 intro pins s σ H Q I h;refine BB (eT I hg hm hv ?_ hn hdb);exact BI (thn (ha pos pins s σ H _ I h) λus s1 zz=>exA zz λvs H1 I1 r1 q1=>hc pins s1 σ H1 vs us Q I1 r1 q1) he hpl
end
end L2
namespace HT
open PySem PyProof.Rows
section
variable{prog:Program}{w:World}{A:Around}{E:Cm}{s:Shared}
def cat_tup(ht:IsTup s.heap t vs.toArray)(hb:IsTup s.heap b ws.toArray)(hv:vs≠[])
 (h1:ws=[]->Q (.ref t) s) (h2:ws≠[]->Q (.ref s.heap.objs.size) { s with heap:=s.heap.push { cls:=.type "tuple",data:=.seq (vs++ws).toArray } })
 (hsz:vs.length+ws.length<=sizeLine):wpAny (model prog w) A (binaryOp .Add (.ref t) (.ref b)) Q E s:=by
 obtain⟨⟨cls,dd,data,sl⟩,ho,hc,n,hd⟩:=id ht;obtain⟨⟨cls2,dd2,data2,sl2⟩,ho2,hc2,n2,hd2⟩:=id hb;simp only at hc hd hc2 hd2;subst hc hd hc2 hd2;have e:vs.toArray++ws.toArray=(vs++ws).toArray:=by simp
 by_cases hw:ws=[]
 .exact concat_meets ⟨_,ho,rfl⟩ ⟨_,ho2,rfl⟩ noFill_tuple_add seq_tuple_add B0 BW (BV _ _)
   (tuple_addW1 t b vs.toArray ws.toArray n n2 dd dd2 sl sl2 (by simpa using hv) (by simp [hw])) ⟨ho,ho2,h1 hw⟩
 .refine concat_meets ⟨_,ho,rfl⟩ ⟨_,ho2,rfl⟩ noFill_tuple_add seq_tuple_add B0 BW (BV _ _)
   (tuple_addW2 t b vs.toArray ws.toArray n n2 dd dd2 sl sl2 (by simpa using hv) (by simpa using hw) (by rw[q_,q_];exact hsz)) ⟨ho,ho2,?_⟩
  rw[e];exact h2 hw
noncomputable def sIx (n d:Nat):Option Int->Nat
 |none=>d
 |some v=>if v<0 then (v+(n:Int)).toNat else min v.toNat n
def sIx_none(n d:Nat):sIx n d none=d:=rfl
def sIx_nat(n d k:Nat):sIx n d (some (k:Int))=min k n:=by show (if (k:Int)<0 then ((k:Int)+(n:Int)).toNat else min (k:Int).toNat n)=min k n;rw[if_neg (by omega),Int.toNat_natCast]
def yO(n d:Nat)(hd:d<=n)(o:Option Int):sIx n d o<=n:=by
 cases o with
 |none=>exact hd
 |
  some v=>
  show (if v<0 then (v+(n:Int)).toNat else min v.toNat n)<=n;by_cases hv:v<0
  .rw[if_pos hv];omega
  .rw[if_neg hv];exact Nat.min_le_right _ _
def l5(v:Int)(n d:Nat):(if v<0 then max (v+(n:Int)) 0 else min v (n:Int))=((sIx n d (some v):Nat):Int):=by
 show (if v<0 then max (v+(n:Int)) 0 else min v (n:Int))=(((if v<0 then (v+(n:Int)).toNat else min v.toNat n):Nat):Int);by_cases hv:v<0
 .simp only[if_pos hv];omega
 .simp only[if_neg hv];omega
def nC(lo hi:Option Int)(n:Nat):Builtin.Slice.sliceAdjust lo hi 1 (n:Int)=(((sIx n 0 lo:Nat):Int),((sIx n n hi:Nat):Int)):=by
 have h1:¬ ((1:Int)<0):=by omega
 unfold Builtin.Slice.sliceAdjust;simp only[h1,BK];refine Prod.ext ?_ ?_
 .cases lo with
  |none=>rfl
  |some v=>exact l5 v n 0
 .cases hi with
  |none=>rfl
  |some v=>exact l5 v n n
def mz(i j:Nat):Builtin.Slice.slicePlaces (i:Int) (j:Int) 1=j-i:=by
 unfold Builtin.Slice.slicePlaces;have h1:(1:Int)>0:=by omega
 simp only[h1,BH,Int.ediv_one];split <;> omega
def gG(p:IsPart v o)(h:Q o s):wpAny (model prog w) A (Builtin.Slice.slicePartIndex v) Q E s:=by
 cases p with
 |none=>exact slicePart_none h
 |int i t=>exact slicePart_int h
def fP{sl:Addr}{vl vu:Value}{lo hi:Option Int}{n:Nat}{Q:Int×Int×Nat->Shared->Prop}(hs:s.heap.IsSliceOf sl vl vu .none)(pl:IsPart vl lo)(pu:IsPart vu hi)
 (h:Q (((sIx n 0 lo:Nat):Int),1,sIx n n hi-sIx n 0 lo) s):wpAny (model prog w) A (Builtin.Slice.sliceApplied (.ref sl) (pure (n:Int))) Q E s:=by
 obtain⟨os,hos,hcs,hds⟩:=id hs;unfold Builtin.Slice.sliceApplied Builtin.Slice.sliceFields;refine g_ (g_ (wpAny_field hos hds (x:=vl) rfl (g_ (wpAny_field hos hds (x:=vu) rfl (g_ (wpAny_field hos hds (x:=.none) rfl (l_ ?_)))))));refine g_ (slicePart_none ?_);show wpAny _ _ (if ((1:Int)==0)=true then _ else _) _ _ s;rw[if_neg (by decide)];refine g_ (gG pl (g_ (gG pu (g_ (l_ ?_)))));show wpAny _ _ (match Builtin.Slice.sliceAdjust lo hi 1 (n:Int) with |(lo,hi)=>pure (lo,(1:Int),Builtin.Slice.slicePlaces lo hi 1)) _ _ s;rw[nC lo hi n];show wpAny _ _ (pure (((sIx n 0 lo:Nat):Int),(1:Int),Builtin.Slice.slicePlaces ((sIx n 0 lo:Nat):Int) ((sIx n n hi:Nat):Int) 1)) _ _ s;rw[mz];exact l_ h
def rC(xs:Array Value)(i k:Nat):((List.range k).filterMap λ(m:Nat)=>xs[((i:Int)+(m:Int)*1).toNat]?).toArray=((xs.toList.drop i).take k).toArray:=by
 have e:(λ(m:Nat)=>xs[((i:Int)+(m:Int)*1).toNat]?)=λm=>xs[i+m]?:=by
  funext m;have:((i:Int)+(m:Int)*1).toNat=i+m:=by omega
  rw[this]
 rw[e]
 have:=pick_run xs i k
 rw[List.filterMap_map] at this;have e2:((λx=>xs[x]?) ∘ λx=>i+x)=λm=>xs[i+m]?:=rfl;rw[e2] at this;rw[this]
def getItem_tuple_cut{t sl:Addr}{items:Array Value}{vl vu:Value}{lo hi:Option Int}{Q:Cm}(ht:IsTup s.heap t items)(hs:s.heap.IsSliceOf sl vl vu .none)(pl:IsPart vl lo)(pu:IsPart vu hi)
 (hw:¬ (sIx items.size 0 lo=0/\sIx items.size items.size hi=items.size))
 (h:Q (.ref s.heap.objs.size) { s with heap:=s.heap.push { cls:=.type "tuple",data:=.seq ((items.toList.drop (sIx items.size 0 lo)).take (sIx items.size items.size hi-sIx items.size 0 lo)).toArray } })
 (hsz:items.size<=sizeLine):wpAny (model prog w) A (getItem (.ref t) (.ref sl)) Q E s:=by
 have htake:sizeOk (.seq ((items.toList.drop (sIx items.size 0 lo)).take (sIx items.size items.size hi-sIx items.size 0 lo)).toArray):=by show ((items.toList.drop (sIx items.size 0 lo)).take (sIx items.size items.size hi-sIx items.size 0 lo)).toArray.size<=sizeLine;rw[q_,BJ,List.length_drop,Cf];omega
 have hj:sIx items.size items.size hi<=items.size:=yO _ _ (r_ _) hi;obtain⟨os,hos,hcs,hds⟩:=id hs;have hTs:s.TypeIs (.ref sl) "slice":=⟨os,hos,hcs⟩;unfold getItem;try with_reducible refine BN ?_
 first |refine g_ (l_ ?_) |skip
 refine g_ (wpAny_sequenceKey ht.typeIs (by decide) ?_);refine g_ (wpAny_callSpecial?_slot (name:=Str.ofString "__getitem__") ht.typeIs PyProof.Rows.slot_tuple_getitem
  (wpAny_call_entry PyProof.Rows.slot_tuple_getitem ht.typeIs entry_tuple_getitem ?_ (args_tuple_getitem _ _)))
 show wpAny _ _ (Builtin.Tuple.tupleItemsOf (.ref t) >>= _) _ _ s;refine g_ (tupleItemsOf_ ht ?_);refine g_ (wpAny_typeOf hTs ?_);rw[if_pos (by decide)];refine g_ (fP hs pl pu ?_);have hno:¬ ((((sIx items.size 0 lo:Nat):Int)==0&&(1:Int)==1&&(sIx items.size items.size hi-sIx items.size 0 lo)==items.size)=true):=by intro q;rw[i_,i_] at q;have q1:((sIx items.size 0 lo:Nat):Int)=0:=eq_of_beq q.1.1;have q2:sIx items.size items.size hi-sIx items.size 0 lo=items.size:=eq_of_beq q.2;exact hw ⟨by omega,by omega⟩
 show wpAny _ _ (if (((sIx items.size 0 lo:Nat):Int)==0&&(1:Int)==1&&(sIx items.size items.size hi-sIx items.size 0 lo)==items.size)=true then _ else _) _ _ s;rw[if_neg hno,rC];first
  |exact g_ (m:=Builtin.Tuple.tupleExact _) (BF (l_ ⟨_,rfl,l_ h⟩) htake)
  |exact g_ (m:=Builtin.Tuple.tupleExact _) (BF (g_ (l_ (l_ ⟨_,rfl,l_ h⟩))) htake)
  |exact g_ (g_ (m:=Builtin.Tuple.tupleExact _) (BF (l_ (l_ ⟨_,rfl,l_ h⟩)) htake))
  |exact g_ (g_ (m:=Builtin.Tuple.tupleExact _) (BF (l_ ⟨_,rfl,l_ h⟩) htake))
end
end HT
namespace L2
open PySem PySem.Spec PyProof.Rows
abbrev TO:=St->Hp->(Option Int->Hp->Prop)->Prop
def PO(X:Cx)(e:Option Expr)(t:TO):Prop:=
 ∀
  (pins:Ck) (s:Shared) (σ:St) (H:Hp) (Q:Option Int->Hp->Prop),Inv X pins σ H s->t σ H Q->
  wpAny (model X.prog X.w) X.A (evalPart e X.env) (λu s'=>∃o H',Inv X pins σ H' s'/\IsPart u o/\Q o H') X.xe s
def vW:TO:=λ_ H Q=>Q none H
def zc(t:TE):TO:=λσ H Q=>t σ H λx H1=>∃i,x=.int i/\Q (some i) H1
section
variable{X:Cx}{e:Expr}{te:TE}{lo hi:Option Expr}{tl th:TO}{pos p2:Pos}
def uI:PO X none vW:=by intro pins s σ H Q I h;rw[evalPart_none];exact l_ ⟨none,H,I,.none,h⟩
def vM(h:PE X e te):PO X (some e) (zc te):=by intro pins s σ H Q I hw;rw[evalPart_some];refine thn (h pins s σ H _ I hw) λu s1 zz=>exA zz λx H1 I1 r1 q1=>?_;obtain⟨i,rfl,q⟩:=q1;obtain⟨t,rfl⟩:=r1;exact⟨some i,H1,I1,.int i t,q⟩
def SlR(X:Cx)(r:V->Option Int->Option Int->Hp->VK->Prop):Prop:=
 ∀
  (pins:Ck) (s:Shared) (σ:St) (H:Hp) (x:V) (v vl vu:Value) (lo hi:Option Int) (sl:Addr) (Q:VK),Inv X pins σ H s->RelV x v->s.heap.IsSliceOf sl vl vu .none->IsPart vl lo->IsPart vu hi->r x lo hi H Q->
  ∃T id,typeLookup (.type T) "__getitem__"=pure (some (.builtin id))/\s.TypeIs v T/\wpAny (model X.prog X.w) X.A (getItem v (.ref sl)) (EP X pins σ Q) X.xe s
def SlR.or(h:SlR X r)(h':SlR X r'):SlR X (λx lo hi H Q=>r x lo hi H Q\/r' x lo hi H Q):=by
 intro pins s σ H x v vl vu lo hi sl Q I rx hs pl pu q;rcases q with q |q
 .exact h pins s σ H x v vl vu lo hi sl Q I rx hs pl pu q
 .exact h' pins s σ H x v vl vu lo hi sl Q I rx hs pl pu q
def tSl(r:V->Option Int->Option Int->Hp->VK->Prop)(te:TE)(tl th:TO):TE:=λσ H Q=>te σ H λx H1=>tl σ H1 λl H2=>th σ H2 λu H3=>r x l u H3 Q
def rp(hr:SlR X r)(he:PE X e te)(hl:PO X lo tl)(hu:PO X hi th):PE X (.Subscript e (.Slice lo hi none p2) pos) (tSl r te tl th):=by intro pins s σ H Q I h;refine Subscript_ (thn (he pins s σ H _ I h) λv s1 zz=>exA zz λx H1 I1 r1 q1=>?_);refine wpAny_Slice (thn (hl pins s1 σ H1 _ I1 q1) λvl s2 ⟨l,H2,I2,pl,q2⟩=>thn (hu pins s2 σ H2 _ I2 q2) λvu s3 ⟨u,H3,I3,pu,q3⟩=>?_);rw[evalPart_none];refine l_ ?_;have I4:Inv X pins σ H3 { s3 with heap:=s3.heap.push { cls:=.type "slice",data:=.fields #[vl,vu,.none] } }:=I3.kept (t':=s3.toks) λb ob q=>w_ _ q;obtain⟨T,id,hT,ht,hg⟩:=hr pins { s3 with heap:=s3.heap.push { cls:=.type "slice",data:=.fields #[vl,vu,.none] } } σ H3 x v vl vu l u s3.heap.objs.size Q I4 r1 (Heap.IsSliceOf.new ..) pl pu q3;show wpAny (model X.prog X.w) X.A (subscriptTail e (.Slice lo hi none p2) v (.ref s3.heap.objs.size)) (EP X pins σ Q) X.xe { s3 with heap:=s3.heap.push { cls:=.type "slice",data:=.fields #[vl,vu,.none] } };exact tail_any (ops:=[.ref s3.heap.objs.size,v]) ht hT hg (by with_unfolding_all rfl)
noncomputable def eN (xs:List V) (lo hi:Option Int):List V:=(xs.drop (HT.sIx xs.length 0 lo)).take (HT.sIx xs.length xs.length hi-HT.sIx xs.length 0 lo)
def fB(xs:List V)(lo hi:Option Int):(eN xs lo hi).length<=xs.length:=by unfold eN;rw[BJ,List.length_drop];omega
def rj(K:W.Frag):V->Option Int->Option Int->Hp->VK->Prop:=λx lo hi H Q=>∃a xs,x=.ref a/\SqT K H a xs/\
 ¬ (HT.sIx xs.length 0 lo=0/\HT.sIx xs.length xs.length hi=xs.length)/\∀p,H p=none->Q (.ref p) (upd H p (.tup (eN xs lo hi)))
def xb:SlR X (rj X.K):=by
 intro pins s σ H x v vl vu lo hi sl Q I rx hs pl pu h;obtain⟨a,xs,rfl,hx,hw,q⟩:=h;cases rx;obtain⟨its,r,ht,hz⟩:=I.tuple hx;have hlen:its.toArray.size=xs.length:=by rw[q_];exact r.length.symm
 refine⟨"tuple",_,PyProof.Rows.slot_tuple_getitem.lookup,ht.typeIs,?_⟩;refine HT.getItem_tuple_cut ht hs pl pu (by rw[hlen];exact hw) ?_ (by rw[hlen];exact hz);rw[hlen];refine⟨.ref s.heap.objs.size,_,I.laid (t':=s.toks) (o:=.tup (eN xs lo hi)) (λb ob q=>w_ _ q) (r_ _) ?_,rfl,q _ (I.hok.fresh (r_ _))⟩;exact⟨AJ (fB xs lo hi) hz,_,(r.drop (HT.sIx xs.length 0 lo)).take (HT.sIx xs.length xs.length hi-HT.sIx xs.length 0 lo),IsTup.new _ _⟩
def jj(K:W.Frag):R2:=λx y H Q=>∃a b xs ys,x=.ref a/\y=.ref b/\SqT K H a xs/\SqT K H b ys/\xs≠[]/\xs.length+ys.length<=sizeLine/\
 (ys=[]->Q (.ref a) H)/\(ys≠[]->∀p,H p=none->Q (.ref p) (upd H p (.tup (xs++ys))))
def Vals.nil_iff(r:Vals xs us):us=[] ↔ xs=[]:=by
 cases r with
 |nil=>simp
 |cons _ _=>simp
def uV:OpR X (binaryOp .Add) (jj X.K):=by intro pins s σ H x y v u Q I rx ry h;obtain⟨a,b,xs,ys,rfl,rfl,ha,hb,hx,hz,q1,q2⟩:=h;cases rx;cases ry;obtain⟨its,r1,p1,_⟩:=I.tuple ha;obtain⟨its2,r2,p2,_⟩:=I.tuple hb;refine HT.cat_tup p1 p2 (λz=>hx (r1.nil_iff.mp z)) (λz=>⟨.ref a,H,I,rfl,q1 (r2.nil_iff.mp z)⟩) (λz=>?_) (by rw[<- r1.length,<- r2.length];exact hz);refine⟨.ref s.heap.objs.size,_,I.laid (t':=s.toks) (o:=.tup (xs++ys)) (λb ob q=>w_ _ q) (r_ _) ?_,rfl,q2 (λw=>z (r2.nil_iff.mpr w)) _ (I.hok.fresh (r_ _))⟩;exact⟨by rw[k_];exact hz,_,r1.append r2,IsTup.new _ _⟩
end
noncomputable def ixN (n:Nat) (i:Int):Option Nat:=if 0<=i then (if i<n then some i.toNat else none) else if -(n:Int)<=i then some (i+n).toNat else none
noncomputable def atI {α:Type} (xs:List α) (i:Int):Option α:=(ixN xs.length i).bind λj=>xs[j]?
def vh(h:ixN n i=some j):seqIndex? i n=some j/\j<n/\-(n:Int)<=i/\i<n:=by
 unfold ixN at h;by_cases h0:0<=i
 .rw[if_pos h0] at h;by_cases h1:i<n
  .rw[if_pos h1] at h;have e:i.toNat=j:=u_ h;exact⟨by rw[seqIndex_of h0 h1,e],by omega,by omega,h1⟩
  .rw[if_neg h1] at h;cases h
 .rw[if_neg h0] at h;by_cases h1:-(n:Int)<=i
  .rw[if_pos h1] at h;have e:(i+n).toNat=j:=u_ h;exact⟨by rw[seqIndex_neg (by omega) h1,e],by omega,h1,by omega⟩
  .rw[if_neg h1] at h;cases h
def lp(h:atI xs i=some v):∃j,seqIndex? i xs.length=some j/\xs[j]?=some v/\j<xs.length/\-(xs.length:Int)<=i/\i<xs.length:=by
 unfold atI at h;cases e:ixN xs.length i with
 |none=>rw[e] at h;cases h
 |some j=>rw[e] at h;obtain⟨h1,h2,h3,h4⟩:=vh e;exact⟨j,h1,h,h2,h3,h4⟩
def ff(b:Expr):Prop:=∀o i,subscripted b false o i=operate [o,i] (getItem o i)
def IxR(X:Cx)(r:R2):Prop:=
 ∀
  (value slice:Expr) (pins:Ck) (s:Shared) (σ:St) (H:Hp) (x y:V) (v u:Value) (Q:VK),Inv X pins σ H s->RelV x v->RelV y u->r x y H Q->
  subscripted slice false v u=operate [v,u] (getItem v u)->wpAny (model X.prog X.w) X.A (subscriptTail value slice v u) (EP X pins σ Q) X.xe s
def MtR(X:Cx)(id:String)(r:V->List V->Hp->VK->Prop):Prop:=
 ∀
  (pins:Ck) (s:Shared) (σ:St) (H:Hp) (x:V) (xs:List V) (v:Value) (us:List Value) (Q:VK),Inv X pins σ H s->RelV x v->Vals xs us->r x xs H Q->
  wpAny (model X.prog X.w) X.A (call (.builtin id) (v::us)) (EP X pins σ Q) X.xe s
section
variable{X:Cx}{a b:Expr}{ta tb:TE}{pos:Pos}
def IxR.or(h:IxR X r)(h':IxR X r'):IxR X (λx y H Q=>r x y H Q\/r' x y H Q):=by
 intro value slice pins s σ H x y v u Q I rx ry q hs;rcases q with q |q
 .exact h value slice pins s σ H x y v u Q I rx ry q hs
 .exact h' value slice pins s σ H x y v u Q I rx ry q hs
def mq(hr:IxR X r)(ha:PE X a ta)(hb:PE X b tb)(hs:ff b):PE X (.Subscript a b pos) (tOp r ta tb):=by intro pins s σ H Q I h;exact Subscript_ (rR ha hb I h λv u s2 x y H2 I2 rx ry q=>hr a b pins s2 σ H2 x y v u Q I2 rx ry q (hs _ _))
def mX(K:W.Frag):R2:=λx y H Q=>∃p xs i v,x=.ref p/\y=.int i/\SqL K H p xs/\atI xs i=some v/\Q v H
def mH(K:W.Frag):R2:=λx y H Q=>∃p xs i v,x=.ref p/\y=.int i/\SqT K H p xs/\atI xs i=some v/\Q v H
def uJ:IxR X (mX X.K):=by
 intro value slice pins s σ H x y v u Q I rx ry h hs;obtain⟨p,xs,i,z,rfl,rfl,hq,he,q⟩:=h;cases rx;obtain⟨t,rfl⟩:=ry;obtain⟨its,r,pl,hz⟩:=I.list hq;obtain⟨j,h1,h2,h3,h4,h5⟩:=lp he;obtain⟨w,ew,rw'⟩:=r.get h2;have hl:=r.length;have hn:=eJ;have fin:EP X pins σ Q w s:=⟨z,H,I,rw',q⟩;by_cases h0:0<=i
 .have hj:i.toNat=j:=by rw[seqIndex_of h0 h5] at h1;exact u_ h1
  exact item_listR pl.isList h0 (by omega) (by rw[hj];simpa using ew) fin hs
 .have hj:(i+(its.toArray.size:Int)).toNat=j:=by rw[seqIndex_neg (by omega) h4] at h1;rw[q_,<- hl];exact u_ h1
  exact subscriptTail_builtinR (x:=w) pl.isList.typeIs slot_list_getitem.lookup
   (wpAny_getItem_list_neg (Q:=λr s'=>r=w/\EP X pins σ Q r s') pl.isList (by omega) (by rw[q_] <;> omega) (by omega) (by rw[hj];simpa using ew) ⟨rfl,fin⟩) hs
def yG:IxR X (mH X.K):=by
 intro value slice pins s σ H x y v u Q I rx ry h hs;obtain⟨p,xs,i,z,rfl,rfl,hq,he,q⟩:=h;cases rx;obtain⟨t,rfl⟩:=ry;obtain⟨its,r,pl,hz⟩:=I.tuple hq;obtain⟨j,h1,h2,h3,h4,h5⟩:=lp he;obtain⟨w,ew,rw'⟩:=r.get h2;have hl:=r.length;have hn:=eJ;have fin:EP X pins σ Q w s:=⟨z,H,I,rw',q⟩;exact subscriptTail_builtinR (x:=w) pl.typeIs slot_tuple_getitem.lookup
  (getItem_tuple (j:=j) (Q:=λr s'=>r=w/\EP X pins σ Q r s') pl (by omega) (by omega) (by rw[q_,<- hl];exact h1) (by simpa using ew) ⟨rfl,fin⟩) hs
def jw(lo hi:Option Int)(n:Nat):(sliceBounds lo hi none n).1=((HT.sIx n 0 lo:Nat):Int)/\(sliceBounds lo hi none n).2.1=((HT.sIx n n hi:Nat):Int)/\(sliceBounds lo hi none n).2.2=1:=by
 refine⟨?_,?_,rfl⟩
 .cases lo with
  |none=>simp [sliceBounds,HT.sIx]
  |
   some i=>
   simp only[sliceBounds,HT.sIx,Option.getD_none,show (1:Int)>0 by decide,BH];by_cases h:i<0
   .simp only[h,BH] <;> omega
   .simp only[h,BK] <;> omega
 .cases hi with
  |none=>simp [sliceBounds,HT.sIx]
  |
   some i=>
   simp only[sliceBounds,HT.sIx,Option.getD_none,show (1:Int)>0 by decide,BH];by_cases h:i<0
   .simp only[h,BH] <;> omega
   .simp only[h,BK] <;> omega
def ja(its:List Value)(lo hi:Option Int):slicePick its.toArray lo hi none=((its.drop (HT.sIx its.length 0 lo)).take (HT.sIx its.length its.length hi-HT.sIx its.length 0 lo)).toArray:=by obtain⟨h1,h2,h3⟩:=jw lo hi its.toArray.size;unfold slicePick;rw[h1,h2,h3];simp only[sliceRange_one,pick_run,q_] <;> rfl
def rQ(K:W.Frag):V->Option Int->Option Int->Hp->VK->Prop:=λx lo hi H Q=>∃a xs,x=.ref a/\SqL K H a xs/\∀p,H p=none->Q (.ref p) (upd H p (.lst (eN xs lo hi)))
def vw:SlR X (rQ X.K):=by intro pins s σ H x v vl vu lo hi sl Q I rx hs pl pu h;obtain⟨a,xs,rfl,hx,q⟩:=h;cases rx;obtain⟨its,r,ht,hz⟩:=I.list hx;have hlen:=r.length;refine⟨"list",_,slot_list_getitem.lookup,ht.isList.typeIs,?_⟩;refine wpAny_getItem_list_slice ht.isList hs pl pu .none (by simp) ?_ (by rw[q_] <;> omega);rw[ja,<- hlen];refine⟨.ref s.heap.objs.size,_,I.laid (t':=s.toks) (o:=.lst (eN xs lo hi)) (λb ob q=>w_ _ q) (r_ _) ?_,rfl,q _ (I.hok.fresh (r_ _))⟩;exact⟨AJ (fB xs lo hi) hz,_,0,(r.drop (HT.sIx xs.length 0 lo)).take (HT.sIx xs.length xs.length hi-HT.sIx xs.length 0 lo),AW _ rfl⟩
noncomputable def flatV:V->Bool
 |.non=>true
 |.bl _=>true
 |.int _=>true
 |.str _=>true
 |_=>false
noncomputable def eqV:V->V->Bool
 |.non,.non=>true
 |.bl a,.bl b=>a==b
 |.bl a,.int b=>(if a then 1 else 0)==b
 |.int a,.bl b=>a==(if b then 1 else 0)
 |.int a,.int b=>a==b
 |.str a,.str b=>a==b
 |_,_=>false
def wg(ry:RelV y u)(rx:RelV x v)(fy:flatV y=true)(fx:flatV x=true):SeqAt.EqAt A s u v (eqV y x):=by
 cases y with
 |
  non=>
  cases ry;cases x with
  |non=>cases rx;exact SeqAt.EqAt.same _
  |bl b=>cases rx;exact SeqAt.EqAt.none_bool b
  |int b=>obtain⟨t,rfl⟩:=rx;exact SeqAt.EqAt.none_int b t
  |str b=>obtain⟨t,rfl⟩:=rx;exact SeqAt.EqAt.none_str b t
  |_=>exact absurd (show false=true from fx) h_
 |
  bl a=>
  cases ry;cases x with
  |non=>cases rx;exact SeqAt.EqAt.bool_none a
  |bl b=>cases rx;exact SeqAt.EqAt.bool_bool a b
  |int b=>obtain⟨t,rfl⟩:=rx;exact SeqAt.EqAt.bool_int a b t
  |str b=>obtain⟨t,rfl⟩:=rx;exact SeqAt.EqAt.bool_str a b t
  |_=>exact absurd (show false=true from fx) h_
 |
  int a=>
  obtain⟨t',rfl⟩:=ry;cases x with
  |non=>cases rx;exact SeqAt.EqAt.int_none a t'
  |bl b=>cases rx;exact SeqAt.EqAt.int_bool a t' b
  |int b=>obtain⟨t,rfl⟩:=rx;exact SeqAt.EqAt.int_int a t' b t
  |str b=>obtain⟨t,rfl⟩:=rx;exact SeqAt.EqAt.int_str a t' b t
  |_=>exact absurd (show false=true from fx) h_
 |
  str a=>
  obtain⟨t',rfl⟩:=ry;cases x with
  |non=>cases rx;exact SeqAt.EqAt.str_none a t'
  |bl b=>cases rx;exact SeqAt.EqAt.str_bool a t' b
  |int b=>obtain⟨t,rfl⟩:=rx;exact SeqAt.EqAt.str_int a t' b t
  |str b=>obtain⟨t,rfl⟩:=rx;exact SeqAt.EqAt.str_str a t' b t
  |_=>exact absurd (show false=true from fx) h_
 |_=>exact absurd (show false=true from fy) h_
noncomputable def eqU (x:V) (u:Value):Bool:=match u with
 |.none=>eqV .non x
 |.bool b=>eqV (.bl b) x
 |.int i _=>eqV (.int i) x
 |.str z _=>eqV (.str z) x
 |_=>false
def oJ(r:RelV y u)(f:flatV y=true):eqU x u=eqV y x:=by
 cases y with
 |non=>cases r;rfl
 |bl b=>cases r;rfl
 |int i=>obtain⟨t,rfl⟩:=r;rfl
 |str z=>obtain⟨t,rfl⟩:=r;rfl
 |_=>exact absurd (show false=true from f) h_
theorem ig:∀{xs:List V}{us:List Value},Vals xs us->xs.all flatV=true->us.any (eqU x)=xs.any λy=>eqV y x
 |_,_,.nil,_=>rfl
 |
  y::xs,u::us,.cons r t,f=>by
  rw[B1,i_] at f;rw[A8,A8,oJ r f.1,ig t f.2]
theorem fY(rx:RelV x v)(fx:flatV x=true):∀{xs:List V}{us:List Value},Vals xs us->xs.all flatV=true->∀u∈us,SeqAt.EqAt A s u v (eqU x u)
 |_,_,.nil,_=>λu hu=>by cases hu
 |
  y::xs,u::us,.cons r t,f=>λu' hu=>by
  rw[B1,i_] at f;rcases AL.mp hu with rfl |hu
  .rw[oJ r f.1];exact wg r rx f.1 fx
  .exact fY rx fx t f.2 u' hu
noncomputable def inV (x:V) (xs:List V):Bool:=xs.any λy=>eqV y x
def rIn(K:W.Frag)(neg:Bool):R2:=λx y H Q=>∃p xs,y=.ref p/\(SqL K H p xs\/SqT K H p xs)/\flatV x=true/\xs.all flatV=true/\Q (.bl (if neg then !inV x xs else inV x xs)) H
def kN:OpR X (compareOp .NotIn) (rIn X.K true):=by
 intro pins s σ H x y v u Q I rx ry h;obtain⟨p,xs,rfl,hq,fx,fs,q⟩:=h;cases ry;rcases hq with hq |hq
 .obtain⟨its,r,pl,hz⟩:=I.list hq;refine SeqAt.notIn_listAt (eqU x) pl.isList (λw hw=>fY rx fx r fs w (by simpa using hw)) ⟨.bl _,H,I,rfl,?_⟩;rw[show its.toArray.any (eqU x)=its.any (eqU x) by simp,ig r fs];exact q
 .obtain⟨its,r,pl,hz⟩:=I.tuple hq;refine SeqAt.notIn_tupleAt (eqU x) pl (λw hw=>fY rx fx r fs w (by simpa using hw)) ⟨.bl _,H,I,rfl,?_⟩;rw[show its.toArray.any (eqU x)=its.any (eqU x) by simp,ig r fs];exact q
def jB:CallR X (.builtin "len") (λxs H Q=>∃p ys,xs=[.ref p]/\(SqL X.K H p ys\/SqT X.K H p ys)/\Q (.int ys.length) H):=by
 intro pins s σ H xs us Q I r h;obtain⟨p,ys,rfl,hq,q⟩:=h;obtain⟨u,rfl,rx⟩:=mI r;cases rx;have hn:=eJ;rcases hq with hq |hq
 .obtain⟨its,r',pl,hz⟩:=I.list hq;have hlen:=r'.length;exact Calls.call_len_list pl.isList (by simp only[q_] <;> omega) ⟨.int ys.length,H,I.tok _,⟨s.toks+1,by rw[q_,hlen]⟩,q⟩
 .obtain⟨its,r',pl,hz⟩:=I.tuple hq;have hlen:=r'.length;exact len_tuple pl (by simp only[q_] <;> omega) ⟨.int ys.length,H,I.tok _,⟨s.toks+1,by rw[q_,hlen]⟩,q⟩
def kE:CallR X (.builtin "len") (λxs H Q=>∃z,xs=[.str z]/\z.length<=sizeLine/\Q (.int z.length) H):=by intro pins s σ H xs us Q I r h;obtain⟨z,rfl,hz,q⟩:=h;obtain⟨u,rfl,t,rfl⟩:=mI r;have hn:=eJ;exact len_str (by omega) ⟨.int z.length,H,I.tok _,⟨_,rfl⟩,q⟩
def CallR.or(h:CallR X f r)(h':CallR X f r'):CallR X f (λxs H Q=>r xs H Q\/r' xs H Q):=by
 intro pins s σ H xs us Q I rs q;rcases q with q |q
 .exact h pins s σ H xs us Q I rs q
 .exact h' pins s σ H xs us Q I rs q
def kL:CallR X (.type "list") (λxs H Q=>∃p ys,xs=[.ref p]/\(SqL X.K H p ys\/SqT X.K H p ys)/\∀l,H l=none->Q (.ref l) (upd H l (.lst ys))):=by
 intro pins s σ H xs us Q I r h;obtain⟨p,ys,rfl,hq,q⟩:=h;obtain⟨u,rfl,rx⟩:=mI r;cases rx;have fin:∀(its:List Value),Vals ys its->ys.length<=sizeLine->∀(h':Heap) (c':Nat),(∀b o',s.heap.get? b=some o'->h'.get? b=some o')->
  h'.get? s.heap.objs.size=some { cls:=.type "list",dict:=none,data:=.seq its.toArray c',slots:=#[] }->EP X pins σ Q (.ref s.heap.objs.size) { s with heap:=h' }:=λits r' hz h' c' kp e=>
  ⟨.ref s.heap.objs.size,_,I.laid (t':=s.toks) kp (r_ _) (show ObjOk X.prog X.w _ h' _ (.lst ys) from ⟨hz,its,c',r',e⟩),rfl,q _ (I.hok.fresh (r_ _))⟩
 rcases hq with hq |hq
 .obtain⟨its,r',pl,hz⟩:=I.list hq;have hlen:=r'.length;obtain⟨o,ho,hc,n,hd⟩:=pl.isList;exact call_list_seq p (.inl rfl) ho hc hd (λh' c' kp e=>fin its r' hz h' c' kp e) (by simp only[q_] <;> omega)
 .obtain⟨its,r',pl,hz⟩:=I.tuple hq;have hlen:=r'.length;obtain⟨o,ho,hc,n,hd⟩:=pl;exact call_list_seq p (.inr rfl) ho hc hd (λh' c' kp e=>fin its r' hz h' c' kp e) (by simp only[q_] <;> omega)
def tyV(K:W.Frag)(T:String)(x:V)(H:Hp):Prop:=match x with
 |.str _=>T="str"
 |.int _=>T="int"
 |.ref p=>(T="list" /\ ∃xs,SqL K H p xs)\/(T="tuple" /\ ∃o,K.lookup p=some o/\o.cls=.type "tuple" /\ o.dict=none)\/
  (T="dict" /\ ((∃kvs,H p=some (.dK kvs))\/∃kvs,H p=some (.dT kvs)))\/(T="set" /\ ∃S n,H p=some (.set S n))
 |_=>False
def qa(I:Inv X pins σ H s)(r:RelV x v)(ty:tyV X.K T x H):
 s.TypeIs v T/\∀a,v=.ref a->∃ob,s.heap.get? a=some ob/\ob.dict=none:=by
 cases x with
 |str z=>obtain⟨t,rfl⟩:=r;cases (show T="str" from ty);exact⟨typeIs_str s z t,λ_ e=>nomatch e⟩
 |int i=>obtain⟨t,rfl⟩:=r;cases (show T="int" from ty);exact⟨typeIs_int s i t,λ_ e=>nomatch e⟩
 |
  ref p=>
  cases r;rcases ty with ⟨rfl,xs,hq⟩ |⟨rfl,o,hk,hc,hd⟩ |⟨rfl,hk⟩ |⟨rfl,S,n,hk⟩
  .obtain⟨its,_,pl,_⟩:=I.list hq;refine⟨pl.isList.typeIs,λa e=>?_⟩;cases e;obtain⟨o,n,e,c,hd,_⟩:=pl;exact⟨o,e,hd⟩
  .refine⟨⟨o,I.kIn p o hk,hc⟩,λa e=>?_⟩;cases e;exact⟨o,I.kIn _ o hk,hd⟩
  .have z:∃o,s.heap.get? p=some o/\o.ExactDict:=by
    rcases hk with ⟨kvs,hk⟩ |⟨kvs,hk⟩
    .obtain⟨_,_,_,_,o,_,_,e,ex,_⟩:=I.hok p _ hk;exact⟨o,e,ex⟩
    .obtain⟨_,_,_,_,o,_,_,e,ex,_⟩:=I.hok p _ hk;exact⟨o,e,ex⟩
   obtain⟨o,e,ex⟩:=z;refine⟨⟨o,e,ex.1⟩,λa e2=>?_⟩;cases e2;exact⟨o,e,ex.2.1⟩
  .obtain⟨o,_,_,_,e,ex,_⟩:=I.hok p _ hk;refine⟨⟨o,e,ex.1⟩,λa e2=>?_⟩;cases e2;exact⟨o,e,ex.2.1⟩
 |_=>exact False.elim ty
def mU(K:W.Frag)(T:String)(r:V->List V->Hp->VK->Prop)(to:TE):TE:=λσ H Q=>to σ H λx H1=>tyV K T x H1/\r x [] H1 Q
def tBM(K:W.Frag)(T:String)(r:V->List V->Hp->VK->Prop)(to:TE)(t:TA):TE:=λσ H Q=>to σ H λx H1=>tyV K T x H1/\t σ H1 λxs H2=>r x xs H2 Q
variable{o e:Expr}{es:List Expr}{to:TE}{t:TA}{name:Str}{apos cpos:Pos}{T id:String}{r:V->List V->Hp->VK->Prop}
def nT(pa:PlainAttrs T)(slot:Slot T name id)(hty:typeOf (.builtin id)=pure (.type "method_descriptor"))(hm:MtR X id r)(ho:PE X o to)
 (hbase:attributeBase o name X.env (eval o X.env)=eval o X.env) (hline:(apos.endLine==cpos.line)=true):PE X (.Call (.Attribute o name apos) [] [] cpos) (mU X.K T r to):=by
 intro pins s σ H Q I h;refine wpAny_Call_method0_late hbase hline (thn (ho pins s σ H _ I h) λv s1 ⟨x,H1,I1,r1,ty,q1⟩=>?_);obtain⟨h1,h2⟩:=qa I1 r1 ty;exact⟨T,id,pa,slot,hty,h1,h2,Calls.callWith_builtin rfl (PySem.evalArgs_none (hm pins s1 σ H1 x [] v [] Q I1 r1 .nil q1))⟩
def mY(pa:PlainAttrs T)(slot:Slot T name id)(hty:typeOf (.builtin id)=pure (.type "method_descriptor"))(hm:MtR X id r)(ho:PE X o to)(ha:PA X (e::es) t)
 (hbase:attributeBase o name X.env (eval o X.env)=eval o X.env)
 (hfew:((backTo cpos (starEach (e::es) X.env)).all (λx=>!x.1)&&(backToKw cpos (keywordEach [] X.env)).all (λx=>x.1.isSome)
  && decide ((e::es).length+([]:List Keyword).length+(if ([]:List Keyword).isEmpty then 0 else 1)<30))=true)
 (hline:(apos.endLine==cpos.line)=true) (hs:starEach (e::es) X.env=(false,eval e X.env)::starEach es X.env) (c_:(backTo cpos (starEach es X.env)).any (·.1)=false):
 PE X (.Call (.Attribute o name apos) (e::es) [] cpos) (tBM X.K T r to t):=by
 intro pins s σ H Q I h;refine wpAny_Call_method_late hbase hfew hline rfl (thn (ho pins s σ H _ I h) λv s1 ⟨x,H1,I1,r1,ty,q1⟩=>?_);obtain⟨h1,h2⟩:=qa I1 r1 ty;refine⟨T,id,pa,slot,hty,h1,h2,?_⟩;have hA:=ha cpos pins s1 σ H1 _ I1 q1;rw[hs] at hA ⊢;refine Calls.callWith_builtin (by show (false || (backTo cpos (starEach es X.env)).any (·.1))=false;rw[c_] <;> rfl) (Calls.evalArgs_plain ?_);exact thn hA λus s2 zz=>exA zz λvs H2 I2 r2 q2=>hm pins s2 σ H2 x vs v us Q I2 r1 r2 q2
end
def MtM(X:Cx)(id:String)(r:V->List V->Hp->VK->Prop):Prop:=
 ∀
  (pins:Ck) (s:Shared) (σ:St) (H:Hp) (x:V) (xs:List V) (v:Value) (us:List Value) (Q:VK),Inv X pins σ H s->RelV x v->Vals xs us->r x xs H Q->
  wpAny (model X.prog X.w) X.A (call (.builtin id) (v::us)) (EP X pins σ Q) X.xe s
def Vals.one(r:Vals [x] us):∃u,us=[u]/\RelV x u:=by
 cases r with
 |cons r t=>cases t;exact⟨_,rfl,r⟩
theorem Vals.zero:∀{us:List Value},Vals [] us->us=[]
 |_,.nil=>rfl
section
variable{X:Cx}{pins:Ck}{σ:St}{H:Hp}{s:Shared}{l:Addr}{xs ys:List V}
def Inv.lset{its its':List Value}{n:Nat}{f:Array Value->Array Value}{t':Nat}(I:Inv X pins σ H s)(hH:H l=some (.lst xs))
 (e:s.heap.get? l=some { cls:=.type "list",data:=.seq its.toArray n }) (hf:f its.toArray=its'.toArray) (hv:Vals ys its') (hz:ys.length<=sizeLine):
 Inv X pins σ (upd H l (.lst ys)) { s with heap:=s.heap.update l (Obj.mapSeq f),toks:=t' }:=by
 have q:=PySem.IsL.update e f;rw[hf] at q;refine I.write (x:=l) (e:=l) (by rw[hH];exact trivial) (.inl rfl) (λb' u hb hu=>(Heap.get?_update_other s.heap (Obj.mapSeq f) (Ne.symm hb)).trans hu) ⟨_,q⟩ ?_;exact⟨hz,its',_,hv,q⟩
def Inv.lnew(I:Inv X pins σ H s)(hv:Vals ys its)(hz:ys.length<=sizeLine):
 Inv X pins σ (upd H s.heap.objs.size (.lst ys)) { s with heap:=s.heap.push { cls:=.type "list",data:=.seq its.toArray },toks:=t' }:=
 I.laid (λ_ _ q=>w_ _ q) (r_ _) ⟨hz,its,0,hv,AW _ rfl⟩
def Inv.fresh(I:Inv X pins σ H s):H s.heap.objs.size=none:=I.hok.fresh (r_ _)
def Inv.lstM(I:Inv X pins σ H s)(hH:H l=some (.lst xs)):xs.length<=sizeLine/\∃(its:List Value) (n:Nat),Vals xs its/\xs.length=its.length/\s.heap.get? l=some { cls:=.type "list",data:=.seq its.toArray n }:=by obtain⟨z,its,n,r,e⟩:=I.hok l _ hH;exact⟨z,its,n,r,r.length,e⟩
end
section
variable{X:Cx}
def gP:V->List V->Hp->VK->Prop:=λx vs H Q=>∃l xs y,x=.ref l/\vs=[y]/\H l=some (.lst xs)/\xs.length<sizeLine/\Q .non (upd H l (.lst (xs++[y])))
def cI:MtM X "list.append" gP:=by intro pins s σ H x vs v us Q I rx rv h;obtain⟨l,xs,y,rfl,rfl,hH,hz,q⟩:=h;cases rx;obtain⟨u,rfl,ru⟩:=rv.one;obtain⟨z,its,n,r,hl,e⟩:=I.lstM hH;refine call_meets F.slot_list_append ⟨_,e,rfl⟩ F.entry_list_append (F.args_list_append_2 _ _) (PySem.list_append l its.toArray n u (by rw[q_];omega)) ⟨e,?_⟩;refine⟨.non,_,I.lset (its':=its++[u]) hH e (by simp) (r.append (.cons ru .nil)) ?_,rfl,q⟩;rw[k_,Bm];omega
def gu:V->List V->Hp->VK->Prop:=λx vs H Q=>∃l xs,x=.ref l/\vs=[]/\H l=some (.lst xs)/\Q .non (upd H l (.lst []))
def kf:MtM X "list.clear" gu:=by intro pins s σ H x vs v us Q I rx rv h;obtain⟨l,xs,rfl,rfl,hH,q⟩:=h;cases rx;have hus:=rv.zero;subst hus;obtain⟨z,its,n,r,hl,e⟩:=I.lstM hH;refine call_meets F.slot_list_clear ⟨_,e,rfl⟩ F.entry_list_clear (F.args_list_clear_1 _) (AutoSeq1.list_clear_list_0 l its.toArray n (by rw[q_];omega)) ⟨e,?_⟩;exact⟨.non,_,I.lset (its':=[]) (ys:=[]) hH e rfl .nil (A3 _),rfl,q⟩
def mR:R2:=λx y H Q=>∃l b xs zs,x=.ref l/\y=.ref b/\H l=some (.lst xs)/\H b=some (.lst zs)/\xs.length+zs.length<=sizeLine/\∀p,H p=none->Q (.ref p) (upd H p (.lst (xs++zs)))
def yC:OpR X (binaryOp .Add) mR:=by
 intro pins s σ H x y v u Q I rx ry h;obtain⟨l,b,xs,zs,rfl,rfl,hH,hB,hz,q⟩:=h;cases rx;cases ry;obtain⟨z,its,n,r,hl,e⟩:=I.lstM hH;obtain⟨z2,its2,n2,r2,hl2,e2⟩:=I.lstM hB;refine PySem.P.add_list e e2 ?_ (by rw[q_,q_];omega);have ea:its.toArray++its2.toArray=(its++its2).toArray:=by simp
 rw[ea];exact⟨.ref _,_,I.lnew (t':=s.toks) (r.append r2) (by rw[k_];omega),rfl,q _ I.fresh⟩
end
section
set_option maxRecDepth 100000 in
end
end L2
namespace Att
open PySem PySem.W PySem.Calls PyProof.Rows
def gI:∀(ns:List Int) (vs:List Value),WellAll P h vs (ns.map WData.int)->IntsAre vs ns:=by
 intro ns;induction ns with
 |nil=>intro vs w;rw[AZ] at w;cases w;exact .nil
 |
  cons n ns ih=>
  intro vs w;rw[n_] at w;cases w with
  |cons a b=>cases a;exact .cons _ _ (ih _ b)
def n3{l:OpenLaw}{n:Nat}(hn:l.most=some n){P:Params}{h:Heap}{args:List WData}{vals:List Value}
 (hpre:l.row.toRowW.claim.pre args=true) (hwl:WellAll P h vals args):
 ∃a vs ns,vals=[Value.ref a]/\args=[WData.list (ns.map WData.int)]/\h.get? a=some { cls:=.type "list",data:=.seq vs.toArray }/\IntsAre vs ns/\ns.length<=n:=by
 have hsh:WShape.hasAll [] args [.list .int]=true:=(pre_splitW hpre).1;have hc:l.pre.holds [] { args:=args }=true:=(pre_splitW hpre).2;obtain⟨d,r,rfl,h1,h2⟩:=hasAllW_cons hsh;obtain rfl:=hasAllW_nil h2;obtain⟨xs,rfl,h3⟩:=hasW_list h1;obtain⟨ns,rfl⟩:=items_int h3;have hlen:ns.length<=n:=by
  unfold OpenLaw.pre at hc;have h4:(WTm.not (.lt (.lit (.int (n:Int))) (.len (.arg 0)))).holds [] { args:=[.list (ns.map .int)] }=true:=by have h4:=(holds_andW hc).1;rw[hn] at h4;exact h4
  have h5:=condW_of h4 (w_not (w_lt w_lit (w_len_list (w_arg rfl))));rw[e_] at h5;refine Nat.le_of_not_lt λq=>?_;have q':(n:Int)<((ns.length:Nat):Int):=by omega
  first
   |(rw[Bb q'] at h5;exact absurd h5 (by decide))
   |(simp at h5;omega)
 cases hwl with
 |
  cons w1 w2=>
  cases w2;cases w1 with
  |list ho hall=>exact⟨_,_,ns,rfl,rfl,ho,gI ns _ hall,hlen⟩
def oA(l:OpenLaw)(args:List WData):l.row.toRowW.claim.post args (.bool true) args=true:=
 postW_of (r:=l.row.toRowW) (X:=(true==true))
  (show WShape.has [] (.bool true) .bool=true by first |rfl |decide |simp [WShape.has,WShape.arms,WShape.armsAll])
  (show (WTm.eq .res (.lit (.bool true))).value [] { args:=args,res:=some (.bool true),after:=args }=some (.bool (true==true)) from w_eq_bool (w_res rfl) w_lit) rfl
def attach_call{l:OpenLaw}{n:Nat}{q:Program}{loose:List Str}{XP:(Str->Option Value)->Heap->Prop}{YP:World->Heap->Prop}{d:DefRec}
 (hn:l.most=some n) (hdf:d.params.defaults=[])
 (call:∀(w:World) (s₀ s₁:Shared) (mg mb:Cj) (fa:Addr) (o:Obj) (pm cd doc:Value) (a:Addr) (vs:List Value) (ns:List Int),
  Ground q loose [] XP w s₀ mg mb s₁.heap->YP w s₁.heap->
  s₁.heap.get? fa=some o->o.data=.func (docDef d.name d.params d.body d.scope pm cd doc)->s₁.heap.CodeRec cd d.name->mg d.name=some (.ref fa)->
  s₁.heap.get? a=some { cls:=.type "list",data:=.seq vs.toArray }->IntsAre vs ns->ns.length<=n->s₁.gens=#[]->
  codeAny (model l.prog w) callerA (.call (.ref fa) ⟨[.ref a],[]⟩) (λr s'=>r=.ok (.ret (.bool true))/\OldK s₁.heap s'.heap/\s'.os=s₁.os/\AllBare s'.gens) s₁):
 WalkO q loose XP YP l.row.toRowW d [] (λf vs=>PySem.call f vs):=by
 intro w s₀ s₁ mg mb G Y fa o pm cd doc dV kV ho hd hcd hD hmg hg args vals as hpre hlay hrd hwl hlo;obtain rfl:dV=.none:=Dflts.none hD hdf;obtain rfl:kV=.none:=Dflts.noKw hD;obtain⟨a,vs,ns,rfl,rfl,hobj,hints,hlen⟩:=n3 hn hpre hwl;refine enter_call (Cb (call w s₀ s₁ mg mb fa o pm cd doc a vs ns G Y ho (fd_plain hd) hcd hmg hobj hints hlen hg) λr s' hq=>?_);obtain⟨rfl,h2,h3,h4⟩:=hq;exact⟨.inl ⟨.bool true,.bool true,[],rfl,λ_=>rfl,.bool true,oA l _,λ_=>⟨List.Pairwise.nil,λ_ hm=>(nomatch hm)⟩⟩,h2,h3,h4⟩
section
def ledger(h:Heap)(L d:Addr):List (Addr×Obj):=(List.range h.objs.size).filterMap λa=>if a=L\/a=d then none else (h.get? a).map λo=>(a,o)
end
end Att
namespace L2
open PySem PySem.Spec PyProof.Rows
theorem iN:∀{vs:List Value}{ns:List Int},IntsAre vs ns->Vals (ns.map V.int) vs
 |_,_,.nil=>.nil
 |_,_,.cons n t h=>.cons ⟨t,rfl⟩ (iN h)
def gU(H:Hp):Prop:=∀b,H b=none\/∃o xs,H b=some (.frz o (.lst xs))
def rO{P:Program}{w:World}{K:W.Frag}{mg mb:Cj}{CX:CXT}{k:Nat}{fa a:Addr}{fd:FuncData}{x:Str}{sp:Sp}{s₁:Shared}{vs:List Value}{ns:List Int}
 (KX:K.In s₁.heap) (hns:s₁.heap.Ns mainGlobals mg) (hb:s₁.heap.Ns builtinsNs mb) (hbb:∀x:Str,x ≠ "__name__"->mb x=bootBuiltins x) (hlim:s₁.heap.NoLimit) (hg:s₁.gens=#[])
 (ha:s₁.heap.get? a=some { cls:=.type "list",data:=.seq vs.toArray }) (hi:IntsAre vs ns) (hl:ns.length<=sizeLine) (hr:Room k callerA)
 (F:∀base:Heap,K.In base->base.Ns mainGlobals mg->FnOk P w K mg base CX k fa fd [x] sp) (hbind:∀(s:Shared) (u:Value),BindsTo s fd ⟨[u],[]⟩ [(x,u)])
 (hsp:∀H:Hp,gU H->SqL K H a (ns.map V.int)->sp [.ref a] H (λv _=>v=.bl true) λ_ _ _=>False)
 (hCX:∀H e s',CX [] H s₁ (λ_ _ _=>False) e s'->False):
 codeAny (model P w) callerA (.call (.ref fa) ⟨[.ref a],[]⟩) (λr s'=>r=.ok (.ret (.bool true))/\OldK s₁.heap s'.heap/\s'.os=s₁.os/\AllBare s'.gens) s₁:=by
 have rv:=iN hi;have lenV:=hi.length;have core
  : ∀H:Hp,gU H->SqL K H a (ns.map V.int)->HOk P w H s₁.heap->(∀b,H b≠none->b=a)->(H a≠none->K.lookup a=none)->
  codeAny (model P w) callerA (.call (.ref fa) ⟨[.ref a],[]⟩) (λr s'=>r=.ok (.ret (.bool true))/\OldK s₁.heap s'.heap/\s'.os=s₁.os/\AllBare s'.gens) s₁:=by
  intro H hO hS hok hA hK;have base_of:∀{b:Addr}{o:Obj},s₁.heap.get? b=some o->H b=none->(ez s₁.heap H).get? b=some o:=λe n=>qT e n;have noA:∀{b:Addr}{o:Obj}{es:Array DictEntry}{ep:Nat},s₁.heap.get? b=some o->o.data=.dict es ep->H b=none:=λ{b o es ep} e d=>by
   cases q:H b with
   |none=>rfl
   |some u=>have e':b=a:=hA b (by rw[q];simp);subst e';rw[ha] at e;cases e;have d':Data.seq vs.toArray _=Data.dict es ep:=d;cases d'
  have nsK:∀{b:Addr}{m:Cj},s₁.heap.Ns b m->(ez s₁.heap H).Ns b m:=λ{b m} ⟨o,es,ep,e,d,r⟩=>⟨o,es,ep,base_of e (noA e d),d,r⟩;have hKb:K.In (ez s₁.heap H):=λb o e=>base_of (KX b o e) (by
   cases q:H b with
   |none=>rfl
   |some u=>have e':b=a:=hA b (by rw[q];simp);subst e';rw[hK (by rw[q];simp)] at e;cases e)
  have hM:Mod K mg (ez s₁.heap H):=⟨hKb,nsK hns,⟨mb,nsK hb,hbb⟩,let ⟨mc,h1,h2⟩:=hlim;⟨mc,nsK h1,h2⟩⟩;have e0:Env0 P w K mg (ez s₁.heap H) callerA [] s₁ H:=⟨rfl,hM,λb o e=>vc e,Nat.le_of_eq (oZ _ _),trivial,λb hb=>absurd (show b∈([]:List Addr) from hb) (by simp),hok,.of_eq hg⟩;refine Cb ((F _ hKb (nsK hns)).run callerA [] s₁ H ⟨[.ref a],[]⟩ [.ref a] [.ref a] _ _ hr e0 (hbind s₁ (.ref a)) (.cons rfl .nil) (hsp H hO hS)) λr s' h=>?_;cases r with
  |error e=>exact (hCX H e s' h).elim
  |
   ok fl=>
   cases fl with
   |next=>exact False.elim h
   |brk=>exact False.elim h
   |cont=>exact False.elim h
   |
    ret u=>
    obtain⟨v,H',os,bare,un,hok',r',q⟩:=h;have q':v=.bl true:=q;subst q';obtain rfl:u=Value.bool true:=r';refine⟨rfl,OldK.of_keep λb o e=>?_,os,bare⟩;cases q:H b with
    |none=>exact un.keep b o e q (by intro z;exact absurd (show b∈([]:List Addr) from z) (by simp)) (by simp)
    |
     some u=>
     rcases hO b with z |⟨ob,xs,z⟩
     .rw[q] at z;cases z
     .have z2:=un.frzs b ob _ z;obtain⟨e1,_⟩:=hok b _ z;obtain⟨e2,_⟩:=hok' b _ z2;rw[e] at e1;cases e1;exact e2
 cases hk:K.lookup a with
 |some o=>have e:=KX a o hk;rw[ha] at e;cases e;refine core (λ_=>none) (λ_=>.inl rfl) (.inr ⟨_,vs.toArray,_,hk,rfl,rfl,rfl,by rw[q_,lenV];exact hl,by simpa using rv⟩) (λb u z=>by have z':(none:Option HO)=some u:=z;cases z') (λb z=>absurd rfl z) λz=>absurd rfl z
 |
  none=>
  refine core (λb=>if b=a then some (.frz { cls:=.type "list",data:=.seq vs.toArray } (.lst (ns.map V.int))) else none) (λb=>?_) (.inl (.inr ⟨{ cls:=.type "list",data:=.seq vs.toArray },if_pos rfl⟩)) (λb u z=>?_) (λb z=>?_) λ_=>hk
  .by_cases hb:b=a
   .exact .inr ⟨_,_,if_pos hb⟩
   .exact .inl (if_neg hb)
  .by_cases hb:b=a
   .have z':=(if_pos hb).symm.trans z;cases z';subst hb;exact⟨ha,by rw[e_];exact hl,vs,_,rv,ha⟩
   .have z':=(if_neg hb).symm.trans z;cases z'
  .by_cases hb:b=a
   .exact hb
   .exact absurd (if_neg hb) z
abbrev KOf{K:W.Frag}{h:Heap}(_:K.In h):W.Frag:=K
def walk_of{l:W.OpenLaw}{n k:Nat}{q:Program}{loose:List Str}{XP:(Str->Option Value)->Heap->Prop}{YP:World->Heap->Prop}{d:DefRec}{K:Params->W.Frag}{CX:World->CXT}{sp:World->Sp}{x:Str}
 (hn:l.most=some n) (hn2:n<=sizeLine) (hdf:d.params.defaults=[]) (hr:Room k callerA)
 (hY:∀(w:World) (h:Heap),YP w h->(K w.params).In h)
 (F:∀(w:World) (mg:Cj) (fa:Addr) (h:Heap),(K w.params).In h->h.Ns mainGlobals mg->mg d.name=some (.ref fa)->
  ∃
   fd:FuncData,(∀(s:Shared) (u:Value),BindsTo s fd ⟨[u],[]⟩ [(x,u)])/\
   ∀base:Heap,(K w.params).In base->base.Ns mainGlobals mg->FnOk l.prog w (K w.params) mg base (CX w) k fa fd [x] (sp w))
 (hsp:∀(w:World) (H:Hp) (a:Addr) (ns:List Int),ns.length<=n->gU H->SqL (K w.params) H a (ns.map V.int)->sp w [.ref a] H (λv _=>v=.bl true) λ_ _ _=>False)
 (hCX:∀(w:World) (H:Hp) (s:Shared) (e:Value) (s':Shared),CX w [] H s (λ_ _ _=>False) e s'->False):
 W.WalkO q loose XP YP l.row.toRowW d [] (λf vs=>PySem.call f vs):=by
 refine Att.attach_call hn hdf λw s₀ s₁ mg mb fa o pm cd doc a vs ns G Y ho hd hcd hmg hobj hints hlen hg=>?_;have KX:=hY w _ Y;obtain⟨fd,hb,hF⟩:=F w mg fa _ KX G.T.g hmg;exact rO KX G.T.g G.T.b G.T.builtins G.T.nolimit hg hobj hints (AJ hlen hn2) hr hF hb (λH hO hS=>hsp w H a ns hlen hO hS) λH e s'=>hCX w H s₁ e s'
noncomputable def bE (s:Stmt):Arguments:=match s with
 |.FunctionDef _ a _ _ _ _ _ _ _ _=>a
 |_=>{ posonlyargs:=[],args:=[],vararg:=none,kwonlyargs:=[],kw_defaults:=[],kwarg:=none,defaults:=[] }
noncomputable def aO (s:Stmt):List Stmt:=match s with
 |.FunctionDef _ _ b _ _ _ _ _ _ _=>b
 |_=>[]
noncomputable def ai (s:Stmt):Scope:=match s with
 |.FunctionDef _ _ _ _ _ _ sc _ _ _=>sc
 |_=>{ kind:=.function,names:=[],isGenerator:=false,isCoroutine:=false }
abbrev E0:XK:=λ_ _ _=>False
structure Fun(K:W.Frag)(x qual:Str)(st:Stmt)(f:Addr)(fd:FuncData):Prop where
 ex:∃(oc:Value) (od:Option Addr) (kV doc pm:Value) (an:Option Addr) (cdv ct:Value) (osl:Array (Option Value)),
  fd=W.fnOf x qual (bE st) (aO st) (ai st) .none kV doc pm an cdv ct/\K.lookup f=some ⟨oc,od,.func fd,osl⟩/\W.codeIn K cdv qual=true
 kp:W.keepIn K (.ref f)=true
section
variable{K:W.Frag}
def Fun.binds{x qual:Str}{st:Stmt}{f:Addr}{fd:FuncData}{ps:List Str}(F:Fun K x qual st f fd)
 (h:∀(kV doc pm:Value) (an:Option Addr) (cdv ct:Value) (us:List Value),us.length=ps.length->bindArgs (W.fnOf x qual (bE st) (aO st) (ai st) .none kV doc pm an cdv ct) ⟨us,[]⟩=pure (ps.zip us)):Binds K fd ps []:=by
 obtain⟨oc,od,kV,doc,pm,an,cdv,ct,osl,rfl,lk,hcd⟩:=F.ex;exact .all (h kV doc pm an cdv ct)
def wm{x qual:Str}{st:Stmt}{f:Addr}{oc:Value}{od an:Option Addr}{osl:Array (Option Value)}{kV doc pm cdv ct:Value}(l:K.lookup f=some ⟨oc,od,.func (W.fnOf x qual (bE st) (aO st) (ai st) .none kV doc pm an cdv ct),osl⟩)
 (c:W.codeIn K cdv qual=true) (k:W.keepIn K (.ref f)=true):Fun K x qual st f (W.fnOf x qual (bE st) (aO st) (ai st) .none kV doc pm an cdv ct):=⟨⟨oc,od,kV,doc,pm,an,cdv,ct,osl,rfl,l,c⟩,k⟩
end
def zL(hr:Room k A):A.units+1<cLine:=Nat.lt_of_le_of_lt (Nat.add_le_add_left (by decide:1<=64) _) hr.units
section
variable{X:Cx}{pins:Ck}{σ:St}{H:Hp}{s:Shared}
def Inv.track{a:Addr}{o:HO}(I:Inv X pins σ H s)(hn:H a=none)(h0:X.s₀.heap.get? a=none)(hL:a≠X.env.locals)(hc:∀x c,X.env.cells.lookup x=some c->c≠a)
 (hp:∀p∈X.pn++pins,p.1≠a) (new:ObjOk X.prog X.w (upd H a o) s.heap a o):Inv X pins σ (upd H a o) s:=by
 have ne:∀b u,H b=some u->b≠a:=λb u e z=>by rw[z,hn] at e;cases e
 have ne0:∀b u,X.s₀.heap.get? b=some u->b≠a:=λb u e z=>by rw[z,h0] at e;cases e
 refine⟨I.ok,I.os,I.bare,⟨I.base.keep,I.base.slot,λb u e n hx=>?_,I.base.there,λb xs e=>?_,λb u xs e=>?_,λb ps e=>?_⟩,I.loc,I.cell,?_,λx c e=>?_,λp hp'=>?_,λb u e=>?_,I.len⟩
 .rw[aq (ne0 b u e)];exact I.base.free b u e n hx
 .have q:=I.base.tups b xs e;rw[aq (ne _ _ q)];exact q
 .have q:=I.base.frzs b u xs e;rw[aq (ne _ _ q)];exact q
 .obtain⟨m,q⟩:=I.base.tbls b ps e;exact⟨m,by rw[aq (ne _ _ q)];exact q⟩
 .rw[aq (Ne.symm hL)];exact I.free
 .rw[aq (hc x c e)];exact I.freeC x c e
 .obtain⟨e,n,r⟩:=I.pin p hp';exact⟨e,by rw[aq (hp p hp')];exact n,r⟩
 .by_cases hb:b=a
  .subst hb;rw[ar] at e;cases e;exact new
  .rw[aq hb] at e;exact (I.hok b u e).stay (λc v _ q=>q) (λc q=>by rw[aq (ne _ _ q)];exact q) λc xs q=>by rw[aq (ne _ _ q)];exact q
end
theorem d7{env:Env}:∀{names:List (Str×NameKind)} (cs:List (Str×Addr)),(∀x∈names,x.2=.free->∃c,env.cells.lookup x.1=some c)->(∀x c,cs.lookup x=some c->env.cells.lookup x=some c)->
 ∃
  cl,(forIn names cs λ(x:Str×NameKind) (r:List (Str×Addr))=>if (x.2==NameKind.free)=true then do let a <- cellOf env x.1;pure (ForInStep.yield ((x.1,a)::r)) else pure (ForInStep.yield r):Sem (List (Str×Addr)))=pure cl/\
  (∀x c,cl.lookup x=some c->env.cells.lookup x=some c)/\(∀x c,cs.lookup x=some c->∃c',cl.lookup x=some c')/\∀x∈names,x.2=.free->∃c,cl.lookup x.1=some c
 | [],cs,_,h=>⟨cs,by simp,h,λx c e=>⟨c,e⟩,λ_ hx=>nomatch hx⟩
 |
  (n,k)::r,cs,hf,h=>by
  rw[B5];by_cases hk:k=.free
  .subst hk;obtain⟨c,hc⟩:=hf (n,.free) y_ rfl;have hcell:cellOf env n=pure c:=by unfold cellOf;rw[hc]
   have h':∀x d,((n,c)::cs).lookup x=some d->env.cells.lookup x=some d:=λx d e=>by
    rw[A9] at e;cases q:x==n with
    |true=>rw[q] at e;cases e;rw[AQ.mp q];exact hc
    |false=>rw[q] at e;exact h x d e
   obtain⟨cl,e1,e2,e3,e4⟩:=d7 (env:=env) (names:=r) ((n,c)::cs) (λx hx=>hf x (s_ _ hx)) h';have top:∃c',cl.lookup n=some c':=e3 n c (by rw[A9];simp);refine⟨cl,?_,e2,λx d e=>?_,λx hx hfr=>?_⟩
   .simp only[beq_self_eq_true,BH,hcell];exact e1
   .by_cases q:x=n
    .rw[q];exact top
    .exact e3 x d (by rw[A9,(Bu.mpr q:(x==n)=false)];exact e)
   .rcases AL.mp hx with rfl |hx
    .exact top
    .exact e4 x hx hfr
  .have hb:(k==NameKind.free)=false:=by simpa using hk
   obtain⟨cl,e1,e2,e3,e4⟩:=d7 (env:=env) (names:=r) cs (λx hx=>hf x (s_ _ hx)) h;refine⟨cl,?_,e2,e3,λx hx hfr=>?_⟩
   .simp only[hb,A_,BK];exact e1
   .rcases AL.mp hx with rfl |hx
    .exact absurd hfr hk
    .exact e4 x hx hfr
def je{env:Env}{scope:Scope}(hf:∀x∈scope.names,x.2=.free->∃c,env.cells.lookup x.1=some c):
 ∃cl,closureFor scope env=pure cl/\(∀x c,cl.lookup x=some c->env.cells.lookup x=some c)/\∀x∈scope.names,x.2=.free->∃c,cl.lookup x.1=some c:=by
 obtain⟨cl,e1,e2,_,e4⟩:=d7 (env:=env) (names:=scope.names) [] hf (λx c e=>by simp at e);refine⟨cl,?_,e2,e4⟩;unfold closureFor;simp only[e1];rfl
noncomputable def aT (X:Cx) (N:List Str) (scope:Scope) (cl:List (Str×Addr)) (C:Addr) (s₂:Shared) (H:Hp) (fp:List Addr):Cx:=
 { X with N:=N,s₀:=s₂,H₀:=H,env:=compEnvC scope cl C X.env,outer:=X.stack,stack:=X.stack,ex:=fp,fn:=λ_=>false,pn:=[],xe:=λ_ _=>False }
noncomputable def bR (sub:Cn) (σ:St):St:=sub.map λo=>o.bind λi=>(σ[i]?).bind id
def LcW(J:It)(sub:Cn)(g:TG)(tc:TT)(te:TE)(σ:St)(H1:Hp)(Q:VK):Prop:=∃W:Nat->Nat->List V->St->Hp->Prop,(∃m,W 0 m [] (bR sub σ) H1)/\∀i m ys σ H,W i m ys σ H->
 (J.stop i H/\ys.length<=sizeLine/\∀D,H D=none->Q (.ref D) (upd H D (.lst ys)))\/
 (J.go i H/\ys.length<sizeLine/\∃Nx:List V->St->Hp->Prop,(∀ys' σ' H',Nx ys' σ' H'->∃m',m'<m/\W (i+1) m' ys' σ' H')/\
  ∀x H',J.yld i H x H'->g x σ H' λσ2 H2=>tc σ2 H2 λb H3=>if b=true then te σ2 H3 λy H4=>Nx (ys++[y]) σ2 H4 else Nx ys σ2 H3)
def jf(wi:TI)(sub:Cn)(g:TG)(tc:TT)(te:TE):TE:=λσ H Q=>wi σ H λJ H1=>LcW J sub g tc te σ H1 Q
section
variable{prog:Program}{w:World}{A:Around}{R:Result->Shared->Prop}{s:Shared}
def kA{elt target iter:Expr}{ifs:List Expr}{scope:Scope}{pos:Pos}{it acc:Value}{env:Env}(I:Nat->Shared->Prop)
 (turn
  : ∀n s,I n s->wpAny (model prog w) A (pyNext it) (λr s₁=>match r with
  |none=>R (.ok .next) s₁
  |some v=>wpAny (model prog w) A (letOwnedTupleGo target it v) (λ_ s₁'=>wpAny (model prog w) A (assign target env v) (λ_ s₂=>
   wpAny (model prog w) A (forIn ifs true λc r=>if r=true then do let ok <- isTrue c env (eval c env);pure (ForInStep.yield ok) else pure (ForInStep.yield r))
    (λok s₃=>if ok=true then wpAny (model prog w) A (eval elt env) (λx s₄=>wpAny (model prog w) A (call (.builtin "list.append") [acc,x]) (λ_ s₅=>∃m,m<n/\I m s₅) (λ_ _=>False) s₄) (λ_ _=>False) s₃
     else ∃m,m<n/\I m s₃) (λ_ _=>False) s₂) (λ_ _=>False) s₁') (λ_ _=>False) s₁) (λ_ _=>False) s)
 (n:Nat) (h:I n s):
 codeAny (model prog w) A (.compLoop (.ListComp elt [⟨target,iter,ifs,0⟩] scope pos) 0 it acc env) R s:=by
 refine codeAny_loop rfl I (λn s hI=>?_) n h;show wpAny _ _ ((compTurn (.ListComp elt [⟨target,iter,ifs,0⟩] scope pos) 0 it acc env).onRaise (λx=>do noteFrame x env;theTreesLotGoes x)) _ _ s;refine wpAny_noted ?_;rw[compTurn_list];refine z_ (E:=λ_ _=>False) ?_ (λ_ _ q=>q) λ_ _ q=>q.elim;refine g_ (wpAny_standAt (g_ (z_ (turn n s hI) (λr s₁ h₁=>?_) λ_ _ h'=>h')));cases r with
 |none=>exact l_ h₁
 |
  some v=>
  refine g_ (z_ h₁ (λ_ s₁' h₁'=>?_) λ_ _ h'=>h');refine g_ (z_ h₁' (λ_ s₂ h₂=>?_) λ_ _ h'=>h');refine g_ (z_ h₂ (λok s₃ h₃=>?_) λ_ _ h'=>h');cases ok with
  |true=>simp only[BH] at h₃ ⊢;refine g_ (g_ (z_ h₃ (λx s₄ h₄=>?_) λ_ _ h'=>h'));refine g_ (z_ h₄ (λ_ s₅ h₅=>?_) λ_ _ h'=>h');exact l_ (l_ ⟨rfl,h₅⟩)
  |
   false=>
   simp only[A_,BK] at h₃ ⊢;first
    |exact g_ (l_ (l_ ⟨rfl,h₃⟩))
    |exact l_ ⟨rfl,h₃⟩
end
section
variable{X:Cx}
def PTs(X:Cx)(ifs:List Expr)(t:TT):Prop:=
 ∀
  (pins:Ck) (s:Shared) (σ:St) (H:Hp) (Q:Bool->Hp->Prop),Inv X pins σ H s->t σ H Q->
  wpAny (model X.prog X.w) X.A (forIn ifs true λc r=>if r=true then do let ok <- isTrue c X.env (eval c X.env);pure (ForInStep.yield ok) else pure (ForInStep.yield r)) (TP X pins σ Q) X.xe s
def uT:PTs X [] (λ_ H Q=>Q true H):=λpins s σ H Q I h=>by rw[List.forIn_nil];exact l_ ⟨H,I,h⟩
def vr{c:Expr}{tc:TT}(hc:PT X c tc):PTs X [c] tc:=λpins s σ H Q I h=>by rw[B5];simp only[BH];refine g_ (g_ (thn (hc pins s σ H Q I h) λb s1 q=>l_ ?_));dsimp only;rw[List.forIn_nil];exact l_ q
structure LcEnd(X:Cx)(pins:Ck)(σ:St)(Q:VK)(D C:Addr)(s4:Shared):Prop where
 ns:∃m,s4.heap.Ns C m
 dc:D<C
 fr:X.env.locals<D
 cell:∀x c,X.env.cells.lookup x=some c->c<D
 pin:∀p∈X.pn++pins,p.1<D
 sz:X.s₀.heap.objs.size<=D
 inv:∃H',H' C=none/\Q (.ref D) H'/\∀h',Heap.SameBut C s4.heap h'->Inv X pins σ H' { s4 with heap:=h' }
def lV{elt iter tg:Expr}{ifs:List Expr}{scope:Scope}{pos:Pos}{wi:TI}{g:TG}{tc:TT}{te:TE}{N:List Str}{sub:Cn}{use:Option (Value->Sem Unit)}{R:Cm}{pins:Ck}{s:Shared}{σ:St}{H:Hp}{Q:VK}{fpos:Pos}
 (hc:X.calm=true) (hi:PI X tg iter wi)
 (hk:scope.kind=.function) (hnc:∀x∈scope.names,x.2 ≠ .cell) (b_:∀x∈scope.names,x.2=.local->scope.names.lookup x.1=some .local)
 (hfr:∀x∈scope.names,x.2=.free->X.env.kindOf x.1=some .cell\/X.env.kindOf x.1=some .free)
 (hsl:sub.length=N.length) (hsub:∀(j i:Nat) (x:Str),sub[j]?=some (some i)->N[j]?=some x->X.N[i]?=some x/\scope.names.lookup x=some .free)
 (hg:∀cl C s₂ H fp,PG (aT X N scope cl C s₂ H fp) tg g) (ht:∀cl C s₂ H fp,PTs (aT X N scope cl C s₂ H fp) ifs tc) (he:∀cl C s₂ H fp,PE (aT X N scope cl C s₂ H fp) elt te)
 (hs:∀x,foldedSetIterable iter X.env x=pure x) (I:Inv X pins σ H s) (h:jf wi sub g tc te σ H Q)
 (fin:∀D C s4,LcEnd X pins σ Q D C s4->compPost (model X.prog X.w) X.A X.xe use R (.ref D) C (.ok .next) s4):
 wpAny (model X.prog X.w) X.A (comprehension (.ListComp elt [⟨tg,iter,ifs,0⟩] scope pos) scope X.env fpos (newList []) false (eval iter X.env) use) R X.xe s:=by
 obtain⟨cl,hclos,hcl,hclf⟩:=je (env:=X.env) (scope:=scope) λx hx hf=>I.ok.has x.1 (hfr x hx hf);refine wpAny_comprehension_free rfl hs hclos hk b_ ?_;show wpAny _ _ (eval iter X.env) _ _ _;refine thn (hi pins s σ H _ I h) λv s1 h1=>thn h1 λitv s2 h2=>?_;obtain⟨it,fp,tn,J,H2,e,I2,T,st2,f2,W,⟨m0,w0⟩,turn⟩:=h2;subst e;refine BF (wpAny_newFunctionEnv hnc (by intro y hy;simp at hy) (λh₁ hns₁ hsb₁=>?_) hk);dsimp only at hns₁ hsb₁ ⊢;generalize hH2:s2.heap.push { cls:=.type "list",dict:=none,data:=.seq ([]:List Value).toArray }=G2 at hns₁ hsb₁ ⊢;have hC:G2.objs.size=s2.heap.objs.size+1:=by rw[<- hH2,Heap.size_push]
 have hDC:s2.heap.objs.size≠G2.objs.size:=by omega
 have below:∀b,b<s2.heap.objs.size->b≠G2.objs.size/\b≠s2.heap.objs.size:=λb hb=>⟨by omega,by omega⟩;have old:∀b o,s2.heap.get? b=some o->h₁.get? b=some o:=λb o e=>hsb₁.extBut b o (below b (m_ e)).1 (w_ _ (hH2 ▸ w_ _ e));have hD₁:h₁.get? s2.heap.objs.size=some { cls:=.type "list",dict:=none,data:=.seq ([]:List Value).toArray }:=hsb₁.extBut _ _ hDC (w_ _ (hH2 ▸ AW _ rfl));have fresh:∀a,s2.heap.objs.size<=a->s2.heap.get? a=none:=λa ha=>B4 ha;have cellOld:∀x c,cl.lookup x=some c->c<s2.heap.objs.size:=λx c e=>by obtain⟨v,z⟩:=I2.cell x c (hcl x c e);exact z.lt
 have fpOld:∀b∈fp,b<s2.heap.objs.size:=λb hb=>by obtain⟨o,e,_⟩:=T.obj _ _ st2 b hb;exact m_ e
 let Y:Cx:=aT X N scope cl G2.objs.size s2 H2 fp
 have okY:Y.Ok
  := by
  refine⟨I2.ok.mod,?_,I2.ok.glob,I2.ok.blt,?_,λx y c e1 e2=>I2.ok.inj x y c (hcl x c e1) (hcl y c e2),λx hx=>?_,λx c hfn _=>absurd hfn h_,I2.ok.hd,I2.ok.frames,.inl rfl,
   λb hb=>⟨?_,λx c e z=>?_⟩,I2.bs,AJ I2.ok.bsz I2.sz,λb o e hb=>?_,λb hb hf=>?_,I2.stack,I2.stkFree⟩
  .show (relabel scope X.env).kind=.function;exact hk
  .show s2.heap.objs.size<=G2.objs.size;omega
  .have hx':(
    relabel scope X.env).names.lookup x=some .cell\/(relabel scope X.env).names.lookup x=some .free:=hx
   have:∃k,
    (x,k)∈scope.names/\k=.free:=by
    have gen:∀(names:List (Str×NameKind)),(∀y∈names,y.2 ≠ .cell)->∀kk,(kk=NameKind.cell\/kk=NameKind.free)->(names.map λ(n,k)=>if (k==NameKind.free&&X.env.scope.kind == .function&&X.env.kindOf n==some .cell) then (n,NameKind.cell) else (n,k)).lookup x=some kk->∃k,(x,k)∈names/\k=.free:=by
     intro names;induction names with
     |nil=>intro _ kk _ e;simp at e
     |
      cons y r ih=>
      intro hn kk hkk e;obtain⟨n,k⟩:=y;rw[n_,A9] at e;by_cases hkf:k=.free
      .subst hkf;by_cases hxn:x=n
       .exact⟨.free,by rw[hxn];exact y_,rfl⟩
       .have hb:(x==(if (NameKind.free==NameKind.free&&X.env.scope.kind == .function&&X.env.kindOf n==some .cell)=true then (n,NameKind.cell) else (n,NameKind.free)).1)=false:=by split <;> exact Bu.mpr hxn
        rw[hb] at e;obtain⟨k',m,q⟩:=ih (λz hz=>hn z (s_ _ hz)) kk hkk e;exact⟨k',s_ _ m,q⟩
      .have hb0:(k==NameKind.free&&X.env.scope.kind == .function&&X.env.kindOf n==some .cell)=false:=by
        have:(k==NameKind.free)=false:=by simpa using hkf
        rw[this];rfl
       rw[hb0] at e;simp only[A_,BK] at e;cases q:x==n with
       |
        true=>
        rw[q] at e;have e':k=kk:=u_ e;subst e';rcases hkk with z |z
        .exact absurd z (hn (n,k) y_)
        .exact absurd z hkf
       |false=>rw[q] at e;obtain⟨k',m,q⟩:=ih (λz hz=>hn z (s_ _ hz)) kk hkk e;exact⟨k',s_ _ m,q⟩
    rcases hx' with z |z
    .exact gen scope.names hnc _ (.inl rfl) z
    .exact gen scope.names hnc _ (.inr rfl) z
   obtain⟨k,m,q⟩:=this;exact hclf (x,k) m q
  .show b≠G2.objs.size;exact (below b (fpOld b hb)).1
  .exact (f2 b hb).2.2.2.2.1 x c (hcl x c e) z
  .rcases (f2 b hb).2.2.2.1 with z |z
   .exact I2.ok.noex b o e z
   .exact absurd (t_ (m_ e) (AJ I2.ok.bsz z)) (A2 _)
  .have hf':b∈frs X.stack:=hf;rcases AL.mp (I2.stkSub b hf') with z |z
   .exact (f2 b hb).2.1 z
   .exact (f2 b hb).2.2.1 z
 have startLoc
  : ∃m,h₁.Ns G2.objs.size m/\∀(i:Nat) (x:Str) (v:V),N[i]?=some x->(bR sub σ)[i]?=some (some v)->Vis (relabel scope X.env) x->∃u,RelV v u/\qV Y.env h₁ m x u:=by
  refine⟨_,hns₁,λj x v e1 e2 e3=>?_⟩;unfold bR at e2;rw[x_] at e2;cases q:sub[j]? with
  |none=>rw[q] at e2;cases e2
  |
   some o=>
   rw[q] at e2;cases o with
   |none=>cases e2
   |
    some i=>
    obtain⟨hNi,hfree⟩:=hsub j i x q e1;have e2':(σ[i]?).bind id=some v:=u_ e2;have e2'':σ[i]?=some (some v):=by
     cases z:σ[i]? with
     |none=>rw[z] at e2';cases e2'
     |some y=>rw[z] at e2';rw[show y=some v from e2']
    obtain⟨m2,hn2,hl2⟩:=I2.loc;have hkx:=hfr (x,.free) (A7 hfree) rfl;obtain⟨u,r,l⟩:=hl2 i x v hNi e2'' (by rcases hkx with z |z;exact .inr (.inl z);exact .inr (.inr z));refine⟨u,r,.inr ⟨?_,?_⟩⟩
    .rcases e3
      with z |z |z
     .exfalso;have gen:∀(names:List (Str×NameKind)),names.lookup x=some .free->(names.map λ(n,k)=>if (k==NameKind.free&&X.env.scope.kind == .function&&X.env.kindOf n==some .cell) then (n,NameKind.cell) else (n,k)).lookup x=some .local->False:=by
       intro names;induction names with
       |nil=>intro e _;simp at e
       |
        cons y r ih=>
        intro e1 e2;obtain⟨n,k⟩:=y;rw[A9] at e1;rw[n_,A9] at e2;by_cases hxn:x=n
        .have hb1:(x==n)=true:=AQ.mpr hxn;rw[hb1] at e1;have:k=.free:=u_ e1;subst this;split at e2
         .rename_i hq;split at e2 <;> cases e2
         .rename_i hq;split at hq <;> (rw[hb1] at hq;cases hq)
        .have hb1:(x==n)=false:=Bu.mpr hxn;rw[hb1] at e1;refine ih e1 ?_;split at e2
         .rename_i hq;split at hq <;> (rw[hb1] at hq;cases hq)
         .exact e2
      exact gen scope.names hfree z
     .exact .inl z
     .exact .inr z
    .obtain⟨c,hc'⟩:=hclf (x,.free) (A7 hfree) rfl;refine⟨c,hc',?_⟩;rcases l with ⟨k,_⟩ |⟨_,c2,ec2,z⟩
     .rcases hkx with z |z <;> (rw[k] at z;cases z)
     .have:=hcl x c hc'
      rw[ec2] at this;cases this;obtain⟨oc,hoc,hd⟩:=z;exact⟨oc,old _ _ hoc,hd⟩
 have pinD:∀{σ':St}{H':Hp}{s':Shared}{pl:Ck}{o:Obj},Inv Y pl σ' H' s'->s'.heap.get? s2.heap.objs.size=some o->(∀v,o.data ≠ .cell v)->H' s2.heap.objs.size=none->Inv Y [(s2.heap.objs.size,o)] σ' H' s':=λ{σ' H' s' pl o} IY e d n=>
  IY.pins_of λp hp=>by
   have e':p=(s2.heap.objs.size,o):=by simpa using hp
   subst e';refine⟨e,n,?_,?_,d⟩
   .show s2.heap.objs.size≠G2.objs.size;omega
   .intro hf;have hf':s2.heap.objs.size∈frs X.stack:=hf;obtain⟨_,o',ho',_⟩:=I2.stack.mem hf';exact absurd (m_ ho') (A2 _)
 have fpY:∀{H':Hp}{pl:Ck},(∀b∈fp,H' b=none)->(∀p∈pl,p.1∉fp)->∀b∈fp,fZ Y pl H' b:=λ{H' pl} hn hp b hb=>by
  refine⟨hn b hb,?_,?_,.inl hb,λx c e=>?_,λp hp'=>?_⟩
  .exact (okY.exf b hb).1
  .exact okY.exfs b hb
  .exact (okY.exf b hb).2 x c e
  .intro z;have hp'':p∈pl:=by simpa [Y,aT] using hp'
   exact hp p hp'' (by rw[z];exact hb)
 have hDfp:s2.heap.objs.size∉fp:=λz=>A2 _ (fpOld _ z);have loop
  : ∀s₃:Shared,s₃={ s2 with heap:=h₁,toks:=s2.toks+([]:List (Str×Value)).length }->
  codeAny (model X.prog X.w) X.A (.compLoop (.ListComp elt [⟨tg,iter,ifs,0⟩] scope pos) 0 (.ref it) (.ref s2.heap.objs.size) (compEnvC scope cl G2.objs.size X.env))
   (compPost (model X.prog X.w) X.A X.xe use R (.ref s2.heap.objs.size) G2.objs.size) s₃:=by
  rintro s₃ rfl;have IY0:Inv Y [(s2.heap.objs.size,{ cls:=.type "list",dict:=none,data:=.seq ([]:List Value).toArray })] (bR sub σ) H2 { s2 with heap:=h₁,toks:=s2.toks+([]:List (Str×Value)).length }:=by
   have J0:Inv Y [] (bR sub σ) H2 { s2 with heap:=h₁,toks:=s2.toks+([]:List (Str×Value)).length }:=by
    refine⟨okY,rfl,I2.bare,Un.kept old,startLoc,λx c e=>?_,I2.hok.fresh (by show s2.heap.objs.size<=G2.objs.size;omega),λx c e=>I2.freeC x c (hcl x c e),λp hp=>absurd (show p∈([]:Ck) from hp) (by simp),I2.hok.kept old,?_⟩
    .obtain⟨v,oc,hoc,hd⟩:=I2.cell x c (hcl x c e);exact⟨v,oc,old _ _ hoc,hd⟩
    .show (bR sub σ).length=N.length;unfold bR;rw[e_];exact hsl
   exact pinD J0 hD₁ (λv z=>by cases z) I2.fresh
  refine kA (λn s'=>∃(i:Nat) (ys:List V) (its:List Value) (k:Nat) (σ':St) (H':Hp),Inv Y [(s2.heap.objs.size,{ cls:=.type "list",dict:=none,data:=.seq its.toArray k })] σ' H' s'/\Vals ys its/\tn i s'.heap/\(∀b∈fp,H' b=none)/\W i n ys σ' H') ?_ m0
   ⟨0,[],[],0,bR sub σ,H2,IY0,.nil,T.keep _ _ _ st2 (λb hb o e=>old b o e),λb hb=>(f2 b hb).1,w0⟩
  rintro n s3 ⟨i,ys,its,k,σ3,H3,I3,rv,st3,fr3,w3⟩;have npl:∀(o:Obj),∀p∈[(s2.heap.objs.size,o)],p.1∉fp:=λo p hp=>by
   have e':p=(s2.heap.objs.size,o):=by simpa using hp
   subst e';exact hDfp
  rcases turn i n ys σ3 H3 w3 with ⟨stop,hz,qn⟩ |⟨go,hz,Nx,hNx,step⟩
  .refine z_ (T.done Y rfl rfl rfl hc i _ s3 σ3 H3 (λ_ _=>False) I3 (fpY fr3 (npl _)) st3 stop) (λr s4 ⟨hr,I4⟩=>?_) λ_ _ z=>z;subst hr;obtain⟨m4,hn4,_⟩:=I4.loc;have hCfree:H3 G2.objs.size=none:=I4.free;have hD4:=I4.pin (s2.heap.objs.size,{ cls:=.type "list",dict:=none,data:=.seq its.toArray k }) (AI _ y_);have un4:Un (frs X.stack) fp H2 H3 s2.heap s4.heap:=I4.base;have ne2:∀b o,s2.heap.get? b=some o->b≠G2.objs.size:=λb o e=>(below b (m_ e)).1;have hDfree:H3 s2.heap.objs.size=none:=hD4.2.1;have sz0:X.s₀.heap.objs.size<=s2.heap.objs.size:=I2.sz;refine fin s2.heap.objs.size G2.objs.size s4 ⟨⟨m4,hn4⟩,by rw[hC];exact Nat.lt_succ_self _,I2.lt,λx c e=>?_,λp hp=>m_ (I2.pin p hp).1,sz0,upd H3 s2.heap.objs.size (.lst ys),by rw[aq (Ne.symm hDC)];exact hCfree,qn _ hDfree,λh' hs'=>?_⟩
   .obtain⟨v,q⟩:=I2.cell x c e;exact q.lt
   have up:∀b o,b≠G2.objs.size->s4.heap.get? b=some o->h'.get? b=some o:=λb o hb e=>hs'.extBut b o hb e;have un5:Un (frs X.stack) fp H2 H3 s2.heap h':=by
    refine⟨λb o e n hb hx=>up b o (ne2 b o e) (un4.keep b o e n hb hx),λb o e n hb hx=>?_,un4.free,λb o e hx=>?_,un4.tups,un4.frzs,un4.tbls⟩
    .obtain⟨sl,q⟩:=un4.slot b o e n hb hx;exact⟨sl,up b _ (ne2 b o e) q⟩
    .obtain⟨o',q⟩:=un4.there b o e hx;exact⟨o',up b _ (ne2 b o e) q⟩
   have hok5:HOk X.prog X.w H3 h':=λb u e=>(I4.hok b u e).stay (λc v hcc q=>up c v (λz=>by
    rcases hcc with zz |zz
    .rw[zz] at z;rw[z,hCfree] at e;cases e
    .rw[z,hCfree] at zz;cases zz) q) (λ_ q=>q) λ_ _ q=>q
   have I5:Inv X pins σ H3 { s4 with heap:=h' }:=I2.call' (s':={ s4 with heap:=h' }) (ch:=fp) I4.os un5 hok5 I4.bare λb hb=>by obtain⟨_,g1,_,g3,g4,g5⟩:=f2 b hb;exact⟨g3,g1,g4,g5⟩
   refine I5.track (o:=.lst ys) hDfree (B4 sz0) (Nat.ne_of_gt I2.lt) (λx c e z=>?_) (λp hp z=>?_) ?_
   .obtain⟨v,q⟩:=I2.cell x c e;exact absurd q.lt (by rw[z];exact A2 _)
   .exact absurd (m_ (I2.pin p hp).1) (by rw[z];exact A2 _)
   .exact⟨hz,its,k,rv,up _ _ hDC hD4.1⟩
  .refine z_ (T.item Y rfl rfl rfl hc i _ s3 σ3 H3 (λ_ _=>False) I3 (fpY fr3 (npl _)) st3 go) (λr s4 ⟨u,hr,h4⟩=>?_) λ_ _ z=>z;subst hr;refine z_ h4 (λ_ s5 ⟨x,H5,I5,r5,y5,st5,fr5⟩=>?_) λ_ _ z=>z;have I5':=I5.pinned (fpY fr5 (npl _)) (T.obj _ _ st5);refine z_ (hg cl G2.objs.size s2 H2 fp _ s5 σ3 H5 x u _ I5' r5 (step x H5 y5)) (λ_ s6 ⟨σ6,H6,I6,q6⟩=>?_) λ_ _ z=>z;refine z_ (ht cl G2.objs.size s2 H2 fp _ s6 σ6 H6 _ I6 q6) (λok s7 ⟨H7,I7,q7⟩=>?_) λ_ _ z=>z;have back:∀{σ':St}{H':Hp}{s':Shared},Inv Y ([(s2.heap.objs.size,{ cls:=.type "list",dict:=none,data:=.seq its.toArray k })]++eQ fp s5.heap) σ' H' s'->tn (i+1) s'.heap/\∀b∈fp,H' b=none:=λ{σ' H' s'} IB=>by refine⟨T.keep _ _ _ st5 λb hb o e=>(IB.pin (b,o) (AI _ (AI _ (cR hb e)))).1,λb hb=>?_⟩;obtain⟨o,e,d⟩:=T.obj _ _ st5 b hb;exact (IB.pin (b,o) (AI _ (AI _ (cR hb e)))).2.1
   cases ok with
   |false=>rw[if_neg h_] at q7;obtain⟨m',hm,w7⟩:=hNx _ _ _ q7;rw[if_neg h_];obtain⟨t7,f7⟩:=back I7;exact⟨m',hm,i+1,ys,its,k,σ6,H7,I7.unpinned,rv,t7,f7,w7⟩
   |
    true=>
    rw[if_pos rfl] at q7;rw[if_pos rfl];refine z_ (he cl G2.objs.size s2 H2 fp _ s7 σ6 H7 _ I7 q7) (λy s8 zz=>exA zz λyv H8 I8 r8 q8=>?_) λ_ _ z=>z;obtain⟨m',hm,w8⟩:=hNx _ _ _ q8;obtain⟨t8,f8⟩:=back I8;have I9:=I8.unpinned;have hD9:=I9.pin (s2.heap.objs.size,{ cls:=.type "list",dict:=none,data:=.seq its.toArray k }) (AI _ y_);have e9:s8.heap.get? s2.heap.objs.size=some { cls:=.type "list",dict:=none,data:=.seq its.toArray k }:=hD9.1;have hlen:=rv.length;refine call_meets F.slot_list_append ⟨_,e9,rfl⟩ F.entry_list_append (F.args_list_append_2 _ _) (PySem.list_append _ its.toArray k y (by rw[q_];omega)) ⟨e9,?_⟩;have q9:=PySem.IsL.update e9 (λxs=>xs.push y);have ea:its.toArray.push y=(its++[y]).toArray:=by simp
    rw[ea] at q9;have k9:∀b o,b≠s2.heap.objs.size->s8.heap.get? b=some o->(s8.heap.update s2.heap.objs.size (Obj.mapSeq λxs=>xs.push y)).get? b=some o:=λb o hb e=>(Heap.get?_update_other _ _ (Ne.symm hb)).trans e;have I10:Inv Y [] σ6 H8 { s8 with heap:=s8.heap.update s2.heap.objs.size (Obj.mapSeq λxs=>xs.push y) }:=
     (I9.pins_of (pins':=[]) (λp hp=>nomatch hp)).turned (t':=s8.toks) k9 hD9.2.1 hD9.2.2.1 (.inr (r_ _)) (λx c e z=>absurd (cellOld x c e) (by rw[z];exact A2 _))
      (λp hp=>absurd (show p∈([]:Ck) from hp) (by simp))
    refine⟨m',hm,i+1,ys++[yv],its++[y],_,σ6,H8,pinD I10 q9 (λv z=>by cases z) hD9.2.1,rv.append (.cons r8 .nil),?_,f8,w8⟩;exact T.keep _ _ _ t8 λb hb o e=>k9 b o (λz=>hDfp (by rw[<- z];exact hb)) e
 exact codeAny_compStart_list (loop _ rfl) (T.self _ 0 _ _ _ (T.keep _ _ _ st2 λb hb o e=>old b o e) (loop _ rfl))
def yw{elt iter tg:Expr}{ifs:List Expr}{scope:Scope}{pos:Pos}{wi:TI}{g:TG}{tc:TT}{te:TE}{N:List Str}{sub:Cn}
 (hc:X.calm=true) (hi:PI X tg iter wi)
 (hk:scope.kind=.function) (hnc:∀x∈scope.names,x.2 ≠ .cell) (b_:∀x∈scope.names,x.2=.local->scope.names.lookup x.1=some .local)
 (hfr:∀x∈scope.names,x.2=.free->X.env.kindOf x.1=some .cell\/X.env.kindOf x.1=some .free)
 (hsl:sub.length=N.length) (hsub:∀(j i:Nat) (x:Str),sub[j]?=some (some i)->N[j]?=some x->X.N[i]?=some x/\scope.names.lookup x=some .free)
 (hg:∀cl C s₂ H fp,PG (aT X N scope cl C s₂ H fp) tg g) (ht:∀cl C s₂ H fp,PTs (aT X N scope cl C s₂ H fp) ifs tc) (he:∀cl C s₂ H fp,PE (aT X N scope cl C s₂ H fp) elt te)
 (hs:∀x,foldedSetIterable iter X.env x=pure x):
 PE X (.ListComp elt [⟨tg,iter,ifs,0⟩] scope pos) (jf wi sub g tc te):=by
 intro pins s σ H Q I h;rw[eval_ListComp];refine lV hc hi hk hnc b_ hfr hsl hsub hg ht he hs I h λD C s4 e=>?_;obtain⟨m,hm⟩:=e.ns;obtain⟨H',_,q,i⟩:=e.inv;exact⟨m,hm,λh' hs'=>⟨.ref D,H',i h' hs',rfl,q⟩⟩
noncomputable def jk (M:List Str) (names:List (Str×NameKind)) (sub:Cn) (N:List Str):Bool:=(sub.zip N).all λp=>match p.1 with
 |none=>true
 |some i=>M[i]?==some p.2&&names.lookup p.2==some .free
def km{M:List Str}{names:List (Str×NameKind)}{sub:Cn}{N:List Str}(h:jk M names sub N=true)(j i:Nat)(x:Str)(h1:sub[j]?=some (some i))(h2:N[j]?=some x):
 M[i]?=some x/\names.lookup x=some .free:=by
 unfold jk at h;rw[AK] at h;have hm:(some i,x)∈sub.zip N:=by refine Bd (i:=j) ?_;rw[List.getElem?_zip_eq_some];exact⟨h1,h2⟩
 have q:=h _ hm;simp only[i_,AQ] at q;exact q
noncomputable def nE (kn names:List (Str×NameKind)):Bool:=names.all λx=>x.2 != .free || kn.lookup x.1==some .cell || kn.lookup x.1==some .free
def lL{kn names:List (Str×NameKind)}(h:nE kn names=true):∀x∈names,x.2=.free->kn.lookup x.1=some .cell\/kn.lookup x.1=some .free:=λx hx hf=>by unfold nE at h;rw[AK] at h;have q:=h x hx;rw[hf] at q;simpa using q
end
open PySem PySem.Spec PyProof.Rows PySem.W PySem.Builtin PySem.Builtin.ObjectAttr PySem.Builtin.Getset_descriptor
structure XCls(K:W.Frag)(C:Addr):Prop where
 cls:(clsIn K C).isSome=true
 ga:findIn K (.ref C) "__getattribute__"=some (some (.builtin "BaseException.__getattribute__"))
 gt:findIn K (.ref C) "__getattr__"=some none
 at_:findIn K (.ref C) "__class__"=some (some (.builtin "object.__class__"))
 gs:specialIn K (.builtin "object.__class__") "__get__"=some (some (.builtin "getset_descriptor.__get__"))
 tk:takesIn K (.builtin "object.__class__")=some true
 mo:mroIn K C (.type "object")=some true
 mb:mroIn K C (.type "BaseException")=some true
section
variable{prog:Program}{w:World}{A:Around}{E:Cm}{K:W.Frag}{x C:Addr}{o:Obj}
def da(hx:h.get? x=some o)(hc:o.cls=.ref C):Looks M h (typeOf (.ref x)) (.ref C):=hc ▸ (Looks.ld hx).andThen .now
def rK(X:K.In h)(T:XCls K C):Looks M h (find (.ref x) (.ref C) "__class__") (.bind (.builtin "getset_descriptor.__get__") (.builtin "object.__class__")):=by have L1:=looks_findIn (M:=M) X T.at_;have L2:Looks M h (getOf (some (.builtin "object.__class__"))) (some (.builtin "getset_descriptor.__get__")):=looks_specialIn X T.gs;have L3:=looks_takesIn (M:=M) X T.tk;refine L1.andThen (L2.andThen ?_);exact (show Looks M h (dataDescriptor? (some (.builtin "object.__class__")) (some (.builtin "getset_descriptor.__get__"))) (some (.builtin "getset_descriptor.__get__",.builtin "object.__class__")) from L3.andThen .now).andThen (Looks.tag .now)
def jb(X:K.In s.heap)(hx:s.heap.get? x=some o)(hc:o.cls=.ref C)(T:XCls K C)
 (h:R (.ok (.ret (.ref C))) s):codeAny (model prog w) A (.call (.builtin "getset_descriptor.__get__") ⟨[.builtin "object.__class__",.ref x,tp],[]⟩) R s:=by
 obtain⟨hh,g,dr,t,os⟩:=s;have L0:=da (M:=model prog w) hx hc;have L1:=looks_mroIn (M:=model prog w) X T.mo;refine codeAny_call_builtin KF.slot_gs.plain KF.entry_gs (KF.slot_gs.check _ _ _ _ _ _ _ _ KF.type_class (KF.args_gs _ _ _) ?_);unfold Builtin.«getset_descriptor.__get__» descrGet;rw[dga_obj];refine g_ (l_ ?_);unfold descrGetter descrCheckInstance descrNameAndClass isInstance;simp only[KF.owner_class];repeat lk
 refine⟨Code.quiet_builtin _ (by decide),codeAny_builtin KF.entry_class ?_⟩;unfold Builtin.«object.__class__» shownTypeOf;repeat lk
 exact h
def nP(X:K.In s.heap)(hx:s.heap.get? x=some o)(hc:o.cls=.ref C)(T:XCls K C)(hq:Q () s):
 wpAny M A (checkBuiltinCall "BaseException.__getattribute__" ⟨[.ref x,nameV],[]⟩) Q E s:=by
 obtain⟨h,g,dr,t,os⟩:=s;have hk:builtinKind "BaseException.__getattribute__"=some .slot:=by decide
 have hsplit:splitId "BaseException.__getattribute__"=some ("BaseException", "__getattribute__"):=by decide
 have ha:=PySem.F.args_bexc_ga (.ref x) nameV;have L0:=da (M:=M) hx hc;have LM:=looks_mroIn (M:=M) X T.mb;have LI:Looks M h (isInstance (.ref x) (.type "BaseException")) true:=L0.andThen LM;simp only[checkBuiltinCall,hk,hsplit];refine g_ ?_;refine LI.at ?_;repeat (first |wp_step)
 all_goals exact hq
def wB(X:K.In s.heap)(hx:s.heap.get? x=some o)(hc:o.cls=.ref C)(T:XCls K C)(h:Q (some (.ref C)) { s with toks:=s.toks+1 }):
 wpAny (model prog w) A (getAttr? (.ref x) "__class__") Q E s:=by
 obtain⟨hh,g,d,t,os⟩:=s;have L0:=da (M:=model prog w) hx hc;have L1:=looks_findIn (M:=model prog w) X T.ga;have L2:=looks_findIn (M:=model prog w) X T.gt;have LF:=rK (M:=model prog w) (x:=x) X T;have f3:=PySem.F.excAttr_ValueError.ga.bind (.ref x);have hx2:(Value.builtin "BaseException.__getattribute__" == Value.builtin "object.__getattribute__")=false:=by decide
 unfold getAttr? getAttrBy? getAttrBy;refine g_ (wpAny_mkText (g_ (wpAny_attempt (BN (g_ (L0.at (g_ (L1.at ?_))))))));dsimp only;rw[if_neg (by rw[hx2];simp)];unfold getAttrByItsOwn hookBefore;rw[if_pos (show onTheHeap (Value.ref C)=true from rfl)];refine g_ (L2.at ?_);unfold callGetattribute;refine g_ (wpAny_attempt (BN ?_));rw[if_neg (by simp)];unfold boundAndCalled;refine g_ (wpAny_of_eq f3 ?_);refine wpAny_call (codeAny_call_builtin PySem.F.excAttr_ValueError.ga.plain PySem.F.entry_bexc_ga (nP X hx hc T ?_));unfold Builtin.«object.__getattribute__»;repeat (first |(refine g_ (L0.at ?_)) |(refine g_ (LF.at ?_)) |wp_step)
 refine jb (s:=⟨hh,g,d,t+1,os⟩) X hx hc T ?_;repeat (first |exact h |wp_step)
def fW(x:Addr)(C:Addr)(h:Heap):Prop:=∃o vs,h.get? x=some o/\o.cls=.ref C/\o.data=.fields vs
def sx(T:XCls K C):KitX K (.ref x) (.ref C) (fW x C) where
 ty:=λM h _ ⟨o,_,hx,hc,_⟩=>da hx hc
 it:=λM h X _=>by
  obtain⟨cd,hcd⟩:=Bg.mp T.cls;unfold clsIn at hcd;split at hcd
  .rename_i c' d' cd' sl' ho;intro A' Q' E' s' k q;unfold isType loadHead;exact g_ (wpAny_loadPart (k _ _ (X _ _ ho)) (l_ q))
  .cases hcd
 ne:=λh tp dd its n sl X htp=>by
  obtain⟨cd,hcd⟩:=Bg.mp T.cls;refine Bool.eq_false_iff.mpr λq=>?_;have e:C=tp:=Value.ref.inj (AQ.mp q);subst e;unfold clsIn at hcd;split at hcd
  .rename_i c' d' cd' sl' ho;have z:=(X _ _ ho).symm.trans htp;cases z
  .cases hcd
 ca:=λX ⟨o,_,hx,hc,_⟩ k=>wB X hx hc T k
end
inductive TyX(K:W.Frag)(H:Hp):V->Value->Prop where
 |of {x:V}{t:Value} (h:TyOf K H x t):TyX K H x t
 |exc {a C:Addr} (e:H a=some (.ext (fW a C))) (T:XCls K C):TyX K H (.ref a) (.ref C)
 |sqT {a:Addr}{xs:List V} (h:SqT K H a xs):TyX K H (.ref a) (.type "tuple")
 |sqL {a:Addr}{xs:List V} (h:SqL K H a xs):TyX K H (.ref a) (.type "list")
section
variable{X:Cx}{pins:Ck}{σ:St}{H:Hp}{s:Shared}{c:Value}
def mi(I:Inv X pins σ H s)(rx:RelV x u)(ty:TyX X.K H x t):∃Hh:Heap->Prop,KitX X.K u t Hh/\Hh s.heap/\u ≠ .builtin "__main__.__loader__#opaque":=by
 cases ty with
 |exc ea T=>cases (show u=Value.ref _ from rx);exact⟨_,sx T,(I.hok _ _ ea).1,λz=>nomatch z⟩
 |sqT h=>cases (show u=Value.ref _ from rx);obtain⟨its,rv,⟨o,e,c,_⟩,_⟩:=I.tuple h;exact⟨_,kitx_tuple,⟨o,e,c⟩,λz=>nomatch z⟩
 |sqL h=>cases (show u=Value.ref _ from rx);obtain⟨its,rv,⟨o,n,e,c,_⟩,_⟩:=I.list h;exact⟨_,kitx_list,⟨o,e,c⟩,λz=>nomatch z⟩
 |
  of ty=>
  cases ty with
  |non=>cases (show u=Value.none from rx);exact⟨_,kitx_none,True.intro,λz=>nomatch z⟩
  |bl y=>cases (show u=Value.bool y from rx);exact⟨_,kitx_bool,True.intro,λz=>nomatch z⟩
  |int i=>obtain⟨t,q⟩:=(show ∃t,u=Value.int i t from rx);cases q;exact⟨_,kitx_int,True.intro,λz=>nomatch z⟩
  |str y=>obtain⟨t,q⟩:=(show ∃t,u=Value.str y t from rx);cases q;exact⟨_,kitx_str,True.intro,λz=>nomatch z⟩
  |flt y=>obtain⟨t,q⟩:=(show ∃t,u=Value.float y t from rx);cases q;exact⟨_,kitx_float,True.intro,λz=>nomatch z⟩
  |@lst a xs ea=>cases (show u=Value.ref a from rx);obtain⟨_,_,n,_,h1⟩:=(show ObjOk X.prog X.w H s.heap a (.lst xs) from I.hok a _ ea);exact⟨_,kitx_list,⟨_,h1,rfl⟩,λz=>nomatch z⟩
  |@frz a ob xs ea=>cases (show u=Value.ref a from rx);obtain⟨_,_,_,n,_,h1⟩:=(show ObjOk X.prog X.w H s.heap a (.frz ob (.lst xs)) from I.hok a _ ea);exact⟨_,kitx_list,⟨_,h1,rfl⟩,λz=>nomatch z⟩
  |@tup a xs ea=>cases (show u=Value.ref a from rx);obtain⟨_,_,_,p⟩:=(show ObjOk X.prog X.w H s.heap a (.tup xs) from I.hok a _ ea);obtain⟨o,h1,h2,_⟩:=p;exact⟨_,kitx_tuple,⟨o,h1,h2⟩,λz=>nomatch z⟩
  |@dK a kvs ea=>cases (show u=Value.ref a from rx);obtain⟨_,_,vs,_,p⟩:=(show ObjOk X.prog X.w H s.heap a (.dK kvs) from I.hok a _ ea);obtain⟨o,es,ep,h1,h2,_⟩:=p;exact⟨_,kitx_dict,⟨o,h1,h2.1⟩,λz=>nomatch z⟩
  |@dT a kvs ea=>cases (show u=Value.ref a from rx);obtain⟨_,_,xs,_,o,es,ep,h1,h2,_⟩:=(show ObjOk X.prog X.w H s.heap a (.dT kvs) from I.hok a _ ea);exact⟨_,kitx_dict,⟨o,h1,h2.1⟩,λz=>nomatch z⟩
  |@ins a C dx fs ea cl ha hn htk hm=>cases (show u=Value.ref a from rx);obtain⟨mA,O,_⟩:=v8 I.hok ea;obtain⟨od,J,_⟩:=O.look;exact⟨_,kitx_own (cl.get _) cl.hd ha hn htk hm,J,λz=>nomatch z⟩
end
section
variable{X:Cx}
noncomputable def cB:V->Option Value
 |.ref C=>some (.ref C)
 |.ty T=>some (.type T)
 |_=>none
def jE(h:cB c=some v)(r:RelV c u):u=v:=by
 cases c with
 |ref C=>cases r;exact u_ h
 |ty T=>cases r;exact u_ h
 |_=>cases h
theorem iV:∀{cs:List V}{us vs:List Value},cs.mapM cB=some vs->Vals cs us->us=vs
 |
  [],_,vs,h,.nil=>by
  have h':some ([]:List Value)=some vs:=h;exact u_ h'
 |
  c::cs,_,vs,h,.cons r rr=>by
  rw[List.mapM_cons] at h;cases q:cB c with
  |none=>rw[q] at h;cases h
  |
   some v=>
   rw[q] at h;cases q2:cs.mapM cB with
   |none=>rw[q2] at h;cases h
   |some vs'=>rw[q2] at h;have h':some (v::vs')=some vs:=h;cases h';rw[jE q r,iV q2 rr]
def sN:CallR X (.builtin "isinstance") (λxs H Q=>∃x c t v b,xs=[x,c]/\TyX X.K H x t/\cB c=some v/\kitOne X.K t v=some b/\Q (.bl b) H):=by intro pins s σ H xs us Q I r h;obtain⟨x,c,t,v,b,rfl,ty,hc,hk,q⟩:=h;obtain⟨u,w',rfl,rx,rc⟩:=m9 r;obtain rfl:=jE hc rc;obtain⟨Hh,Z,p,hne⟩:=mi I rx ty;exact kia_one Z I.kIn p hk hne λtk=>⟨.bl b,H,I.tok _,rfl,q⟩
end
def ObjOk.there(x:ObjOk P w H h a o):∃u,h.get? a=some u:=by
 cases o with
 |lst xs=>obtain⟨_,_,_,_,e⟩:=x;exact⟨_,e⟩
 |tup xs=>obtain⟨_,_,_,ob,e,_⟩:=x;exact⟨_,e⟩
 |dK kvs=>obtain⟨_,_,_,_,o,_,_,e,_⟩:=x;exact⟨_,e⟩
 |dT kvs=>obtain⟨_,_,_,_,o,_,_,e,_⟩:=x;exact⟨_,e⟩
 |set S n=>obtain⟨o,_,_,_,e,_⟩:=x;exact⟨_,e⟩
 |ins C dx fs=>obtain⟨_,_,_,e,_⟩:=x;exact⟨_,e⟩
 |own y=>exact x
 |xd fs=>obtain⟨_,⟨_,_,_,e,_⟩,_⟩:=x;exact⟨_,e⟩
 |rng lo hi=>obtain⟨_,_,_,e⟩:=x;exact⟨_,e⟩
 |frz ob u=>obtain⟨e,_⟩:=x;exact⟨_,e⟩
 |tbl ps=>exact⟨_,show h.get? a=some _ from x⟩
 |met f y=>exact⟨_,show h.get? a=some _ from x⟩
 |ext φ=>obtain⟨_,e,_⟩:=x;exact e
structure Fly(P:Program)(w:World)(outer:List Env)(H:Hp)(h₀:Heap)(H':Hp)(ea:Addr)(cls:Value)(h:Heap)(B:Heap)(t:Addr):Prop where
 un:Un (frs outer) [] H H' h₀ h
 hok:HOk P w H' h
 fl:Heap.FlyingW B outer ea cls (.ref t) h
 old:∀b o,h₀.get? b=some o->b∉frs outer->∃o',B.get? b=some o'
 trk:∀b o,H' b=some o->∃o',B.get? b=some o'
def CX1(P:Program)(w:World):CXT:=λouter H s E e s'=>∃(ea t:Addr) (cls:Value) (H':Hp) (B:Heap),e=.ref ea/\s'.os=s.os/\AllBare s'.gens/\Fly P w outer H s.heap H' ea cls s'.heap B t/\E cls none H'
def jK(h:env.frame=some L):frs (env::outer)=L::frs outer:=by unfold frs;rw[Bj,h]
section
variable{P:Program}{w:World}{outer:List Env}{H H':Hp}{h₀ h h' B:Heap}{ea t:Addr}{cls:Value}
def Fly.step(F:Fly P w outer H h₀ H' ea cls h B t)(fl':Heap.FlyingW B outer' ea cls (.ref t) h')(up:h.UpToSlots h'):
 Un (frs outer) [] H H' h₀ h'/\HOk P w H' h':=by
 have st:=F.fl.1;have same:∀b o,(∃o',B.get? b=some o')->h.get? b=some o->h'.get? b=some o:=λb o ⟨o',e⟩ q=>by have z:=st b o' e;rw[q] at z;cases z;exact fl'.1 b _ e
 have frame:∀b o,b∈frs outer->h.get? b=some o->∃sl,h'.get? b=some { o with slots:=sl }:=λb o hb q=>by obtain⟨_,o',ho',hd⟩:=F.fl.2.2.1.mem hb;rw[q] at ho';cases ho';exact up b o q hd
 refine⟨⟨λb o e n hb hx=>same b o (F.old b o e hb) (F.un.keep b o e n hb hx),λb o e n hb hx=>?_,F.un.free,λb o e hx=>?_,F.un.tups,F.un.frzs,F.un.tbls⟩,λa o e=>?_⟩
 .obtain⟨sl,q⟩:=F.un.slot b o e n hb hx;obtain⟨sl',q'⟩:=frame b _ hb q;exact⟨sl',q'⟩
 .obtain⟨o',q⟩:=F.un.there b o e hx;by_cases hb:b∈frs outer
  .obtain⟨sl,q'⟩:=frame b _ hb q;exact⟨_,q'⟩
  .exact⟨o',same b o' (F.old b o e hb) q⟩
 .refine (F.hok a o e).stay (λb u hb q=>same b u ?_ q) (λ_ q=>q) λ_ _ q=>q;rcases hb with z |z
  .rw[z];exact F.trk a o e
  .exact F.trk b _ z
end
structure Cx.Top(X:Cx):Prop where
 ex:X.ex=[]
 stk:X.stack=X.env::X.outer
 fr:X.env.frame=some X.env.locals
section
variable{X:Cx}{pins:Ck}{σ:St}{H:Hp}{s s':Shared}{E:XK}{e:Value}
def pC(T:X.Top)(hA:A.frames=some X.stack)(I:Inv X pins σ H s)(h:CX1 X.prog X.w X.stack H s E e s'):
 wpAny (model X.prog X.w) A (leaving X.env e) (λ_ s''=>CX1 X.prog X.w X.outer X.H₀ X.s₀ E e s'') E' s':=by
 obtain⟨ea,t,cls,H',B,rfl,os,bare,F,q⟩:=h;have F0:=F;rw[T.stk] at F;have hf:=jK (outer:=X.outer) T.fr;refine wpAny_leaves_onW (by rw[hA,T.stk]) T.fr F.fl λh'' fl'' up=>?_;obtain⟨un2,hok2⟩:=F.step fl'' up;have exn:∀b,b∉X.ex:=λb z=>by rw[T.ex] at z;cases z
 have neL:∀b o,X.s₀.heap.get? b=some o->b≠X.env.locals:=λb o e=>AS (t_ (m_ e) I.ok.above);have notin:∀b o,X.s₀.heap.get? b=some o->b∉frs X.outer->b∉frs (X.env::X.outer):=λb o e hb z=>by
  rw[hf] at z;rcases AL.mp z with z |z
  .exact neL b o e z
  .exact hb z
 refine⟨ea,t,cls,H',B,rfl,os.trans I.os,bare,⟨⟨λb o e n hb hx=>?_,λb o e n hb hx=>?_,λb o e n hx=>?_,λb o e hx=>?_,λb xs e=>un2.tups b xs (I.base.tups b xs e),λb o xs e=>un2.frzs b o xs (I.base.frzs b o xs e),λb ps e=>?_⟩,hok2,fl'',λb o e hb=>?_,F.trk⟩,q⟩
 .exact un2.keep b o (I.base.keep b o e n hb (exn b)) (I.base.free b o e n (exn b)) (notin b o e hb) (by simp)
 .obtain⟨sl,e1⟩:=I.base.slot b o e n hb (exn b);obtain⟨sl',e2⟩:=un2.slot b _ e1 (I.base.free b o e n (exn b)) (by rw[hf];exact s_ _ hb) (by simp);exact⟨sl',e2⟩
 .obtain⟨o',e1⟩:=I.base.there b o e (exn b);exact un2.free b o' e1 (I.base.free b o e n (exn b)) (by simp)
 .obtain⟨o',e1⟩:=I.base.there b o e (exn b);exact un2.there b o' e1 (by simp)
 .obtain⟨m1,e1⟩:=I.base.tbls b ps e;obtain⟨m2,e2⟩:=un2.tbls b _ e1;exact⟨m1++m2,by rw[e2,Array.append_assoc]⟩
 .obtain⟨o',e1⟩:=I.base.there b o e (exn b);exact F.old b o' e1 (notin b o e hb)
def rV(T:X.Top)(hA:A.frames=some X.stack)(I:Inv X pins σ H s)(hx:Heap.MadeExcOf s.heap h' ea cls args)(q:E cls none H):
 wpAny (model X.prog X.w) A (leaving X.env (.ref ea)) (λ_ s''=>CX1 X.prog X.w X.outer X.H₀ X.s₀ E (.ref ea) s'') E' { s with heap:=h' }:=by
 have hf:=jK (outer:=X.outer) T.fr;have stk:=I.stack;rw[T.stk] at stk;have hin:∀env∈(X.env::X.outer),∀b,env.frame=some b->b∈frs (X.env::X.outer):=λenv he b hb=>List.mem_filterMap.mpr ⟨env,he,hb⟩;refine wpAny_leaves_madeW (base:=W.hideAll s.heap (frs (X.env::X.outer))) (h:=s.heap) (by rw[hA,T.stk]) T.fr (λb o q=>W.of_hideAll _ q) (W.funFrames_hide stk hin) hx λh'' t fl tup tn up=>?_;have inB:∀b o,s.heap.get? b=some o->b∉frs (X.env::X.outer)->(W.hideAll s.heap (frs (X.env::X.outer))).get? b=some o:=λb o e hb=>W.hideAll_get _ e hb;have free:∀b∈frs (X.env::X.outer),H b=none:=λb hb=>I.stkFree b (by rw[T.stk];exact hb);have up2:s.heap.UpToSlots h'':=(Heap.UpToSlots.of_keeps hx.keeps).trans up;have exn:∀b,b∉X.ex:=λb z=>by rw[T.ex] at z;cases z
 have neL:∀b o,X.s₀.heap.get? b=some o->b≠X.env.locals:=λb o e=>AS (t_ (m_ e) I.ok.above);have notin:∀b o,X.s₀.heap.get? b=some o->b∉frs X.outer->b∉frs (X.env::X.outer):=λb o e hb z=>by
  rw[hf] at z;rcases AL.mp z with z |z
  .exact neL b o e z
  .exact hb z
 have trk:∀b o,H b=some o->∃o',(W.hideAll s.heap (frs (X.env::X.outer))).get? b=some o':=λb o e=>by obtain⟨u,hu⟩:=(I.hok b o e).there;exact⟨u,inB b u hu λz=>by rw[free b z] at e;cases e⟩
 refine⟨ea,t,cls,H,_,rfl,I.os,I.bare,⟨⟨λb o e n hb hx=>?_,λb o e n hb hx=>?_,λb o e n hx=>?_,λb o e hx=>?_,I.base.tups,I.base.frzs,I.base.tbls⟩,λa o e=>?_,fl,λb o e hb=>?_,trk⟩,q⟩
 .exact fl.1 b o (inB b o (I.base.keep b o e n hb (exn b)) (notin b o e hb))
 .obtain⟨sl,e1⟩:=I.base.slot b o e n hb (exn b);obtain⟨_,o',ho',hd⟩:=I.ok.funs.mem hb;rw[e] at ho';cases ho';obtain⟨sl',e2⟩:=up2 b _ e1 hd;exact⟨sl',e2⟩
 .exact I.base.free b o e n (exn b)
 .obtain⟨o',e1⟩:=I.base.there b o e (exn b);by_cases hb:b∈frs X.outer
  .obtain⟨_,o2,ho2,hd⟩:=I.funs.mem hb;rw[e1] at ho2;cases ho2;obtain⟨sl',e2⟩:=up2 b _ e1 hd;exact⟨_,e2⟩
  .exact⟨o',fl.1 b o' (inB b o' e1 (notin b o e hb))⟩
 .refine (I.hok a o e).stay (λb u hb q=>?_) (λ_ q=>q) λ_ _ q=>q;refine fl.1 b u (inB b u q λz=>?_);rcases hb with y |y
  .rw[y] at z;rw[free a z] at e;cases e
  .rw[free b z] at y;cases y
 .obtain⟨o',e1⟩:=I.base.there b o e (exn b);exact⟨o',inB b o' e1 (notin b o e hb)⟩
def kh{h6:Heap}{ea t:Addr}{C:Addr}{H':Hp}{B:Heap}{g':Shared}(T:X.Top)(I:Inv X pins σ H s)(F:Fly X.prog X.w X.stack H s.heap H' ea (.ref C) s'.heap B t)(os:s'.os=s.os)(bare:AllBare s'.gens)
 (fl6:Heap.FlyingW B X.stack ea (.ref C) (.ref t) h6) (up:s'.heap.UpToSlots h6):
 H' ea=none/\Inv X pins σ (upd H' ea (.ext (fW ea C))) { s' with heap:=h6 }:=by
 obtain⟨un2,hok2⟩:=F.step fl6 up;obtain⟨oe,vs,he,hc,hd,_⟩:=fl6.first;have hB:B.get? ea=none:=fl6.2.1;have hn:H' ea=none:=by
  cases q:H' ea with
  |none=>rfl
  |some o=>obtain⟨o',z⟩:=F.trk ea o q;rw[hB] at z;cases z
 have hnf:ea∉frs X.stack:=λz=>by obtain⟨_,o,ho,hdd⟩:=fl6.2.2.1.mem z;rw[he] at ho;cases ho;exact hdd vs hd
 have hs:s.heap.get? ea=none:=by
  cases q:s.heap.get? ea with
  |none=>rfl
  |some o=>obtain⟨o',z⟩:=F.old ea o q hnf;rw[hB] at z;cases z
 have I5:Inv X pins σ H' { s' with heap:=h6 }:=I.call' (s':={ s' with heap:=h6 }) (ch:=[]) os un2 hok2 bare λb hb=>nomatch hb;refine⟨hn,I5.track hn ?_ ?_ (λx c e z=>?_) (λp hp z=>?_) ⟨⟨oe,vs,he,hc,hd⟩,⟨oe,he⟩,λh1 h2 ⟨o1,v1,e1,r⟩ k=>⟨o1,v1,k o1 e1,r⟩⟩⟩
 .cases q:X.s₀.heap.get? ea with
  |none=>rfl
  |some o=>obtain⟨o',z⟩:=I.base.there ea o q (by rw[T.ex];simp);rw[hs] at z;cases z
 .intro z;obtain⟨m,⟨o,es,ep,ho,hdd,_⟩,_⟩:=I.loc;rw[<- z,hs] at ho;cases ho
 .obtain⟨v,o,ho,_⟩:=I.cell x c e;rw[z,hs] at ho;cases ho
 .have:=(I.pin p hp).1
  rw[z,hs] at this;cases this
end
section
variable{P:Program}{w:World}{K:W.Frag}{mg:Cj}{base:Heap}{N:List Str}{qual:Str}{scope:Scope}{f:Addr}{cd:Value}{A:Around}{outer:List Env}{s:Shared}{H:Hp}{E:XK}
def nh:(bT (CX1 P w) P w K mg base N qual scope f cd A outer s H E).Top:=⟨rfl,rfl,rfl⟩
def sT:kG (CX1 P w) (bT (CX1 P w) P w K mg base N qual scope f cd A outer s H E) E:=λpins σ H s e s' I h=>pC nh I.ok.frames I h
def zm:kG (CX1 P w) X E0:=λpins σ H s e s' I ⟨_,_,_,_,_,_,_,_,_,q⟩=>q.elim
def dE:PassesOwn (model P w) (bT (CX1 P w) P w K mg base N qual scope f cd A outer s H E).A (bT (CX1 P w) P w K mg base N qual scope f cd A outer s H E).env (bT (CX1 P w) P w K mg base N qual scope f cd A outer s H E).xe:=PassesOwn.leaving
def Rz(X:Cx)(E:XK):Prop:=∀(pins:Ck) (σ:St) (H:Hp) (s:Shared) (h':Heap) (ea:Addr) (cls:Value) (args:List Value),Inv X pins σ H s->Heap.MadeExcOf s.heap h' ea cls args->E cls none H->X.xe (.ref ea) { s with heap:=h' }
def rz1:Rz (bT (CX1 P w) P w K mg base N qual scope f cd A outer s H E) E:=λpins σ H s h' ea cls args I hx q=>rV nh I.ok.frames I hx q
def Fun.okR{x qual:Str}{st:Stmt}{f:Addr}{fd:FuncData}{N ps:List Str}{k:Nat}{sp:Sp}(F:Fun K x qual st f fd)(S:FnScope N ps (ai st))(len:∀vs H Q E,sp vs H Q E->vs.length=ps.length)
 (a_:∀(cdv:Value) (A:Around) (outer:List Env) (s:Shared) (H:Hp) (vs:List V) (Q:VK) (E:XK),Room k (A.deeper (envOfC qual (ai st) s.heap.objs.size f cdv))->sp vs H Q E->
  ∃t,PSs (bT (CX1 P w) P w K mg base N qual (ai st) f cdv A outer s H E) (aO st) t/\t { nx:=λ_ H'=>Q .non H',rt:=Q } (bt N vs) H):FnOk P w K mg base (CX1 P w) (k+1) f fd ps sp:=by
 obtain⟨oc,od,kV,doc,pm,an,cdv,ct,osl,rfl,lk,hcd⟩:=F.ex;exact zJ lk hcd S len λA outer s H vs Q E hr hsp=>a_ cdv A outer s H vs Q E hr hsp
end
abbrev gN:List Value:=[.type "ValueError",.type "Exception",.type "BaseException",.type "object"]
def oY{K:W.Frag}{h:Heap}{C:Addr}(X:K.In h)(q:W.excIn K C gN "ValueError.__new__"=true):
 ∃bm N nm q' bs hdct sn sub ab col dd k0 k1 k2 k3 k5 mN,h.get? C=some (excClassObj nm q' C N bs bm hdct sn sub ab col dd k0 k1 k2 k3 k5 "ValueError.__new__")/\h.Ns N mN/\mN "__init__"=none/\OwnTail h gN bm:=by
 unfold W.excIn at q;split at q
 .rename_i dd cd sl ho;split at q
  .rename_i C' bm k0 k1 k2 k3 n k5 hm hs;simp only[i_,AQ,Bool.not_eq_true'] at q;obtain⟨⟨⟨⟨⟨rfl,rfl⟩,hdel⟩,ht⟩,hok⟩,hni⟩:=q;obtain⟨nm,bs,mro,ns,qn,hd,sn,sub,ab,col,del⟩:=cd;dsimp only at hm hdel hok hni;subst hm hdel;have hsl:sl=#[k0,k1,k2,k3,some (.builtin "ValueError.__new__"),k5]:=by obtain⟨l⟩:=sl;simp only at hs;rw[hs]
   subst hsl;exact⟨bm,ns,nm,qn,bs,hd,sn,sub,ab,col,dd,k0,k1,k2,k3,k5,_,X _ _ ho,.of_isNs (W.isNs_of_in X hok),W.nsMap_none_of_in X hok hni,W.tail_of_in X ht⟩
  .cases q
 .cases q
section
variable{X:Cx}{x:Str}{C:Addr}{E:XK}{np cpos pos:Pos}{e₀:Expr}{es:List Expr}{ta:TA}
def xM(C:Addr)(E:XK)(ta:TA):TS:=λ_ σ H=>ta σ H λvs H1=>vs.length<=sizeLine/\E (.ref C) none H1
def sy(hc:X.calm=true)(hR:Rz X E)(hg:Gl X x)(hm:X.mg x=some (.ref C))(hq:W.excIn X.K C gN "ValueError.__new__"=true)(ha:PA X (e₀::es) ta)
 (he:starEach (e₀::es) X.env=(false,eval e₀ X.env)::starEach es X.env) (c_:(backTo cpos (starEach es X.env)).any (·.1)=false) (hd:(x==("__debug__" : Str))=false):
 PS X (.Raise (some (.Call (.Name x np) (e₀::es) [] cpos)) none pos) (xM C E ta):=by
 intro pins s σ H D I h;obtain⟨bm,N,nm,q',bs,hdct,sn,sub,ab,col,dd,k0,k1,k2,k3,k5,mN,hC,hN,hni,T⟩:=oY I.ok.mod.kin hq;refine wpAny_Raise_call_subT (C:=C) (nm:=nm) (q:=q') (N:=N) (bs:=bs) (bm:=bm) (hdct:=hdct) (sn:=sn) (sub:=sub) (ab:=ab) (col:=col) (dd:=dd) (k0:=k0) (k1:=k1) (k2:=k2) (k3:=k3) (k5:=k5)
  PySem.F.excBase_ValueError (mN:=mN) (T.hasType PySem.F.excBase_ValueError.hasBase) (I.ok.hd hc) (by rw[he];show (false || (backTo cpos (starEach es X.env)).any (·.1))=false;rw[c_];rfl) hni (dZ I hg hm ⟨rfl,?_⟩ hd)
 have hA:=ha cpos pins s σ H _ I h;rw[he] at hA ⊢;refine Calls.evalArgs_plain (thn hA λus s2 ⟨vs,H2,I2,r2,hz,q2⟩=>⟨rfl,by rw[<- r2.length];exact hz,I2.bk _ _ hC,hN.keeps I2.bk,T.keeps I2.bk,λh' e hm'=>?_⟩);exact hR pins σ H2 s2 h' e _ _ I2 hm' q2
end
abbrev XS:=St->XK
abbrev TEx:=St->Hp->VK->XK->Prop
abbrev TSx:=Ends->XS->St->Hp->Prop
def XP(X:Cx)(pins:Ck)(E:XS)(e:Value)(s':Shared):Prop:=∃σ1 H1 s1,Inv X pins σ1 H1 s1/\CX1 X.prog X.w X.stack H1 s1 (E σ1) e s'
def PSsx(X:Cx)(st:List Stmt)(t:TSx):Prop:=
 ∀(pins:Ck) (s:Shared) (σ:St) (H:Hp) (D:Ends) (E:XS),Inv X pins σ H s->t D E σ H->wpAny (model X.prog X.w) X.A (execs st X.env) (SP X pins D) (XP X pins E) s
noncomputable def dO (X:Cx) (ea:Addr):Cx:={ X with A:=X.A.mark (some (.ref ea)),calm:=false,xe:=λ_ _=>False }
section
variable{X:Cx}{pins:Ck}{σ:St}{H:Hp}{s:Shared}{ea:Addr}
def Inv.suite(I:Inv X pins σ H s):Inv (dO X ea) pins σ H s:=
 ⟨⟨I.ok.mod,I.ok.kind,I.ok.glob,I.ok.blt,I.ok.above,I.ok.inj,I.ok.has,I.ok.cab,λz=>absurd z h_,I.ok.frames,I.ok.stk,I.ok.exf,I.ok.bs,I.ok.bsz,I.ok.noex,I.ok.exfs,I.ok.funs,I.ok.frf⟩,I.os,I.bare,I.base,I.loc,I.cell,I.free,I.freeC,I.pin,I.hok,I.len⟩
def Inv.unsuite(ok:X.Ok)(I:Inv (dO X ea) pins σ H s):Inv X pins σ H s:=
 ⟨ok,I.os,I.bare,I.base,I.loc,I.cell,I.free,I.freeC,I.pin,I.hok,I.len⟩
def oH{M:Model}{A:Around}{E:Cm}{K:W.Frag}{C Ce:Addr}{o:Obj}{Q:Bool->Shared->Prop}(KX:K.In s.heap)(he:s.heap.get? ea=some o)(hc:o.cls=.ref Ce)
 (hty:W.typeIn K (.ref C)=some (.type "type")) (hcl:(W.clsIn K C).isSome=true) (hb:W.mroIn K C (.type "BaseException")=some true) (hm:W.mroIn K Ce (.ref C)=some true) (q:Q true s):
 wpAny M A (excMatches (.ref ea) (.ref C)) Q E s:=by
 obtain⟨h,g,d,tk,os⟩:=s;have L0:=da (M:=M) he hc;have L1:=W.looks_typeIn (M:=M) KX hty;have L2:=W.looks_mroIn (M:=M) KX hb;have L3:=W.looks_mroIn (M:=M) KX hm;have L4:W.Looks M h (isType (.ref C)) true:=by
  obtain⟨cd,hcd⟩:=Bg.mp hcl;unfold W.clsIn at hcd;split at hcd
  .rename_i c' d' cd' sl' ho;intro A' Q' E' s' k q;unfold isType loadHead;exact g_ (wpAny_loadPart (k _ _ (KX _ _ ho)) (l_ q))
  .cases hcd
 have LT:W.Looks M h (isInstance (.ref C) (.type "tuple")) false:=L1.andThen (W.Looks.of_pure tc_notTuple);have LE:W.Looks M h (isExcClass (.ref C)) true:=by unfold isExcClass;exact L4.andThen L2
 unfold excMatches;refine g_ (LT.at ?_);rw[if_neg h_];refine g_ (l_ ?_);dsimp only;refine g_ ?_;rw[B5];refine g_ (g_ (LE.at ?_));simp only[Bool.not_true,A_,BK];refine l_ ?_;dsimp only;rw[List.forIn_nil];refine l_ ?_;refine g_ (L0.at (g_ ?_));rw[B5];refine g_ (g_ (L3.at ?_));simp only[BH];exact l_ (l_ (l_ q))
def Inv.unbind(I:Inv X pins σ H s)(hN:X.N.Nodup)(hi:X.N[i]?=some n)(hl:X.env.kindOf n=some .local)
 (hm:∀(i:Nat) (x:Str) (v:V),X.N[i]?=some x->σ[i]?=some (some v)->Vis X.env.scope x->∃u,RelV v u/\qV X.env s.heap m x u) (hn:s.heap.Ns X.env.locals m)
 (hn':h'.Ns X.env.locals (λx=>if x=n then v else m x)) (hs:Heap.SameBut X.env.locals s.heap h'):Inv X pins (σ.set i none) H { s with heap:=h',toks:=tk }:=by
 have cne:=I.cne;have neL:∀b o,X.s₀.heap.get? b=some o->b≠X.env.locals:=λb o e=>AS (t_ (m_ e) I.ok.above);refine⟨I.ok,I.os,I.bare,⟨λb o e n hb hx=>?_,λb o e n hb hx=>?_,I.base.free,λb o e hx=>?_,I.base.tups,I.base.frzs,I.base.tbls⟩,⟨_,hn',λj y v' e1 e2 e3=>?_⟩,λy c e=>?_,I.free,I.freeC,λp hp=>?_,λb ob e=>?_,by simpa using I.len⟩
 .exact (hs.2 b (neL b o e)).trans (I.base.keep b o e n hb hx)
 .obtain⟨sl,e1⟩:=I.base.slot b o e n hb hx;exact⟨sl,(hs.2 b (neL b o e)).trans e1⟩
 .obtain⟨o',e1⟩:=I.base.there b o e hx;exact⟨o',(hs.2 b (neL b o e)).trans e1⟩
 .by_cases hj:j=i
  .subst hj;have hiσ:j<σ.length:=by rw[I.len];exact (f_.mp hi).1
   rw[AV hiσ] at e2;cases e2
  .rw[Bc (Ne.symm hj)] at e2;obtain⟨u',r',q⟩:=hm j y v' e1 e2 e3;refine⟨u',r',?_⟩;rcases q with ⟨k,e⟩ |⟨k,c,e,z⟩
   .refine .inl ⟨k,?_⟩;have:y≠n:=λe=>hj (fI hN e1 (e ▸ hi));simp [this,e]
   .exact .inr ⟨k,c,e,z.sameBut hs (cne y c e)⟩
 .obtain⟨w',z⟩:=I.cell y c e;exact⟨w',z.sameBut hs (cne y c e)⟩
 .obtain⟨e,n,ne,nf,d⟩:=I.pin p hp;exact⟨(hs.2 p.1 ne).trans e,n,ne,nf,d⟩
 .refine (I.hok b ob e).stay (λc w' hc q=>(hs.2 c ?_).trans q) (λ_ q=>q) λ_ _ q=>q;rintro rfl;rcases hc with z |hc
  .rw[<- z,I.free] at e;cases e
  .rw[I.free] at hc;cases hc
def qH(I:Inv X pins σ H s)(hg:Gl X x)(hm:X.mg x=some u)(h:Q u s)
 (hd:(x==("__debug__" : Str))=false):wpAny (model X.prog X.w) A (eval (.Name x pos) X.env) Q E s:=
 BL I.ok.kind hg (Calls.loadGlobal_global (by rw[I.ok.glob];exact I.mod.glob.keeps I.bk) hm h) hd
end
structure XHand(K:W.Frag)(C:Addr):Prop where
 ty:W.typeIn K (.ref C)=some (.type "type")
 cls:(W.clsIn K C).isSome=true
 mb:W.mroIn K C (.type "BaseException")=some true
noncomputable def ui (i:Nat) (D:Ends):Ends:={ nx:=λσ H=>D.nx (σ.set i none) H,rt:=D.rt,bk:=λσ H=>D.bk (σ.set i none) H,ct:=λσ H=>D.ct (σ.set i none) H }
def tTry(K:W.Frag)(C:Addr)(i:Nat)(tb:TSx)(ts:TS):TS:=λD σ H=>
 tb D (λσ1 cls _ H1=>∃Ce,cls=.ref Ce/\W.mroIn K Ce (.ref C)=some true/\∀ea,H1 ea=none->ts (ui i D) (σ1.set i (some (.ref ea))) (upd H1 ea (.ext (fW ea Ce)))) σ H
section
variable{X:Cx}{x n:Str}{C:Addr}{i:Nat}{body suite:List Stmt}{b₀:Stmt}{tb:TSx}{ts:TS}{np hpos pos:Pos}
def xi(T:X.Top)(hN:X.N.Nodup)(hi:X.N[i]?=some n)(hl:X.env.kindOf n=some .local)(hg:Gl X x)(hm:X.mg x=some (.ref C))(hh:XHand X.K C)(hb:PSsx X body tb)(hs:∀ea,PSs (dO X ea) (b₀::suite) ts)
 (hd:(x==("__debug__" : Str))=false):PS X (.Try body [.ExceptHandler (some (.Name x np)) (some n) (b₀::suite) hpos] [] [] pos) (tTry X.K C i tb ts):=by
 intro pins s σ H D I h;refine wpAny_Try_except (z_ (hb pins s σ H D _ I h) (λf s1 q=>?_) λe s1 hx=>?_)
 .cases f with
  |next=>exact Cd q
  |ret v=>exact q
  |brk=>exact q
  |cont=>exact q
 .obtain⟨σ1,H1,s0,I1,ea,t,cls,H',B,rfl,os,bare,F,Ce,rfl,hme,q⟩:=hx;have F1:=F.fl;rw[T.stk] at F1;have hfr:X.A.frames=some (X.env::X.outer):=by rw[I1.ok.frames,T.stk]
  refine wpAny_looks_onW hfr T.fr F1 λh4 held4 up4=>?_;refine wpAny_landsW held4 λh5 fl5 up5=>?_;have fl5':=fl5;rw[<- T.stk] at fl5';obtain⟨hn5,I5⟩:=kh (g':=s1) T I1 F os bare fl5' (up4.trans up5);obtain⟨o5,he5,hc5⟩:=fl5.there;refine wpAny_handleBy_cons (codeAny_handlers_test (qH I5 hg hm ?_ hd)) (by intro q;cases q);refine oH I5.kIn he5 hc5 hh.ty hh.cls hh.mb hme ?_;refine codeAny_handlers_suite_as ?_;refine lands_againW fl5 λh6 fl6 up6=>?_;have fl6':=fl6;rw[<- T.stk] at fl6';obtain⟨hn6,I6⟩:=kh (g':=s1) T I1 F os bare fl6' ((up4.trans up5).trans up6);refine fO (v:=.ref ea) I6 hN hi (.inl hl) rfl (λs7 I7=>?_) (.inr hl);refine z_ (hs ea pins s7 _ _ (ui i D) I7.suite (q ea hn6)) (λf s8 h8=>?_) λ_ _ z=>False.elim z;have go:∀{σ8:St}{H8:Hp},Inv (dO X ea) pins σ8 H8 s8->(∀s9,Inv X pins (σ8.set i none) H8 s9->SP X pins D f s9)->
   wpAny (model X.prog X.w) X.A (do bindName X.env n .none;unbindBehindTheSuite X.env n hpos) (λ_ s9=>SP X pins D f s9) X.xe s8:=λ{σ8 H8} I8' k=>by
   have I8:=I8'.unsuite I.ok;obtain⟨m,hn,hm⟩:=I8.loc;exact wpAny_nameGoes_keeps hl hn (by rw[I8.ok.kind];rfl) λh' v hn' hs'=>k _ (I8.unbind hN hi hl hm hn hn' hs')
  cases f with
  |next=>obtain⟨σ8,H8,I8,q8⟩:=h8;exact go I8 λs9 I9=>⟨_,_,I9,q8⟩
  |brk=>obtain⟨σ8,H8,I8,q8⟩:=h8;exact go I8 λs9 I9=>⟨_,_,I9,q8⟩
  |cont=>obtain⟨σ8,H8,I8,q8⟩:=h8;exact go I8 λs9 I9=>⟨_,_,I9,q8⟩
  |ret u=>obtain⟨v,σ8,H8,I8,r8,q8⟩:=h8;exact go I8 λs9 I9=>⟨v,_,_,I9,r8,q8⟩
end
mutual
inductive Rep(K:W.Frag)(H:Hp):V->PyData->Prop where
 |non:Rep K H .non .none
 |bl (b:Bool):Rep K H (.bl b) (.bool b)
 |int (i:Int):Rep K H (.int i) (.int i)
 |str (x:Str):Rep K H (.str x) (.str x)
 |tup {a:Addr}{xs:List V}{ds:List PyData} (h:SqT K H a xs) (r:Reps K H xs ds):Rep K H (.ref a) (.tuple ds)
 |lst {a:Addr}{xs:List V}{ds:List PyData} (h:SqL K H a xs) (r:Reps K H xs ds):Rep K H (.ref a) (.list ds)
inductive Reps(K:W.Frag)(H:Hp):List V->List PyData->Prop where
 |nil:Reps K H [] []
 |cons {x:V}{d:PyData}{xs:List V}{ds:List PyData} (r:Rep K H x d) (rr:Reps K H xs ds):Reps K H (x::xs) (d::ds)
end
section
variable{X:Cx}{pins:Ck}{σ:St}{H:Hp}{s:Shared}{K:W.Frag}
def Rep.reads(I:Inv X pins σ H s)(r:Rep X.K H v d)(q:RelV v u):∃as,Reads s.heap u d as:=
 Rep.rec (motive_1:=λv d _=>∀u,RelV v u->∃as,Reads s.heap u d as) (motive_2:=λvs ds _=>∀us,Vals vs us->∃as,ReadsAll s.heap us ds as)
  (λu r=>by cases r;exact⟨_,.none⟩) (λb u r=>by cases r;exact⟨_,.bool b⟩) (λi u r=>by obtain⟨t,rfl⟩:=r;exact⟨_,.int i t⟩) (λx u r=>by obtain⟨t,rfl⟩:=r;exact⟨_,.str x t⟩)
  (λh _ ih u r=>by cases r;obtain⟨its,rv,⟨o,e,c,n,d⟩,_⟩:=I.tuple h;obtain⟨as,q⟩:=ih _ rv;exact⟨as,.tuple e c d (by simpa using q)⟩)
  (λh _ ih u r=>by cases r;obtain⟨its,rv,⟨o,n,e,c,_,d⟩,_⟩:=I.list h;obtain⟨as,q⟩:=ih _ rv;exact⟨_,.list e c d (by simpa using q)⟩)
  (λus r=>by cases r;exact⟨_,.nil⟩)
  (λ_ _ a b us q=>by
   cases q with
   |cons q1 q2=>obtain⟨as,h1⟩:=a _ q1;obtain⟨bs,h2⟩:=b _ q2;exact⟨_,.cons h1 h2⟩) r u q
end
section
variable{X:Cx}
noncomputable def shp (d:PyData):Bool:=d.canLay0&&decide (d.depth<=160)
def cA(h:shp d=true):d.canLay0=true:=(Bool.and_eq_true_iff.mp h).1
def fH{A:Around}{d e:PyData}(h:shp d=true)(hu:A.units+180<cLine):A.units+min d.depth e.depth<cLine:=by have h1:d.depth<=160:=of_decide_eq_true (Bool.and_eq_true_iff.mp h).2;have h2:min d.depth e.depth<=d.depth:=Nat.min_le_left _ _;omega
def qJ(K:W.Frag):R2:=λx y H Q=>∃dx dy,Rep K H x dx/\Rep K H y dy/\shp dx=true/\shp dy=true/\Q (.bl (PyData.eqv dx dy)) H
def rJ(K:W.Frag):R2:=λx y H Q=>∃dx dy,Rep K H x dx/\Rep K H y dy/\shp dx=true/\shp dy=true/\Q (.bl (!PyData.eqv dx dy)) H
def xt(hu:X.A.units+180<cLine):OpR X (compareOp .Eq) (qJ X.K):=by intro pins s σ H x y v u Q I rx ry h;obtain⟨dx,dy,r1,r2,h1,h2,q⟩:=h;obtain⟨as,q1⟩:=r1.reads I rx;obtain⟨bs,q2⟩:=r2.reads I ry;exact SeqAt.compareEq_reads q1 q2 (cA h1) (cA h2) (fH h1 hu) (nK I q rfl)
def wW(hu:X.A.units+180<cLine):OpR X (compareOp .NotEq) (rJ X.K):=by intro pins s σ H x y v u Q I rx ry h;obtain⟨dx,dy,r1,r2,h1,h2,q⟩:=h;obtain⟨as,q1⟩:=r1.reads I rx;obtain⟨bs,q2⟩:=r2.reads I ry;exact SeqAt.compareNe_reads q1 q2 (cA h1) (cA h2) (fH h1 hu) (nK I q rfl)
open PySem.Builtin.Int (intBits)
def CDivB(i j:Int):Prop:=j≠0/\intBits j<=8000
def tL(i j:Int):Prop:=intBits i<=100000/\intBits j<=100000
def sj:OpR X (binaryOp .FloorDiv) (rI CDivB λi j=>.int (i.fdiv j)):=opI λi j _ _ _ _ _ hc q=>floordiv_int hc.1 q (.inl (PyProof.noPylong_of_log2 (by
 have h:=hc.2;have h0:=hc.1;unfold intBits at h;have hb:(j==0)=false:=by simpa using h0
 rw[hb] at h;simp only[A_,BK] at h;omega)))
def vF:OpR X (binaryOp .Mult) (rI tL λi j=>.int (i*j)):=opI λi j _ _ _ _ _ hc q=>mul_int q (PySem.IntMulOk.of_le hc.1 hc.2 (by decide))
end
structure Def(K:W.Frag)(mg:Cj)(x:Str)(st:Stmt):Prop where
 ex:∃f fd,Fun K x x st f fd/\mg x=some (.ref f)
def oK{K:W.Frag}{h:Heap}{mg:Cj}{x:Str}{st:Stmt}{f:Addr}{oc:Value}{od an:Option Addr}{osl:Array (Option Value)}{kV doc pm cdv ct:Value}(X:K.In h)(G:h.Ns mainGlobals mg)
 (a:W.nsIn K mainGlobals x=some (some (.ref f))) (l:K.lookup f=some ⟨oc,od,.func (W.fnOf x x (bE st) (aO st) (ai st) .none kV doc pm an cdv ct),osl⟩)
 (c:W.codeIn K cdv x=true) (k:W.keepIn K (.ref f)=true):Def K mg x st:=⟨f,_,wm l c k,W.mg_of X G a⟩
def Fun.look{K:W.Frag}{x qual:Str}{st:Stmt}{f:Addr}{fd:FuncData}(F:Fun K x qual st f fd):∃oc od osl,K.lookup f=some ⟨oc,od,.func fd,osl⟩:=by obtain⟨oc,od,kV,doc,pm,an,cdv,ct,osl,rfl,lk,hcd⟩:=F.ex;exact⟨oc,od,osl,lk⟩
structure Callee(P:Program)(w:World)(K:W.Frag)(mg:Cj)(base:Heap)(x:Str)(k:Nat)(ps:List Str)(sp:Sp):Prop where
 ex:∃f fd,FnOk P w K mg base (CX1 P w) k f fd ps sp/\mg x=some (.ref f)/\W.keepIn K (.ref f)=true/\Binds K fd ps []/\∃oc od osl,K.lookup f=some ⟨oc,od,.func fd,osl⟩
section
variable{P:Program}{w:World}{K:W.Frag}{mg:Cj}{base:Heap}{x:Str}{st:Stmt}{k:Nat}{ps N:List Str}{sp:Sp}
def Callee.imp(C:Callee P w K mg base x k ps sp)(h:∀vs H Q E,sp' vs H Q E->sp vs H Q E):Callee P w K mg base x k ps sp':=by obtain⟨f,fd,F,r⟩:=C.ex;exact⟨f,fd,F.imp h,r⟩
def Def.okR(D:Def K mg x st)(S:FnScope N ps (ai st))
 (hb:∀(kV doc pm:Value) (an:Option Addr) (cdv ct:Value) (us:List Value),us.length=ps.length->bindArgs (W.fnOf x x (bE st) (aO st) (ai st) .none kV doc pm an cdv ct) ⟨us,[]⟩=pure (ps.zip us))
 (len:∀vs H Q E,sp vs H Q E->vs.length=ps.length)
 (a_:∀(f:Addr) (cdv:Value) (A:Around) (outer:List Env) (s:Shared) (H:Hp) (vs:List V) (Q:VK) (E:XK),Room k (A.deeper (envOfC x (ai st) s.heap.objs.size f cdv))->sp vs H Q E->
  ∃t,PSs (bT (CX1 P w) P w K mg base N x (ai st) f cdv A outer s H E) (aO st) t/\t { nx:=λ_ H'=>Q .non H',rt:=Q } (bt N vs) H):Callee P w K mg base x (k+1) ps sp:=by
 obtain⟨f,fd,F,m⟩:=D.ex;exact⟨f,fd,F.okR S len (a_ f),m,F.kp,F.binds hb,F.look⟩
end
section
variable{X:Cx}{K:W.Frag}
def Room.u180(r:Room k A):A.units+180<cLine:=by have:=r.un;omega
def eqDK(h:X.K=K)(hu:X.A.units+180<cLine):OpR X (compareOp .Eq) (qJ K):=by subst h;exact xt hu
def neDK(h:X.K=K)(hu:X.A.units+180<cLine):OpR X (compareOp .NotEq) (rJ K):=by subst h;exact wW hu
def yy(h:X.K=K):OpR X (compareOp .NotIn) (rIn K true):=by subst h;exact kN
end
section
variable{X:Cx}
def wY{elt iter tg:Expr}{ifs:List Expr}{scope:Scope}{pos:Pos}{wi:TI}{g:TG}{tc:TT}{te:TE}{N:List Str}{sub:Cn}{iT:Nat}{xT:Str}{px spos:Pos}
 (hc:X.calm=true) (hN:X.N.Nodup) (hix:X.N[iT]?=some xT) (hxl:Loc X.env.scope xT) (hi:PI X tg iter wi)
 (hk:scope.kind=.function) (hnc:∀x∈scope.names,x.2 ≠ .cell) (b_:∀x∈scope.names,x.2=.local->scope.names.lookup x.1=some .local)
 (hfr:∀x∈scope.names,x.2=.free->X.env.kindOf x.1=some .cell\/X.env.kindOf x.1=some .free)
 (hsl:sub.length=N.length) (hsub:∀(j i:Nat) (x:Str),sub[j]?=some (some i)->N[j]?=some x->X.N[i]?=some x/\scope.names.lookup x=some .free)
 (hg:∀cl C s₂ H fp,PG (aT X N scope cl C s₂ H fp) tg g) (ht:∀cl C s₂ H fp,PTs (aT X N scope cl C s₂ H fp) ifs tc) (he:∀cl C s₂ H fp,PE (aT X N scope cl C s₂ H fp) elt te)
 (hsw:swapsWith (.ListComp elt [⟨tg,iter,ifs,0⟩] scope pos) (some (.Name xT px)) spos.line X.env=pure true)
 (hs:∀x,foldedSetIterable iter X.env x=pure x) (hf:X.fn xT=true\/X.env.scope.names.lookup xT=some .local):
 PS X (.Assign [.Name xT px] (.ListComp elt [⟨tg,iter,ifs,0⟩] scope pos) spos) (kq (jf wi sub g tc te) (dz iT)):=by
 intro pins s σ H D0 I h;rw[exec_Assign_Name_used _ _ _ _ hsw];refine g_ (wpAny_standAt (g_ ?_));show wpAny _ X.A (do let _ <- comprehension (.ListComp elt [⟨tg,iter,ifs,0⟩] scope pos) scope X.env _ (newList []) false (eval iter X.env) (some (assign (.Name xT px) X.env))) _ _ s;refine g_ (z_ (lV (use:=some (assign (.Name xT px) X.env)) (R:=λ_ s'=>SP X pins D0 .next s') hc hi hk hnc b_ hfr hsl hsub hg ht he hs I h λD C s4 e=>?_) (λ_ s' hq=>l_ (l_ hq)) λ_ _ e=>e);obtain⟨m,hm⟩:=e.ns;obtain⟨H',hC,q,i⟩:=e.inv;have dc:=e.dc;have fr:=e.fr;refine wpAny_assign_Name (iR (v:=.ref D) (i s4.heap ⟨rfl,λ_ _=>rfl⟩) hN hix hxl rfl (λs7 I7 ⟨a7,sb7,ha7⟩=>?_) hf);have ha:a7<D:=by
  rcases ha7 with z |z
  .rw[z];exact fr
  .exact e.cell xT a7 z
 refine⟨m,hm.sameBut sb7 (Nat.ne_of_gt (B_ ha dc)),λh8 hs8=>⟨_,_,I7.turned (it:=C) (t':=s7.toks) (λb o hb e=>hs8.extBut b o hb e) hC (Nat.ne_of_gt (B_ fr dc)) (.inr (AJ e.sz (Nat.le_of_lt dc))) (λx c q=>AS (B_ (e.cell x c q) dc)) (λp hp=>AS (B_ (e.pin p hp) dc)),q⟩⟩
end
end L2
namespace Fr
noncomputable def dv (a b:Int):Int:=if b<0 then -((Int.gcd a b:Nat):Int) else ((Int.gcd a b:Nat):Int)
def T(a b:Int):Int:=a.fdiv (dv a b)
def B(a b:Int):Int:=b.fdiv (dv a b)
def jW(hb:b≠0):0<Int.gcd a b:=Int.gcd_pos_of_ne_zero_right a hb
def uw(hb:b≠0):dv a b≠0:=by
 have:=jW (a:=a) hb
 unfold dv;split <;> omega
def qz(a b:Int):dv a b ∣ a:=by
 have h:((Int.gcd a b:Nat):Int) ∣ a:=Int.gcd_dvd_left a b;unfold dv;split
 .exact Int.neg_dvd.mpr h
 .exact h
def qZ(a b:Int):dv a b ∣ b:=by
 have h:((Int.gcd a b:Nat):Int) ∣ b:=Int.gcd_dvd_right a b;unfold dv;split
 .exact Int.neg_dvd.mpr h
 .exact h
def l8{a d q:Int}(hd:d≠0)(h:a=d*q):a.fdiv d=q:=by rw[h,BR];exact Int.mul_fdiv_cancel q hd
def tM(hb:b≠0):T a b*dv a b=a:=by obtain⟨q,h⟩:=qz a b;have:T a b=q:=l8 (uw hb) h;rw[this,BR];exact h.symm
def mB(hb:b≠0):B a b*dv a b=b:=by obtain⟨q,h⟩:=qZ a b;have:B a b=q:=l8 (uw hb) h;rw[this,BR];exact h.symm
def mM(hb:b≠0):0<B a b:=by
 have h:=mB (a:=a) hb;have hg:=jW (a:=a) hb;generalize hx:B a b=x at h ⊢;unfold dv at h;split at h
 .rename_i hneg;have h2:x*((Int.gcd a b:Nat):Int)=-b:=by rw[Int.mul_neg] at h;omega
  rcases Int.lt_or_le 0 x with z |z
  .exact z
  .have:x*((Int.gcd a b:Nat):Int)<=0:=Int.mul_nonpos_of_nonpos_of_nonneg z (by omega);omega
 .rename_i hpos;rcases Int.lt_or_le 0 x with z |z
  .exact z
  .have:x*((Int.gcd a b:Nat):Int)<=0:=Int.mul_nonpos_of_nonpos_of_nonneg z (by omega);omega
def mw(hb:b≠0):T a b*b=a*B a b:=by have h1:=tM (a:=a) hb;have h2:=mB (a:=a) hb;generalize T a b=x at *;generalize B a b=y at *;generalize dv a b=d at *;rw[<- h2,<- h1];rw[<- Bh,Int.mul_right_comm]
def o3(a b:Int):(dv a b).natAbs=Int.gcd a b:=by unfold dv;split <;> simp
def low(hb:b≠0):Int.gcd (T a b) (B a b)=1:=by
 have h1:=tM (a:=a) hb;have h2:=mB (a:=a) hb;have hg:=jW (a:=a) hb;have e1:a.natAbs=(T a b).natAbs*Int.gcd a b:=by rw[<- o3 a b,<- Cg,h1]
 have e2:b.natAbs=(B a b).natAbs*Int.gcd a b:=by rw[<- o3 a b,<- Cg,h2]
 have e3:Int.gcd a b=Nat.gcd ((T a b).natAbs*Int.gcd a b) ((B a b).natAbs*Int.gcd a b):=by rw[<- e1,<- e2];rfl
 rw[Nat.gcd_mul_right] at e3;show Nat.gcd (T a b).natAbs (B a b).natAbs=1;generalize Nat.gcd (T a b).natAbs (B a b).natAbs=k at *;generalize Int.gcd a b=g at *;have:(1:Nat)*g=k*g:=by omega
 exact (Nat.eq_of_mul_eq_mul_right hg this).symm
def uniq(hy:0<y)(hy':0<y')(h:Int.gcd x y=1)(h':Int.gcd x' y'=1)(e:x*y'=x'*y):x=x'/\y=y':=by
 have c1:Nat.Coprime y.natAbs x.natAbs:=by rw[Nat.coprime_comm];exact h
 have c2:Nat.Coprime y'.natAbs x'.natAbs:=by rw[Nat.coprime_comm];exact h'
 have e1:x.natAbs*y'.natAbs=x'.natAbs*y.natAbs:=by rw[<- Cg,<- Cg,e]
 have d1:y.natAbs ∣ y'.natAbs:=c1.dvd_of_dvd_mul_left (by rw[e1];exact Nat.dvd_mul_left _ _);have d2:y'.natAbs ∣ y.natAbs:=c2.dvd_of_dvd_mul_left (by rw[<- e1];exact Nat.dvd_mul_left _ _);have ey:y.natAbs=y'.natAbs:=Nat.dvd_antisymm d1 d2;have ey':y=y':=by omega
 subst ey';exact⟨Int.eq_of_mul_eq_mul_right (by omega) e,rfl⟩
def same(hb:b≠0)(hd:d≠0)(e:a*d=c*b):T a b=T c d/\B a b=B c d:=by
 refine uniq (mM hb) (mM hd) (low hb) (low hd) ?_;have h1:=mw (a:=a) hb;have h2:=mw (a:=c) hd;have hbd:b*d≠0:=Int.mul_ne_zero hb hd;refine Int.eq_of_mul_eq_mul_right hbd ?_
 calc T a b*B c d*(b*d)=(T a b*b)*(B c d*d):=by rw[Bh,BD (B c d) b d,<- Bh]
  _=(a*B a b)*(B c d*d):=by rw[h1]
  _=(a*d)*(B c d*B a b):=by rw[Bh a,Bh a,BD (B a b),BD d,BR (B a b) d]
  _=(c*b)*(B c d*B a b):=by rw[e]
  _=(c*B c d)*(B a b*b):=by rw[Bh c,Bh c,BD b,BR b (B a b)]
  _=(T c d*d)*(B a b*b):=by rw[<- h2]
  _=T c d*B a b*(b*d):=by rw[Bh,Bh,BD d,BR d b]
def self(hb:0<b)(h:Int.gcd a b=1):T a b=a/\B a b=b:=
 uniq (mM (by omega)) hb (low (by omega)) h (mw (by omega))
end Fr
set_option maxHeartbeats 1000000
namespace L2
open PySem PySem.Spec PyProof.Rows
def SqB(K:W.Frag)(b:Bool)(H:Hp)(a:Addr)(xs:List V):Prop:=match b with
 |true=>SqL K H a xs
 |false=>SqT K H a xs
inductive D where
 |non |bl (b:Bool) |int (i:Int) |str (x:Str) |ty (n:String) |glb (x:Str) |exc (x:Str) |tup (xs:List D) |ref (n:Nat) |kl (xs:List D)
 deriving Inhabited
inductive Ob where
 |lst (xs:List D) |fz (xs:List D) |set (xs:List Int) |dct (kvs:List (Key×D)) |any
 deriving Inhabited
abbrev AH:=List Ob
abbrev AE:=List (Option D)
inductive R(α:Type) where
 |ok (a:α) (h:AH) |exc (c:Str) (h:AH) |stuck
inductive SR where
 |nx (ae:AE) (h:AH) |rt (d:D) (h:AH) |bk (ae:AE) (h:AH) |ct (ae:AE) (h:AH) |exc (c:Str) (ae:AE) (h:AH) |stuck
abbrev ME:=AE->AH->R D
abbrev MT:=AE->AH->R Bool
abbrev MA:=AE->AH->R (List D)
abbrev MS:=AE->AH->SR
section
variable(K:W.Frag)(mg:Cj)
def codO(c:Addr)(q:Str):Heap->Prop:=λh=>h.CodeRec (.ref c) q
noncomputable def rq:List Str:=["by_falling_weights", "least_around"]
def rn(P:Addr)(q:Str):Prop:=∃(x:Str) (f:Addr) (oc:Value) (od:Option Addr) (fd:FuncData) (sl:Array (Option Value)) (c:Addr),x∈rq/\(∀y∈rq,y≠x->mg y=none)/\mg x=some (.ref f)/\K.lookup f=some ⟨oc,od,.func fd,sl⟩/\fd.code=.ref c/\W.codeHdIn K c P=true/\q=fd.qualname ++ ".<locals>." ++ "<lambda>"
def bmP(o:Obj):Prop:=o.cls=.type "module" /\ o.dict=some builtinsNs/\o.data=.plain
def sJ(H:Hp):Prop:=∃b o,mg "__builtins__"=some (.ref b)/\b≠builtinsNs/\b≠mainGlobals/\bmP o/\(K.lookup b=some o\/∃u,H b=some (.frz o u))
end
section
variable{X:Cx}{e:Expr}{es:List Expr}{st:Stmt}{sts:List Stmt}
def PE.imp(h:PE X e t)(k:∀σ H Q,t' σ H Q->t σ H Q):PE X e t':=λpins s σ H Q I w=>h pins s σ H Q I (k σ H Q w)
def PT.imp(h:PT X e t)(k:∀σ H Q,t' σ H Q->t σ H Q):PT X e t':=λpins s σ H Q I w=>h pins s σ H Q I (k σ H Q w)
def PW.imp(h:PW X e t)(k:∀σ H Q,t' σ H Q->t σ H Q):PW X e t':=λwh pins s σ H Q I w=>h wh pins s σ H Q I (k σ H Q w)
def PA.imp(h:PA X es t)(k:∀σ H Q,t' σ H Q->t σ H Q):PA X es t':=λpos pins s σ H Q I w=>h pos pins s σ H Q I (k σ H Q w)
def PS.imp(h:PS X st t)(k:∀D σ H,t' D σ H->t D σ H):PS X st t':=λpins s σ H D I w=>h pins s σ H D I (k D σ H w)
def PSs.imp(h:PSs X sts t)(k:∀D σ H,t' D σ H->t D σ H):PSs X sts t':=λpins s σ H D I w=>h pins s σ H D I (k D σ H w)
def PG.imp(h:PG X e t)(k:∀v σ H Q,t' v σ H Q->t v σ H Q):PG X e t':=λpins s σ H v u Q I r w=>h pins s σ H v u Q I r (k v σ H Q w)
def PO.imp(h:PO X o t)(k:∀σ H Q,t' σ H Q->t σ H Q):PO X o t':=λpins s σ H Q I w=>h pins s σ H Q I (k σ H Q w)
end
abbrev MG:=D->AE->AH->R AE
abbrev MGs:=List D->AE->AH->R AE
noncomputable def g2 (f:Int->Int->R D) (x y:D):R D:=match x,y with
 |.int i,.int j=>f i j
 |_,_=>.stuck
section
variable{K:W.Frag}{X:Cx}
def jr(K:W.Frag):R2:=λx y H Q=>∃a b ys,x=.ref a/\y=.ref b/\SqT K H a []/\SqT K H b ys/\Q (.ref b) H
def vg:OpR X (binaryOp .Add) (jr X.K):=by
 intro pins s σ H x y v u Q I rx ry h;obtain⟨a,b,ys,rfl,rfl,ha,hb,q⟩:=h;cases rx;cases ry;obtain⟨its,r1,p1,_⟩:=I.tuple ha;obtain⟨its2,r2,p2,_⟩:=I.tuple hb;have e:its=[]:=r1.nil_iff.mpr rfl;subst e;obtain⟨⟨cls,dd,data,sl⟩,ho,hc,n,hd⟩:=id p1;obtain⟨⟨cls2,dd2,data2,sl2⟩,ho2,hc2,n2,hd2⟩:=id p2;simp only at hc hd hc2 hd2;subst hc hd hc2 hd2;exact concat_meets ⟨_,ho,rfl⟩ ⟨_,ho2,rfl⟩ noFill_tuple_add seq_tuple_add B0 BW (BV _ _)
  (tuple_addW0 _ _ _ _ n n2 dd dd2 sl sl2 rfl) ⟨ho,ho2,⟨.ref b,H,I,rfl,q⟩⟩
def ixK(h:X.K=K):IxR X (λx y H Q=>mX K x y H Q\/mH K x y H Q):=by subst h;exact uJ.or yG
def catK(h:X.K=K):OpR X (binaryOp .Add) (λx y H Q=>mR x y H Q\/(jj K x y H Q\/jr K x y H Q)):=by subst h;exact yC.or (uV.or vg)
end
inductive AIt where
 |lst (n:Nat) (xs:List D) |tup (xs:List D) |rng (lo:Int) (k:Nat) |rgd (lo:Int) (k:Nat) |txt (x:Str) |enm (s:AIt) |zip (s t:AIt)
abbrev MI:=AE->AH->R AIt
section
variable{K:W.Frag}{X:Cx}{tg iter e a b:Expr}{I:MI}
def PI.imp(h:PI X tg iter t)(k:∀σ H Q,t' σ H Q->t σ H Q):PI X tg iter t':=λpins s σ H Q I w=>h pins s σ H Q I (k σ H Q w)
def qq(hl:PE X l tl):PI X tg l (λσ H R=>tl σ H λx H1=>(∃a,x=.ref a/\(∃xs,SqL X.K H1 a xs)/\R (Itl X.K a) H1)\/(∃a,x=.ref a/\(∃xs,SqT X.K H1 a xs)/\R (Itt X.K a) H1)):=by
 intro pins s σ H R I h;refine thn (hl pins s σ H _ I h) λv s1 zz=>exA zz λx H1 I1 r1 q1=>?_;rcases q1 with ⟨a,e,⟨xs,hq⟩,q⟩ |⟨a,e,⟨xs,hq⟩,q⟩
 .subst e;cases r1;obtain⟨its,rv,p,hz⟩:=I1.list hq;refine wpAny_pyIter_list p.isList ?_;refine⟨s1.heap.objs.size,[s1.heap.objs.size],_,_,H1,rfl,I1.kept (t':=s1.toks) λb o e=>w_ _ e,pM a _,⟨_,AW _ rfl,rfl,rfl⟩,λb hb=>?_,q⟩;have e:b=s1.heap.objs.size:=by simpa using hb
  subst e;exact I1.fpOk (r_ _) (I1.hok.fresh (r_ _))
 .subst e;cases r1;obtain⟨its,rv,p,hz⟩:=I1.tuple hq;refine wpAny_pyIter_tuple (show s1.heap.IsTuple a its.toArray from p) ?_;refine⟨s1.heap.objs.size,[s1.heap.objs.size],_,_,H1,rfl,I1.kept (t':=s1.toks) λb o e=>w_ _ e,mQ a _,⟨_,AW _ rfl,rfl,rfl⟩,λb hb=>?_,q⟩;have e:b=s1.heap.objs.size:=by simpa using hb
  subst e;exact I1.fpOk (r_ _) (I1.hok.fresh (r_ _))
end
section
variable{K:W.Frag}{X:Cx}
def zR(h:X.K=K):CallR X (.builtin "len") (λxs H Q=>(∃p ys,xs=[.ref p]/\(SqL K H p ys\/SqT K H p ys)/\Q (.int ys.length) H)\/(∃z,xs=[.str z]/\z.length<=sizeLine/\Q (.int z.length) H)):=by subst h;exact jB.or kE
def o7(h:X.K=K):CallR X (.type "list") (λxs H Q=>∃p ys,xs=[.ref p]/\(SqL K H p ys\/SqT K H p ys)/\∀l,H l=none->Q (.ref l) (upd H l (.lst ys))):=by subst h;exact kL
end
inductive Cl where
 |b (n:String) |o (x:Str)
 deriving DecidableEq
def ClV(mg:Cj):Cl->Value->Prop
 |.b n,v=>v=.type n
 |.o x,v=>∃a,v=.ref a/\mg x=some (.ref a)
abbrev dH:=List (Cl×Cl×Bool)
structure KitsOk(K:W.Frag)(mg:Cj)(kt:dH):Prop where
 one:∀p∈kt,∀t v,ClV mg p.1 t->ClV mg p.2.1 v->W.kitOne K t v=some p.2.2
 xc:∀p∈kt,∀x C,p.1=.o x->mg x=some (.ref C)->XCls K C
noncomputable def kit (kt:dH) (t c:Cl):Option Bool:=(kt.find? λp=>decide (p.1=t)&&decide (p.2.1=c)).map (·.2.2)
noncomputable def cU (kt:dH) (t:Cl):List Cl->Option Bool
 | []=>some false
 |c::r=>match kit kt t c with
  |some true=>some true
  |some false=>cU kt t r
  |none=>none
def gS(e:kit kt t c=some b):(t,c,b)∈kt:=by
 unfold kit at e;cases q:kt.find? (λp=>decide (p.1=t)&&decide (p.2.1=c)) with
 |none=>rw[q] at e;cases e
 |some p=>rw[q] at e;have h1:=List.find?_some q;have h2:=List.mem_of_find?_eq_some q;simp only[i_,BZ] at h1;obtain⟨p1,p2,p3⟩:=p;have e3:p3=b:=u_ e;obtain⟨rfl,rfl⟩:=h1;subst e3;exact h2
section
variable{K:W.Frag}{mg:Cj}{X:Cx}{H:Hp}{h:AH}
def pj(ok:KitsOk K mg kt)(ht:ClV mg t tv):∀{cs:List Cl}{cvs:List Value}{b:Bool},Paired (ClV mg) cs cvs->cU kt t cs=some b->W.kitAny K tv cvs=some b:=by
 intro cs;induction cs with
 |nil=>intro cvs b r e;cases r;cases e;rfl
 |
  cons c cs ih=>
  intro cvs b r e;cases r with
  |
   cons r rr=>
   unfold cU at e;unfold W.kitAny;cases q:kit kt t c with
   |none=>rw[q] at e;cases e
   |
    some z=>
    rw[q] at e;rw[ok.one _ (gS q) _ _ ht r];cases z with
    |true=>exact e
    |false=>exact ih rr e
def oR:CallR X (.builtin "isinstance") (λxs H Q=>∃x tp cs t vs b,xs=[x,.ref tp]/\SqT X.K H tp cs/\TyX X.K H x t/\cs.mapM cB=some vs/\W.kitAny X.K t vs=some b/\Q (.bl b) H):=by intro pins s σ H xs us Q I r h;obtain⟨x,tp,cs,t,vs,b,rfl,ht,ty,hc,hk,q⟩:=h;obtain⟨u,w',rfl,rx,rc⟩:=m9 r;cases rc;obtain⟨its,rv,⟨o,e,c,n,d⟩,_⟩:=I.tuple ht;obtain rfl:=iV hc rv;obtain⟨Hh,Z,p,hne⟩:=mi I rx ty;obtain⟨oc,od,odt,osl⟩:=o;have c':oc=.type "tuple":=c;have d':odt=.seq its.toArray n:=d;subst c' d';exact W.kia_tup Z I.kIn p e hk hne λtk=>⟨.bl b,H,I.tok _,rfl,q⟩
def yX(hK:X.K=K):CallR X (.builtin "isinstance") (λxs H Q=>(∃x c t v b,xs=[x,c]/\TyX K H x t/\cB c=some v/\W.kitOne K t v=some b/\Q (.bl b) H)\/
 (∃x tp cs t vs b,xs=[x,.ref tp]/\SqT K H tp cs/\TyX K H x t/\cs.mapM cB=some vs/\W.kitAny K t vs=some b/\Q (.bl b) H)):=by subst hK;exact sN.or oR
end
section
variable{K:W.Frag}{X:Cx}{H:Hp}{h:AH}
inductive EqsR(K:W.Frag)(H:Hp)(y:V)(pd:PyData):List V->List Bool->Prop where
 |nil:EqsR K H y pd [] []
 |cons {x:V}{px:PyData}{xs:List V}{bs:List Bool} (rx:Rep K H x px) (hx:shp px=true) (r:EqsR K H y pd xs bs):EqsR K H y pd (x::xs) (PyData.eqv px pd::bs)
def rEqs(K:W.Frag)(H:Hp)(l:Addr)(y:V)(bs:List Bool):Prop:=∃xs pd,SqL K H l xs/\Rep K H y pd/\shp pd=true/\EqsR K H y pd xs bs
def jN(I:Inv X pins σ H s)(hu:X.A.units+190<cLine)(ry:Rep X.K H y pd)(rv:RelV y v)(hy:shp pd=true):∃e:Value->Bool,∀{xs:List V}{bs:List Bool}{its:List Value},EqsR X.K H y pd xs bs->Vals xs its->its.map e=bs/\∀u∈its,SeqAt.EqAt X.A.in1 s u v (e u):=by
 classical
 obtain⟨as,q1⟩:=ry.reads I rv;refine⟨λu=>if q:∃d as,Reads s.heap u d as/\shp d=true then PyData.eqv q.choose pd else false,λ{xs bs its} r rr=>?_⟩;induction r generalizing its with
 |nil=>cases rr;exact⟨rfl,λu hu=>nomatch hu⟩
 |
  cons rx hx r ih=>
  rename_i x px xs bs;cases rr with
  |
   cons r1 rr=>
   rename_i u us;obtain⟨ih1,ih2⟩:=ih rr;obtain⟨as1,q2⟩:=rx.reads I r1;have hq:∃d as,Reads s.heap u d as/\shp d=true:=⟨px,as1,q2,hx⟩;have e1:(if q:∃d as,Reads s.heap u d as/\shp d=true then PyData.eqv q.choose pd else false)=PyData.eqv px pd:=by
    rw[dif_pos hq];obtain⟨as2,q3,hs3⟩:=hq.choose_spec
    have:=SeqAt.Reads.unique px hq.choose u _ _ (cA hx) q2 q3
    rw[<- this]
   refine⟨by rw[n_,ih1,e1],λw hw=>?_⟩;rcases AL.mp hw with rfl |hw
   .dsimp only;rw[e1];exact SeqAt.eqAt_reads px pd X.A.in1 s _ _ _ _ q2 q1 (cA hx) (cA hy) (fH hx (by have:X.A.in1.units=X.A.units+1:=rfl;rw[this];omega))
   .exact ih2 w hw
def hW(K:W.Frag):V->List V->Hp->VK->Prop:=λx vs H Q=>∃l y bs,x=.ref l/\vs=[y]/\rEqs K H l y bs/\bs.idxOf true<bs.length/\Q (.int (bs.idxOf true:Nat)) H
def hE(K:W.Frag):V->List V->Hp->VK->Prop:=λx vs H Q=>∃l y bs,x=.ref l/\vs=[y]/\rEqs K H l y bs/\Q (.int (bs.count true:Nat)) H
def EqsR.len(r:EqsR K H y pd xs bs):xs.length=bs.length:=by
 induction r with
 |nil=>rfl
 |cons _ _ _ ih=>rw[p_,p_,ih]
def qR(hu:X.A.units+190<cLine):MtM X "list.index" (hW X.K):=by
 intro pins s σ H x vs v us Q I rx rv h;obtain⟨l,y,bs,rfl,rfl,⟨xs,pd,hq,ry,hy,re⟩,hi,q⟩:=h;cases rx;obtain⟨u,rfl,ru⟩:=rv.one;obtain⟨e,he⟩:=jN I hu ry ru hy;obtain⟨its,r,⟨o,n,eo,hc,hd,hs⟩,hz⟩:=I.list hq;obtain⟨m1,m2⟩:=he re r;have hlen:=r.length;have hbl:=re.len;have hn:=eJ;have hj:bs.idxOf true<its.toArray.size:=by rw[q_];omega
 have eo':s.heap.get? l=some { cls:=.type "list",dict:=o.dict,data:=.seq its.toArray n,slots:=o.slots }:=by rw[eo];obtain⟨oc,od,odt,osl⟩:=o;have h1:oc=.type "list":=hc;have h2:odt=.seq its.toArray n:=hs;subst h1 h2;rfl
 have em:∀(m:Nat) (hm:m<its.toArray.size),bs[m]?=some (e its.toArray[m]):=λm hm=>by
  rw[<- m1,x_];have:its[m]?=some its.toArray[m]:=by rw[o_ (by simpa using hm)];rfl
  rw[this];rfl
 refine call_meets PySem.F.slot_list_index ⟨_,eo',rfl⟩ PySem.F.entry_list_index (PySem.F.args_list_index_2 _ _)
  (SeqAt.list_indexAt l its.toArray n o.dict o.slots u e (bs.idxOf true) hj (by omega) ?_ ?_) ⟨eo',λw hw=>m2 w (by simpa using hw),?_⟩
 .have:=em _ hj
  rw[o_ hi,List.getElem_idxOf] at this;exact (u_ this).symm
 .intro m
   hm hlt
  have:=em m hm
  have hb:m<bs.length:=by omega
  rw[o_ hb] at this;have h3
   : bs[m]≠true:=λz=>by
   have h4:bs.idxOf true<=m:=by
    have:=List.idxOf_lt_length_iff (l:=bs) (a:=true)
    rcases Nat.lt_or_ge m (bs.idxOf true) with z' |z'
    .exact absurd z (by have h5:=List.not_of_lt_findIdx (xs:=bs) (p:=(· == true)) (i:=m) z';simpa using h5)
    .exact z'
   omega
  have h4:e its.toArray[m]=bs[m]:=(u_ this).symm;rw[h4];exact Bool.eq_false_iff.mpr h3
 .exact⟨.int _,H,I.tok _,⟨_,rfl⟩,q⟩
def qK(hu:X.A.units+190<cLine):MtM X "list.count" (hE X.K):=by
 intro pins s σ H x vs v us Q I rx rv h;obtain⟨l,y,bs,rfl,rfl,⟨xs,pd,hq,ry,hy,re⟩,q⟩:=h;cases rx;obtain⟨u,rfl,ru⟩:=rv.one;obtain⟨e,he⟩:=jN I hu ry ru hy;obtain⟨its,r,⟨o,n,eo,hc,hd,hs⟩,hz⟩:=I.list hq;obtain⟨m1,m2⟩:=he re r;have eo':s.heap.get? l=some { cls:=.type "list",dict:=o.dict,data:=.seq its.toArray n,slots:=o.slots }:=by rw[eo];obtain⟨oc,od,odt,osl⟩:=o;have h1:oc=.type "list":=hc;have h2:odt=.seq its.toArray n:=hs;subst h1 h2;rfl
 refine call_meets PySem.F.slot_list_count ⟨_,eo',rfl⟩ PySem.F.entry_list_count (PySem.F.args_list_count_2 _ _)
  (SeqAt.list_countAt l its.toArray n o.dict o.slots u e) ⟨eo',λw hw=>m2 w (by simpa using hw),?_⟩
 have ec:its.countP e=bs.count true:=by rw[<- m1,List.count,List.countP_map];congr 1;funext w;simp
 have ec':its.toArray.toList.countP e=bs.count true:=ec;rw[ec'];exact⟨.int _,H,I.tok _,⟨_,rfl⟩,q⟩
def yE(h:X.K=K)(hu:X.A.units+190<cLine):MtM X "list.index" (hW K):=by subst h;exact qR hu
def yh(h:X.K=K)(hu:X.A.units+190<cLine):MtM X "list.count" (hE K):=by subst h;exact qK hu
end
abbrev MO:=AE->AH->R (Option Int)
section
variable{K:W.Frag}{X:Cx}{F:ME}{lo hi:Option Expr}
def rX:V->Option Int->Option Int->Hp->VK->Prop:=λx lo hi H Q=>∃z,x=.str z/\z.length<=16777216/\Q (.str (Txt.slice z lo hi)) H
def yc:SlR X rX:=by
 intro pins s σ H x v vl vu lo hi sl Q I rx hs pl pu h;obtain⟨z,rfl,hz,q⟩:=h;obtain⟨t,rfl⟩:=rx;refine⟨"str",_,PySem.F.slot_str_getitem.lookup,typeIs_str _ _ _,?_⟩;have key:∀t' k,EP X pins σ Q (.str (Txt.slice z lo hi) t') { s with toks:=k }:=λt' k=>⟨.str (Txt.slice z lo hi),H,I.tok _,⟨_,rfl⟩,q⟩;cases pl <;> cases pu
 .exact By (l:=none) (u:=none) (st:=none) hs rfl (Cc ⟨AJ (Txt.slice_le z _ _) hz,λt' k=>key t' k⟩)
 .exact By (l:=none) (u:=some (_,_)) (st:=none) hs rfl (Cc ⟨AJ (Txt.slice_le z _ _) hz,λt' k=>key t' k⟩)
 .exact By (l:=some (_,_)) (u:=none) (st:=none) hs rfl (Cc ⟨AJ (Txt.slice_le z _ _) hz,λt' k=>key t' k⟩)
 .exact By (l:=some (_,_)) (u:=some (_,_)) (st:=none) hs rfl (Cc ⟨AJ (Txt.slice_le z _ _) hz,λt' k=>key t' k⟩)
def slK(h:X.K=K):SlR X (λx lo hi H Q=>(rQ K x lo hi H Q\/rj K x lo hi H Q)\/rX x lo hi H Q):=by subst h;exact (vw.or xb).or yc
end
abbrev cxT(X:Cx)(pn:Ck)(xe:Cm):Cx:={ X with pn:=pn,xe:=xe }
section
variable{X:Cx}{pins pins2 pn:Ck}{σ:St}{H:Hp}{s:Shared}{xe:Cm}
def Inv.toT(I:Inv X pins σ H s):Inv (cxT X (X.pn++pins) xe) [] σ H s:=
 ⟨⟨I.ok.mod,I.ok.kind,I.ok.glob,I.ok.blt,I.ok.above,I.ok.inj,I.ok.has,I.ok.cab,I.ok.hd,I.ok.frames,I.ok.stk,I.ok.exf,I.ok.bs,I.ok.bsz,I.ok.noex,I.ok.exfs,I.ok.funs,I.ok.frf⟩,I.os,I.bare,I.base,I.loc,I.cell,I.free,I.freeC,λp hp=>I.pin p (by simpa using hp),I.hok,I.len⟩
def Inv.ofT(I:Inv (cxT X (X.pn++pins) xe) pins2 σ H s):Inv X pins σ H s:=
 ⟨⟨I.ok.mod,I.ok.kind,I.ok.glob,I.ok.blt,I.ok.above,I.ok.inj,I.ok.has,I.ok.cab,I.ok.hd,I.ok.frames,I.ok.stk,I.ok.exf,I.ok.bs,I.ok.bsz,I.ok.noex,I.ok.exfs,I.ok.funs,I.ok.frf⟩,I.os,I.bare,I.base,I.loc,I.cell,I.free,I.freeC,λp hp=>I.pin p (B7 _ hp),I.hok,I.len⟩
end
def walk_lawD{l:W.OpenLaw}{q:Program}{loose:List Str}{XP:(Str->Option Value)->Heap->Prop}{YP:World->Heap->Prop}{d:DefRec}{K:Params->W.Frag}{x:Str}{k:Nat}(hn:l.most=some 63)(hdf:d.params.defaults=[])(hr:Room k callerA)
 (hY:∀(w:World) (h:Heap),YP w h->(K w.params).In h)
 (F:∀(w:World) (mg:Cj) (h:Heap),(K w.params).In h->h.Ns mainGlobals mg->∀base:Heap,(K w.params).In base->base.Ns mainGlobals mg->Callee l.prog w (K w.params) mg base d.name k [x] (λvs H Q _=>∃(a:Addr) (ns:List Int),vs=[.ref a]/\gU H/\SqL (K w.params) H a (ns.map V.int)/\ns.length<=63/\∀H',Q (.bl true) H'))
 (D:∀(w:World) (mg:Cj) (h:Heap),(K w.params).In h->h.Ns mainGlobals mg->∃st,Def (K w.params) mg d.name st/\∀(kV doc pm:Value) (an:Option Addr) (cdv ct:Value) (us:List Value),us.length=1->bindArgs (W.fnOf d.name d.name (bE st) (aO st) (ai st) .none kV doc pm an cdv ct) ⟨us,[]⟩=pure ([x].zip us)):
 W.WalkO q loose XP YP l.row.toRowW d [] (λf vs=>PySem.call f vs):=by
 refine L2.walk_of (n:=63) (k:=k) (x:=x) (CX:=λw=>CX1 l.prog w) (sp:=λw=>λvs H Q _=>∃(a:Addr) (ns:List Int),vs=[.ref a]/\gU H/\SqL (K w.params) H a (ns.map V.int)/\ns.length<=63/\∀H',Q (.bl true) H') hn (by decide) hdf hr hY (λw mg fa h KX G hmg=>?_) (λ_ _ a ns hl hO hS=>⟨a,ns,rfl,hO,hS,hl,λ_=>rfl⟩) λ_ _ _ _ _ ⟨_,_,_,_,_,_,_,_,_,z⟩=>z;obtain⟨st,Dd,hbind⟩:=D w mg h KX G;obtain⟨f,fd,Ff,m⟩:=Dd.ex;have e:=hmg.symm.trans m;cases e;obtain⟨oc,od,kV,doc,pm,an,cdv,ct,osl,rfl,lk,hcd⟩:=Ff.ex;refine⟨_,λs u=>.of_eq (hbind kV doc pm an cdv ct [u] rfl),λbase kb nb=>?_⟩;obtain⟨f',fd',F',m',kp',b',oc',od',osl',lk'⟩:=(F w mg h KX G base kb nb).ex;rw[m] at m';cases m';rw[lk] at lk';cases lk';exact F'
def CMulA(i j:Int):Prop:=tL i j\/CMul i j
section
variable{K:W.Frag}{X:Cx}
def pE(h:X.K=K):OpR X (binaryOp .Add) (λx y H Q=>rI0 (λi j=>.int (i+j)) x y H Q\/(mR x y H Q\/(jj K x y H Q\/jr K x y H Q))):=yD.or (catK h)
def yr:OpR X (binaryOp .Mult) (rI CMulA λi j=>.int (i*j)):=by
 intro pins s σ H x y v u Q I rx ry h;obtain⟨i,j,e1,e2,hc,q⟩:=h;rcases hc with hc |hc
 .exact vF pins s σ H x y v u Q I rx ry ⟨i,j,e1,e2,hc,q⟩
 .exact xK pins s σ H x y v u Q I rx ry ⟨i,j,e1,e2,hc,q⟩
end
def dk(h1:pd.canLay0=true)(h2:pd.depth<=160):shp pd=true:=by unfold shp;rw[h1,Bb h2];rfl
def Sm(n:Nat)(x:Int):Prop:=x.natAbs<2^n
def Sm.bits(h:Sm n x):Builtin.Int.intBits x<=n:=intBits_le_iff.mpr h
def CMulA.left(h:-(2^64)<x)(k:x<2^64):CMulA x y:=.inr (.inl ⟨h,k⟩)
def CMulA.right(h:-(2^64)<y)(k:y<2^64):CMulA x y:=.inr (.inr ⟨h,k⟩)
def CDivB.of(h0:y≠0)(h:Sm 8000 y):CDivB x y:=⟨h0,h.bits⟩
def qL{P:Program}{w:World}{H:Hp}(h:Heap)(hb:sysModules<h.objs.size):ObjOk P w H (h.push { cls:=.type "dict",data:=.dict #[] }) h.objs.size (.dK []):=
 ⟨A3 _,Bu.mpr (Ne.symm (AS hb)),[],.nil,Heap.DictOf.new h⟩
def Inv.big{X:Cx}{pins:Ck}{σ:St}{H:Hp}{s:Shared}(I:Inv X pins σ H s):sysModules<s.heap.objs.size:=by have h:mainGlobals<s.heap.objs.size:=(I.mod.glob.keeps I.bk).lt;exact B_ (by decide) h
variable{K:W.Frag}{mg:Cj}
section
variable{κ:Type}[DecidableEq κ]
noncomputable def bZ (kvs:List (κ×V)) (k:κ):Option V:=(kvs.find? λkv=>decide (kv.1=k)).map (·.2)
noncomputable def bH (kvs:List (κ×V)) (k:κ) (v:V):List (κ×V):=
 if (kvs.any λkv=>decide (kv.1=k))=true then kvs.map (λkv=>if kv.1=k then (kv.1,v) else kv) else kvs++[(k,v)]
def fR{p:κ×V}{r:List (κ×V)}{k:κ}(e:p.1=k):bZ (p::r) k=some p.2:=by simp [bZ,Bk,e]
def gb{p:κ×V}{r:List (κ×V)}{k:κ}(e:¬ p.1=k):bZ (p::r) k=bZ r k:=by simp [bZ,Bk,e]
theorem fT(k:κ):∀kvs:List (κ×V),(kvs.any λkv=>decide (kv.1=k))=(bZ kvs k).isSome
 | []=>rfl
 |
  p::r=>by
  rw[A8];by_cases e:p.1=k
  .simp only[fR e,Bb e,Bool.true_or,Option.isSome_some]
  .rw[gb e,AO e,Bool.false_or];exact fT k r
def dG(kvs:List (κ×V))(k:κ)(v:V):(bH kvs k v).length<=kvs.length+1:=by
 unfold bH;split
 .rw[e_];omega
 .rw[k_,p_,AR];omega
def sM{kvs:List (κ×V)}{k:κ}(v:V)(h:bZ kvs k=none):bH kvs k v=kvs++[(k,v)]:=by unfold bH;rw[fT,h];exact if_neg (by decide)
def RelO.isSome_eq(r:RelO o u):o.isSome=u.isSome:=by
 cases o with
 |none=>cases u with
  |none=>rfl
  |some _=>exact (show False from r).elim
 |some _=>cases u with
  |none=>exact (show False from r).elim
  |some _=>rfl
def KV.val(r:KV kvs vs)(k:κ):RelO (bZ kvs k) (valueAt vs k):=by
 unfold KV at r;induction r with
 |nil=>exact True.intro
 |
  @cons p q ps qs h t ih=>
  obtain⟨h1,h2⟩:=h;by_cases e:p.1=k
  .have e':q.1=k:=h1.symm.trans e;have b:valueAt (q::qs) k=some q.2:=by simp [valueAt,Bk,e']
   rw[fR e,b];exact h2
  .have e':¬ q.1=k:=λz=>e (h1.trans z);have b:valueAt (q::qs) k=valueAt qs k:=by simp [valueAt,Bk,e']
   rw[gb e,b];exact ih
def KV.any(r:KV kvs vs)(k:κ):(kvs.any λkv=>decide (kv.1=k))=vs.any λkv=>decide (kv.1=k):=by
 unfold KV at r;induction r with
 |nil=>rfl
 |cons h t ih=>rw[A8,A8,ih,h.1]
def KV.repl(r:KV kvs vs)(k:κ)(ry:RelV y u):
 KV (kvs.map λkv=>if kv.1=k then (kv.1,y) else kv) (vs.map λkv=>if kv.1=k then (kv.1,u) else kv):=by
 unfold KV at r ⊢;induction r with
 |nil=>exact .nil
 |
  @cons p q ps qs h t ih=>
  rw[n_,n_];refine .cons ?_ ih;obtain⟨h1,h2⟩:=h;by_cases e:p.1=k
  .rw[if_pos e,if_pos (h1.symm.trans e)];exact⟨h1,ry⟩
  .rw[if_neg e,if_neg (λz=>e (h1.trans z))];exact⟨h1,h2⟩
def KV.put(r:KV kvs vs)(k:κ)(ry:RelV y u):KV (bH kvs k y) (stored vs k u):=by
 unfold bH stored;rw[r.any k];by_cases e:(vs.any λkv=>decide (kv.1=k))=true
 .rw[if_pos e,if_pos e];exact r.repl k ry
 .rw[if_neg e,if_neg e];exact Paired.snoc r ⟨rfl,ry⟩
def KV.length(r:KV kvs vs):kvs.length=vs.length:=Paired.length r
end
def gE(r:RelV (kV k) u):(aH P w).is k u=true:=by
 cases k with
 |inl i=>obtain⟨t,e⟩:=(show ∃t,u=Value.int i t from r);subst e;exact kW P w i t
 |inr x=>obtain⟨t,e⟩:=(show ∃t,u=Value.str x t from r);subst e;exact fA P w x t
theorem iY:∀{ks:List Key}{us:List Value},Vals (ks.map kV) us->ItemsAre (aH P w) ks us
 | [],_,r=>by rw[AZ] at r;cases r;exact .nil
 |
  k::ks,_,r=>by
  rw[n_] at r;cases r with
  |cons h t=>exact .cons (gE h) (iY t)
abbrev KT(H:Hp):List (List Key×V)->List (List Key×Addr×Value)->Prop:=Paired λp q=>p.1=q.1/\H q.2.1=some (.tup (p.1.map kV))/\RelV p.2 q.2.2
def KT.val(r:KT H kvs xs)(k:List Key):RelO (bZ kvs k) ((atKey xs k).map (·.2)):=by
 induction r with
 |nil=>exact True.intro
 |
  @cons p q ps qs h t ih=>
  obtain⟨h1,_,h2⟩:=h;by_cases e:p.1=k
  .have e':q.1=k:=h1.symm.trans e;have b:atKey (q::qs) k=some q.2:=by simp [atKey,Bk,e']
   rw[fR e,b];exact h2
  .have e':¬ q.1=k:=λz=>e (h1.trans z);have b:atKey (q::qs) k=atKey qs k:=by simp [atKey,Bk,e']
   rw[gb e,b];exact ih
def KT.repl(r:KT H kvs xs)(k:List Key)(ry:RelV y u):
 KT H (kvs.map λkv=>if kv.1=k then (kv.1,y) else kv) (xs.map (putAt k u)):=by
 induction r with
 |nil=>exact .nil
 |
  @cons p q ps qs h t ih=>
  rw[n_,n_];refine .cons ?_ ih;obtain⟨h1,h2,h3⟩:=h;unfold putAt;by_cases e:p.1=k
  .rw[if_pos e,if_pos (h1.symm.trans e)];exact⟨h1,h2,ry⟩
  .rw[if_neg e,if_neg (λz=>e (h1.trans z))];exact⟨h1,h2,h3⟩
def KT.put(r:KT H kvs xs)(k:List Key)(hb:H b=some (.tup (k.map kV)))(ry:RelV y u):
 KT H (bH kvs k y) (storedH xs k b u):=by
 have e:(kvs.any λkv=>decide (kv.1=k))=(atKey xs k).isSome:=by rw[fT,(r.val k).isSome_eq,Option.isSome_map]
 unfold bH storedH;rw[e];by_cases q:(atKey xs k).isSome=true
 .rw[if_pos q,if_pos q];exact r.repl k ry
 .rw[if_neg q,if_neg q];exact Paired.snoc r ⟨rfl,hb,ry⟩
def KT.keeps(r:KT H kvs xs)(ht:∀b ys,H b=some (.tup ys)->H' b=some (.tup ys)):KT H' kvs xs:=
 Paired.mapP r λ_ _ z=>⟨z.1,ht _ _ z.2.1,z.2.2⟩
section
variable{P:Program}{w:World}{H:Hp}{h:Heap}{a:Addr}
def uu(ok:HOk P w H h)(e:Rd H a u):ObjOk P w H h a u:=e.ok ok
def nj(ok:HOk P w H h)(e:Rd H a (.dK kvs)):kvs.length<=sizeLine/\(a==sysModules)=false/\∃vs,KV kvs vs/\h.DictOf (aH P w) a vs:=
 show ObjOk P w H h a (.dK kvs) from uu ok e
def tj(ok:HOk P w H h)(e:H a=some (.dK kvs)):kvs.length<=sizeLine/\(a==sysModules)=false/\∃vs,KV kvs vs/\h.DictOf (aH P w) a vs:=nj ok (.inl e)
def j4(ok:HOk P w H h)(e:H a=some (.tup (ks.map kV))):(tupleKind (aH P w)).is h ks a:=by obtain⟨_,its,r,o,h1,h2,n,h3⟩:=(show ObjOk P w H h a (.tup (ks.map kV)) from ok a _ e);exact⟨o,its.toArray,n,h1,h2,h3,by simpa using iY r⟩
def nB(ok:HOk P w H h)(e:Rd H a (.dT kvs)):kvs.length<=sizeLine/\(a==sysModules)=false/\
 ∃xs,KT H kvs xs/\h.DictOfH (tupleKind (aH P w)) a xs:=by
 obtain⟨z,y,xs,r,o,es,ep,h1,h2,h3,h4,h5⟩:=(show ObjOk P w H h a (.dT kvs) from uu ok e);refine⟨z,y,xs,r,o,es,ep,h1,h2,h3,h4,λx hx=>?_,h5⟩;have all:∀{l:List (List Key×V)}{m:List (List Key×Addr×Value)},KT H l m->∀x∈m,(tupleKind (aH P w)).is h x.1 x.2.1:=by
  intro l m q;induction q with
  |nil=>intro x hx;exact nomatch hx
  |
   @cons p q ps qs hq t ih=>
   intro x hx;rcases AL.mp hx with e |hx
   .subst e;exact j4 ok (by rw[<- hq.1];exact hq.2.1)
   .exact ih x hx
 exact all r x hx
def An(ok:HOk P w H h)(e:H a=some (.dT kvs)):kvs.length<=sizeLine/\(a==sysModules)=false/\
 ∃xs,KT H kvs xs/\h.DictOfH (tupleKind (aH P w)) a xs:=nB ok (.inl e)
end
def DGet(H:Hp)(a:Addr)(y:V)(r:Option V):Prop:=
 (∃kvs k,Rd H a (.dK kvs)/\y=kV k/\r=bZ kvs k)\/∃kvs k b,Rd H a (.dT kvs)/\y=.ref b/\H b=some (.tup (k.map kV))/\r=bZ kvs k
def DPut(H:Hp)(a:Addr)(y v:V)(H':Hp):Prop:=
 (∃kvs k,H a=some (.dK kvs)/\y=kV k/\kvs.length<sizeLine/\H'=upd H a (.dK (bH kvs k v)))\/
 ∃kvs k b,H a=some (.dT kvs)/\y=.ref b/\H b=some (.tup (k.map kV))/\kvs.length<sizeLine/\H'=upd H a (.dT (bH kvs k v))
def DGet.k{H:Hp}{a:Addr}{kvs:List (Key×V)}{k:Key}(e:H a=some (.dK kvs)):DGet H a (kV k) (bZ kvs k):=.inl ⟨kvs,k,.inl e,rfl,rfl⟩
def DPut.k{H:Hp}{a:Addr}{kvs:List (Key×V)}{k:Key}{v:V}(e:H a=some (.dK kvs))(hl:kvs.length<sizeLine):DPut H a (kV k) v (upd H a (.dK (bH kvs k v))):=.inl ⟨kvs,k,e,rfl,hl,rfl⟩
section
variable{X:Cx}{pins:Ck}{σ:St}{H:Hp}{s:Shared}{a:Addr}{y v:V}{u r:Value}{o:Option V}{A:Around}{E:Cm}
def nI(hu:A.units+1<cLine)(I:Inv X pins σ H s)(g:DGet H a y (some v))(ry:RelV y u)(h:∀w' s',Inv X pins σ H s'->RelV v w'->Q w' s'):
 wpAny (model X.prog X.w) A (getItem (.ref a) u) Q E s:=by
 rcases g with ⟨kvs,k,e,ey,l⟩ |⟨kvs,k,b,e,ey,eb,l⟩
 .subst ey;obtain⟨z,hd,vs,rel,dd⟩:=nj I.hok e;obtain⟨w',hw,rw'⟩:=RelO.some_of (v:=v) (o:=valueAt vs k) (by rw[l];exact rel.val k);exact wpAny_getItem_of (gE ry) dd.mapOf hw (h w' _ (I.tok _) rw')
 .subst ey;cases (show u=Value.ref b from ry);obtain⟨z,hd,xs,rel,dd⟩:=nB I.hok e;obtain⟨w',hw,rw'⟩:=RelO.some_of (v:=v) (o:=(atKey xs k).map (·.2)) (by rw[l];exact rel.val k);obtain⟨p,hp,hp2⟩:=v_.mp hw;refine wpAny_getItem_heap (tupleKind_room_in1 hu) (j4 I.hok eb) dd hp ?_;rw[hp2];exact h w' _ (I.tok _) rw'
def h9(I:Inv X pins σ H s)(mu:Mut (H a))(hs:Heap.SameBut a s.heap h')(he:∃q,h'.get? a=some q)(new:ObjOk X.prog X.w (upd H a ob) h' a ob):
 Inv X pins σ (upd H a ob) { s with heap:=h',toks:=t' }:=
 I.write (x:=a) (e:=a) mu (.inl rfl) (λb q hb z=>(hs.2 b hb).trans z) he new
def o6(z:kvs.length<=sizeLine)(hd:(a==sysModules)=false)(rel:KV kvs vs)(dd:h'.DictOf (aH P w) a vs):
 ObjOk P w H' h' a (.dK kvs):=⟨z,hd,vs,rel,dd⟩
def ot(hu:A.units+1<cLine)(I:Inv X pins σ H s)(g:DPut H a y v H')(ry:RelV y u)(rv:RelV v r)(h:∀s',Inv X pins σ H' s'->Q () s'):
 wpAny (model X.prog X.w) A (setItem (.ref a) u r) Q E s:=by
 rcases g with ⟨kvs,k,e,ey,l,eH⟩ |⟨kvs,k,b,e,ey,eb,l,eH⟩
 .subst ey eH;obtain⟨z,hd,vs,rel,dd⟩:=tj I.hok e;have hz:vs.length<=sizeLine:=by rw[<- rel.length];exact z
  have hl:(bH kvs k v).length<=sizeLine:=by have:=dG kvs k v;omega
  refine wpAny_setItem_pairs (hsz:=hz) (gE ry) dd λh' dd' hs=>h _ ?_;have he:∃q,h'.get? a=some q:=let ⟨q,_,_,hq,_⟩:=dd';⟨q,hq⟩;exact h9 I (by rw[e];exact True.intro) hs he (o6 hl hd (rel.put k rv) dd')
 .subst ey eH;cases (show u=Value.ref b from ry);obtain⟨z,hd,xs,rel,dd⟩:=An I.hok e;have hz:xs.length<=sizeLine:=by rw[<- Paired.length rel];exact z
  have hl:(bH kvs k v).length<=sizeLine:=by have:=dG kvs k v;omega
  refine wpAny_setItem_heap (hsz:=hz) (tupleKind_room_in1 hu) (j4 I.hok eb) dd λh' dd' hs=>h _ ?_;obtain⟨q,es,ep,hq,h2,h3,h4,_,h5⟩:=dd';refine h9 I (by rw[e];exact True.intro) hs ⟨q,hq⟩ ⟨hl,hd,_,(rel.put k eb rv).keeps λc ys ec=>?_,q,es,ep,hq,h2,h3,h4,h5⟩;rw[aq (zZ ec e (λz=>nomatch z))];exact ec
end
def rP(i:Expr):Prop:=∀ov iv,subscripted i false ov iv=operate [ov,iv] (getItem ov iv)
def vR{prog:Program}{w:World}{A:Around}{E:Cm}{s:Shared}{env:Env}{value slice:Expr}{pos:Pos}{T id:String}{Q:Cm}
 (hl:typeLookup (.type T) "__getitem__"=pure (some (.builtin id))) (hs:rP slice)
 (h:wpAny (model prog w) A (eval value env) (λo s₁=>wpAny (model prog w) A (eval slice env) (λi s₂=>s₂.TypeIs o T/\wpAny (model prog w) A (getItem o i) Q E s₂) E s₁) E s):
 wpAny (model prog w) A (eval (.Subscript value slice pos) env) Q E s:=by
 refine Subscript_ (z_ h (λo s₁ h₁=>z_ h₁ (λi s₂ h₂=>?_) λ_ _ x=>x) λ_ _ x=>x);obtain⟨hT,h₂⟩:=h₂;unfold subscriptTail;refine g_ ?_;rw[getitemInPython_of_ne hT.not_modules];refine g_ (wpAny_specialOf hT hl ?_);have fin:wpAny (model prog w) A (subscripted slice false o i) (λr s₃=>wpAny (model prog w) A (letTemporaryGo value o r >>= λ_=>pure r) Q E s₃) E s₂:=by rw[hs o i];exact wpAny_operating (z_ h₂ (λr s₃ h₃=>g_ (wpAny_letTemporaryGo (l_ h₃))) λ_ _ x=>x)
 first
  |exact l_ (g_ fin)
  |exact g_ (l_ (g_ fin))
  |exact g_ fin
def kX(I:Inv X pins σ H s)(g:DGet H a y o):s.TypeIs (.ref a) "dict":=by
 rcases g with ⟨kvs,k,e,_,_⟩ |⟨kvs,k,b,e,_,_,_⟩
 .obtain⟨_,_,vs,_,dd⟩:=nj I.hok e;exact dd.typeIs
 .obtain⟨_,_,xs,_,dd⟩:=nB I.hok e;exact dd.typeIs
def AD(td ty:TE):TE:=λσ H Q=>td σ H λx H1=>ty σ H1 λy H2=>∃a v,x=.ref a/\DGet H2 a y (some v)/\Q v H2
section
variable{X:Cx}{o i:Expr}{pos:Pos}{td ty:TE}
def vS(hu:X.A.units+1<cLine)(ho:PE X o td)(hi:PE X i ty)(hs:rP i):PE X (.Subscript o i pos) (AD td ty):=by intro pins s σ H Q I h;refine vR PySem.F.slot_dict_getitem.lookup hs (thn (ho pins s σ H _ I h) λu s1 zz=>exA zz λx H1 I1 rx q1=>thn (hi pins s1 σ H1 _ I1 q1) λiv s2 ⟨y,H2,I2,ry,a,v,ex,g,q2⟩=>?_);subst ex;obtain rfl:u=Value.ref a:=rx;exact⟨kX I2 g,nI hu I2 g ry λw' s3 I3 rw'=>⟨v,H2,I3,rw',q2⟩⟩
end
def gx:List (TE×TE)->St->Hp->(List (V×V)->Hp->Prop)->Prop
 | [],_,H,Q=>Q [] H
 |(tk,tv)::r,σ,H,Q=>tk σ H λx H1=>tv σ H1 λy H2=>gx r σ H2 λps H3=>Q ((x,y)::ps) H3
abbrev VV:List (V×V)->List (Value×Value)->Prop:=Paired λp q=>RelV p.1 q.1/\RelV p.2 q.2
def PPs(X:Cx)(pos:Pos)(keys:List (Option Expr))(values:List Expr)(trs:List (TE×TE)):Prop:=
 ∀
  (pins:Ck) (s:Shared) (σ:St) (H:Hp) (Q:List (V×V)->Hp->Prop),Inv X pins σ H s->gx trs σ H Q->
  wpAny (model X.prog X.w) X.A (evalPairs (pairTrees keys values X.env pos)) (λvs s'=>∃ps H',Inv X pins σ H' s'/\VV ps vs/\Q ps H') X.xe s
def uM:PPs X pos [] [] []:=λpins s σ H Q I h=>pairTrees_nil_walk ⟨[],H,I,.nil,h⟩
def qN(hk:PE X k tk)(hv:PE X v tv)(hr:PPs X pos ks vs trs):
 PPs X pos (some k::ks) (v::vs) ((tk,tv)::trs):=λpins s σ H Q I h=>
 pairTrees_cons_walk (thn (hk pins s σ H _ I h) λu s1 zz=>exA zz λx H1 I1 rx q1=>thn (hv pins s1 σ H1 _ I1 q1) λw2 s2 zz=>exA zz λy H2 I2 ry q2=>
  thn (hr pins s2 σ H2 _ I2 q2) λws s3 zz=>exA zz λps H3 I3 rel q3=>⟨(x,y)::ps,H3,I3,.cons ⟨rx,ry⟩ rel,q3⟩)
noncomputable def c5 (kvs more:List (Key×V)):List (Key×V):=more.foldl (λacc kv=>bH acc kv.1 kv.2) kvs
def KV.merge:∀{more:List (Key×V)}{rs:List (Key×Value)}{kvs:List (Key×V)}{vs:List (Key×Value)},KV more rs->KV kvs vs->KV (c5 kvs more) (merged vs rs):=by
 intro more rs kvs vs r;unfold KV at r;induction r generalizing kvs vs with
 |nil=>intro q;exact q
 |
  @cons p q ps qs h t ih=>
  intro r0;have e:KV (bH kvs p.1 p.2) (stored vs q.1 q.2):=by
   have:=r0.put p.1 h.2
   rw[<- h.1];exact this
  exact ih e
theorem eG:∀(more kvs:List (Key×V)),(c5 kvs more).length<=kvs.length+more.length
 | [],kvs=>by show kvs.length<=kvs.length+0;omega
 |
  p::r,kvs=>by
  have h1:=eG r (bH kvs p.1 p.2);have h2:=dG kvs p.1 p.2;show (c5 (bH kvs p.1 p.2) r).length<=_;rw[p_];omega
theorem gD:∀{kvs:List (Key×V)}{ws:List (Value×Value)},VV (kvs.map λkv=>(kV kv.1,kv.2)) ws->∃rs,Carries (aH P w) ws rs/\KV kvs rs
 | [],_,r=>by rw[AZ] at r;cases r;exact⟨[],True.intro,.nil⟩
 |
  p::kvs,_,r=>by
  rw[n_] at r;cases r with
  |@cons a b as bs h t=>obtain⟨rs,c,q⟩:=gD (P:=P) (w:=w) t;obtain⟨b1,b2⟩:=b;exact⟨(p.1,b2)::rs,⟨gE h.1,rfl,c⟩,.cons ⟨rfl,h.2⟩ q⟩
def zD(trs:List (TE×TE)):TE:=λσ H Q=>∀p,H p=none->gx trs σ (upd H p (.dK [])) λps H2=>H2 p=some (.dK [])/\∃kvs:List (Key×V),ps=kvs.map (λkv=>(kV kv.1,kv.2))/\kvs.length<=15/\Q (.ref p) (upd H2 p (.dK (c5 [] kvs)))
def vN(h:PPs X pos keys values trs)(hall:keys.all (·.isSome)=true)(hl:keys.length=values.length)(h0:keys≠[])
 (h15:keys.length<=15):PE X (.Dict keys values pos) (zD trs):=by
 intro pins s σ H Q I q;have hn:=I.hok.fresh (r_ s.heap.objs.size);have I1:=I.laid (a:=s.heap.objs.size) (o:=.dK []) (h':=s.heap.push { cls:=.type "dict",data:=.dict #[] }) (t':=s.toks) (λ_ _ q=>w_ _ q) (r_ _) (qL s.heap I.big);refine wpAny_Dict_walk (knd:=aH X.prog X.w) hall hl h0 h15 (thn (h pins _ σ _ _ I1 (q _ hn)) λws s2 ⟨ps,H2,I2,rel,e,kvs,ep,lk,q2⟩=>?_);subst ep;obtain⟨rs,c,rk⟩:=gD (P:=X.prog) (w:=X.w) rel;obtain⟨z,hd,vs0,r0,dd⟩:=tj I2.hok e;cases r0;refine⟨rs,c,dd,λh' dd' hs=>⟨.ref s.heap.objs.size,_,?_,rfl,q2⟩⟩;have hz:(c5 [] kvs).length<=sizeLine:=by have h1:=eG kvs [];rw[AR] at h1;rw[sizeLine_eq];omega
 have he:∃q,h'.get? s.heap.objs.size=some q:=let ⟨q,_,_,hq,_⟩:=dd';⟨q,hq⟩;exact h9 I2 (by rw[e];exact True.intro) hs he (o6 hz hd (rk.merge .nil) dd')
section
variable[DecidableEq κ]
noncomputable def lkD (kvs:List (κ×α)) (k:κ):Option α:=(kvs.find? λkv=>decide (kv.1=k)).map (·.2)
noncomputable def m7 (kvs:List (κ×α)) (k:κ) (v:α):List (κ×α):=if (kvs.any λkv=>decide (kv.1=k))=true then kvs.map λkv=>if kv.1=k then (kv.1,v) else kv else kvs++[(k,v)]
end
section
variable{H:Hp}
def qE[DecidableEq κ]:∀{kvs:List (κ×α)}{ws:List (κ×β)},ws.map (·.1)=kvs.map (·.1)->(ws.any λkv=>decide (kv.1=k))=kvs.any λkv=>decide (kv.1=k):=by
 intro kvs;induction kvs with
 |
  nil=>
  intro ws e;cases ws with
  |nil=>rfl
  |cons _ _=>cases e
 |
  cons p kvs ih=>
  intro ws e;cases ws with
  |nil=>cases e
  |cons w ws=>rw[n_,n_] at e;injection e with e1 e2;rw[A8,A8,ih e2,e1]
def sU:kz:=λo i v H Q=>∃a H4,o=.ref a/\DPut H a i v H4/\Q H4
variable{X:Cx}{a:Expr}
def sO(hu:X.A.units+1<cLine):si X sU:=λpins s σ H o i v ov iv u Q I ro ri rv ⟨a,H4,eo,g,q⟩=>by subst eo;obtain rfl:ov=Value.ref a:=ro;exact ot hu I g ri rv λs4 I4=>⟨H4,I4,q⟩
theorem jT:∀(more acc:List (Key×V)),((acc++more).map (·.1)).Nodup->c5 acc more=acc++more
 | [],acc,_=>(AN _).symm
 |
  (k,v)::more,acc,h=>by
  show c5 (bH acc k v) more=_;have hk:bZ acc k=none:=by unfold bZ;rw[Option.map_eq_none_iff,List.find?_eq_none];intro p hp z;have z:=of_decide_eq_true z;rw[AX,List.nodup_append] at h;exact h.2.2 p.1 (List.mem_map_of_mem hp) k (y_ ..) z
  rw[sM v hk,jT more (acc++[(k,v)]) (by rw[A6];exact h),A6];rfl
theorem kJ:∀(ks:List Str) (vs:List V),(ks.map V.str).zip vs=((ks.map Sum.inr).zip vs).map λkv:Key×V=>(kV kv.1,kv.2)
 | [],_=>rfl
 |_::_,[]=>rfl
 |
  k::ks,v::vs=>by
  show (V.str k,v)::(ks.map V.str).zip vs=_;rw[kJ ks vs];rfl
end
open PySem PySem.Spec PySem.Calls PyProof.Rows
inductive EntOk(w:World):List DictEntry->List (Str×Int)->Prop
 |nil:EntOk w [] []
 |cons {e:DictEntry}{es:List DictEntry}{k:Str}{i:Int}{t t':Tok}{kvs:List (Str×Int)} (h:e.hash=hashStr w k) (hk:e.key=.str k t) (hv:e.val=.int i t') (r:EntOk w es kvs):EntOk w (e::es) ((k,i)::kvs)
noncomputable def lkS (kvs:List (Str×Int)) (k:Str):Option Int:=(kvs.find? λp=>decide (p.1=k)).map (·.2)
def KDict(w:World)(K:W.Frag)(mg:Cj)(n:Str)(kvs:List (Str×Int)):Prop:=
 ∃a o es ep,mg n=some (.ref a)/\(a==sysModules)=false/\List.lookup a K=some o/\o.ExactDict/\o.data=.dict es ep/\EntOk w es.toList kvs/\(kvs.map (·.1)).Nodup
theorem iD:∀{es:List DictEntry}{kvs:List (Str×Int)},EntOk w es kvs->(∀e∈es,∃k,(aH P w).is k e.key=true/\e.hash=(aH P w).hash k)/\∃vs:List (Key×Value),Pairs (aH P w) es vs/\vs.map (·.1)=kvs.map (λp=>.inr p.1)/\∀k:Str,(lkS kvs k=none/\valueAt vs (.inr k)=none)\/∃i t,lkS kvs k=some i/\valueAt vs (.inr k)=some (.int i t)
 |_,_,.nil=>⟨(λe h=>nomatch h),[],.nil,rfl,λk=>.inl ⟨rfl,rfl⟩⟩
 |
  _,_,.cons (e:=e) (es:=es) (k:=k) (i:=i) (t:=t) (t':=t') (kvs:=kvs) h hk hv r=>by
  obtain⟨h1,vs,h2,h3,h4⟩:=iD (P:=P) r;have is:(aH P w).is (.inr k) e.key=true:=by rw[hk];exact fA P w k t
  refine⟨λe' he=>?_,(.inr k,.int i t')::vs,.cons is hv h2,by simp [h3],λk'=>?_⟩
  .rcases AL.mp he with rfl |he
   .exact⟨.inr k,is,h⟩
   .exact h1 e' he
  .by_cases e:k=k'
   .subst e;exact .inr ⟨i,t',by simp [lkS],by simp [valueAt]⟩
   .have n1:¬ (Sum.inr k:Key)=.inr k':=λz=>e (Sum.inr.inj z);have a1:lkS ((k,i)::kvs) k'=lkS kvs k':=by simp [lkS,e]
    have a2:valueAt ((Sum.inr k,Value.int i t')::vs) (.inr k':Key)=valueAt vs (.inr k'):=by simp [valueAt,n1]
    rw[a1,a2];exact h4 k'
theorem iz:∀{l:List (Str×Int)},(l.map (·.1)).Nodup->(l.map (λp=>(Sum.inr p.1:Key))).Nodup
 | [],_=>.nil
 |
  p::l,h=>by
  rw[n_,Be] at h;rw[n_,Be];refine⟨λz=>h.1 ?_,iz h.2⟩;obtain⟨q,hq,e⟩:=B8.mp z;exact B8.mpr ⟨q,hq,Sum.inr.inj e⟩
section
variable{X:Cx}{K:W.Frag}{mg:Cj}{w:World}{n:Str}{kvs:List (Str×Int)}
def zC(I:Inv X pins σ H s)(g:KDict X.w X.K X.mg n kvs):∃a vs,X.mg n=some (.ref a)/\(a==sysModules)=false/\s.heap.DictOf (aH X.prog X.w) a vs/\∀k:Str,(lkS kvs k=none/\valueAt vs (.inr k)=none)\/∃i t,lkS kvs k=some i/\valueAt vs (.inr k)=some (.int i t):=by obtain⟨a,o,es,ep,h1,h2,h3,h4,h5,h6,h7⟩:=g;obtain⟨q1,vs,q2,q3,q4⟩:=iD (P:=X.prog) h6;refine⟨a,vs,h1,h2,⟨o,es,ep,I.kIn a o h3,h4,h5,λe he=>q1 e (by simpa using he),q2,?_⟩,q4⟩;rw[q3];exact iz h7
def rL(neg:Bool)(mg:Cj)(n:Str)(kvs:List (Str×Int)):R2:=λx y H Q=>∃k a,x=.str k/\y=.ref a/\mg n=some (.ref a)/\Q (.bl (neg ^^ (lkS kvs k).isSome)) H
def vp(hw:X.w=w)(hK:X.K=K)(hm:X.mg=mg)(g:KDict w K mg n kvs):OpR X (compareOp .NotIn) (rL true mg n kvs):=by
 subst hw hK hm;intro pins s σ H x y v u Q I rx ry ⟨k,a,ex,ey,e1,q⟩;subst ex ey;cases ry;obtain⟨a',vs,h1,h2,dd,h4⟩:=zC I g;have:a'=a:=by rw[h1] at e1;cases e1;rfl
 subst this;refine wpAny_notIn_of (gE (k:=.inr k) rx) h2 dd.mapOf ⟨.bl (!(valueAt vs (.inr k)).isSome),H,I.tok _,rfl,?_⟩;rcases h4 k with ⟨z1,z2⟩ |⟨i,t,z1,z2⟩
 .rw[z2];rw[z1] at q;exact q
 .rw[z2];rw[z1] at q;exact q
end
def rS{K:W.Frag}{h:Heap}{mg:Cj}{w:World}{n:Str}{kvs:List (Str×Int)}{a:Addr}{es:Array DictEntry}{ep:Nat}(X:K.In h)(G:h.Ns mainGlobals mg)(e1:W.nsIn K mainGlobals n=some (some (.ref a)))(e2:List.lookup a K=some { cls:=.type "dict",data:=.dict es ep })(hs:(a==sysModules)=false)(he:EntOk w es.toList kvs)(hn:(kvs.map (·.1)).Nodup):KDict w K mg n kvs:=
 ⟨a,_,es,ep,W.mg_of X G e1,hs,e2,⟨rfl,rfl,rfl⟩,rfl,he,hn⟩
def KDict.ex(g:KDict w K mg n kvs):∃a,mg n=some (.ref a):=let ⟨a,_,_,_,e,_⟩:=g;⟨a,e⟩
structure RoomU(k:Nat)(A:Around):Prop where
 dp:A.depth+3*k+5<recursionLimit
 un:A.units+16*k+200<cLine
def RoomU.deeper(r:RoomU (k+1) A)(env:Env):RoomU k (A.deeper env):=
 ⟨by have:=r.dp;show A.depth+1+3*k+5<_;omega,by have:=r.un;show A.units+3+16*k+200<_;omega⟩
def RoomU.depth(r:RoomU k A):A.depth<recursionLimit:=by have:=r.dp;omega
def RoomU.u180(r:RoomU k A):A.units+180<cLine:=by have:=r.un;omega
def RoomU.u100(r:RoomU k A):A.units+190<cLine:=by have:=r.un;omega
def Room.toU(r:Room k A)(e:Option Value)(h:j<=k):RoomU j (A.mark e):=⟨by have:=r.dp;show A.depth+3*j+5<_;omega,by have:=r.un;show A.units+16*j+200<_;omega⟩
noncomputable def eu (CX:CXT) (P:Program) (w:World) (K:W.Frag) (mg:Cj) (base:Heap) (N:List Str) (qual:Str) (scope:Scope) (f:Addr) (cd:Value) (A:Around) (outer:List Env) (s:Shared) (H:Hp) (E:XK):Cx:={ bT CX P w K mg base N qual scope f cd A outer s H E with calm:=false }
structure FnOkU(P:Program)(w:World)(K:W.Frag)(mg:Cj)(base:Heap)(CX:CXT)(k:Nat)(f:Addr)(fd:FuncData)(ps:List Str)(sp:Sp):Prop where
 len:∀vs H Q E,sp vs H Q E->vs.length=ps.length
 run:∀(A:Around) (outer:List Env) (s:Shared) (H:Hp) (args:Args) (us:List Value) (vs:List V) (Q:VK) (E:XK),RoomU k A->Env0 P w K mg base A outer s H->BindsTo s fd args (ps.zip us)->Vals vs us->sp vs H Q E->
  codeAny (model P w) A (.call (.ref f) args) (CR CX outer P w H s Q E) s
def mx{CX:CXT}{P:Program}{w:World}{K:W.Frag}{mg:Cj}{base:Heap}{N ps:List Str}{qual:Str}{scope:Scope}{f:Addr}{cd:Value}{A:Around}{outer:List Env}{s s1:Shared}{H:Hp}{E:XK}{us:List Value}{vs:List V}
 (S:FnScope N ps scope) (e0:Env0 P w K mg base A outer s H) (hl:vs.length=ps.length) (r:Vals vs us)
 (x:InCallC s s.heap.objs.size (bindL (envOfC qual scope s.heap.objs.size f cd).kindOf (ps.zip us) λ_=>none) (cellsFrom (s.heap.objs.size+1) scope.names []) (bindC (envOfC qual scope s.heap.objs.size f cd).kindOf (ps.zip us) λ_=>none) s1):
 Inv (eu CX P w K mg base N qual scope f cd A outer s H E) [] (bt N vs) H s1:=by
 have I:=iL (CX:=CX) (E:=E) (A:={ A with handled:=none }) S rfl ⟨e0.frames,e0.mod,e0.bs,e0.bsz,e0.funs,e0.frf,e0.hok,e0.bare⟩ hl r x;exact⟨⟨I.ok.mod,I.ok.kind,I.ok.glob,I.ok.blt,I.ok.above,I.ok.inj,I.ok.has,I.ok.cab,λz=>absurd z h_,Around.frames_deeper e0.frames,I.ok.stk,I.ok.exf,I.ok.bs,I.ok.bsz,I.ok.noex,I.ok.exfs,I.ok.funs,I.ok.frf⟩,I.os,I.bare,I.base,I.loc,I.cell,I.free,I.freeC,I.pin,I.hok,I.len⟩
def wM{CX:CXT}{P:Program}{w:World}{K:W.Frag}{mg:Cj}{base:Heap}{k:Nat}{f:Addr}{name qual:Str}{params:Arguments}{body:List Stmt}{scope:Scope}{dV kV doc pm cdv ct oc:Value}{an od:Option Addr}
 {osl:Array (Option Value)}{N ps:List Str}{sp:Sp} (lk:K.lookup f=some ⟨oc,od,.func (W.fnOf name qual params body scope dV kV doc pm an cdv ct),osl⟩) (hcd:W.codeIn K cdv qual=true) (S:FnScope N ps scope)
 (len:∀vs H Q E,sp vs H Q E->vs.length=ps.length)
 (a_:∀(A:Around) (outer:List Env) (s:Shared) (H:Hp) (vs:List V) (Q:VK) (E:XK),RoomU k (A.deeper (envOfC qual scope s.heap.objs.size f cdv))->sp vs H Q E->
  ∃t,PSs (eu CX P w K mg base N qual scope f cdv A outer s H E) body t/\t { nx:=λ_ H'=>Q .non H',rt:=Q } (bt N vs) H):
 FnOkU P w K mg base CX (k+1) f (W.fnOf name qual params body scope dV kV doc pm an cdv ct) ps sp:=by
 refine⟨len,λA outer s H args us vs Q E hr e0 hb r hsp=>?_⟩;have hl:=len _ _ _ _ hsp;have KX:K.In s.heap:=e0.mod.kin.keeps λb o e=>(e0.bs b o e).1;have lim:s.heap.NoLimit:=e0.mod.nolimit.keeps λb o e=>(e0.bs b o e).1;have hkind:∀y∈ps.zip us,scope.names.lookup y.1=some .local\/(scope.names.lookup y.1=some .cell/\((cellsFrom (s.heap.objs.size+1) scope.names []).lookup y.1).isSome=true):=λ⟨n,v⟩ hy=>by
  rcases S.par n (B9 hy).1 with q |q
  .exact .inl q
  .exact .inr ⟨q,W.cellsFrom_some _ _ _ (.inl q)⟩
 refine codeAny_call_function hr.depth (KX _ _ lk) rfl S.co S.gen rfl (W.codeRec_of KX hcd) (hb _ _ _ _ ?_);refine wpAny_newFunctionEnv_cells S.kind hkind λenv he s1 x=>?_;subst he;refine⟨lim.keeps x.toInCall.keep,codeAny_func ?_⟩;obtain⟨t,ht,hq⟩:=a_ A outer s H vs Q E (hr.deeper _) hsp;have I:Inv (eu CX P w K mg base N qual scope f cdv A outer s H E) [] (bt N vs) H s1:=mx S e0 hl r x;refine z_ (ht [] s1 (bt N vs) H _ I hq) (λfl s' hs=>?_) λe s' hs=>hs;have fin:∀{σ':St}{H':Hp}{v:V}{u:Value},Inv (eu CX P w K mg base N qual scope f cdv A outer s H E) [] σ' H' s'->RelV v u->Q v H'->CE outer P w H s Q u s':=
  λ{σ' H' v u} J rv q=>⟨v,H',J.os,J.bare,J.base,J.hok,rv,q⟩
 cases fl with
 |ret u=>obtain⟨v,σ',H',J,rv,q⟩:=hs;exact fin J rv q
 |next=>obtain⟨σ',H',J,q⟩:=hs;exact fin (v:=V.non) (u:=Value.none) J rfl q
 |brk=>obtain⟨_,_,_,q⟩:=hs;exact False.elim q
 |cont=>obtain⟨_,_,_,q⟩:=hs;exact False.elim q
section
variable{P:Program}{w:World}{K:W.Frag}{mg:Cj}{base:Heap}{x:Str}{st:Stmt}{k:Nat}{ps N:List Str}{sp:Sp}
def Fun.okRU(F:Fun K x qual st f fd)(S:FnScope N ps (ai st))(len:∀vs H Q E,sp vs H Q E->vs.length=ps.length)
 (a_:∀(cdv:Value) (A:Around) (outer:List Env) (s:Shared) (H:Hp) (vs:List V) (Q:VK) (E:XK),RoomU k (A.deeper (envOfC qual (ai st) s.heap.objs.size f cdv))->sp vs H Q E->
  ∃t,PSs (eu (CX1 P w) P w K mg base N qual (ai st) f cdv A outer s H E) (aO st) t/\t { nx:=λ_ H'=>Q .non H',rt:=Q } (bt N vs) H):FnOkU P w K mg base (CX1 P w) (k+1) f fd ps sp:=by
 obtain⟨oc,od,kV,doc,pm,an,cdv,ct,osl,rfl,lk,hcd⟩:=F.ex;exact wM lk hcd S len λA outer s H vs Q E hr hsp=>a_ cdv A outer s H vs Q E hr hsp
structure CalleeU(P:Program)(w:World)(K:W.Frag)(mg:Cj)(base:Heap)(x:Str)(k:Nat)(ps:List Str)(sp:Sp):Prop where
 ex:∃f fd,FnOkU P w K mg base (CX1 P w) k f fd ps sp/\mg x=some (.ref f)/\W.keepIn K (.ref f)=true/\Binds K fd ps []/\∃oc od osl,K.lookup f=some ⟨oc,od,.func fd,osl⟩
def Def.okRU(D:Def K mg x st)(S:FnScope N ps (ai st))
 (hb:∀(kV doc pm:Value) (an:Option Addr) (cdv ct:Value) (us:List Value),us.length=ps.length->bindArgs (W.fnOf x x (bE st) (aO st) (ai st) .none kV doc pm an cdv ct) ⟨us,[]⟩=pure (ps.zip us))
 (len:∀vs H Q E,sp vs H Q E->vs.length=ps.length)
 (a_:∀(f:Addr) (cdv:Value) (A:Around) (outer:List Env) (s:Shared) (H:Hp) (vs:List V) (Q:VK) (E:XK),RoomU k (A.deeper (envOfC x (ai st) s.heap.objs.size f cdv))->sp vs H Q E->
  ∃t,PSs (eu (CX1 P w) P w K mg base N x (ai st) f cdv A outer s H E) (aO st) t/\t { nx:=λ_ H'=>Q .non H',rt:=Q } (bt N vs) H):CalleeU P w K mg base x (k+1) ps sp:=by
 obtain⟨f,fd,F,m⟩:=D.ex;exact⟨f,fd,F.okRU S len (a_ f),m,F.kp,F.binds hb,F.look⟩
variable{F:MS}
end
open PySem PySem.W PyProof.Rows
abbrev Ask:=Nat->Nat->(Bool->Shared->Prop)->Shared->Prop
variable{lt:Nat->Nat->Bool}{N:Nat}{cmp:Ask}{s:Shared}
noncomputable def lexP (x y:Int×Int):Bool:=decide (x.1<y.1\/(x.1=y.1/\x.2<y.2))
noncomputable def ltP (ks:List (Int×Int)) (i j:Nat):Bool:=lexP (ks.getD i (0,0)) (ks.getD j (0,0))
set_option maxHeartbeats 4000000
noncomputable def ltS (x y:Str):Bool:=decide (x.cps.toList<y.cps.toList)
end L2
namespace L3
open PySem PySem.Spec PyProof.Rows L2
set_option genInjectivity true in
inductive Val where
 |non |bl (b:Bool) |int (i:Int) |str (x:Str) |ty (n:String) |glb (x:Str) |exc (x:Str)
 |tup (xs:List Val) |lst (xs:List Val) |kl (xs:List Val) |dct (kvs:List (Key×Val)) |set (xs:List Int)
 deriving Inhabited
abbrev St:=L2.St
structure LeH(H H':Hp):Prop where
 tup:∀b xs,H b=some (.tup xs)->H' b=some (.tup xs)
 frz:∀b o u,H b=some (.frz o u)->H' b=some (.frz o u)
 ext:∀b φ,H b=some (.ext φ)->H' b=some (.ext φ)
def LeH.refl:LeH H H:=⟨λ_ _ e=>e,λ_ _ _ e=>e,λ_ _ e=>e⟩
def LeH.trans(a:LeH H H1)(b:LeH H1 H2):LeH H H2:=⟨λx y e=>b.tup x y (a.tup x y e),λx y z e=>b.frz x y z (a.frz x y z e),λx y e=>b.ext x y (a.ext x y e)⟩
def Gr(H H':Hp):Prop:=∀a o,H a=some o->H' a=some o
def Gr.le(g:Gr H H'):LeH H H':=⟨λ_ _=>g _ _,λ_ _ _=>g _ _,λ_ _=>g _ _⟩
def Gr.refl:Gr H H:=λ_ _ e=>e
def Gr.upd(h:H p=none):Gr H (upd H p u):=λa o e=>by rw[aq (bO e h)];exact e
def Gr.none(g:Gr H H')(h:H' a=none):H a=none:=by
 cases q:H a with
 |none=>rfl
 |some o=>rw[g a o q] at h;cases h
def LeH.sqT{K:W.Frag}(l:LeH H H')(q:SqT K H a xs):SqT K H' a xs:=by
 rcases q with (q |⟨o,q⟩) |q
 .exact .inl (.inl (l.tup _ _ q))
 .exact .inl (.inr ⟨o,l.frz _ _ _ q⟩)
 .exact .inr q
section
variable(K:W.Frag)(mg:Cj)
def KlR(a:Addr)(vs:List V):Prop:=∃(o:Obj) (its:Array Value) (n:Nat),K.lookup a=some o/\o.cls=.type "list" /\ o.dict=none/\o.data=.seq its n/\its.size<=sizeLine/\Vals vs its.toList
mutual
inductive Rd(P:Addr->Prop)(H:Hp):V->Val->Prop where
 |non:Rd P H .non .non
 |bl (b:Bool):Rd P H (.bl b) (.bl b)
 |int (i:Int):Rd P H (.int i) (.int i)
 |str (x:Str):Rd P H (.str x) (.str x)
 |ty (n:String):Rd P H (.ty n) (.ty n)
 |glb {x:Str}{a:Addr} (m:mg x=some (.ref a)):Rd P H (.ref a) (.glb x)
 |exc {x:Str}{a C:Addr} (m:mg x=some (.ref C)) (e:H a=some (.ext (fW a C))):Rd P H (.ref a) (.exc x)
 |tup {p:Addr}{vs:List V}{us:List Val} (h:SqT K H p vs) (r:Rds P H vs us):Rd P H (.ref p) (.tup us)
 |kl {a:Addr}{vs:List V}{us:List Val} (h:KlR K a vs) (r:Rds P H vs us):Rd P H (.ref a) (.kl us)
 |cell {a:Addr}{o:HO}{v:Val} (p:P a) (e:H a=some o) (r:Rc P H o v):Rd P H (.ref a) v
inductive Rc(P:Addr->Prop)(H:Hp):HO->Val->Prop where
 |lst {vs:List V}{us:List Val} (r:Rds P H vs us):Rc P H (.lst vs) (.lst us)
 |fz {o:Obj}{vs:List V}{us:List Val} (r:Rds P H vs us):Rc P H (.frz o (.lst vs)) (.kl us)
 |dct {ws:List (Key×V)}{us:List (Key×Val)} (r:Rk P H ws us):Rc P H (.dK ws) (.dct us)
 |set (xs:List Int) (nd:xs.Nodup):Rc P H (.set (λi=>decide (i∈xs)) xs.length) (.set xs)
inductive Rds(P:Addr->Prop)(H:Hp):List V->List Val->Prop where
 |nil:Rds P H [] []
 |cons {d:V}{v:Val}{ds:List V}{vs:List Val} (r:Rd P H d v) (rr:Rds P H ds vs):Rds P H (d::ds) (v::vs)
inductive Rk(P:Addr->Prop)(H:Hp):List (Key×V)->List (Key×Val)->Prop where
 |nil:Rk P H [] []
 |cons {k:Key}{d:V}{v:Val}{ds:List (Key×V)}{vs:List (Key×Val)} (r:Rd P H d v) (rr:Rk P H ds vs):Rk P H ((k,d)::ds) ((k,v)::vs)
end
end
def ik(o:HO):Prop:=∀ps,o ≠ .tbl ps
structure Mov(P P':Addr->Prop)(H H':Hp):Prop where
 le:LeH H H'
 cl:∀a o,P a->H a=some o->ik o->P' a/\H' a=some o
def Gr.mov(g:Gr H H'):Mov P P H H':=⟨g.le,λa o p e _=>⟨p,g a o e⟩⟩
def Mov.of(h:∀a,P a->P' a):Mov P P' H H:=⟨.refl,λa o p e _=>⟨h a p,e⟩⟩
section
variable{K:W.Frag}{mg:Cj}{P P':Addr->Prop}{H H':Hp}
def Rc.nt(r:Rc K mg P H o v):ik o:=by cases r <;> exact λ_ z=>nomatch z
def Rd.mono(m:Mov P P' H H')(r:Rd K mg P H d v):Rd K mg P' H' d v:=@Rd.rec K mg P H (λd v _=>Rd K mg P' H' d v) (λo v _=>Rc K mg P' H' o v) (λds vs _=>Rds K mg P' H' ds vs) (λws us _=>Rk K mg P' H' ws us) .non (λb=>.bl b) (λi=>.int i) (λx=>.str x) (λn=>.ty n) (λe=>.glb e) (λq e=>.exc q (m.le.ext _ _ e)) (λh _ ih=>.tup (m.le.sqT h) ih) (λh _ ih=>.kl h ih) (λp e r ih=>.cell (m.cl _ _ p e r.nt).1 (m.cl _ _ p e r.nt).2 ih) (λ_ ih=>.lst ih) (λ_ ih=>.fz ih) (λ_ ih=>.dct ih) (λxs nd=>.set xs nd) .nil (λ_ _ a b=>.cons a b) .nil (λ_ _ a b=>.cons a b) d v r
def Rds.ind{M:List V->List Val->Prop}(h0:M [] [])(h1:∀{d v ds vs},Rd K mg P H d v->Rds K mg P H ds vs->M ds vs->M (d::ds) (v::vs)){ds:List V}{vs:List Val}(r:Rds K mg P H ds vs):M ds vs:=by
 induction ds generalizing vs with
 |nil=>cases r;exact h0
 |
  cons d ds ih=>
  cases r with
  |cons r rr=>exact h1 r rr (ih rr)
def Rk.ind{M:List (Key×V)->List (Key×Val)->Prop}(h0:M [] [])(h1:∀{k d v ds vs},Rd K mg P H d v->Rk K mg P H ds vs->M ds vs->M ((k,d)::ds) ((k,v)::vs)){ds:List (Key×V)}{vs:List (Key×Val)}(r:Rk K mg P H ds vs):M ds vs:=by
 induction ds generalizing vs with
 |nil=>cases r;exact h0
 |
  cons d ds ih=>
  cases r with
  |cons r rr=>exact h1 r rr (ih rr)
def Rds.mono(m:Mov P P' H H'){d:List V}{v:List Val}(r:Rds K mg P H d v):Rds K mg P' H' d v:=r.ind .nil λr _ ih=>.cons (r.mono m) ih
def Rk.mono(m:Mov P P' H H'){d:List (Key×V)}{v:List (Key×Val)}(r:Rk K mg P H d v):Rk K mg P' H' d v:=r.ind .nil λr _ ih=>.cons (r.mono m) ih
def Rc.mono(m:Mov P P' H H')(r:Rc K mg P H d v):Rc K mg P' H' d v:=by
 cases r with
 |lst r=>exact .lst (r.mono m)
 |fz r=>exact .fz (r.mono m)
 |dct r=>exact .dct (r.mono m)
 |set xs nd=>exact .set xs nd
def Rds.len{ds:List V}{vs:List Val}(r:Rds K mg P H ds vs):ds.length=vs.length:=r.ind (M:=λds vs=>ds.length=vs.length) rfl λ_ _ ih=>A0 (· + 1) ih
def Rds.get{ds:List V}{vs:List Val}{i:Nat}{v:Val}(r:Rds K mg P H ds vs)(e:vs[i]?=some v):∃d,ds[i]?=some d/\Rd K mg P H d v:=
 r.ind (M:=λds vs=>∀i,vs[i]?=some v->∃d,ds[i]?=some d/\Rd K mg P H d v) (λ_ e=>by rw[List.getElem?_nil] at e;cases e) (λr _ ih i e=>match i,e with
  |0,e=>by cases e;exact⟨_,rfl,r⟩
  |i+1,e=>ih i e) i e
def Rds.append{ds es:List V}{vs ws:List Val}(r:Rds K mg P H ds vs)(q:Rds K mg P H es ws):Rds K mg P H (ds++es) (vs++ws):=r.ind (M:=λds vs=>Rds K mg P H (ds++es) (vs++ws)) q λr _ ih=>.cons r ih
def Rds.take{ds:List V}{vs:List Val}(n:Nat)(r:Rds K mg P H ds vs):Rds K mg P H (ds.take n) (vs.take n):=
 r.ind (M:=λds vs=>∀n:Nat,Rds K mg P H (ds.take n) (vs.take n)) (λn=>by rw[B2,B2];exact .nil) (λr _ ih n=>by cases n with |zero=>exact .nil |succ n=>exact .cons r (ih n)) n
def Rds.drop{ds:List V}{vs:List Val}(n:Nat)(r:Rds K mg P H ds vs):Rds K mg P H (ds.drop n) (vs.drop n):=
 r.ind (M:=λds vs=>∀n:Nat,Rds K mg P H (ds.drop n) (vs.drop n)) (λn=>by rw[Ci,Ci];exact .nil) (λr rr ih n=>by cases n with |zero=>exact .cons r rr |succ n=>exact ih n) n
def ShR(K:W.Frag)(mg:Cj)(P:Addr->Prop)(H:Hp)(d:V)(v:Val):Prop:=Rd K mg P H d v\/∃a o,d=.ref a/\H a=some o/\Rc K mg P H o v
inductive ShRs(K:W.Frag)(mg:Cj)(P:Addr->Prop)(H:Hp):List V->List Val->Prop where
 |nil:ShRs K mg P H [] []
 |cons {d:V}{v:Val}{ds:List V}{vs:List Val} (r:ShR K mg P H d v) (rr:ShRs K mg P H ds vs):ShRs K mg P H (d::ds) (v::vs)
def ShR.mono(m:Mov P P' H H')(g:Gr H H')(r:ShR K mg P H d v):ShR K mg P' H' d v:=by
 rcases r with r |⟨a,o,rfl,e,r⟩
 .exact .inl (r.mono m)
 .exact .inr ⟨a,o,rfl,g a o e,r.mono m⟩
def ShR.int(r:ShR K mg P H d (.int i)):d=.int i:=by
 rcases r with r |⟨n,o,rfl,e,r⟩
 .cases r with
  |int=>rfl
  |cell p e r=>cases r
 .cases r
def ShR.str(r:ShR K mg P H d (.str i)):d=.str i:=by
 rcases r with r |⟨n,o,rfl,e,r⟩
 .cases r with
  |str=>rfl
  |cell p e r=>cases r
 .cases r
def ShR.bl(r:ShR K mg P H d (.bl i)):d=.bl i:=by
 rcases r with r |⟨n,o,rfl,e,r⟩
 .cases r with
  |bl=>rfl
  |cell p e r=>cases r
 .cases r
def ShR.non(r:ShR K mg P H d .non):d=.non:=by
 rcases r with r |⟨n,o,rfl,e,r⟩
 .cases r with
  |non=>rfl
  |cell p e r=>cases r
 .cases r
def ShR.exc(r:ShR K mg P H d (.exc x)):∃a C,d=.ref a/\mg x=some (.ref C)/\H a=some (.ext (fW a C)):=by
 rcases r with r |⟨n,o,rfl,e,r⟩
 .cases r with
  |exc m e=>exact⟨_,_,rfl,m,e⟩
  |cell p e r=>cases r
 .cases r
def ShR.ty(r:ShR K mg P H d (.ty x)):d=.ty x:=by
 rcases r with r |⟨n,o,rfl,e,r⟩
 .cases r with
  |ty=>rfl
  |cell p e r=>cases r
 .cases r
def ShR.glb(r:ShR K mg P H d (.glb x)):∃a,d=.ref a/\mg x=some (.ref a):=by
 rcases r with r |⟨n,o,rfl,e,r⟩
 .cases r with
  |glb m=>exact⟨_,rfl,m⟩
  |cell p e r=>cases r
 .cases r
def ShR.tup(r:ShR K mg P H d (.tup us)):∃p vs,d=.ref p/\SqT K H p vs/\Rds K mg P H vs us:=by
 rcases r with r |⟨n,o,rfl,e,r⟩
 .cases r with
  |tup h r=>exact⟨_,_,rfl,h,r⟩
  |cell p e r=>cases r
 .cases r
def ShR.lst(r:ShR K mg P H d (.lst us)):∃a vs,d=.ref a/\H a=some (.lst vs)/\Rds K mg P H vs us:=by
 rcases r with r |⟨n,o,rfl,e,r⟩
 .cases r with
  |cell p e r=>cases r with |lst r=>exact⟨_,_,rfl,e,r⟩
 .cases r with |lst r=>exact⟨_,_,rfl,e,r⟩
def ShR.dct(r:ShR K mg P H d (.dct us)):∃a ws,d=.ref a/\H a=some (.dK ws)/\Rk K mg P H ws us:=by
 rcases r with r |⟨n,o,rfl,e,r⟩
 .cases r with
  |cell p e r=>cases r with |dct r=>exact⟨_,_,rfl,e,r⟩
 .cases r with |dct r=>exact⟨_,_,rfl,e,r⟩
def ShR.kl(r:ShR K mg P H d (.kl us)):∃a vs,d=.ref a/\SqL K H a vs/\Rds K mg P H vs us:=by
 rcases r with r |⟨n,o,rfl,e,r⟩
 .cases r with
  |kl h r=>exact⟨_,_,rfl,.inr h,r⟩
  |cell p e r=>cases r with |fz r=>exact⟨_,_,rfl,.inl (.inr ⟨_,e⟩),r⟩
 .cases r with |fz r=>exact⟨_,_,rfl,.inl (.inr ⟨_,e⟩),r⟩
def ShR.lstL(r:ShR K mg P H d (.lst us)):∃a vs,d=.ref a/\SqL K H a vs/\Rds K mg P H vs us:=by obtain⟨a,vs,e,h,q⟩:=r.lst;exact⟨a,vs,e,SqL.of h,q⟩
end
noncomputable def Val.items:Val->Option (List Val)
 |.tup xs=>some xs
 |.lst xs=>some xs
 |.kl xs=>some xs
 |_=>none
def ShR.items{K:W.Frag}{mg:Cj}{P:Addr->Prop}{H:Hp}{d:V}{v:Val}{us:List Val}(r:ShR K mg P H d v)(e:v.items=some us):∃a vs,d=.ref a/\(SqL K H a vs\/SqT K H a vs)/\Rds K mg P H vs us:=by
 cases v with
 |tup xs=>cases e;obtain⟨a,vs,h1,h2,h3⟩:=r.tup;exact⟨a,vs,h1,.inr h2,h3⟩
 |lst xs=>cases e;obtain⟨a,vs,h1,h2,h3⟩:=r.lstL;exact⟨a,vs,h1,.inl h2,h3⟩
 |kl xs=>cases e;obtain⟨a,vs,h1,h2,h3⟩:=r.kl;exact⟨a,vs,h1,.inl h2,h3⟩
 |_=>cases e
inductive Sl where
 |no |sh (v:Val) |ow (v:Val) |mu (v:Val) |lo (v:Val) |lm (v:Val)
 deriving Inhabited
abbrev E3:=List Sl
noncomputable def Sl.val:Sl->Option Val
 |.no=>none
 |.sh v=>some v
 |.ow v=>some v
 |.mu v=>some v
 |.lo v=>some v
 |.lm v=>some v
noncomputable def Sl.mt:Sl->Bool
 |.ow _=>true
 |.mu _=>true
 |_=>false
noncomputable def Sl.lk:Sl->Bool
 |.lo _=>true
 |.lm _=>true
 |_=>false
abbrev Ns:=List (Option Addr)
def Oc(X:Addr->Prop)(ns:Ns)(n:Addr):Prop:=¬ X n/\some n∉ns
def NotFz:HO->Prop
 |.lst _=>True
 |.dK _=>True
 |.set _ _=>True
 |_=>False
def TbQ(H:Hp)(P:Addr)(q:Str):Prop:=∃ps:Array Value,H P=some (.tbl ps)/\TriplesOk ps.toList/\∀pos cv,codeAmong pos ps.toList=some cv->∃c,cv=.ref c/\H c=some (.ext (codO c q))
section
variable(K:W.Frag)(mg:Cj)
def Bs(H:Hp):Prop:=∀P q,rn K mg P q->TbQ H P q/\sJ K mg H
def SlR(P:Addr->Prop)(N0:Addr->Prop)(n:Option (Option Addr))(d:Option (Option V))(H:Hp):Sl->Prop
 |.no=>n=some none
 |.sh v=>n=some none/\∃x,d=some (some x)/\Rd K mg P H x v
 |.ow v=>∃m o,n=some (some m)/\d=some (some (.ref m))/\N0 m/\H m=some o/\NotFz o/\Rc K mg P H o v
 |.lo v=>∃m o,n=some (some m)/\d=some (some (.ref m))/\N0 m/\H m=some o/\NotFz o/\Rc K mg P H o v
 |.mu v=>∃m o,n=some (some m)/\d=some (some (.ref m))/\H m=some o/\NotFz o/\Rc K mg P H o v
 |.lm v=>∃m o,n=some (some m)/\d=some (some (.ref m))/\H m=some o/\NotFz o/\Rc K mg P H o v
structure Sat(X:Addr->Prop)(N0:Addr->Prop)(ns:Ns)(e:E3)(σ:St)(H:Hp):Prop where
 l1:σ.length=e.length
 l2:ns.length=e.length
 lh:∀a,H a=none->N0 a
 xl:∀a,X a->∃o,H a=some o
 inj:∀(i j:Nat) (n:Addr),ns[i]?=some (some n)->ns[j]?=some (some n)->i=j
 nx:∀(i:Nat) (n:Addr),ns[i]?=some (some n)->¬ X n
 sl:∀(i:Nat) (s:Sl),e[i]?=some s->SlR K mg (Oc X ns) N0 (ns[i]?) (σ[i]?) H s
 bs:Bs K mg H
end
def Mt(ns:Ns)(e:E3)(n:Addr):Prop:=∃(i:Nat) (s:Sl),ns[i]?=some (some n)/\e[i]?=some s/\s.mt=true
structure Stp(ns:Ns)(e:E3)(H:Hp)(ns':Ns)(e':E3)(H':Hp):Prop where
 le:LeH H H'
 dom:∀a,H' a=none->H a=none
 keep:∀(m:Addr) (o:HO),H m=some o->ik o->¬ Mt ns e m->H' m=some o
 nw:∀(i:Nat) (n:Addr),ns'[i]?=some (some n)->ns[i]?=some (some n)\/H n=none
 lk:∀(i:Nat) (s:Sl),e[i]?=some s->s.lk=true->e'[i]?=some s/\ns'[i]?=ns[i]?
 lk':∀(i:Nat) (s:Sl),e'[i]?=some s->s.lk=true->e[i]?=some s/\ns'[i]?=ns[i]?
 mu:∀(i:Nat) (v:Val),e'[i]?=some (.mu v)->∃u,e[i]?=some (.mu u)/\ns'[i]?=ns[i]?
 mu':∀(i:Nat) (u:Val),e[i]?=some (.mu u)->∃v,e'[i]?=some (.mu v)/\ns'[i]?=ns[i]?
section
variable{K:W.Frag}{mg:Cj}{X Y N0 P P':Addr->Prop}{ns ns1 d_:Ns}{e e1 e2:E3}{σ:St}{H H' H1 H2:Hp}
def NotFz.nt(h:NotFz o):ik o:=λps z=>by subst z;exact h
def NotFz.no(h:NotFz o):(∀xs,o ≠ .tup xs)/\(∀x y,o ≠ .frz x y)/\(∀φ,o ≠ .ext φ)/\∀ps,o ≠ .tbl ps:=
 ⟨λ_ z=>by subst z;exact h,λ_ _ z=>by subst z;exact h,λ_ z=>by subst z;exact h,λ_ z=>by subst z;exact h⟩
def LeH.wr(q:H a=some u)(hf:NotFz u):LeH H (upd H a o):=by
 have n:∀b w,H b=some w->w≠u->upd H a o b=some w:=λb w e z=>by rw[aq λy=>?_];exact e;subst y;rw[q] at e;exact z (u_ e).symm
 exact⟨λb xs e=>n b _ e λz=>hf.no.1 _ z.symm,λb x y e=>n b _ e λz=>hf.no.2.1 _ _ z.symm,λb φ e=>n b _ e λz=>hf.no.2.2.1 _ z.symm⟩
def zt(b:sJ K mg H)(l:LeH H H'):sJ K mg H':=by
 obtain⟨x,o,h1,h2,h3,h4,h5⟩:=b;refine⟨x,o,h1,h2,h3,h4,?_⟩;rcases h5 with z |⟨u,z⟩
 .exact .inl z
 .exact .inr ⟨u,l.frz _ _ _ z⟩
def Bs.of(b:Bs K mg H)(l:LeH H H')(t:∀a ps,H a=some (.tbl ps)->H' a=some (.tbl ps)):Bs K mg H':=λP q h=>by obtain⟨⟨ps,h1,h2,h3⟩,m⟩:=b P q h;exact⟨⟨ps,t _ _ h1,h2,λpos cv z=>by obtain⟨c,y1,y2⟩:=h3 pos cv z;exact⟨c,y1,l.ext _ _ y2⟩⟩,zt m l⟩
def Bs.gr(b:Bs K mg H)(g:Gr H H'):Bs K mg H':=b.of g.le λa _=>g a _
def Bs.wr(b:Bs K mg H)(q:H a=some u)(hf:NotFz u):Bs K mg (upd H a o):=b.of (LeH.wr q hf) λc ps e=>by rw[aq λy=>?_];exact e;subst y;rw[q] at e;exact hf.no.2.2.2 _ (u_ e)
def aB{n:Addr}:some n∈ns ↔ ∃i:Nat,ns[i]?=some (some n):=by
 constructor
 .intro m;exact List.getElem?_of_mem m
 .rintro⟨i,e⟩;exact Bd e
def Sat.own(S:Sat K mg X N0 ns e σ H){i:Nat}{n:Addr}(q:ns[i]?=some (some n)):∃s v o,e[i]?=some s/\(s.mt=true\/s.lk=true)/\s.val=some v/\σ[i]?=some (some (.ref n))/\H n=some o/\NotFz o/\Rc K mg (Oc X ns) H o v:=by
 have hi:i<e.length:=by rw[<- S.l2];exact (f_.mp q).1
 have hs:=S.sl i e[i] (o_ hi);refine⟨e[i],?_⟩;have he:=o_ hi;generalize e[i]=s at *;rw[q] at hs;cases s with
 |no=>cases hs
 |sh v=>cases hs.1
 |ow v=>obtain⟨m,o,e1,e2,_,e3,e4,e5⟩:=hs;cases e1;exact⟨v,o,he,.inl rfl,rfl,e2,e3,e4,e5⟩
 |lo v=>obtain⟨m,o,e1,e2,_,e3,e4,e5⟩:=hs;cases e1;exact⟨v,o,he,.inr rfl,rfl,e2,e3,e4,e5⟩
 |mu v=>obtain⟨m,o,e1,e2,e3,e4,e5⟩:=hs;cases e1;exact⟨v,o,he,.inl rfl,rfl,e2,e3,e4,e5⟩
 |lm v=>obtain⟨m,o,e1,e2,e3,e4,e5⟩:=hs;cases e1;exact⟨v,o,he,.inr rfl,rfl,e2,e3,e4,e5⟩
def Stp.gr(g:Gr H H'):Stp ns e H ns e H':=⟨g.le,λ_=>g.none,λ_ _ q _ _=>g _ _ q,λ_ _ q=>.inl q,λ_ _ q _=>⟨q,rfl⟩,λ_ _ q _=>⟨q,rfl⟩,λ_ _ q=>⟨_,q,rfl⟩,λ_ _ q=>⟨_,q,rfl⟩⟩
def Stp.refl:Stp ns e H ns e H:=.gr .refl
def Stp.trans(S:Sat K mg X N0 ns e σ H)(a:Stp ns e H ns1 e1 H1)(b:Stp ns1 e1 H1 d_ e2 H2):Stp ns e H d_ e2 H2:=by
 refine⟨a.le.trans b.le,λx z=>a.dom x (b.dom x z),λm o q ht hm=>?_,λi n q=>?_,λi s q hl=>?_,λi s q hl=>?_,λi v q=>?_,λi v q=>?_⟩
 .refine b.keep m o (a.keep m o q ht hm) ht λ⟨i,s,z1,z2,z3⟩=>hm ?_;rcases a.nw i m z1 with z |z
  .obtain⟨s0,v,o',q1,q2,_⟩:=S.own z;rcases q2 with q2 |q2
   .exact⟨i,s0,z,q1,q2⟩
   .have:=(a.lk i s0 q1 q2).1
    rw[z2] at this;cases this;exfalso;cases s <;> first |cases z3;done |cases q2;done
  .rw[q] at z;cases z
 .rcases b.nw i n q with z |z
  .exact a.nw i n z
  .exact .inr (a.dom n z)
 .obtain⟨q1,q2⟩:=a.lk i s q hl;obtain⟨q3,q4⟩:=b.lk i s q1 hl;exact⟨q3,q4.trans q2⟩
 .obtain⟨q1,q2⟩:=b.lk' i s q hl;obtain⟨q3,q4⟩:=a.lk' i s q1 hl;exact⟨q3,q2.trans q4⟩
 .obtain⟨u,q1,q2⟩:=b.mu i v q;obtain⟨u',q3,q4⟩:=a.mu i u q1;exact⟨u',q3,q2.trans q4⟩
 .obtain⟨u,q1,q2⟩:=a.mu' i v q;obtain⟨u',q3,q4⟩:=b.mu' i u q1;exact⟨u',q3,q4.trans q2⟩
def Stp.mov(a:Stp ns e H ns1 e1 H1):Mov (Oc X ns) (Oc X ns1) H H1:=⟨a.le,λn o p q ht=>by
 have hm:¬ Mt ns e n:=λ⟨i,s,z,_⟩=>p.2 (aB.mpr ⟨i,z⟩);refine⟨⟨p.1,λz=>?_⟩,a.keep n o q ht hm⟩;obtain⟨i,z⟩:=aB.mp z;rcases a.nw i n z with z |z
 .exact p.2 (aB.mpr ⟨i,z⟩)
 .rw[q] at z;cases z⟩
def SlR.mono(m:Mov P P' H H')(k:∀j o,n=some (some j)->H j=some o->NotFz o->H' j=some o)(r:SlR K mg P N0 n d H s):SlR K mg P' N0 n d H' s:=by
 cases s with
 |no=>exact r
 |sh v=>obtain⟨q,x,q1,q2⟩:=r;exact⟨q,x,q1,q2.mono m⟩
 |ow v=>obtain⟨j,o,q1,q2,q3,q4,q5,q6⟩:=r;exact⟨j,o,q1,q2,q3,k j o q1 q4 q5,q5,q6.mono m⟩
 |lo v=>obtain⟨j,o,q1,q2,q3,q4,q5,q6⟩:=r;exact⟨j,o,q1,q2,q3,k j o q1 q4 q5,q5,q6.mono m⟩
 |mu v=>obtain⟨j,o,q1,q2,q4,q5,q6⟩:=r;exact⟨j,o,q1,q2,k j o q1 q4 q5,q5,q6.mono m⟩
 |lm v=>obtain⟨j,o,q1,q2,q4,q5,q6⟩:=r;exact⟨j,o,q1,q2,k j o q1 q4 q5,q5,q6.mono m⟩
def Xn(X:Addr->Prop)(n:Addr):Addr->Prop:=λm=>X m\/m=n
def Sat.gr(S:Sat K mg X N0 ns e σ H)(g:Gr H H'):Sat K mg X N0 ns e σ H':=
 ⟨S.l1,S.l2,λa z=>S.lh a (g.none z),λa z=>by obtain⟨o,q⟩:=S.xl a z;exact⟨o,g a o q⟩,S.inj,S.nx,λi s q=>(S.sl i s q).mono g.mov λj o _ q _=>g j o q,S.bs.gr g⟩
def Sat.grow(S:Sat K mg X N0 ns e σ H)(g:Gr H H')(hp:H p=none)(q:H' p=some o):Sat K mg (Xn X p) N0 ns e σ H':=by
 have S':=S.gr g;have np:∀b u,H b=some u->b≠p:=λb u y z=>by subst z;rw[hp] at y;cases y
 refine⟨S.l1,S.l2,S'.lh,λa z=>?_,S.inj,λi n q' z=>?_,λi s q=>(S.sl i s q).mono ⟨g.le,λa o p q _=>⟨⟨λz=>?_,p.2⟩,g a o q⟩⟩ λj o _ q _=>g j o q,S'.bs⟩
 .rcases z with z |rfl
  .exact S'.xl a z
  .exact⟨o,q⟩
 .rcases z with z |rfl
  .exact S.nx i n q' z
  .obtain⟨_,_,_,_,_,_,_,y,_⟩:=S.own q';exact np _ _ y rfl
 .rcases z with z |z
  .exact p.1 z
  .exact np _ _ q z
def Sat.weak(S:Sat K mg Y N0 ns e σ H)(hx:∀n,X n->Y n):Sat K mg X N0 ns e σ H:=
 ⟨S.l1,S.l2,S.lh,λn z=>S.xl n (hx n z),S.inj,λi n q z=>S.nx i n q (hx n z),λi s q=>(S.sl i s q).mono (.of λn p=>⟨λz=>p.1 (hx n z),p.2⟩) λ_ _ _ q _=>q,S.bs⟩
end
section
variable{K:W.Frag}{mg:Cj}{X N0:Addr->Prop}{ns ns0:Ns}{e e0:E3}{σ:St}{H Hs:Hp}
def aQ{α:Type}{l:List α}{i j:Nat}{a b:α}(hi:i<l.length)(q:(l.set i a)[j]?=some b):(j=i/\b=a)\/(j≠i/\l[j]?=some b):=by
 rw[BX] at q;by_cases z:i=j
 .subst z;rw[if_pos rfl,if_pos hi] at q;exact .inl ⟨rfl,(u_ q).symm⟩
 .rw[if_neg z] at q;exact .inr ⟨λy=>z y.symm,q⟩
def bx{α:Type}{l:List α}{i:Nat}{a:α}(hi:i<l.length):(l.set i a)[i]?=some a:=by rw[BX,if_pos rfl,if_pos hi]
def bc{α:Type}{l:List α}{i j:Nat}{a:α}(hi:j≠i):(l.set i a)[j]?=l[j]?:=by rw[Bc (λy=>hi y.symm)]
def cx{n:Addr}(p:Oc X ns n):Oc X (ns.set i none) n:=⟨p.1,λz=>by
 rcases BP z with z |z
 .exact p.2 z
 .cases z⟩
def Sat.putN(S:Sat K mg X N0 ns e σ H)(hi:i<e.length)(q:SlR K mg (Oc X (ns.set i none)) N0 (some none) (some d) H s):Sat K mg X N0 (ns.set i none) (e.set i s) (σ.set i d) H:=by
 have hn:i<ns.length:=by rw[S.l2];exact hi
 have ha:i<σ.length:=by rw[S.l1];exact hi
 refine⟨by rw[j_,j_];exact S.l1,by rw[j_,j_];exact S.l2,S.lh,S.xl,λj k n q1 q2=>?_,λj n q1=>?_,λj s' q1=>?_,S.bs⟩
 .rcases aQ hn q1 with ⟨_,z⟩ |⟨_,z⟩
  .cases z
  rcases aQ hn q2 with ⟨_,y⟩ |⟨_,y⟩
  .cases y
  exact S.inj j k n z y
 .rcases aQ hn q1 with ⟨_,z⟩ |⟨_,z⟩
  .cases z
  exact S.nx j n z
 .rcases aQ hi q1 with ⟨rfl,rfl⟩ |⟨z,q2⟩
  .rw[bx hn,bx ha];exact q
  .rw[bc z,bc z];exact (S.sl j s' q2).mono (.of λn p=>cx p) λ_ _ _ q _=>q
def Sat.putN'(S:Sat K mg X N0 ns e σ H)(hi:i<e.length)(q:SlR K mg (Oc X (ns.set i none)) N0 (some none) (σ[i]?) H s):Sat K mg X N0 (ns.set i none) (e.set i s) σ H:=by
 have ha:i<σ.length:=by rw[S.l1];exact hi
 have:=S.putN hi (s:=s) (d:=σ[i]) (by rw[o_ ha] at q;exact q)
 rw[List.set_getElem_self] at this;exact this
def Sat.putO(S:Sat K mg (Xn X n) N0 ns e σ H)(hx:¬ X n)(hi:i<e.length)(hn0:N0 n)(eo:H n=some o)(hf:NotFz o)(r:Rc K mg (Oc (Xn X n) ns) H o v):Sat K mg X N0 (ns.set i (some n)) (e.set i (.ow v)) (σ.set i (some (.ref n))) H:=by
 have hn:i<ns.length:=by rw[S.l2];exact hi
 have ha:i<σ.length:=by rw[S.l1];exact hi
 have nn:∀j:Nat,ns[j]?≠some (some n):=λj q=>S.nx j n q (.inr rfl);have mv:Mov (Oc (Xn X n) ns) (Oc X (ns.set i (some n))) H H:=.of λm p=>⟨λz=>p.1 (.inl z),λz=>by
  rcases BP z with z |z
  .exact p.2 z
  .cases z;exact p.1 (.inr rfl)⟩
 refine⟨by rw[j_,j_];exact S.l1,by rw[j_,j_];exact S.l2,S.lh,λm z=>S.xl m (.inl z),λj k m q1 q2=>?_,λj m q1 z=>?_,λj s' q1=>?_,S.bs⟩
 .rcases aQ hn q1 with ⟨z1,z⟩ |⟨z1,z⟩ <;> rcases aQ hn q2 with ⟨y1,y⟩ |⟨y1,y⟩
  .rw[z1,y1]
  .cases z;exact absurd y (nn k)
  .cases y;exact absurd z (nn j)
  .exact S.inj j k m z y
 .rcases aQ hn q1 with ⟨_,y⟩ |⟨_,y⟩
  .cases y;exact hx z
  .exact S.nx j m y (.inl z)
 .rcases aQ hi q1 with ⟨rfl,rfl⟩ |⟨z,q2⟩
  .rw[bx hn,bx ha];exact⟨n,o,rfl,rfl,hn0,eo,hf,r.mono mv⟩
  .rw[bc z,bc z];exact (S.sl j s' q2).mono mv λ_ _ _ q _=>q
noncomputable def Sl.pl:Sl->Bool
 |.no=>true
 |.sh _=>true
 |.ow _=>true
 |_=>false
def Stp.put(A:Stp ns0 e0 Hs ns e H)(hi:i<e.length)(hx:∀n,x=some n->Hs n=none)(q0:e[i]?=some s0)(p0:s0.pl=true)(p:s.pl=true)(l2:ns.length=e.length):Stp ns0 e0 Hs (ns.set i x) (e.set i s) H:=by
 have hn:i<ns.length:=by rw[l2];exact hi
 refine⟨A.le,A.dom,A.keep,λj n q=>?_,λj s' q hl=>?_,λj s' q hl=>?_,λj v q=>?_,λj v q=>?_⟩
 .rcases aQ hn q with ⟨_,z⟩ |⟨_,z⟩
  .exact .inr (hx n z.symm)
  .exact A.nw j n z
 .obtain⟨q1,q2⟩:=A.lk j s' q hl;have z:j≠i:=λz=>by subst z;rw[q0] at q1;cases q1;cases s0 <;> first |cases p0;done |cases hl;done
  rw[bc z,bc z];exact⟨q1,q2⟩
 .rcases aQ hi q with ⟨_,z⟩ |⟨z,q1⟩
  .subst z;cases s' <;> first |cases p;done |cases hl;done
  .rw[bc z];exact A.lk' j s' q1 hl
 .rcases aQ hi q with ⟨_,z⟩ |⟨z,q1⟩
  .subst z;cases p
  .rw[bc z];exact A.mu j v q1
 .obtain⟨u,q1,q2⟩:=A.mu' j v q;have z:j≠i:=λz=>by subst z;rw[q0] at q1;cases q1;cases p0
  exact⟨u,by rw[bc z];exact q1,by rw[bc z];exact q2⟩
end
inductive Tm where
 |val (v:Val) |new (v:Val) |bor (i:Nat)
inductive R3(α:Type) where
 |ok (a:α) (e:E3) |exc (c:Str) (e:E3) |stuck
noncomputable def R3.bind {α β:Type} (r:R3 α) (f:α->E3->R3 β):R3 β:=match r with
 |.ok a e=>f a e
 |.exc c e=>.exc c e
 |.stuck=>.stuck
abbrev ME3:=E3->R3 Tm
abbrev MT3:=E3->R3 Bool
abbrev MA3:=E3->R3 (List Tm)
section
variable(K:W.Frag)(mg:Cj)
def PG3{α:Type}(X N0:Addr->Prop)(ns:Ns)(e:E3)(σ:St)(H:Hp)(E:XK)(k:α->E3->Ns->Hp->Prop):R3 α->Prop
 |.ok t e'=>∀H' ns',Stp ns e H ns' e' H'->Sat K mg X N0 ns' e' σ H'->k t e' ns' H'
 |.exc c e'=>∀H' ns' C,Stp ns e H ns' e' H'->Sat K mg X N0 ns' e' σ H'->mg c=some (.ref C)->E (.ref C) none H'
 |.stuck=>False
def relE(X N0 L:Addr->Prop)(σ:St)(ns:Ns)(e:E3)(H:Hp)(d:V):Tm->Prop
 |.val v=>Rd K mg (Oc X ns) H d v
 |.new v=>∃n o,d=.ref n/\L n/\¬ X n/\H n=some o/\NotFz o/\Sat K mg (Xn X n) N0 ns e σ H/\Rc K mg (Oc (Xn X n) ns) H o v
 |.bor i=>σ[i]?=some (some d)
inductive TsR(X:Addr->Prop)(ns:Ns)(σ:St)(H:Hp):List V->List Tm->Prop where
 |nil:TsR X ns σ H [] []
 |val {d:V}{v:Val}{ds:List V}{ts:List Tm} (r:Rd K mg (Oc X ns) H d v) (rr:TsR X ns σ H ds ts):TsR X ns σ H (d::ds) (.val v::ts)
 |bor {d:V}{i:Nat}{ds:List V}{ts:List Tm} (q:σ[i]?=some (some d)) (rr:TsR X ns σ H ds ts):TsR X ns σ H (d::ds) (.bor i::ts)
abbrev KE(X N0 L:Addr->Prop)(σ:St)(Q:VK):Tm->E3->Ns->Hp->Prop:=λt e' ns' H'=>∀v,relE K mg X N0 L σ ns' e' H' v t->Q v H'
abbrev KA(X:Addr->Prop)(σ:St)(Q:List V->Hp->Prop):List Tm->E3->Ns->Hp->Prop:=λts _ ns' H'=>∀vs,TsR K mg X ns' σ H' vs ts->Q vs H'
abbrev KT(Q:Bool->Hp->Prop):Bool->E3->Ns->Hp->Prop:=λb _ _ H'=>Q b H'
def rdE(ES:St->XK)(G:ME3):TE:=λσ H Q=>∃X N0 L ns e,Sat K mg X N0 ns e σ H/\(∀a,H a=none->L a)/\PG3 K mg X N0 ns e σ H (ES σ) (KE K mg X N0 L σ Q) (G e)
def rdT(ES:St->XK)(G:MT3):TT:=λσ H Q=>∃X N0 ns e,Sat K mg X N0 ns e σ H/\PG3 K mg X N0 ns e σ H (ES σ) (KT Q) (G e)
def rdA(ES:St->XK)(G:MA3):TA:=λσ H Q=>∃X N0 ns e,Sat K mg X N0 ns e σ H/\PG3 K mg X N0 ns e σ H (ES σ) (KA K mg X σ Q) (G e)
end
section
variable{K:W.Frag}{mg:Cj}{ES:St->XK}{σ:St}{H:Hp}{Z:Prop}
def rdE.el{G:ME3}(h:rdE K mg ES G σ H Q)(k:∀X N0 L ns e,Sat K mg X N0 ns e σ H->(∀a,H a=none->L a)->PG3 K mg X N0 ns e σ H (ES σ) (KE K mg X N0 L σ Q) (G e)->Z):Z:=by obtain⟨X,N0,L,ns,e,S,hl,p⟩:=h;exact k X N0 L ns e S hl p
def rdT.el{G:MT3}(h:rdT K mg ES G σ H Q)(k:∀X N0 ns e,Sat K mg X N0 ns e σ H->PG3 K mg X N0 ns e σ H (ES σ) (KT Q) (G e)->Z):Z:=by obtain⟨X,N0,ns,e,S,p⟩:=h;exact k X N0 ns e S p
def rdA.el{G:MA3}(h:rdA K mg ES G σ H Q)(k:∀X N0 ns e,Sat K mg X N0 ns e σ H->PG3 K mg X N0 ns e σ H (ES σ) (KA K mg X σ Q) (G e)->Z):Z:=by obtain⟨X,N0,ns,e,S,p⟩:=h;exact k X N0 ns e S p
end
noncomputable def rs (e:E3):Tm->Option Val
 |.val v=>some v
 |.new v=>some v
 |.bor i=>(e[i]?).bind Sl.val
noncomputable def Tm.drop:Tm->Tm
 |.new v=>.val v
 |t=>t
noncomputable def rss (e:E3):List Tm->Option (List Val)
 | []=>some []
 |t::ts=>match rs e t,rss e ts with
  |some v,some vs=>some (v::vs)
  |_,_=>none
section
variable{K:W.Frag}{mg:Cj}{X N0 L:Addr->Prop}{ns ns':Ns}{e e':E3}{σ:St}{H H':Hp}{E:XK}
def PG3.ret{α:Type}{k:α->E3->Ns->Hp->Prop}{t:α}(p:PG3 K mg X N0 ns e σ H E k (.ok t e))(S:Sat K mg X N0 ns e σ H):k t e ns H:=p H ns .refl S
def PG3.after{α:Type}{r:R3 α}{k:α->E3->Ns->Hp->Prop}(p:PG3 K mg X N0 ns e σ H E k r)(S:Sat K mg X N0 ns e σ H)(a:Stp ns e H ns' e' H'):PG3 K mg X N0 ns' e' σ H' E k r:=by
 cases r with
 |stuck=>exact p
 |exc c e2=>exact λH2 d_ C b S2 m=>p H2 d_ C (a.trans S b) S2 m
 |ok t2 e2=>exact λH2 d_ b S2=>p H2 d_ (a.trans S b) S2
def PG3.imp{α β:Type}{r:R3 α}{f:α->E3->R3 β}{k:β->E3->Ns->Hp->Prop}{k':α->E3->Ns->Hp->Prop}(p:PG3 K mg X N0 ns e σ H E k (r.bind f))(S:Sat K mg X N0 ns e σ H)
 (i:∀t e1 ns1 H1,Stp ns e H ns1 e1 H1->Sat K mg X N0 ns1 e1 σ H1->PG3 K mg X N0 ns1 e1 σ H1 E k (f t e1)->k' t e1 ns1 H1):PG3 K mg X N0 ns e σ H E k' r:=by
 cases r with
 |stuck=>exact p
 |exc c e'=>exact p
 |ok t e1=>intro H1 ns1 a S1;exact i t e1 ns1 H1 a S1 (PG3.after (show PG3 K mg X N0 ns e σ H E k (f t e1) from p) S a)
def TsR.stp(a:Stp ns e H ns' e' H')(r:TsR K mg X ns σ H ds ts):TsR K mg X ns' σ H' ds ts:=by
 induction r with
 |nil=>exact .nil
 |val r _ ih=>exact .val (r.mono a.mov) ih
 |bor q _ ih=>exact .bor q ih
def Sat.bor(S:Sat K mg X N0 ns e σ H){i:Nat}{d:V}{v:Val}(q:σ[i]?=some (some d))(r:(e[i]?).bind Sl.val=some v):ShR K mg (Oc X ns) H d v:=by
 cases z:e[i]? with
 |none=>rw[z] at r;cases r
 |
  some s=>
  rw[z] at r;have y:=S.sl i s z;rw[q] at y;have r':s.val=some v:=r;cases s with
  |no=>cases r'
  |sh u=>cases r';obtain⟨_,x,e1,e2⟩:=y;cases e1;exact .inl e2
  |ow u=>cases r';obtain⟨m,o,_,e2,_,e3,_,e4⟩:=y;cases e2;exact .inr ⟨m,o,rfl,e3,e4⟩
  |lo u=>cases r';obtain⟨m,o,_,e2,_,e3,_,e4⟩:=y;cases e2;exact .inr ⟨m,o,rfl,e3,e4⟩
  |mu u=>cases r';obtain⟨m,o,_,e2,e3,_,e4⟩:=y;cases e2;exact .inr ⟨m,o,rfl,e3,e4⟩
  |lm u=>cases r';obtain⟨m,o,_,e2,e3,_,e4⟩:=y;cases e2;exact .inr ⟨m,o,rfl,e3,e4⟩
def relE.new(r:relE K mg X N0 L σ ns e H d (.new v)):Rd K mg (Oc X ns) H d v:=by obtain⟨n,o,rfl,_,hx,eo,_,S,rc⟩:=r;exact .cell ⟨hx,λz=>by obtain⟨i,z⟩:=aB.mp z;exact S.nx i n z (.inr rfl)⟩ eo (rc.mono (.of λm p=>⟨λz=>p.1 (.inl z),p.2⟩))
def relE.sh{d:V}{t:Tm}{v:Val}(S:Sat K mg X N0 ns e σ H)(r:relE K mg X N0 L σ ns e H d t)(q:rs e t=some v):ShR K mg (Oc X ns) H d v:=by
 cases t with
 |val u=>cases q;exact .inl r
 |new u=>cases q;exact .inl r.new
 |bor i=>exact S.bor r q
def relE.drop(r:relE K mg X N0 L σ ns e H d t)(a:Stp ns e H ns' e' H'):relE K mg X N0 L σ ns' e' H' d t.drop:=by
 cases t with
 |val u=>exact Rd.mono a.mov r
 |new u=>exact Rd.mono a.mov r.new
 |bor i=>exact r
def TsR.sh{ds:List V}{ts:List Tm}{vs:List Val}(S:Sat K mg X N0 ns e σ H)(r:TsR K mg X ns σ H ds ts)(q:rss e ts=some vs):ShRs K mg (Oc X ns) H ds vs:=by
 induction r generalizing vs with
 |nil=>cases q;exact .nil
 |
  val r _ ih=>
  unfold rss at q;split at q
  .rename_i e1 e2;cases q;cases e1;exact .cons (.inl r) (ih e2)
  .cases q
 |
  bor q' _ ih=>
  unfold rss at q;split at q
  .rename_i e1 e2;cases q;exact .cons (S.bor q' e1) (ih e2)
  .cases q
end
inductive Bv where
 |val (v:Val) |new (v:Val) |stuck
noncomputable def Bv.at (b:Bv) (e:E3):R3 Tm:=match b with
 |.val v=>.ok (.val v) e
 |.new v=>.ok (.new v) e
 |.stuck=>.stuck
def BvP(K:W.Frag)(mg:Cj)(P:Addr->Prop)(H:Hp)(Q:VK):Bv->Prop
 |.val v=>∀H1 x,Gr H H1->Rd K mg P H1 x v->Q x H1
 |.new v=>∀H1 a o,Gr H H1->H1 a=none->NotFz o->Rc K mg P H1 o v->Q (.ref a) (upd H1 a o)
 |.stuck=>False
section
variable{K:W.Frag}{mg:Cj}{X N0 L:Addr->Prop}{ns:Ns}{e:E3}{σ:St}{H:Hp}{E:XK}{Q:VK}
def PG3.bv(p:PG3 K mg X N0 ns e σ H E (KE K mg X N0 L σ Q) (b.at e))(S:Sat K mg X N0 ns e σ H)(hl:∀a,H a=none->L a):BvP K mg (Oc X ns) H Q b:=by
 cases b with
 |stuck=>exact p
 |val v=>exact λH1 x g r=>p H1 ns (.gr g) (S.gr g) x r
 |
  new v=>
  intro H1 a o g ha hf r;have g2:Gr H (upd H1 a o):=λc u q=>Gr.upd ha c u (g c u q);have S':=S.grow g2 (g.none ha) ar;refine p _ ns (.gr g2) (S.gr g2) _ ⟨a,o,rfl,hl a (g.none ha),λz=>?_,ar,hf,S',r.mono ⟨(Gr.upd ha).le,λc u q z _=>⟨⟨λy=>?_,q.2⟩,Gr.upd ha c u z⟩⟩⟩
  .obtain⟨u,q⟩:=S.xl a z;rw[g.none ha] at q;cases q
  .rcases y with y |rfl
   .exact q.1 y
   .rw[ha] at z;cases z
end
section
variable(K:W.Frag)(mg:Cj)
def UnD(r:V->Hp->VK->Prop)(g:Val->Bv):Prop:=∀P H x v Q,ShR K mg P H x v->BvP K mg P H Q (g v)->r x H Q
def OpD(r:R2)(g:Val->Val->Bv):Prop:=∀P H x y v u Q,ShR K mg P H x v->ShR K mg P H y u->BvP K mg P H Q (g v u)->r x y H Q
def d8(r:List V->Hp->VK->Prop)(g:List Val->Bv):Prop:=∀P H xs vs Q,ShRs K mg P H xs vs->BvP K mg P H Q (g vs)->r xs H Q
end
noncomputable def gc (i:Nat) (e:E3):R3 Tm:=match e[i]? with
 |some (.sh v)=>.ok (.val v) e
 |some .no=>.stuck
 |some _=>.ok (.bor i) e
 |none=>.stuck
noncomputable def vC (v:Val) (e:E3):R3 Tm:=.ok (.val v) e
noncomputable def vUn (g:Val->Bv) (F:ME3) (e:E3):R3 Tm:=(F e).bind λt e1=>match rs e1 t with
 |some v=>(g v).at e1
 |none=>.stuck
noncomputable def vOp (g:Val->Val->Bv) (F G:ME3) (e:E3):R3 Tm:=(F e).bind λt1 e1=>(G e1).bind λt2 e2=>match rs e2 t1.drop,rs e2 t2 with
 |some v1,some v2=>(g v1 v2).at e2
 |_,_=>.stuck
noncomputable def mP (e:E3):R3 (List Tm):=.ok [] e
noncomputable def As (F:ME3) (A:MA3) (e:E3):R3 (List Tm):=(F e).bind λt e1=>(A e1).bind λts e2=>.ok (t.drop::ts) e2
noncomputable def vFn (g:List Val->Bv) (A:MA3) (e:E3):R3 Tm:=(A e).bind λts e1=>match rss e1 ts with
 |some vs=>(g vs).at e1
 |none=>.stuck
noncomputable def bh (e:E3):Tm->Option (E3×Val)
 |.val v=>some (e,v)
 |.new v=>some (e,v)
 |.bor i=>match e[i]? with
  |some (.sh v)=>some (e,v)
  |some (.ow v)=>some (e.set i (.sh v),v)
  |_=>none
noncomputable def dem (e:E3):List Tm->Option (E3×List Val)
 | []=>some (e,[])
 |t::ts=>match bh e t with
  |some (e1,v)=>match dem e1 ts with
   |some (e2,vs)=>some (e2,v::vs)
   |none=>none
  |none=>none
noncomputable def vTup (A:MA3) (e:E3):R3 Tm:=(A e).bind λts e1=>match dem e1 ts with
 |some (e2,vs)=>if vs.length<=16777216 then .ok (.val (.tup vs)) e2 else .stuck
 |none=>.stuck
noncomputable def vLst (A:MA3) (e:E3):R3 Tm:=(A e).bind λts e1=>match dem e1 ts with
 |some (e2,vs)=>if vs.length<=16777216 then .ok (.new (.lst vs)) e2 else .stuck
 |none=>.stuck
noncomputable def bOf:Option Val->Option Bool
 |some (.bl b)=>some b
 |_=>none
noncomputable def vAnd (F G:ME3) (e:E3):R3 Tm:=(F e).bind λt e1=>match bOf (rs e1 t) with
 |some true=>G e1
 |some false=>.ok (.val (.bl false)) e1
 |none=>.stuck
noncomputable def vOr (F G:ME3) (e:E3):R3 Tm:=(F e).bind λt e1=>match bOf (rs e1 t) with
 |some true=>.ok (.val (.bl true)) e1
 |some false=>G e1
 |none=>.stuck
noncomputable def vNot (F:ME3) (e:E3):R3 Tm:=(F e).bind λt e1=>match bOf (rs e1 t) with
 |some b=>.ok (.val (.bl (!b))) e1
 |none=>.stuck
noncomputable def vIf (c:MT3) (F G:ME3) (e:E3):R3 Tm:=(c e).bind λb e1=>if b=true then F e1 else G e1
noncomputable def cOf (F:ME3) (e:E3):R3 Bool:=(F e).bind λt e1=>match bOf (rs e1 t) with
 |some b=>.ok b e1
 |none=>.stuck
noncomputable def cAn (c d:MT3) (e:E3):R3 Bool:=(c e).bind λb e1=>if b=true then d e1 else .ok false e1
noncomputable def cO (c d:MT3) (e:E3):R3 Bool:=(c e).bind λb e1=>if b=true then .ok true e1 else d e1
noncomputable def cNo (c:MT3) (e:E3):R3 Bool:=(c e).bind λb e1=>.ok (!b) e1
noncomputable def cY (e:E3):R3 Bool:=.ok true e
noncomputable def rm:Val->Option Bool
 |.non=>some false
 |.bl b=>some b
 |.int i=>some (i != 0)
 |.tup xs=>some (!xs.isEmpty)
 |.lst xs=>some (!xs.isEmpty)
 |.kl xs=>some (!xs.isEmpty)
 |_=>none
noncomputable def cTr (F:ME3) (e:E3):R3 Bool:=(F e).bind λt e1=>match (rs e1 t).bind rm with
 |some b=>.ok b e1
 |none=>.stuck
section
variable{K:W.Frag}{mg:Cj}{X N0 L:Addr->Prop}{ns:Ns}{e:E3}{σ:St}{H:Hp}
def xU(S:Sat K mg X N0 ns e σ H)(q:e[i]?=some (.ow v)):∃n,σ[i]?=some (some (.ref n))/\Sat K mg X N0 (ns.set i none) (e.set i (.sh v)) σ H/\Stp ns e H (ns.set i none) (e.set i (.sh v)) H/\Rd K mg (Oc X (ns.set i none)) H (.ref n) v:=by
 obtain⟨n,o,q1,q2,_,q3,_,q4⟩:=S.sl i _ q;have hi:=(f_.mp q).1;have hn:i<ns.length:=by rw[S.l2];exact hi
 have r:Rd K mg (Oc X (ns.set i none)) H (.ref n) v:=.cell ⟨S.nx i n q1,λz=>by
  obtain⟨j,z⟩:=aB.mp z;rcases aQ hn z with ⟨_,y⟩ |⟨y,z⟩
  .cases y
  .exact y (S.inj j i n z q1)⟩ q3 (q4.mono (.of λm p=>cx p))
 exact⟨n,q2,S.putN' hi ⟨rfl,_,q2,r⟩,Stp.refl.put (x:=none) hi (λ_ z=>by cases z) q rfl rfl S.l2,r⟩
def cX{d:V}{t:Tm}{v:Val}{e':E3}(S:Sat K mg X N0 ns e σ H)(r:relE K mg X N0 L σ ns e H d t)(q:bh e t=some (e',v)):∃ns',Sat K mg X N0 ns' e' σ H/\Stp ns e H ns' e' H/\Rd K mg (Oc X ns') H d v:=by
 cases t with
 |val u=>cases q;exact⟨ns,S,.refl,r⟩
 |new u=>cases q;exact⟨ns,S,.refl,r.new⟩
 |
  bor i=>
  unfold bh at q;dsimp only at q;have r':σ[i]?=some (some d):=r;split at q
  .rename_i u q1;cases q;obtain⟨_,x,e1,e2⟩:=S.sl i _ q1;rw[r'] at e1;cases e1;exact⟨ns,S,.refl,e2⟩
  .rename_i u q1;cases q;obtain⟨n,e1,S',a',e2⟩:=xU S q1;rw[r'] at e1;cases e1;exact⟨_,S',a',e2⟩
  .cases q
def fb:∀{ds:List V}{vs:List Val}{ns:Ns}{e e':E3},Sat K mg X N0 ns e σ H->TsR K mg X ns σ H ds ts->dem e ts=some (e',vs)->∃ns',Sat K mg X N0 ns' e' σ H/\Stp ns e H ns' e' H/\Rds K mg (Oc X ns') H ds vs:=by
 induction ts with
 |nil=>intro ds vs ns e e' S r q;cases r;cases q;exact⟨ns,S,.refl,.nil⟩
 |
  cons t ts ih=>
  intro ds vs ns e e' S r q;unfold dem at q;split at q
  .rename_i e1 v q1;split at q
   .rename_i e2 vs' q2;cases q;have hr:∃d ds',ds=d::ds'/\relE K mg X N0 X σ ns e H d t/\TsR K mg X ns σ H ds' ts:=by
     cases r with
     |val r rr=>exact⟨_,_,rfl,r,rr⟩
     |bor r rr=>exact⟨_,_,rfl,r,rr⟩
    obtain⟨d,ds',rfl,hr⟩:=hr;obtain⟨ns1,S1,a1,r1⟩:=cX S hr.1 q1;obtain⟨d_,S2,a2,r2⟩:=ih S1 (hr.2.stp a1) q2;exact⟨d_,S2,a1.trans S a2,.cons (r1.mono a2.mov) r2⟩
   .cases q
  .cases q
end
structure PEx where
 t:Nat
 G:ME3
structure PTs where
 t:Nat
 G:MT3
structure PAs where
 t:Nat
 G:MA3
structure PO2 where
 G:Val->Val->Bv
structure PU1 where
 G:Val->Bv
structure PBf where
 G:List Val->Bv
noncomputable def af (i:Nat):PEx:=⟨1,gc i⟩
noncomputable def aj (i:Int):PEx:=⟨2,vC (.int i)⟩
noncomputable def pBl (i:Bool):PEx:=⟨3,vC (.bl i)⟩
noncomputable def ax (i:Str):PEx:=⟨4,vC (.str i)⟩
noncomputable def pNon:PEx:=⟨5,vC .non⟩
noncomputable def pTy (i:String):PEx:=⟨6,vC (.ty i)⟩
noncomputable def bG (i:Str):PEx:=⟨7,vC (.glb i)⟩
noncomputable def kg (v:Val):PEx:=⟨8,vC v⟩
noncomputable def pUn (o:PU1) (a:PEx):PEx:=⟨9,vUn o.G a.G⟩
noncomputable def pOp (o:PO2) (a b:PEx):PEx:=⟨10,vOp o.G a.G b.G⟩
noncomputable def ag:PAs:=⟨1,mP⟩
noncomputable def aa (a:PEx) (r:PAs):PAs:=⟨2,As a.G r.G⟩
noncomputable def pFn (o:PBf) (a:PAs):PEx:=⟨11,vFn o.G a.G⟩
noncomputable def m8 (a:PAs):PEx:=⟨12,vTup a.G⟩
noncomputable def bg (a:PAs):PEx:=⟨13,vLst a.G⟩
noncomputable def pAnd (a b:PEx):PEx:=⟨14,vAnd a.G b.G⟩
noncomputable def pOr (a b:PEx):PEx:=⟨15,vOr a.G b.G⟩
noncomputable def pNot (a:PEx):PEx:=⟨16,vNot a.G⟩
noncomputable def pIf (c:PTs) (a b:PEx):PEx:=⟨17,vIf c.G a.G b.G⟩
noncomputable def qOf (a:PEx):PTs:=⟨1,cOf a.G⟩
noncomputable def qTr (a:PEx):PTs:=⟨2,cTr a.G⟩
noncomputable def qAn (a b:PTs):PTs:=⟨3,cAn a.G b.G⟩
noncomputable def qO (a b:PTs):PTs:=⟨4,cO a.G b.G⟩
noncomputable def qNo (a:PTs):PTs:=⟨5,cNo a.G⟩
noncomputable def qY:PTs:=⟨6,cY⟩
section
variable(K:W.Frag)(mg:Cj)(X:Cx)(ES:St->XK)
structure DE(e:Expr)(F:PEx):Prop where
 ok:PE X e (rdE K mg ES F.G)
structure DT(e:Expr)(F:PTs):Prop where
 ok:PT X e (rdT K mg ES F.G)
structure DW(e:Expr)(F:PTs):Prop where
 ok:PW X e (rdT K mg ES F.G)
structure DA(es:List Expr)(F:PAs):Prop where
 ok:PA X es (rdA K mg ES F.G)
end
structure GC(K:W.Frag)(mg:Cj)(x:Str)(d:Val):Prop where
 ex:∃u v,mg x=some u/\RelV v u/\∀P H,Rd K mg P H v d
section
variable{K:W.Frag}{mg:Cj}{X:Cx}{ES:St->XK}{e a b:Expr}{es:List Expr}{F G p q:PEx}{A:PAs}{t u:PTs}{pos:Pos}{k:PO2}
def jJ(i:Nat){x:Str}(hN:X.N[i]?=some x:=by rfl)(hv:Vis X.env.scope x:=by first |exact Or.inl rfl |exact Or.inr (Or.inl rfl) |exact Or.inr (Or.inr rfl))(hd:(x==("__debug__" : Str))=false:=by decide)(hcd:(x==("__classdict__" : Str))=false:=by decide):DE K mg X ES (.Name x pos) (af i):=
 ⟨PE.imp (c7 hN hv hd hcd) λσ H Q zz=>zz.el λY N0 L ns e S hl p=>by
  have p:PG3 K mg Y N0 ns e σ H (ES σ) (KE K mg Y N0 L σ Q) (gc i e):=p;unfold gc at p;split at p
  .rename_i v q;obtain⟨_,x,e1,r⟩:=S.sl i _ q;exact⟨x,e1,p.ret S x r⟩
  .exact p.elim
  .rename_i s h1 h2 q;have y:=S.sl i s q;have:∃x,σ[i]?=some (some x):=by
    cases s with
    |no=>exact absurd rfl h2
    |sh v=>exact absurd rfl (h1 v)
    |ow v=>obtain⟨m,_,_,y,_⟩:=y;exact⟨_,y⟩
    |lo v=>obtain⟨m,_,_,y,_⟩:=y;exact⟨_,y⟩
    |mu v=>obtain⟨m,_,_,y,_⟩:=y;exact⟨_,y⟩
    |lm v=>obtain⟨m,_,_,y,_⟩:=y;exact⟨_,y⟩
   obtain⟨x,e1⟩:=this;exact⟨x,e1,p.ret S x e1⟩
  .exact p.elim⟩
def ij{v:V}{d:Val}{tg:Nat}(hp:PE X e (tC v))(r:∀P H,Rd K mg P H v d):DE K mg X ES e ⟨tg,vC d⟩:=⟨PE.imp hp λσ H Q zz=>zz.el λY N0 L ns e S hl p=>PG3.ret p S v (r _ _)⟩
def gh:DE K mg X ES (.Constant (.int i) j pos) (aj i):=ij gy λ_ _=>.int i
def zy:DE K mg X ES (.Constant (.bool i) j pos) (pBl i):=ij zW λ_ _=>.bl i
def xV:DE K mg X ES (.Constant (.str x) j pos) (ax x):=ij pS λ_ _=>.str x
def xI{x:Str}(hg:Gl X x)(ha:∃a,mg x=some (.ref a))(hm:X.mg=mg:=by rfl)(hd:(x==("__debug__" : Str))=false:=by decide):DE K mg X ES (.Name x pos) (bG x):=by subst hm;obtain⟨a,ha⟩:=ha;exact ij (lq hg ha (v:=.ref a) rfl hd) λ_ _=>.glb ha
def za{x:Str}{d:Val}(hg:Gl X x)(ha:GC K mg x d)(hm:X.mg=mg:=by rfl)(hd:(x==("__debug__" : Str))=false:=by decide):DE K mg X ES (.Name x pos) (kg d):=by subst hm;obtain⟨u,v,h1,h2,h3⟩:=ha.ex;exact ij (lq hg h1 h2 hd) h3
def zE{x:Str}{n:String}(hg:Gl X x)(hm:mg x=none)(hv:bootBuiltins x=some (.type n))(he:X.mg=mg:=by rfl)(hn:x ≠ "__name__":=by decide)(hd:(x==("__debug__" : Str))=false:=by decide):DE K mg X ES (.Name x pos) (pTy n):=by subst he;exact ij (vt hg hm hv (v:=.ty n) rfl hn hd) λ_ _=>.ty n
def jg(hd:OpD K mg r k.G)(σ:St)(H:Hp)(Q:VK):rdE K mg ES (pOp k F G).G σ H Q->tOp r (rdE K mg ES F.G) (rdE K mg ES G.G) σ H Q:=λzz=>zz.el λY N0 L ns e S hl p=>
 ⟨Y,
  N0,L,ns,e,S,hl,PG3.imp p S λt1 e1 ns1 H1 a1 S1 p1 x r1=>⟨Y,N0,L,ns1,e1,S1,λa z=>hl a (a1.dom a z),PG3.imp p1 S1 λt2 e2 d_ H2 a2 S2 p2 y r2=>by
  try dsimp only at p2
  split at p2
  .rename_i v u q1 q2;exact hd _ _ _ _ _ _ _ ((r1.drop a2).sh S2 q1) (r2.sh S2 q2) (p2.bv S2 λa z=>hl a (a1.dom a (a2.dom a z)))
  .exact p2.elim⟩⟩
def tI(ho:OpR X (binaryOp op) r)(hd:OpD K mg r k.G)(ha:DE K mg X ES a p)(hb:DE K mg X ES b q):DE K mg X ES (.BinOp a op b pos) (pOp k p q):=⟨PE.imp (zQ ho ha.ok hb.ok) (jg hd)⟩
def zS(hr:IxR X r)(hd:OpD K mg r k.G)(ha:DE K mg X ES a p)(hb:DE K mg X ES b q)(hs:ff b:=by exact λ_ _=>rfl):DE K mg X ES (.Subscript a b pos) (pOp k p q):=⟨PE.imp (mq hr ha.ok hb.ok hs) (jg hd)⟩
def xC(ho:OpR X (compareOp op) r)(hd:OpD K mg r k.G)(ha:DE K mg X ES a p)(hb:DE K mg X ES b q)(hm:behindInMarks op b=false:=by first |exact jX _ |with_unfolding_all rfl):DE K mg X ES (.Compare a [op] [b] pos) (pOp k p q):=⟨PE.imp (vB ho ha.ok hb.ok hm) (jg hd)⟩
def wZ{Y N0 L:Addr->Prop}{b:Bool}(S1:Sat K mg Y N0 ns1 e1 σ H1)(r1:relE K mg Y N0 L σ ns1 e1 H1 d1 t1)(q:bOf (rs e1 t1)=some b):d1=.bl b:=by
 unfold bOf at q;split at q
 .rename_i b' q';cases q;exact (r1.sh S1 q').bl
 .cases q
def lx(σ:St)(H:Hp)(Q:Bool->Hp->Prop):rdT K mg ES (qOf F).G σ H Q->rdE K mg ES F.G σ H λx H'=>∃k,x=.bl k/\Q k H':=λzz=>zz.el λY N0 ns e S p=>
 ⟨Y,
  N0,λ_=>True,ns,e,S,λ_ _=>trivial,PG3.imp p S λt1 e1 ns1 H1 a1 S1 p1 x r1=>by
  try dsimp only at p1
  split at p1
  .rename_i b q;exact⟨b,wZ S1 r1 q,p1.ret S1⟩
  .exact p1.elim⟩
def w6(ho:OpR X (compareOp op) r)(hd:OpD K mg r k.G)(ha:DE K mg X ES a p)(hb:DE K mg X ES b q)(hm:behindInMarks op b=false:=by first |exact jX _ |with_unfolding_all rfl):DT K mg X ES (.Compare a [op] [b] pos) (qOf (pOp k p q)):=
 ⟨PT.imp (vQ ho ha.ok hb.ok hm) λσ H Q z=>jg hd σ H _ (lx σ H Q z)⟩
def yi(ha:DE K mg X ES a p)(he:∀whole,isTrue a X.env whole=(do let v <- whole;standAt a.pos;holding [v] (truthy v)):=by intro _;rfl):DT K mg X ES a (qOf p):=⟨PT.imp (xy ha.ok he) λσ H Q z=>lx σ H Q z⟩
def yp(ha:DT K mg X ES a t):DT K mg X ES (.UnaryOp .Not a pos) (qNo t):=⟨PT.imp (xq ha.ok) λσ H Q zz=>zz.el λY N0 ns e S p=>⟨Y,N0,ns,e,S,PG3.imp p S λb e1 ns1 H1 a1 S1 p1=>p1.ret S1⟩⟩
def vI(ha:DT K mg X ES a t):DW K mg X ES (.BoolOp .And [a] pos) t:=⟨vk ha.ok⟩
def wU(ha:DT K mg X ES a t):DW K mg X ES (.BoolOp .Or [a] pos) t:=⟨yz ha.ok⟩
def xR(ha:DT K mg X ES a t)(hb:DW K mg X ES (.BoolOp .And (b::es) pos) u):DW K mg X ES (.BoolOp .And (a::b::es) pos) (qAn t u):=⟨PW.imp (wI ha.ok hb.ok) λσ H Q zz=>zz.el λY N0 ns e S p=>
 ⟨Y,N0,ns,e,S,PG3.imp p S λb e1 ns1 H1 a1 S1 p1=>by
  cases b with
  |true=>exact⟨Y,N0,ns1,e1,S1,p1⟩
  |false=>exact p1.ret S1⟩⟩
def Al(ha:DT K mg X ES a t)(hb:DW K mg X ES (.BoolOp .Or (b::es) pos) u):DW K mg X ES (.BoolOp .Or (a::b::es) pos) (qO t u):=⟨PW.imp (zx ha.ok hb.ok) λσ H Q zz=>zz.el λY N0 ns e S p=>
 ⟨Y,N0,ns,e,S,PG3.imp p S λb e1 ns1 H1 a1 S1 p1=>by
  cases b with
  |true=>exact p1.ret S1
  |false=>exact⟨Y,N0,ns1,e1,S1,p1⟩⟩⟩
def ZW.dt(h:DW K mg X ES a t):DT K mg X ES a t:=⟨h.ok.pt⟩
def zt_w{op}(h:DW K mg X ES (.BoolOp op es pos) t):DT K mg X ES (.BoolOp op es pos) t:=ZW.dt h
def Am{k:PU1}(ho:UnR X (unaryOp op) r)(hd:UnD K mg r k.G)(ha:DE K mg X ES a p):DE K mg X ES (.UnaryOp op a pos) (pUn k p):=⟨PE.imp (zd ho ha.ok) λσ H Q zz=>zz.el λY N0 L ns e S hl p=>
 ⟨Y,N0,L,ns,e,S,hl,PG3.imp p S λt e1 ns1 H1 a1 S1 p1 x r1=>by
  try dsimp only at p1
  split at p1
  .rename_i v z;exact hd _ _ _ _ _ (r1.sh S1 z) (p1.bv S1 λa z=>hl a (a1.dom a z))
  .exact p1.elim⟩⟩
def nG:DA K mg X ES [] ag:=⟨PA.imp kM λσ H Q zz=>zz.el λY N0 ns e S p=>PG3.ret p S _ .nil⟩
def bw(ha:DE K mg X ES e p)(hr:DA K mg X ES es A)(hs:starEach (e::es) X.env=(false,eval e X.env)::starEach es X.env:=by rfl):DA K mg X ES (e::es) (aa p A):=⟨PA.imp (fj ha.ok hr.ok hs) λσ H Q zz=>zz.el λY N0 ns e S p=>
 ⟨Y,N0,λ_=>True,ns,e,S,λ_ _=>trivial,PG3.imp p S λt e1 ns1 H1 a1 S1 p1 x r1=>⟨Y,N0,ns1,e1,S1,PG3.imp p1 S1 λts e2 d_ H2 a2 S2 p2 xs r2=>p2.ret S2 _ (by
  have r3:=r1.drop a2;generalize hg:t.drop=t' at *;cases t' with
  |val v=>exact .val r3 r2
  |new v=>cases t <;> cases hg
  |bor i=>exact .bor r3 r2)⟩⟩⟩
def n6{x1}(h:DA K mg X ES es A):DE K mg X ES (.Tuple es x1 pos) (m8 A):=⟨PE.imp (xf h.ok) λσ H Q zz=>zz.el λY N0 L ns e S hl p=>
 ⟨Y,
  N0,ns,e,S,PG3.imp p S λts e1 ns1 H1 a1 S1 p1 xs r1=>by
  try dsimp only at p1
  split at p1
  .rename_i e2 vs q;split at p1
   .rename_i hv;obtain⟨d_,S2,a2,r2⟩:=fb S1 r1 q;exact⟨by rw[r2.len];exact hv,λp hp=>p1 _ d_ (a2.trans S1 (.gr (Gr.upd hp))) (S2.gr (Gr.upd hp)) _ (.tup (SqT.of ar) (r2.mono (Gr.upd hp).mov))⟩
   .exact p1.elim
  .exact p1.elim⟩⟩
def yK(h:DA K mg X ES es A):DE K mg X ES (.List es pos) (bg A):=⟨PE.imp (yI h.ok) λσ H Q zz=>zz.el λY N0 L ns e S hl p=>
 ⟨Y,
  N0,ns,e,S,PG3.imp p S λts e1 ns1 H1 a1 S1 p1 xs r1=>by
  try dsimp only at p1
  split at p1
  .rename_i e2 vs q;split at p1
   .rename_i hv;obtain⟨d_,S2,a2,r2⟩:=fb S1 r1 q;refine⟨by rw[r2.len];exact hv,λp hp=>PG3.bv (b:=.new (.lst vs)) (e:=e2) (X:=Y) (N0:=N0) (L:=L) (E:=ES σ) (λH' ns' a' S'=>p1 H' ns' (a2.trans S1 a') S') S2 (λa z=>hl a (a1.dom a z)) H1 p _ .refl hp trivial (.lst r2)⟩
   .exact p1.elim
  .exact p1.elim⟩⟩
def tF{g:PBf}(hd:d8 K mg r g.G)(σ:St)(H:Hp)(Q:VK):rdE K mg ES (pFn g A).G σ H Q->tCB r (rdA K mg ES A.G) σ H Q:=λzz=>zz.el λY N0 L ns e S hl p=>
 ⟨Y,
  N0,ns,e,S,PG3.imp p S λts e1 ns1 H1 a1 S1 p1 xs r1=>by
  try dsimp only at p1
  split at p1
  .rename_i vs q;exact hd _ _ _ _ _ (r1.sh S1 q) (p1.bv S1 λa z=>hl a (a1.dom a z))
  .exact p1.elim⟩
def rT{id:String}{r:List V->Hp->VK->Prop}{k:PBf}{x:Str}{p0:Pos}(hc:CallR X (.builtin id) r)(hd:d8 K mg r k.G)(hg:Gl X x)(hm:mg x=none)(hv:bootBuiltins x=some (.builtin id))(ha:DA K mg X ES (e::es) A)(hk:X.mg=mg:=by rfl)(hn:x ≠ "__name__":=by decide)(hdb:(x==("__debug__" : Str))=false:=by decide)
 (he:starEach (e::es) X.env=(false,eval e X.env)::starEach es X.env:=by rfl) (hpl:(backTo pos (starEach es X.env)).any (·.1)=false:=by rfl):DE K mg X ES (.Call (.Name x p0) (e::es) [] pos) (pFn k A):=by
 subst hk;exact⟨PE.imp (qx hc hg hm hv ha.ok hn hdb he hpl) (tF hd)⟩
def iO{id:String}{r:List V->Hp->VK->Prop}{k:PBf}{x:Str}{p0:Pos}(hc:CallR X (.type id) r)(hd:d8 K mg r k.G)(hg:Gl X x)(hm:mg x=none)(hv:bootBuiltins x=some (.type id))(ha:DA K mg X ES (e::es) A)(hk:X.mg=mg:=by rfl)(hn:x ≠ "__name__":=by decide)(hdb:(x==("__debug__" : Str))=false:=by decide)
 (he:starEach (e::es) X.env=(false,eval e X.env)::starEach es X.env:=by rfl) (hpl:(backTo pos (starEach es X.env)).any (·.1)=false:=by rfl):DE K mg X ES (.Call (.Name x p0) (e::es) [] pos) (pFn k A):=by
 subst hk;exact⟨PE.imp (ql hc hg hm hv ha.ok hn hdb he hpl) (tF hd)⟩
end
inductive Rt where
 |val (v:Val) |new (v:Val) |par (i:Nat) |pr (v u:Val)
inductive SR3 where
 |nx (e:E3) |rt (r:Rt) (e:E3) |bk (e:E3) |ct (e:E3) |exc (c:Str) (e:E3) |stuck
abbrev MS3:=E3->SR3
section
variable(K:W.Frag)(mg:Cj)
def RtR(X N0:Addr->Prop)(ns:Ns)(e:E3)(σ:St)(H:Hp)(d:V):Rt->Prop
 |.val v=>Sat K mg X N0 ns e σ H/\Rd K mg (Oc X ns) H d v
 |.new v=>∃n o,d=.ref n/\N0 n/\¬ X n/\H n=some o/\NotFz o/\Sat K mg (Xn X n) N0 ns e σ H/\Rc K mg (Oc (Xn X n) ns) H o v
 |.par i=>Sat K mg X N0 ns e σ H/\σ[i]?=some (some d)/\∃v,e[i]?=some (.mu v)
 |.pr v u=>∃p d1 n o,d=.ref p/\SqT K H p [d1,.ref n]/\N0 n/\¬ X n/\H n=some o/\NotFz o/\Sat K mg (Xn X n) N0 ns e σ H/\Rd K mg (Oc (Xn X n) ns) H d1 v/\Rc K mg (Oc (Xn X n) ns) H o u
def PS3(X N0:Addr->Prop)(ns:Ns)(e:E3)(H:Hp)(D:Ends)(ES:St->XK):SR3->Prop
 |.nx e'=>∀H' σ' ns',Stp ns e H ns' e' H'->Sat K mg X N0 ns' e' σ' H'->D.nx σ' H'
 |.bk e'=>∀H' σ' ns',Stp ns e H ns' e' H'->Sat K mg X N0 ns' e' σ' H'->D.bk σ' H'
 |.ct e'=>∀H' σ' ns',Stp ns e H ns' e' H'->Sat K mg X N0 ns' e' σ' H'->D.ct σ' H'
 |.rt r e'=>∀H' σ' ns' x,Stp ns e H ns' e' H'->RtR K mg X N0 ns' e' σ' H' x r->D.rt x H'
 |.exc c e'=>∀H' σ' ns' C,Stp ns e H ns' e' H'->Sat K mg X N0 ns' e' σ' H'->mg c=some (.ref C)->ES σ' (.ref C) none H'
 |.stuck=>False
def rdS(ES:St->XK)(G:MS3):TS:=λD σ H=>∃X N0 ns e,Sat K mg X N0 ns e σ H/\PS3 K mg X N0 ns e H D ES (G e)
end
def rdS.el{K:W.Frag}{mg:Cj}{ES:St->XK}{σ:St}{H:Hp}{Z:Prop}{G:MS3}{D:Ends}(h:rdS K mg ES G D σ H)(k:∀X N0 ns e,Sat K mg X N0 ns e σ H->PS3 K mg X N0 ns e H D ES (G e)->Z):Z:=by obtain⟨X,N0,ns,e,S,p⟩:=h;exact k X N0 ns e S p
noncomputable def R3.toS {α:Type} (r:R3 α) (f:α->E3->SR3):SR3:=match r with
 |.ok a e=>f a e
 |.exc c e=>.exc c e
 |.stuck=>.stuck
noncomputable def SR3.then (r:SR3) (f:E3->SR3):SR3:=match r with
 |.nx e=>f e
 |r=>r
noncomputable def wSeq (F G:MS3) (e:E3):SR3:=(F e).then G
noncomputable def wIf (c:MT3) (F G:MS3) (e:E3):SR3:=(c e).toS λb e1=>if b=true then F e1 else G e1
noncomputable def gW (t:Tm) (e:E3):SR3:=match t with
 |.val v=>.rt (.val v) e
 |.new v=>.rt (.new v) e
 |.bor i=>match e[i]? with
  |some (.sh v)=>.rt (.val v) e
  |some (.ow v)=>.rt (.new v) (e.set i .no)
  |some (.mu _)=>.rt (.par i) e
  |_=>.stuck
noncomputable def c8 (o:Bool) (i:Nat) (t:Tm) (e:E3):SR3:=match e[i]? with
 |some s0=>if s0.pl=true then (match t with
  |.val v=>.nx (e.set i (.sh v))
  |.new v=>.nx (e.set i (if o=true then .ow v else .sh v))
  |.bor j=>match bh e (.bor j) with
   |some (e2,v)=>.nx (e2.set i (.sh v))
   |none=>.stuck) else .stuck
 |none=>.stuck
abbrev MG3:=Val->E3->Option E3
abbrev hU:=List Val->E3->Option E3
noncomputable def pN (i:Nat):MG3:=λv e=>match e[i]? with
 |some s=>if s.pl=true then some (e.set i (.sh v)) else none
 |none=>none
noncomputable def psN:hU:=λvs e=>match vs with
 | []=>some e
 |_=>none
noncomputable def psC (g:MG3) (u:hU):hU:=λvs e=>match vs with
 |v::r=>(g v e).bind λe1=>u r e1
 | []=>none
noncomputable def pT (n:Nat) (u:hU):MG3:=λv e=>match v with
 |.tup vs=>if vs.length=n then u vs e else none
 |_=>none
noncomputable def zB (F:ME3) (g:MG3) (e:E3):SR3:=(F e).toS λt e1=>match bh e1 t with
 |some (e2,v)=>match g v e2 with
  |some e3=>.nx e3
  |none=>.stuck
 |none=>.stuck
noncomputable def wPar (i j:Nat) (A:MA3) (e:E3):SR3:=(A e).toS λts e1=>match dem e1 ts with
 |some (e2,[v,u])=>match (pN i v e2).bind (pN j u) with
  |some e3=>.nx e3
  |none=>.stuck
 |_=>.stuck
noncomputable def wAug (i:Nat) (g:Val->Val->Bv) (F:ME3) (e:E3):SR3:=match e[i]? with
 |some (.sh x)=>(F e).toS λt e1=>match rs e1 t with
  |some y=>match g x y with
   |.val z=>match pN i z e1 with
    |some e2=>.nx e2
    |none=>.stuck
   |_=>.stuck
  |none=>.stuck
 |_=>.stuck
noncomputable def yq (c:Str) (A:MA3) (e:E3):SR3:=(A e).toS λts e1=>if ts.length<=16777216 then .exc c e1 else .stuck
structure PSt where
 t:Nat
 G:MS3
structure PGt where
 t:Nat
 G:MG3
structure PGs where
 t:Nat
 G:hU
noncomputable def xNx:PSt:=⟨1,.nx⟩
noncomputable def xBk:PSt:=⟨2,.bk⟩
noncomputable def xCt:PSt:=⟨3,.ct⟩
noncomputable def yZ:PSt:=⟨4,.rt (.val .non)⟩
noncomputable def br (a:PEx):PSt:=⟨5,λe=>(a.G e).toS gW⟩
noncomputable def dq (a:PEx):PSt:=⟨6,λe=>(a.G e).toS λ_ e1=>.nx e1⟩
noncomputable def au (a b:PSt):PSt:=⟨7,wSeq a.G b.G⟩
noncomputable def xIf (c:PTs) (a b:PSt):PSt:=⟨8,wIf c.G a.G b.G⟩
noncomputable def aN (o:Bool) (i:Nat) (a:PEx):PSt:=⟨9,λe=>(a.G e).toS (c8 o i)⟩
noncomputable def gtN (i:Nat):PGt:=⟨1,pN i⟩
noncomputable def gtsN:PGs:=⟨1,psN⟩
noncomputable def gtsC (a:PGt) (b:PGs):PGs:=⟨2,psC a.G b.G⟩
noncomputable def gtT (n:Nat) (a:PGs):PGt:=⟨2,pT n a.G⟩
noncomputable def zg (a:PEx) (g:PGt):PSt:=⟨10,zB a.G g.G⟩
noncomputable def xPar (i j:Nat) (a:PAs):PSt:=⟨11,wPar i j a.G⟩
noncomputable def xAug (i:Nat) (o:PO2) (a:PEx):PSt:=⟨12,wAug i o.G a.G⟩
noncomputable def ka (c:Str) (a:PAs):PSt:=⟨13,yq c a.G⟩
section
variable{K:W.Frag}{mg:Cj}{X N0:Addr->Prop}{ns ns1:Ns}{e e1:E3}{σ:St}{H H1:Hp}{De:Ends}{ES:St->XK}
def PS3.after(p:PS3 K mg X N0 ns e H De ES r)(S:Sat K mg X N0 ns e σ H)(a:Stp ns e H ns1 e1 H1):PS3 K mg X N0 ns1 e1 H1 De ES r:=by
 cases r with
 |stuck=>exact p
 |nx e'=>exact λH' σ' ns' b S'=>p H' σ' ns' (a.trans S b) S'
 |bk e'=>exact λH' σ' ns' b S'=>p H' σ' ns' (a.trans S b) S'
 |ct e'=>exact λH' σ' ns' b S'=>p H' σ' ns' (a.trans S b) S'
 |exc c e'=>exact λH' σ' ns' C b S'=>p H' σ' ns' C (a.trans S b) S'
 |rt r e'=>exact λH' σ' ns' x b S'=>p H' σ' ns' x (a.trans S b) S'
def PS3.toS{α:Type}{r:R3 α}{f:α->E3->SR3}{k:α->E3->Ns->Hp->Prop}(p:PS3 K mg X N0 ns e H De ES (r.toS f))(S:Sat K mg X N0 ns e σ H)
 (i:∀t e1 ns1 H1,Stp ns e H ns1 e1 H1->Sat K mg X N0 ns1 e1 σ H1->PS3 K mg X N0 ns e H De ES (f t e1)->k t e1 ns1 H1):PG3 K mg X N0 ns e σ H (ES σ) k r:=by
 cases r with
 |stuck=>exact p
 |exc c e'=>exact λH' ns' C a S' m=>p H' σ ns' C a S' m
 |ok t e'=>exact λH' ns' a S'=>i t e' ns' H' a S' p
def PS3.then{r:SR3}{f:E3->SR3}{N:St->Hp->Prop}(p:PS3 K mg X N0 ns e H De ES (r.then f))(S:Sat K mg X N0 ns e σ H)
 (i:∀e1 ns1 σ1 H1,Stp ns e H ns1 e1 H1->Sat K mg X N0 ns1 e1 σ1 H1->PS3 K mg X N0 ns1 e1 H1 De ES (f e1)->N σ1 H1):PS3 K mg X N0 ns e H { De with nx:=N } ES r:=by
 cases r with
 |nx e'=>exact λH' σ' ns' a S'=>i e' ns' σ' H' a S' (PS3.after p S a)
 |stuck=>exact p
 |bk e'=>exact p
 |ct e'=>exact p
 |exc c e'=>exact p
 |rt r e'=>exact p
def PS3.nx(p:PS3 K mg X N0 ns e H De ES (.nx e))(S:Sat K mg X N0 ns e σ H):De.nx σ H:=p H σ ns .refl S
def xN{d:V}{v:Val}{e':E3}(S:Sat K mg X N0 ns e σ H)(r:Rd K mg (Oc X ns) H d v)(q:pN i v e=some e'):Sat K mg X N0 (ns.set i none) e' (σ.set i (some d)) H/\Stp ns e H (ns.set i none) e' H:=by
 unfold pN at q;split at q
 .rename_i s q0;split at q
  .rename_i p0;cases q;have hi:=(f_.mp q0).1;exact⟨S.putN hi ⟨rfl,d,rfl,Rd.mono (.of λm p=>cx p) r⟩,Stp.refl.put (x:=none) (s:=.sh v) hi (λ_ z=>by cases z) q0 p0 rfl S.l2⟩
  .cases q
 .cases q
end
section
variable(K:W.Frag)(mg:Cj)(X:Cx)(ES:St->XK)
structure DS(st:Stmt)(F:PSt):Prop where
 ok:PS X st (rdS K mg ES F.G)
structure DSs(st:List Stmt)(F:PSt):Prop where
 ok:PSs X st (rdS K mg ES F.G)
def rdG(g:MG3):TG:=λv σ H Q=>∃Y N0 ns e u e',Sat K mg Y N0 ns e σ H/\Rd K mg (Oc Y ns) H v u/\g u e=some e'/\∀σ' ns',Stp ns e H ns' e' H->Sat K mg Y N0 ns' e' σ' H->Q σ' H
def rdG.el{K:W.Frag}{mg:Cj}{g:MG3}(h:rdG K mg g v σ H Q){Z:Prop}(k:∀Y N0 ns e u e',Sat K mg Y N0 ns e σ H->Rd K mg (Oc Y ns) H v u->g u e=some e'->(∀σ' ns',Stp ns e H ns' e' H->Sat K mg Y N0 ns' e' σ' H->Q σ' H)->Z):Z:=by obtain⟨Y,N0,ns,e,u,e',S,r,q,p⟩:=h;exact k Y N0 ns e u e' S r q p
structure DG(e:Expr)(g:PGt):Prop where
 ok:PG X e (rdG K mg g.G)
def cD:Prop:=∀(pins:Ck) (σ:St) (H:Hp) (s:Shared) (e:Value) (s':Shared),Inv X pins σ H s->CX1 X.prog X.w X.stack H s (ES σ) e s'->X.xe e s'
end
section
variable{K:W.Frag}{mg:Cj}{X:Cx}{ES:St->XK}{e a b c o i:Expr}{es:List Expr}{st:Stmt}{sts sts':List Stmt}{p q:PEx}{A:PAs}{t:PTs}{x y:PSt}{pos:Pos}
def v7:DSs K mg X ES [] xNx:=⟨PSs.imp eZ λD σ H zz=>zz.el λY N0 ns e S p=>PS3.nx p S⟩
def bj(h1:DS K mg X ES st x):DSs K mg X ES [st] x:=⟨uN h1.ok⟩
def aD(h1:DS K mg X ES st x)(h2:DSs K mg X ES sts y):DSs K mg X ES (st::sts) (au x y):=⟨PSs.imp (bL h1.ok h2.ok) λD σ H zz=>zz.el λY N0 ns e S p=>
 ⟨Y,N0,ns,e,S,PS3.then p S λe1 ns1 σ1 H1 a1 S1 p1=>⟨Y,N0,ns1,e1,S1,p1⟩⟩⟩
def fu(he:DE K mg X ES e p)(hs:swapsWith e none pos.line X.env=pure false:=by rfl):DS K mg X ES (.Expr e pos) (dq p):=⟨PS.imp (fk he.ok hs) λD σ H zz=>zz.el λY N0 ns e S p=>
 ⟨Y,N0,λ_=>True,ns,e,S,λ_ _=>trivial,PS3.toS p S λt e1 ns1 H1 a1 S1 p1 x r1=>p1 H1 σ ns1 a1 S1⟩⟩
def jh(hc:DT K mg X ES c t)(ha:DSs K mg X ES sts x)(hb:DSs K mg X ES sts' y):DS K mg X ES (.If c sts sts' pos) (xIf t x y):=⟨PS.imp (mK hc.ok ha.ok hb.ok) λD σ H zz=>zz.el λY N0 ns e S p=>
 ⟨Y,N0,ns,e,S,PS3.toS p S λb e1 ns1 H1 a1 S1 p1=>by
  cases b with
  |true=>exact⟨Y,N0,ns1,e1,S1,PS3.after p1 S a1⟩
  |false=>exact⟨Y,N0,ns1,e1,S1,PS3.after p1 S a1⟩⟩⟩
def gv(he:DE K mg X ES e p):DS K mg X ES (.Return (some e) pos) (br p):=⟨PS.imp (xa he.ok) λD σ H zz=>zz.el λY N0 ns e S p=>
 ⟨Y,
  N0,N0,ns,e,S,S.lh,PS3.toS p S λt e1 ns1 H1 a1 S1 p1 x r1=>by
  cases t with
  |val v=>exact p1 H1 σ ns1 x a1 ⟨S1,r1⟩
  |new v=>exact p1 H1 σ ns1 x a1 r1
  |
   bor i=>
   have r':σ[i]?=some (some x):=r1;unfold gW at p1;try dsimp only at p1
   split at p1
   .rename_i v q;obtain⟨_,x',e1',e2⟩:=S1.sl i _ q;rw[r'] at e1';cases e1';exact p1 H1 σ ns1 x a1 ⟨S1,e2⟩
   .rename_i v q;obtain⟨n,o,q1,q2,q3,q4,q5,q6⟩:=S1.sl i _ q;rw[r'] at q2;cases q2;have hi:=(f_.mp q).1;have hn:i<ns1.length:=by rw[S1.l2];exact hi
    have mv:Mov (Oc Y ns1) (Oc (Xn Y n) (ns1.set i none)) H1 H1:=.of λm p=>⟨λz=>by
     rcases z with z |rfl
     .exact p.1 z
     .exact p.2 (aB.mpr ⟨i,q1⟩),(cx p).2⟩
    have S2:=S1.putN' hi (s:=.no) rfl;refine p1 H1 σ (ns1.set i none) _ (a1.put (x:=none) hi (λ_ z=>by cases z) q rfl rfl S1.l2) ⟨n,o,rfl,q3,S1.nx i n q1,q4,q5,⟨S2.l1,S2.l2,S2.lh,λm z=>?_,S2.inj,λj m qj z=>?_,λj s qj=>?_,S2.bs⟩,q6.mono mv⟩
    .rcases z with z |rfl
     .exact S2.xl m z
     .exact⟨_,q4⟩
    .rcases z with z |rfl
     .exact S2.nx j m qj z
     .rcases aQ hn qj with ⟨_,y⟩ |⟨y,z⟩
      .cases y
      .exact y (S1.inj j i _ z q1)
    .rcases aQ hi qj with ⟨rfl,rfl⟩ |⟨z,qj'⟩
     .rw[bx hn];rfl
     .rw[bc z];exact (S1.sl j s qj').mono mv λ_ _ _ q _=>q
   .rename_i v q;exact p1 H1 σ ns1 x a1 ⟨S1,r',v,q⟩
   .exact p1.elim⟩⟩
def oi{ow:Bool}{i:Nat}(D:Ends)(σ:St)(H:Hp):rdS K mg ES (aN ow i p).G D σ H->kq (rdE K mg ES p.G) (dz i) D σ H:=λzz=>zz.el λY N0 ns e S p=>
 ⟨Y,
  N0,λa=>H a=none,ns,e,S,λ_ z=>z,PS3.toS p S λt e1 ns1 H1 a1 S1 p1 d r1=>by
  unfold c8 at p1;split at p1
  .rename_i s0 q0;split at p1
   .rename_i p0;have hi:=(f_.mp q0).1;cases t with
    |val v=>exact p1 H1 _ _ (a1.put (x:=none) (s:=.sh v) hi (λ_ z=>by cases z) q0 p0 rfl S1.l2) (S1.putN hi ⟨rfl,d,rfl,Rd.mono (.of λm p=>cx p) r1⟩)
    |
     new v=>
     cases ow with
     |true=>obtain⟨n,ob,rfl,q1,q2,q3,q4,q5,q6⟩:=r1;exact p1 H1 _ _ (a1.put (x:=some n) (s:=.ow v) hi (λm z=>by cases z;exact q1) q0 p0 rfl S1.l2) (Sat.putO q5 q2 hi (S.lh n q1) q3 q4 q6)
     |false=>exact p1 H1 _ _ (a1.put (x:=none) (s:=.sh v) hi (λ_ z=>by cases z) q0 p0 rfl S1.l2) (S1.putN hi ⟨rfl,d,rfl,Rd.mono (.of λm p=>cx p) r1.new⟩)
    |
     bor j=>
     try dsimp only at p1
     split at p1
     .rename_i e2 v q2;obtain⟨d_,S2,a2,r2⟩:=cX S1 r1 q2;have hq:∃s2,e2[i]?=some s2/\s2.pl=true:=by
       unfold bh at q2;dsimp only at q2;split at q2
       .cases q2;exact⟨s0,q0,p0⟩
       .rename_i u q3;cases q2;by_cases z:i=j
        .subst z;exact⟨_,bx hi,rfl⟩
        .exact⟨s0,by rw[bc z];exact q0,p0⟩
       .cases q2
      obtain⟨s2,hq1,hq2⟩:=hq;have hi2:=(f_.mp hq1).1;exact p1 H1 _ _ ((a1.trans S a2).put (x:=none) (s:=.sh v) hi2 (λ_ z=>by cases z) hq1 hq2 rfl S2.l2) (S2.putN hi2 ⟨rfl,d,rfl,Rd.mono (.of λm p=>cx p) r2⟩)
     .exact p1.elim
   .exact p1.elim
  .exact p1.elim⟩
def wK{ow:Bool}{i:Nat}{x:Str}{pos':Pos}(hN:X.N.Nodup)(hi:X.N[i]?=some x)(hx:Loc X.env.scope x)(he:DE K mg X ES e p)(hs:swapsWith e (some (.Name x pos')) pos.line X.env=pure false)(hf:X.fn x=true\/X.env.scope.names.lookup x=some .local):
 DS K mg X ES (.Assign [.Name x pos'] e pos) (aN ow i p):=⟨PS.imp (wA hN hi hx he.ok hs hf) oi⟩
def vj{i:Nat}{x:Str}(hN:X.N.Nodup)(hi:X.N[i]?=some x)(hx:Loc X.env.scope x)(hf:X.fn x=true\/X.env.scope.names.lookup x=some .local):DG K mg X (.Name x pos) (gtN i):=
 ⟨PG.imp (gX hN hi hx hf) λv σ H Q zz=>zz.el λY N0 ns e u e' S r q k=>by obtain⟨S',a⟩:=xN S r q;exact k _ _ a S'⟩
def TsR.len{Y:Addr->Prop}(r:TsR K mg Y ns σ H ds ts):ds.length=ts.length:=by
 induction r with
 |nil=>rfl
 |val _ _ ih=>rw[p_,p_,ih]
 |bor _ _ ih=>rw[p_,p_,ih]
def qQ{x:Str}{C:Addr}{E:XK}{np cpos:Pos}(hc:X.calm=true)(hR:Rz X E)(hg:Gl X x)(hm:mg x=some (.ref C))(hq:W.excIn X.K C gN "ValueError.__new__"=true)(ha:DA K mg X (λ_=>E) (e::es) A)(hk:X.mg=mg:=by rfl)(he:starEach (e::es) X.env=(false,eval e X.env)::starEach es X.env:=by rfl)(c_:(backTo cpos (starEach es X.env)).any (·.1)=false:=by rfl)(hd:(x==("__debug__" : Str))=false:=by decide):DS K mg X (λ_=>E) (.Raise (some (.Call (.Name x np) (e::es) [] cpos)) none pos) (ka x A):=by
 subst hk;exact⟨PS.imp (sy hc hR hg hm hq ha.ok he c_ hd) λD σ H zz=>zz.el λY N0 ns e S p=>⟨Y,N0,ns,e,S,PS3.toS p S λts e1 ns1 H1 a1 S1 p1 xs r1=>by
  try dsimp only at p1
  split at p1
  .rename_i hl;exact⟨by rw[r1.len];exact hl,p1 H1 σ ns1 C a1 S1 hm⟩
  .exact p1.elim⟩⟩
end
noncomputable def Sl.re (s:Sl) (u:Val):Sl:=match s with
 |.ow _=>.ow u
 |.mu _=>.mu u
 |s=>s
noncomputable def Sl.mv:Sl->Option Val
 |.ow v=>some v
 |.mu v=>some v
 |_=>none
section
variable{K:W.Frag}{mg:Cj}{X N0:Addr->Prop}{ns:Ns}{e:E3}{σ:St}{H:Hp}
def Sat.write(S:Sat K mg X N0 ns e σ H)(q:e[i]?=some s)(hm:s.mv=some u):∃n o,σ[i]?=some (some (.ref n))/\ns[i]?=some (some n)/\H n=some o/\NotFz o/\Rc K mg (Oc X ns) H o u/\
 ∀o' u',NotFz o'->Rc K mg (Oc X ns) H o' u'->Mov (Oc X ns) (Oc X ns) H (upd H n o')/\Sat K mg X N0 ns (e.set i (s.re u')) σ (upd H n o')/\Stp ns e H ns (e.set i (s.re u')) (upd H n o'):=by
 have hi:=(f_.mp q).1;have key:∃n o,ns[i]?=some (some n)/\σ[i]?=some (some (.ref n))/\H n=some o/\NotFz o/\Rc K mg (Oc X ns) H o u/\s.mt=true/\(∀o' u',NotFz o'->Rc K mg (Oc X ns) (upd H n o') o' u'->SlR K mg (Oc X ns) N0 (some (some n)) (some (some (.ref n))) (upd H n o') (s.re u')):=by
  have y:=S.sl i s q;cases s with
  |ow v=>cases hm;obtain⟨n,o,q1,q2,q3,q4,q5,q6⟩:=y;exact⟨n,o,q1,q2,q4,q5,q6,rfl,λo' u' hf r=>⟨n,o',rfl,rfl,q3,ar,hf,r⟩⟩
  |mu v=>cases hm;obtain⟨n,o,q1,q2,q4,q5,q6⟩:=y;exact⟨n,o,q1,q2,q4,q5,q6,rfl,λo' u' hf r=>⟨n,o',rfl,rfl,ar,hf,r⟩⟩
  |_=>cases hm
 obtain⟨n,o,k1,k2,k3,k4,k5,k6,k7⟩:=key;refine⟨n,o,k2,k1,k3,k4,k5,λo' u' hf r=>?_⟩;have up:∀m,m≠n->upd H n o' m=H m:=λm z=>aq z;have mv:Mov (Oc X ns) (Oc X ns) H (upd H n o'):=⟨LeH.wr k3 k4,λm ob p q' _=>⟨p,by rw[up m λz=>p.2 (aB.mpr ⟨i,by rw[z];exact k1⟩)];exact q'⟩⟩;have dom:∀a,upd H n o' a=none->H a=none:=λa z=>by rw[up a λy=>by subst y;rw[ar] at z;cases z] at z;exact z
 refine⟨mv,⟨by rw[j_];exact S.l1,by rw[j_];exact S.l2,λa z=>S.lh a (dom a z),λm z=>?_,S.inj,S.nx,λj s' qj=>?_,S.bs.wr k3 k4⟩,?_⟩
 .by_cases y:m=n
  .subst y;exact⟨o',ar⟩
  .rw[up m y];exact S.xl m z
 .rcases aQ hi qj with ⟨rfl,rfl⟩ |⟨z,qj'⟩
  .rw[k1,k2];exact k7 o' u' hf (r.mono mv)
  .refine (S.sl j s' qj').mono mv λm ob qm qo _=>?_;rw[up m λy=>by subst y;exact z (S.inj j i m qm k1)];exact qo
 .refine⟨mv.le,dom,λm ob qm _ hM=>?_,λ_ _ q=>.inl q,λj s' qj hl=>?_,λj s' qj hl=>?_,λj v qj=>?_,λj v qj=>?_⟩
  .rw[up m λy=>by subst y;exact hM ⟨i,s,k1,q,k6⟩];exact qm
  .have z:j≠i:=λz=>by subst z;rw[q] at qj;cases qj;cases s <;> first |cases hl;done |cases k6;done
   rw[bc z];exact⟨qj,rfl⟩
  .rcases aQ hi qj with ⟨_,y⟩ |⟨z,qj'⟩
   .subst y;cases s <;> first |cases hl;done |cases k6;done
   .exact⟨qj',rfl⟩
  .rcases aQ hi qj with ⟨rfl,y⟩ |⟨z,qj'⟩
   .cases s with
    |mu w=>exact⟨w,q,rfl⟩
    |ow w=>cases y
    |_=>cases k6
   .exact⟨v,qj',rfl⟩
  .by_cases z:j=i
   .subst z;rw[q] at qj;cases qj;exact⟨u',bx hi,rfl⟩
   .exact⟨v,by rw[bc z];exact qj,rfl⟩
end
noncomputable def wSet (i:Nat) (G:ME3) (F:ME3) (w:Val->Val->Val->Option Val) (e:E3):SR3:=(F e).toS λt e1=>match (e1[i]?).bind Sl.mv with
 |none=>.stuck
 |some _=>(G e1).toS λt2 e2=>match rs e2 t2 with
  |none=>.stuck
  |some vi=>match bh e2 t.drop with
   |none=>.stuck
   |some (e3,v)=>match e3[i]? with
    |none=>.stuck
    |some s=>match s.mv with
     |none=>.stuck
     |some u=>match w u vi v with
      |some u'=>.nx (e3.set i (s.re u'))
      |none=>.stuck
noncomputable def dD:Val->Bool
 |.lst _=>true
 |_=>false
noncomputable def j9 (i:Nat) (m:Val->List Val->Option (Val×Val)) (vs:List Val) (e2:E3):R3 Tm:=match e2[i]? with
 |some s2=>match s2.mv with
  |some u=>match m u vs with
   |some (u',v)=>.ok (.val v) (e2.set i (s2.re u'))
   |none=>.stuck
  |none=>.stuck
 |none=>.stuck
noncomputable def gY (i:Nat) (m:Val->List Val->Option (Val×Val)) (A:MA3) (e:E3):R3 Tm:=match e[i]? with
 |some s=>if (s.mv.map dD)=some true then (A e).bind λts e1=>match dem e1 ts with
  |some (e2,vs)=>j9 i m vs e2
  |none=>.stuck else .stuck
 |none=>.stuck
noncomputable def zb (m:Val->List Val->Bv) (F:ME3) (A:MA3) (e:E3):R3 Tm:=(F e).bind λt e1=>if (rs e1 t).map dD=some true then (A e1).bind λts e2=>(match rs e2 t.drop,rss e2 ts with
 |some v,some vs=>if dD v=true then (m v vs).at e2 else .stuck
 |_,_=>.stuck) else .stuck
structure PSe where
 G:Val->Val->Val->Option Val
structure PMm where
 G:Val->List Val->Option (Val×Val)
structure PMv where
 G:Val->List Val->Bv
noncomputable def j0 (i:Nat) (w:PSe) (k a:PEx):PSt:=⟨15,wSet i k.G a.G w.G⟩
noncomputable def ib (i:Nat) (m:PMm) (a:PAs):PEx:=⟨18,gY i m.G a.G⟩
noncomputable def Ac (i:Nat) (m:PMm):PEx:=⟨19,gY i m.G mP⟩
noncomputable def ji (m:PMv) (a:PEx) (b:PAs):PEx:=⟨20,zb m.G a.G b.G⟩
section
variable(K:W.Frag)(mg:Cj)
def SetD(r:kz)(w:Val->Val->Val->Option Val):Prop:=∀P H n o u di vi d v u' Q,¬ P n->H n=some o->NotFz o->Rc K mg P H o u->ShR K mg P H di vi->Rd K mg P H d v->w u vi v=some u'->(∀o',NotFz o'->Rc K mg P H o' u'->Q (upd H n o'))->r (.ref n) di d H Q
def MmD(r:V->List V->Hp->VK->Prop)(m:Val->List Val->Option (Val×Val)):Prop:=∀P H n o u ds vs u' v Q,¬ P n->H n=some o->NotFz o->Rc K mg P H o u->Rds K mg P H ds vs->m u vs=some (u',v)->(∀o' y,NotFz o'->Rc K mg P H o' u'->Rd K mg P H y v->Q y (upd H n o'))->r (.ref n) ds H Q
def MtD(r:V->List V->Hp->VK->Prop)(m:Val->List Val->Bv):Prop:=∀P H d v ds vs Q,ShR K mg P H d v->dD v=true->ShRs K mg P H ds vs->BvP K mg P H Q (m v vs)->r d ds H Q
end
section
variable{K:W.Frag}{mg:Cj}{X:Cx}{ES:St->XK}{e o i:Expr}{es:List Expr}{p q:PEx}{A:PAs}{pos p1:Pos}
def pF{j:Nat}{e:E3}{s:Sl}{u:Val}(q:e[j]?=some s)(h:s.mv=some u):gc j e=.ok (.bor j) e:=by unfold gc;rw[q];cases s <;> first |rfl |cases h
def vx{w:PSe}{r:kz}(he:DE K mg X ES e p)(ho:DE K mg X ES o (af j))(hi:DE K mg X ES i q)(hs':si X r)(hd:SetD K mg r w.G)(hs:swapsWithSole [.Subscript o i p1] e pos.line X.env=pure false:=by rfl)(hw:swappedStores [.Subscript o i p1] e X.env=pure none:=by rfl)(h1:(assignEach [.Subscript o i p1] X.env).map (·.2)=[assign (.Subscript o i p1) X.env]:=by rfl)
 (ha:∀v,assign (.Subscript o i p1) X.env v=(do
  let ov <- holding [v] (eval o X.env)
  let iv <- holding [v,ov] (eval i X.env)
  standAt p1
  holding [v,ov,iv] (setItem ov iv v)
  release [v,ov,iv] []):=by intro _;rfl):DS K mg X ES (.Assign [.Subscript o i p1] e pos) (j0 j w q p):=
 ⟨PS.imp
  (qt he.ok (wR ho.ok hi.ok hs' ha) hs hw h1) λD σ H zz=>zz.el λY N0 ns e S p=>⟨Y,N0,λ_=>True,ns,e,S,λ_ _=>trivial,PS3.toS p S λt e1 ns1 H1 a1 S1 p1 x r1=>by
  try dsimp only at p1
  split at p1
  .exact p1.elim
  .rename_i u0 qm;obtain⟨s0,y1,y2⟩:=A5.mp qm;refine⟨Y,N0,λ_=>True,ns1,e1,S1,λ_ _=>trivial,?_⟩;show PG3 K mg Y N0 ns1 e1 σ H1 (ES σ) _ (gc j e1);rw[pF y1 y2];intro H2 d_ a2 S2 ov ro;refine⟨Y,N0,λ_=>True,d_,e1,S2,λ_ _=>trivial,PS3.toS (PS3.after p1 S (a1.trans S a2)) S2 λt2 e2 ns3 H3 a3 S3 p3 iv r3=>?_⟩;try dsimp only at p3
   split at p3
   .exact p3.elim
   .rename_i vi qi;split at p3
    .exact p3.elim
    .rename_i e3 v qd;obtain⟨ns4,S4,a4,r4⟩:=cX S3 (r1.drop (a2.trans S1 a3)) qd;split at p3
     .exact p3.elim
     .rename_i s q3;split at p3
      .exact p3.elim
      .rename_i u q4;split at p3
       .rename_i u' q5;obtain⟨n,ob,k1,k0,k2,k3,k4,k5⟩:=S4.write q3 q4;have ro':σ[j]?=some (some ov):=ro;rw[k1] at ro';cases ro';refine hd (Oc Y ns4) _ _ _ _ _ _ _ _ _ _ (λz=>z.2 (aB.mpr ⟨j,k0⟩)) k2 k3 k4 ((r3.sh S3 qi).mono a4.mov .refl) r4 q5 λo' f' rc'=>?_;obtain⟨_,S5,a5⟩:=k5 o' u' f' rc';exact p3 _ _ _ ((a3.trans S2 a4).trans S2 a5) S5
       .exact p3.elim⟩⟩
def sS{P:Addr->Prop}(r:ShR K mg P H d v)(q:dD v=true):tyV K "list" d H:=by
 cases v with
 |lst xs=>obtain⟨a,vs,rfl,h,_⟩:=r.lstL;exact .inl ⟨rfl,vs,h⟩
 |_=>cases q
def uZ{Y N0 L:Addr->Prop}{ns:Ns}{e2:E3}{σ:St}{H:Hp}{k:PMm}{r:V->List V->Hp->VK->Prop}{vs:List Val}{E:XK}{Q:VK}(hd:MmD K mg r k.G)(S:Sat K mg Y N0 ns e2 σ H)(ro:σ[j]?=some (some ov))(rx:Rds K mg (Oc Y ns) H xs vs)(p:PG3 K mg Y N0 ns e2 σ H E (KE K mg Y N0 L σ Q) (j9 j k.G vs e2)):r ov xs H Q:=by
 unfold j9 at p;split at p
 .rename_i s2 q2;split at p
  .rename_i u q3;split at p
   .rename_i u' v q4;obtain⟨n,ob,k1,k0,k2,k3,k4,k5⟩:=S.write q2 q3;rw[k1] at ro;cases ro;refine hd (Oc Y ns) _ _ _ _ _ _ _ _ _ (λz=>z.2 (aB.mpr ⟨j,k0⟩)) k2 k3 k4 rx q4 λo' y f' rc' ry=>?_;obtain⟨mv,S4,a4⟩:=k5 o' u' f' rc';exact p _ _ a4 S4 _ (ry.mono mv)
   .exact p.elim
  .exact p.elim
 .exact p.elim
theorem vE{Y N0 L:Addr->Prop}{ns:Ns}{e:E3}{σ:St}{H:Hp}{m:Val->List Val->Option (Val×Val)}{A:MA3}{E:XK}{Q:VK}{R:V->Hp->Prop}(S:Sat K mg Y N0 ns e σ H)(p:PG3 K mg Y N0 ns e σ H E (KE K mg Y N0 L σ Q) (gY j m A e))
 (i:∀ov ns1 H1,Stp ns e H ns1 e H1->Sat K mg Y N0 ns1 e σ H1->σ[j]?=some (some ov)->tyV K "list" ov H1->PG3 K mg Y N0 ns1 e σ H1 E (KE K mg Y N0 L σ Q) ((A e).bind λts e1=>match dem e1 ts with
 |some (e2,vs)=>j9 j m vs e2
 |none=>.stuck)->R ov H1):PG3 K mg Y N0 ns e σ H E (KE K mg Y N0 L σ R) (gc j e):=by
 unfold gY at p;split at p
 .rename_i s0 q0;split at p
  .rename_i hz;obtain⟨u0,z1,z2⟩:=v_.mp hz;rw[pF q0 z1];exact λH1 ns1 a1 S1 ov ro=>i ov ns1 H1 a1 S1 ro (sS (v:=u0) (S1.bor ro (by rw[q0];cases s0 <;> first |exact z1 |cases z1)) z2) (p.after S a1)
  .exact p.elim
 .exact p.elim
def gn{j:Nat}{name:Str}{id:String}{apos cpos:Pos}{r:V->List V->Hp->VK->Prop}{k:PMm}(hK:X.K=K)(slot:Slot "list" name id)(hty:typeOf (.builtin id)=pure (.type "method_descriptor"))(hm:MtM X id r)(hd:MmD K mg r k.G)(ho:DE K mg X ES o (af j))(ha:DA K mg X ES (e::es) A)(hbase:attributeBase o name X.env (eval o X.env)=eval o X.env:=by rfl)(hfew:((backTo cpos (starEach (e::es) X.env)).all (λx=>!x.1)&&(backToKw cpos (keywordEach [] X.env)).all (λx=>x.1.isSome)&&decide ((e::es).length+([]:List Keyword).length+(if ([]:List Keyword).isEmpty then 0 else 1)<30))=true:=by rfl)(hline:(apos.endLine==cpos.line)=true:=by rfl)(hs:starEach (e::es) X.env=(false,eval e X.env)::starEach es X.env:=by rfl)(c_:(backTo cpos (starEach es X.env)).any (·.1)=false:=by rfl):DE K mg X ES (.Call (.Attribute o name apos) (e::es) [] cpos) (ib j k A):=by
 subst hK;exact
  ⟨PE.imp (mY Bi slot hty hm ho.ok ha.ok hbase hfew hline hs c_) λσ H Q zz=>zz.el λY N0 L ns e S hl p=>
  ⟨Y,
   N0,L,ns,e,S,hl,vE S p λov ns1 H1 a1 S1 ro ty p1=>⟨ty,Y,N0,ns1,e,S1,PG3.imp p1 S1 λts e1 d_ H2 a2 S2 p2 xs r2=>by
   try dsimp only at p2
   split at p2
   .rename_i e2 vs q1;obtain⟨ns3,S3,a3,r3⟩:=fb S2 r2 q1;exact uZ hd S3 ro r3 (p2.after S2 a3)
   .exact p2.elim⟩⟩⟩
def vP{name:Str}{id:String}{apos cpos:Pos}{r:V->List V->Hp->VK->Prop}{k:PMv}(hK:X.K=K)(slot:Slot "list" name id)(hty:typeOf (.builtin id)=pure (.type "method_descriptor"))(hm:MtM X id r)(hd:MtD K mg r k.G)(ho:DE K mg X ES o p)(ha:DA K mg X ES (e::es) A)(hbase:attributeBase o name X.env (eval o X.env)=eval o X.env:=by rfl)(hfew:((backTo cpos (starEach (e::es) X.env)).all (λx=>!x.1)&&(backToKw cpos (keywordEach [] X.env)).all (λx=>x.1.isSome)&&decide ((e::es).length+([]:List Keyword).length+(if ([]:List Keyword).isEmpty then 0 else 1)<30))=true:=by rfl)(hline:(apos.endLine==cpos.line)=true:=by rfl)(hs:starEach (e::es) X.env=(false,eval e X.env)::starEach es X.env:=by rfl)(c_:(backTo cpos (starEach es X.env)).any (·.1)=false:=by rfl):DE K mg X ES (.Call (.Attribute o name apos) (e::es) [] cpos) (ji k p A):=by
 subst hK;exact
  ⟨PE.imp (mY Bi slot hty hm ho.ok ha.ok hbase hfew hline hs c_) λσ H Q zz=>zz.el λY N0 L ns e S hl p=>
  ⟨Y,
   N0,L,ns,e,S,hl,PG3.imp p S λt e1 ns1 H1 a1 S1 p1 x r1=>by
   try dsimp only at p1
   split at p1
   .rename_i hq;obtain⟨v0,z1,z2⟩:=v_.mp hq;refine⟨sS (r1.sh S1 z1) z2,Y,N0,ns1,e1,S1,PG3.imp p1 S1 λts e2 d_ H2 a2 S2 p2 xs r2=>?_⟩;try dsimp only at p2
    split at p2
    .rename_i v vs q1 q2;split at p2
     .rename_i hv;exact hd _ _ _ _ _ _ _ ((r1.drop a2).sh S2 q1) hv (r2.sh S2 q2) (p2.bv S2 λa z=>hl a (a1.dom a (a2.dom a z)))
     .exact p2.elim
    .exact p2.elim
   .exact p1.elim⟩⟩
end
noncomputable def aG:Sl->Sl
 |.ow v=>.lo v
 |.mu v=>.lm v
 |s=>s
noncomputable def dS:Sl->Sl
 |.lo v=>.ow v
 |.lm v=>.mu v
 |s=>s
noncomputable def lock (e:E3) (k:Nat):E3:=match e[k]? with
 |some s=>e.set k (aG s)
 |none=>e
noncomputable def unlock (e:E3) (k:Nat):E3:=match e[k]? with
 |some s=>e.set k (dS s)
 |none=>e
noncomputable def lockO (e:E3):Option Nat->E3
 |some k=>lock e k
 |none=>e
noncomputable def bM (e:E3):Option Nat->E3
 |some k=>unlock e k
 |none=>e
section
variable{K:W.Frag}{mg:Cj}{X N0:Addr->Prop}{ns ns':Ns}{e e':E3}{σ:St}{H H':Hp}
def SlR.lock(r:SlR K mg P N0 n d H s):SlR K mg P N0 n d H (aG s):=by cases s <;> exact r
def SlR.unlock(r:SlR K mg P N0 n d H s):SlR K mg P N0 n d H (dS s):=by cases s <;> exact r
def Sat.setS(S:Sat K mg X N0 ns e σ H)(q:e[k]?=some s)(f:Sl->Sl)(hf:SlR K mg (Oc X ns) N0 (ns[k]?) (σ[k]?) H s->SlR K mg (Oc X ns) N0 (ns[k]?) (σ[k]?) H (f s)):Sat K mg X N0 ns (e.set k (f s)) σ H:=by
 have hi:=(f_.mp q).1;refine⟨by rw[j_];exact S.l1,by rw[j_];exact S.l2,S.lh,S.xl,S.inj,S.nx,λj s' qj=>?_,S.bs⟩;rcases aQ hi qj with ⟨rfl,rfl⟩ |⟨z,qj'⟩
 .exact hf (S.sl j s q)
 .exact S.sl j s' qj'
def Sat.lock(S:Sat K mg X N0 ns e σ H)(k:Nat):Sat K mg X N0 ns (lock e k) σ H:=by
 unfold L3.lock;split
 .rename_i s q;exact S.setS q aG SlR.lock
 .exact S
def Sat.unlock(S:Sat K mg X N0 ns e σ H)(k:Nat):Sat K mg X N0 ns (unlock e k) σ H:=by
 unfold L3.unlock;split
 .rename_i s q;exact S.setS q dS SlR.unlock
 .exact S
def Sat.lockO(S:Sat K mg X N0 ns e σ H)(k:Option Nat):Sat K mg X N0 ns (lockO e k) σ H:=by
 cases k with
 |none=>exact S
 |some k=>exact S.lock k
def d5(z:j≠k):(lock e k)[j]?=e[j]?:=by
 unfold lock;split
 .rw[bc z]
 .rfl
def cG(z:j≠k):(unlock e k)[j]?=e[j]?:=by
 unfold unlock;split
 .rw[bc z]
 .rfl
def hZ(q:e[k]?=some s):(lock e k)[k]?=some (aG s):=by unfold lock;rw[q];exact bx (f_.mp q).1
def dw(q:e[k]?=some s):(unlock e k)[k]?=some (dS s):=by unfold unlock;rw[q];exact bx (f_.mp q).1
def Stp.unlock(q:e[k]?=some s)(hs:s.mt=true)(a:Stp ns (L3.lock e k) H ns' e' H'):Stp ns e H ns' (L3.unlock e' k) H':=by
 have hl:(aG s).lk=true:=by cases s <;> first |rfl |cases hs
 have hu:dS (aG s)=s:=by cases s <;> first |rfl |cases hs
 obtain⟨qk,nk⟩:=a.lk k _ (hZ q) hl;refine⟨a.le,a.dom,λm o qm ht hM=>a.keep m o qm ht λ⟨j,s',z1,z2,z3⟩=>hM ?_,a.nw,λj s' qj hj=>?_,λj s' qj hj=>?_,λj v qj=>?_,λj v qj=>?_⟩
 .by_cases z:j=k
  .subst z;exact⟨j,s,z1,q,hs⟩
  .rw[d5 z] at z2;exact⟨j,s',z1,z2,z3⟩
 .have z:j≠k:=λz=>by subst z;rw[q] at qj;cases qj;cases s <;> first |cases hs;done |cases hj;done
  rw[cG z];exact a.lk j s' (by rw[d5 z];exact qj) hj
 .have z:j≠k:=λz=>by subst z;rw[dw qk,hu] at qj;cases qj;cases s <;> first |cases hs;done |cases hj;done
  rw[cG z] at qj;obtain⟨y1,y2⟩:=a.lk' j s' qj hj;rw[d5 z] at y1;exact⟨y1,y2⟩
 .by_cases z:j=k
  .subst z;rw[dw qk,hu] at qj;cases qj;exact⟨v,q,nk⟩
  .rw[cG z] at qj;obtain⟨u,y1,y2⟩:=a.mu j v qj;rw[d5 z] at y1;exact⟨u,y1,y2⟩
 .by_cases z:j=k
  .subst z;rw[q] at qj;cases qj;exact⟨v,by rw[dw qk,hu],nk⟩
  .obtain⟨u,y1,y2⟩:=a.mu' j v (by rw[d5 z];exact qj);exact⟨u,by rw[cG z];exact y1,y2⟩
end
abbrev MI3:=E3->R3 (List Val×Option Nat)
noncomputable def cE:Val->Option (List Val)
 |.tup xs=>some xs
 |.lst xs=>some xs
 |_=>none
noncomputable def bU (t:Tm) (e:E3):Option (List Val×Option Nat):=match t with
 |.val v=>(cE v).map λxs=>(xs,none)
 |.new v=>(cE v).map λxs=>(xs,none)
 |.bor k=>match e[k]? with
  |some (.sh v)=>(cE v).map λxs=>(xs,none)
  |some (.ow (.lst xs))=>some (xs,some k)
  |some (.mu (.lst xs))=>some (xs,some k)
  |_=>none
noncomputable def zj (F:ME3) (e:E3):R3 (List Val×Option Nat):=(F e).bind λt e1=>match bU t e1 with
 |some p=>.ok p e1
 |none=>.stuck
noncomputable def sE:Nat->List Val->List Val
 |_,[]=>[]
 |i,d::ds=>.tup [.int (i:Nat),d]::sE (i+1) ds
noncomputable def y9 (A:MA3) (e:E3):R3 (List Val×Option Nat):=(A e).bind λts e1=>match ts with
 | [t]=>(match bU t e1 with
  |some p=>.ok (sE 0 p.1,p.2) e1
  |none=>.stuck)
 |_=>.stuck
noncomputable def Au (A:MA3) (e:E3):R3 (List Val×Option Nat):=(A e).bind λts e1=>match ts with
 | [t,u]=>(match bU t e1,bU u e1 with
  |some (xs,k),some (ys,none)=>.ok (List.zipWith (λx y=>.tup [x,y]) xs ys,k) e1
  |_,_=>.stuck)
 |_=>.stuck
noncomputable def j5 (lo:Int) (k:Nat):List Val:=(List.range k).map λi=>Val.int (lo+(i:Nat))
structure RgB(j:Int):Prop where
 lo:-(2^62)<=j
 hi:j<2^62
def cL:List Val->Option (List Val)
 | [.int j]=>@ite _ (RgB j) (Classical.propDecidable _) (some (j5 0 j.toNat)) none
 |_=>none
def jG:List Val->Option (List Val)
 | [.int i,.int j]=>@ite _ (RgB i/\RgB j) (Classical.propDecidable _) (some (j5 i (j-i).toNat)) none
 |_=>none
noncomputable def viRg (f:List Val->Option (List Val)) (A:MA3) (e:E3):R3 (List Val×Option Nat):=(A e).bind λts e1=>match (rss e1 ts).bind f with
 |some xs=>.ok (xs,none) e1
 |none=>.stuck
noncomputable def SR3.loop (r:SR3) (f:E3->SR3):SR3:=match r with
 |.nx e=>f e
 |.ct e=>f e
 |.bk e=>.nx e
 |.rt d e=>.rt d e
 |.exc c e=>.exc c e
 |.stuck=>.stuck
noncomputable def bW (g:MG3) (B:MS3):List Val->MS3
 | [],e=>.nx e
 |v::vs,e=>match g v e with
  |some e1=>(B e1).loop (bW g B vs)
  |none=>.stuck
noncomputable def SR3.unl (k:Option Nat) (r:SR3):SR3:=match r with
 |.nx e=>.nx (bM e k)
 |.ct e=>.ct (bM e k)
 |.bk e=>.bk (bM e k)
 |.rt d e=>.rt d (bM e k)
 |.exc c e=>.exc c (bM e k)
 |.stuck=>.stuck
noncomputable def wFor (I:MI3) (g:MG3) (B:MS3) (e:E3):SR3:=(I e).toS λp e1=>(bW g B p.1 (lockO e1 p.2)).unl p.2
structure PIt where
 t:Nat
 G:MI3
noncomputable def bS (a:PEx):PIt:=⟨1,zj a.G⟩
def du(a:PAs):PIt:=⟨2,viRg cL a.G⟩
def jm(a:PAs):PIt:=⟨3,viRg jG a.G⟩
noncomputable def z9 (a:PAs):PIt:=⟨4,y9 a.G⟩
noncomputable def yY (a:PAs):PIt:=⟨5,Au a.G⟩
noncomputable def cw (i:PIt) (g:PGt) (b:PSt):PSt:=⟨16,wFor i.G g.G b.G⟩
section
variable(K:W.Frag)(mg:Cj)
structure Kp(X:Addr->Prop)(ns:Ns)(k:Option Nat)(H0:Hp)(P:Addr->Prop)(H:Hp):Prop where
 mov:Mov (Oc X ns) P H0 H
 lk:∀(j:Nat) (a:Addr) (o:HO),k=some j->ns[j]?=some (some a)->H0 a=some o->ik o->H a=some o
def Kp.refl:Kp X ns k H (Oc X ns) H:=⟨.of λ_ z=>z,λ_ _ _ _ _ q _=>q⟩
def ItS(X:Addr->Prop)(ns:Ns)(k:Option Nat)(H0:Hp)(J:It)(us:List Val):Prop:=∀P H,Kp X ns k H0 P H->(∀(i:Nat) v,us[i]?=some v->J.go i H/\∀x H',J.yld i H x H'->Gr H H'/\Rd K mg P H' x v)/\J.stop us.length H
def eS(X:Addr->Prop)(ns:Ns)(k:Option Nat)(H0:Hp)(b:Bool)(a:Addr)(us:List Val):Prop:=∀P H,Kp X ns k H0 P H->∃vs,SqB K b H a vs/\Rds K mg P H vs us
def rdI(ES:St->XK)(I:MI3):TI:=λσ H R=>∃X N0 ns e,Sat K mg X N0 ns e σ H/\PG3 K mg X N0 ns e σ H (ES σ) (λp e' ns' H'=>∀J,ItS K mg X ns' p.2 H' J p.1->(∀k,p.2=some k->∃s,e'[k]?=some s/\s.mt=true)->R J H') (I e)
def rdI.el{K:W.Frag}{mg:Cj}{I:MI3}{R:It->Hp->Prop}(h:rdI K mg ES I σ H R){Z:Prop}(k:∀X N0 ns e,Sat K mg X N0 ns e σ H->PG3 K mg X N0 ns e σ H (ES σ) (λp e' ns' H'=>∀J,ItS K mg X ns' p.2 H' J p.1->(∀k,p.2=some k->∃s,e'[k]?=some s/\s.mt=true)->R J H') (I e)->Z):Z:=by obtain⟨X,N0,ns,e,S,p⟩:=h;exact k X N0 ns e S p
structure DI(X:Cx)(ES:St->XK)(tg iter:Expr)(F:PIt):Prop where
 ok:PI X tg iter (rdI K mg ES F.G)
end
noncomputable def ItA (K:W.Frag) (b:Bool) (a:Addr):It:=match b with
 |true=>Itl K a
 |false=>Itt K a
section
variable{K:W.Frag}{mg:Cj}{X N0 L:Addr->Prop}{ns ns1 ns':Ns}{e e1 e':E3}{σ:St}{H H1 H':Hp}{De:Ends}{ES:St->XK}
def vZ{x:V}{v:Val}(r:Rd K mg (Oc X ns) H x v)(q:cE v=some us):∃b a,x=.ref a/\∀k,eS K mg X ns k H b a us:=by
 cases v with
 |tup ys=>cases q;obtain⟨a,vs,rfl,h,rr⟩:=ShR.tup (.inl r);exact⟨false,a,rfl,λ_ P H' st=>⟨vs,st.mov.le.sqT h,rr.mono st.mov⟩⟩
 |
  lst ys=>
  cases q;cases r with
  |cell p eo rc=>cases rc with |lst rr=>exact⟨true,_,rfl,λ_ P H' st=>⟨_,SqL.of (st.mov.cl _ _ p eo (λ_ z=>nomatch z)).2,rr.mono st.mov⟩⟩
 |_=>cases q
def xk{x:V}{t:Tm}{p:List Val×Option Nat}(S:Sat K mg X N0 ns e σ H)(r:relE K mg X N0 L σ ns e H x t)(q:bU t e=some p):∃b a,x=.ref a/\eS K mg X ns p.2 H b a p.1/\(p.2=none->∀k,eS K mg X ns k H b a p.1)/\∀k:Nat,p.2=some k->∃s,e[k]?=some s/\s.mt=true:=by
 have fv:∀{v us},Rd K mg (Oc X ns) H x v->cE v=some us->∃b a,x=.ref a/\eS K mg X ns none H b a us/\((none:Option Nat)=none->∀k,eS K mg X ns k H b a us)/\∀k:Nat,none=some k->∃s,e[k]?=some s/\s.mt=true:=λr q=>by obtain⟨b,a,h1,h2⟩:=vZ r q;exact⟨b,a,h1,h2 _,λ_=>h2,λ_ z=>nomatch z⟩
 cases t with
 |val v=>obtain⟨xs,q1,rfl⟩:=v_.mp q;exact fv r q1
 |new v=>obtain⟨xs,q1,rfl⟩:=v_.mp q;exact fv r.new q1
 |
  bor k=>
  have r':σ[k]?=some (some x):=r;have own:∀{s xs},e[k]?=some s->s.mv=some (.lst xs)->∃b a,x=.ref a/\eS K mg X ns (some k) H b a xs/\(some k=none->∀k,eS K mg X ns k H b a xs)/\∀j:Nat,some k=some j->∃s,e[j]?=some s/\s.mt=true:=λ{s xs} q qm=>by
   obtain⟨n,o,k1,k0,k2,k3,k4,_⟩:=S.write q qm;rw[r'] at k1;cases k1;have hm:s.mt=true:=by cases s <;> first |rfl |cases qm
   refine⟨true,n,rfl,λP H' st=>?_,λz=>(nomatch z),λj z=>by cases z;exact⟨s,q,hm⟩⟩;cases k4 with
   |lst rr=>exact⟨_,SqL.of (st.lk k n _ rfl k0 k2 λ_ z=>nomatch z),rr.mono st.mov⟩
  unfold bU at q;dsimp only at q;split at q
  .rename_i v qs;obtain⟨_,x',e2,r2⟩:=S.sl k _ qs;rw[r'] at e2;cases e2;obtain⟨xs,q1,rfl⟩:=v_.mp q;exact fv r2 q1
  .rename_i xs qs;cases q;exact own qs rfl
  .rename_i xs qs;cases q;exact own qs rfl
  .cases q
def ItS.seq(s:eS K mg X ns k H b a us):ItS K mg X ns k H (ItA K b a) us:=λP H' st=>by
 obtain⟨vs,h,r⟩:=s P H' st;cases b with
 |true=>refine⟨λi v q=>?_,vs,h,by rw[r.len];exact r_ _⟩;obtain⟨x,ex,rx⟩:=r.get q;exact⟨⟨vs,x,h,ex⟩,λy H2 ⟨e1,z⟩=>by subst e1;have:=(z vs h).symm.trans ex;cases this;exact⟨.refl,rx⟩⟩
 |false=>refine⟨λi v q=>?_,vs,h,by rw[r.len];exact r_ _⟩;obtain⟨x,ex,rx⟩:=r.get q;exact⟨⟨vs,x,h,ex⟩,λy H2 ⟨e1,z⟩=>by subst e1;have:=(z vs h).symm.trans ex;cases this;exact⟨.refl,rx⟩⟩
def ItS.nums{f:Nat->Int}{k:Nat}{J:It}(h1:∀i H,i<k->J.go i H/\∀x H',J.yld i H x H'->H'=H/\x=V.int (f i))(h2:∀H,J.stop k H):ItS K mg X ns kk H J ((List.range k).map λi=>Val.int (f i)):=λP H' st=>by refine⟨λi v q=>?_,by rw[e_,BY];exact h2 _⟩;rw[x_] at q;obtain⟨j,hj,rfl⟩:=v_.mp q;obtain⟨hj1,hj2⟩:=f_.mp hj;rw[List.getElem_range] at hj2;subst hj2;rw[BY] at hj1;obtain⟨g,y⟩:=h1 i H' hj1;exact⟨g,λx H2 z=>by obtain⟨rfl,rfl⟩:=y x H2 z;exact⟨.refl,.int _⟩⟩
def ItS.rng(lo:Int)(k:Nat):ItS K mg X ns kk H (Itr lo k) (j5 lo k):=ItS.nums (λi H hi=>⟨hi,λx H' z=>z⟩) λH=>r_ _
def tY{k:Option Nat}(S:Sat K mg X N0 ns e σ H)(hk:∀j:Nat,k=some j->∃s,e[j]?=some s/\s.mt=true)(a:Stp ns (lockO e k) H ns' e' H'):Kp X ns k H (Oc X ns') H':=⟨a.mov,λj n o hj hn q ht=>by
 subst hj;refine a.keep n o q ht λ⟨i,s,z1,z2,z3⟩=>?_
 have:=S.inj i j n z1 hn
 subst this;obtain⟨s',y1,y2⟩:=hk i rfl;have:(lockO e (some i))[i]?=some (aG s'):=hZ y1;rw[this] at z2;cases z2;cases s' <;> first |cases y2;done |cases z3;done⟩
def PS3.unl{k:Option Nat}{r:SR3}(hk:∀j:Nat,k=some j->∃s,e[j]?=some s/\s.mt=true)(p:PS3 K mg X N0 ns e H De ES (r.unl k)):PS3 K mg X N0 ns (lockO e k) H De ES r:=by
 cases k with
 |none=>cases r <;> exact p
 |
  some j=>
  obtain⟨s,y1,y2⟩:=hk j rfl;cases r with
  |stuck=>exact p
  |nx e'=>exact λH' σ' ns' a S=>p H' σ' ns' (a.unlock y1 y2) (S.unlock j)
  |bk e'=>exact λH' σ' ns' a S=>p H' σ' ns' (a.unlock y1 y2) (S.unlock j)
  |ct e'=>exact λH' σ' ns' a S=>p H' σ' ns' (a.unlock y1 y2) (S.unlock j)
  |exc c e'=>exact λH' σ' ns' C a S=>p H' σ' ns' C (a.unlock y1 y2) (S.unlock j)
  |
   rt r e'=>
   refine λH' σ' ns' x a q2=>p H' σ' ns' x (a.unlock y1 y2) ?_;cases r with
   |val v=>exact⟨q2.1.unlock j,q2.2⟩
   |new v=>obtain⟨n,o,z1,z2,z3,z4,z5,z6,z7⟩:=q2;exact⟨n,o,z1,z2,z3,z4,z5,z6.unlock j,z7⟩
   |
    par i=>
    obtain⟨z1,z2,v,z3⟩:=q2;refine⟨z1.unlock j,z2,v,?_⟩;by_cases z:i=j
    .subst z;exact dw z3
    .exact (cG z).trans z3
   |pr v u=>obtain⟨p,d1,n,o,z1,z2,z3,z4,z5,z6,z7,z8⟩:=q2;exact⟨p,d1,n,o,z1,z2,z3,z4,z5,z6,z7.unlock j,z8⟩
def PS3.loop{ns0:Ns}{e0:E3}{σ0:St}{H0:Hp}{r:SR3}{f:E3->SR3}{N:St->Hp->Prop}(p:PS3 K mg X N0 ns0 e0 H0 De ES (r.loop f))(S0:Sat K mg X N0 ns0 e0 σ0 H0)(a0:Stp ns0 e0 H0 ns e H)
 (i:∀e1 ns1 σ1 H1,Stp ns0 e0 H0 ns1 e1 H1->Sat K mg X N0 ns1 e1 σ1 H1->PS3 K mg X N0 ns0 e0 H0 De ES (f e1)->N σ1 H1):PS3 K mg X N0 ns e H { De with nx:=N,ct:=N,bk:=De.nx } ES r:=by
 cases r with
 |nx e'=>exact λH' σ' ns' b S'=>i e' ns' σ' H' (a0.trans S0 b) S' p
 |ct e'=>exact λH' σ' ns' b S'=>i e' ns' σ' H' (a0.trans S0 b) S' p
 |bk e'=>exact λH' σ' ns' b S'=>p H' σ' ns' (a0.trans S0 b) S'
 |exc c e'=>exact λH' σ' ns' C b S'=>p H' σ' ns' C (a0.trans S0 b) S'
 |rt r e'=>exact λH' σ' ns' x b S'=>p H' σ' ns' x (a0.trans S0 b) S'
 |stuck=>exact p
end
section
variable{K:W.Frag}{mg:Cj}{X:Cx}{ES:St->XK}{e a b tg iter:Expr}{sts:List Stmt}{p:PEx}{A:PAs}{t:PTs}{x:PSt}{g:PGt}{I:PIt}{pos p0:Pos}
def wy(hK:X.K=K)(he:DE K mg X ES e p):DI K mg X ES tg e (bS p):=by
 subst hK;exact⟨PI.imp (qq he.ok) λσ H R zz=>rdI.el zz λY N0 ns e S q=>⟨Y,N0,λ_=>True,ns,e,S,λ_ _=>trivial,PG3.imp q S λt e1 ns1 H1 a1 S1 p1 x r1=>by
  try dsimp only at p1
  split at p1
  .rename_i w z;obtain⟨b,a,rfl,s,_,hk⟩:=xk S1 r1 z;have k:=p1.ret S1 _ (ItS.seq s) hk;obtain⟨vs,hv,_⟩:=s _ _ .refl;cases b with
   |true=>exact .inl ⟨a,rfl,⟨vs,hv⟩,k⟩
   |false=>exact .inr ⟨a,rfl,⟨vs,hv⟩,k⟩
  .exact p1.elim⟩⟩
def gH{P:Addr->Prop}(r:ShRs K mg P H xs [v]):∃x,xs=[x]/\ShR K mg P H x v:=by cases r with |cons r rr=>cases rr;exact⟨_,rfl,r⟩
def nA{P:Addr->Prop}(r:ShRs K mg P H xs [v,u]):∃x y,xs=[x,y]/\ShR K mg P H x v/\ShR K mg P H y u:=by cases r with |cons r rr=>cases rr with |cons r' rr=>cases rr;exact⟨_,_,rfl,r,r'⟩
def oV(hg:Gl X "range")(hm:mg "range"=none)(ha:DA K mg X ES [a] A)(hk:X.mg=mg:=by rfl)(hs:starEach [a] X.env=[(false,eval a X.env)]:=by rfl):DI K mg X ES tg (.Call (.Name "range" p0) [a] [] pos) (du A):=by
 subst hk;exact
  ⟨PI.imp (pV hg hm ha.ok hs) λσ H R zz=>rdI.el zz λY N0 ns e S q=>⟨Y,N0,ns,e,S,PG3.imp q S λts e1 ns1 H1 a1 S1 p1 xs r1=>by
  try dsimp only at p1
  split at p1
  .rename_i us z;obtain⟨vs,z1,z2⟩:=A5.mp z;have rr:=r1.sh S1 z1;unfold cL at z2;split at z2
   .split at z2
    .rename_i hb;cases z2;obtain⟨x,rfl,r⟩:=gH rr;obtain rfl:=r.int;exact⟨_,rfl,hb.lo,hb.hi,p1.ret S1 _ (ItS.rng _ _) λ_ z=>nomatch z⟩
    .cases z2
   .cases z2
  .exact p1.elim⟩⟩
def qw(hg:Gl X "range")(hm:mg "range"=none)(ha:DA K mg X ES [a,b] A)(hk:X.mg=mg:=by rfl)(hs:starEach [a,b] X.env=[(false,eval a X.env),(false,eval b X.env)]:=by rfl)(hs2:starEach [b] X.env=[(false,eval b X.env)]:=by rfl):DI K mg X ES tg (.Call (.Name "range" p0) [a,b] [] pos) (jm A):=by
 subst hk;exact
  ⟨PI.imp (oG hg hm ha.ok hs hs2) λσ H R zz=>rdI.el zz λY N0 ns e S q=>⟨Y,N0,ns,e,S,PG3.imp q S λts e1 ns1 H1 a1 S1 p1 xs r1=>by
  try dsimp only at p1
  split at p1
  .rename_i us z;obtain⟨vs,z1,z2⟩:=A5.mp z;have rr:=r1.sh S1 z1;unfold jG at z2;split at z2
   .split at z2
    .rename_i hb;cases z2;obtain⟨x,y,rfl,r,r'⟩:=nA rr;obtain rfl:=r.int;obtain rfl:=r'.int;exact⟨_,_,rfl,⟨hb.1.lo,hb.1.hi,hb.2.lo,hb.2.hi⟩,p1.ret S1 _ (ItS.rng _ _) λ_ z=>nomatch z⟩
    .cases z2
   .cases z2
  .exact p1.elim⟩⟩
def cc(hp:PassesOwn (model X.prog X.w) X.A X.env X.xe)(hc:X.calm=true)(hi:DI K mg X ES tg iter I)(hg:DG K mg X tg g)(hb:DSs K mg X ES sts x)(hs:∀x,foldedSetIterable iter X.env x=pure x:=by intro _;rfl):DS K mg X ES (.For tg iter sts [] pos) (cw I g x):=
 ⟨PS.imp (nW hp hc hi.ok hg.ok hb.ok hs) λD σ H zz=>zz.el λY N0 ns e S p=>⟨Y,N0,ns,e,S,PS3.toS p S λw e1 ns1 H1 a1 S1 p1 J it hk=>by
  have p2:=PS3.unl hk (PS3.after p1 S a1);have S2:=S1.lockO w.2;refine⟨λi m σ' H'=>m=w.1.length-i/\i<=w.1.length/\∃ns' e',Stp ns1 (lockO e1 w.2) H1 ns' e' H'/\Sat K mg Y N0 ns' e' σ' H'/\PS3 K mg Y N0 ns1 (lockO e1 w.2) H1 D ES (bW g.G x.G (w.1.drop i) e'),⟨_,rfl,A3 _,ns1,_,.refl,S2,p2⟩,?_⟩;rintro i m σ' H' ⟨rfl,hi,ns',e',a',S',p'⟩;by_cases hl:i=w.1.length
  .subst hl;rw[List.drop_length] at p';exact .inl ⟨(it _ _ (tY S1 hk a')).2,p' H' σ' ns' a' S'⟩
  .have hl':i<w.1.length:=by omega
   rw[List.drop_eq_getElem_cons hl'] at p';unfold bW at p';obtain⟨go,yl⟩:=(it _ _ (tY S1 hk a')).1 i _ (o_ hl');split at p'
   .rename_i e2 q;refine .inr ⟨go,λσ2 H2=>i+1<=w.1.length/\∃ns' e',Stp ns1 (lockO e1 w.2) H1 ns' e' H2/\Sat K mg Y N0 ns' e' σ2 H2/\PS3 K mg Y N0 ns1 (lockO e1 w.2) H1 D ES (bW g.G x.G (w.1.drop (i+1)) e'),λσ2 H2 n=>⟨_,by omega,rfl,n⟩,λv H2 y=>?_⟩;obtain⟨gr,r⟩:=yl v H2 y;have a2:=a'.trans S2 (.gr gr);exact⟨Y,N0,ns',e',_,e2,S'.gr gr,r,q,λσ3 ns3 a3 S3=>⟨Y,N0,ns3,e2,S3,PS3.loop p' S2 (a2.trans S2 a3) λe4 ns4 σ4 H4 a4 S4 p4=>⟨hl',ns4,e4,a4,S4,p4⟩⟩⟩
   .exact p'.elim⟩⟩
end
noncomputable def cz (o:Option Nat) (s:Sl) (e:E3):E3:=match o,s with
 |some i,.mu v=>(match e[i]? with
  |some t=>e.set i (t.re v)
  |none=>e)
 |_,_=>e
noncomputable def aC:List (Option Nat)->E3->E3->E3
 |o::sub,s::inner,e=>aC sub inner (cz o s e)
 |_,_,e=>e
def mj(hn:∀v,o=some i->s=.mu v->False):(cz o s e)[i]?=e[i]?:=by
 unfold cz;split
 .rename_i i' v;split
  .rename_i t q;by_cases z:i=i'
   .subst z;exact (hn v rfl rfl).elim
   .rw[bc z]
  .rfl
 .rfl
theorem ia:∀{sub:Cn}{e2 e:E3}{i:Nat},(∀(j:Nat) v,sub[j]?=some (some i)->e2[j]?=some (.mu v)->False)->(aC sub e2 e)[i]?=e[i]?
 | [],_,_,_,_=>rfl
 |_::_,[],_,_,_=>rfl
 |
  o::sub,s::e2,e,i,hn=>by
  show (aC sub e2 (cz o s e))[i]?=_;rw[ia (λj v q1 q2=>hn (j+1) v (by simpa using q1) (by simpa using q2))];exact mj λv z1 z2=>hn 0 v (by rw[z1];rfl) (by rw[z2];rfl)
theorem lF:∀{sub:Cn}{e2 e:E3}{i j:Nat}{v:Val},(∀(j k:Nat) i,sub[j]?=some (some i)->sub[k]?=some (some i)->j=k)->sub[j]?=some (some i)->e2[j]?=some (.mu v)->(aC sub e2 e)[i]?=(e[i]?).map (Sl.re · v)
 | [],_,_,_,j,_,_,q,_=>by simp at q
 |_::_,[],_,_,j,_,_,_,q=>by simp at q
 |
  o::sub,s::e2,e,i,0,v,hj,q1,q2=>by
  have z1:o=some i:=by simpa using q1
  have z2:s=.mu v:=by simpa using q2
  subst z1 z2;show (aC sub e2 (cz (some i) (.mu v) e))[i]?=_;rw[ia (λk u y1 _=>by have:=hj 0 (k+1) i rfl (by simpa using y1);omega)];unfold cz;dsimp only;split
  .rename_i t q;rw[bx (f_.mp q).1,q];rfl
  .rename_i q;rw[q];rfl
 |
  o::sub,s::e2,e,i,j+1,v,hj,q1,q2=>by
  show (aC sub e2 (cz o s e))[i]?=_;have q1':sub[j]?=some (some i):=by simpa using q1
  rw[lF (λa b c y1 y2=>by have:=hj (a+1) (b+1) c (by simpa using y1) (by simpa using y2);omega) q1' (by simpa using q2)];rw[mj λv z1 _=>by have:=hj 0 (j+1) i (by rw[z1];rfl) q1;omega]
noncomputable def aE (sub:Cn) (ns:Ns):Ns:=sub.map λo=>o.bind λi=>(ns[i]?).bind id
def ba{sub:Cn}{ns:Ns}{j:Nat}{n:Addr}(q:(aE sub ns)[j]?=some (some n)):∃i,sub[j]?=some (some i)/\ns[i]?=some (some n):=by
 unfold aE at q;rw[x_] at q;cases z:sub[j]? with
 |none=>rw[z] at q;cases q
 |
  some o=>
  rw[z] at q;cases o with
  |none=>cases q
  |
   some i=>
   refine⟨i,rfl,?_⟩;have q':(ns[i]?).bind id=some n:=u_ q;cases y:ns[i]? with
   |none=>rw[y] at q';cases q'
   |some w=>rw[y] at q';have:w=some n:=q';rw[this]
def vJ{sub:Cn}{ns:Ns}{j i:Nat}{w:Option Addr}(q:sub[j]?=some (some i))(q2:ns[i]?=some w):(aE sub ns)[j]?=some w:=by unfold aE;rw[x_,q];show some ((ns[i]?).bind id)=some w;rw[q2];rfl
structure Lnk(sub:Cn)(e ei:E3):Prop where
 inj:∀(j k:Nat) (i:Nat),sub[j]?=some (some i)->sub[k]?=some (some i)->j=k
 mu:∀(j:Nat) (v:Val),ei[j]?=some (.mu v)->∃(i:Nat) (s:Sl),sub[j]?=some (some i)/\e[i]?=some s/\s.mt=true
 mt:∀(j:Nat) (s:Sl),ei[j]?=some s->s.mt=true->∃v,s=.mu v
section
variable{K:W.Frag}{mg:Cj}{X Y N0:Addr->Prop}{ns d_:Ns}{e e2 ei:E3}{σ:St}{H H2:Hp}{sub:Cn}
theorem fC:∀(sub:Cn) (e2 e:E3),(aC sub e2 e).length=e.length
 | [],_,_=>rfl
 |_::_,[],_=>rfl
 |
  o::sub,s::e2,e=>by
  show (aC sub e2 (cz o s e)).length=_;rw[fC];unfold cz;split
  .split
   .rw[j_]
   .rfl
  .rfl
def Sat.back(S:Sat K mg X N0 ns e σ H)(lk:Lnk sub e ei)(a:Stp (aE sub ns) ei H d_ e2 H2)(hb:Bs K mg H2)
 (hY:∀n,Y n->(∃o,H2 n=some o)/\(X n\/H n=none)) (hXY:∀n,X n->Y n)
 (hc:∀(j:Nat) v n,e2[j]?=some (.mu v)->d_[j]?=some (some n)->∃o,H2 n=some o/\NotFz o/\Rc K mg (Oc Y ns) H2 o v):Sat K mg Y N0 ns (aC sub e2 e) σ H2/\Stp ns e H ns (aC sub e2 e) H2:=by
 have hM:∀n,Mt (aE sub ns) ei n->Mt ns e n:=λn ⟨j,s,z1,z2,z3⟩=>by obtain⟨v,rfl⟩:=lk.mt j s z2 z3;obtain⟨i,s',y1,y2,y3⟩:=lk.mu j v z2;obtain⟨i',y4,y5⟩:=ba z1;rw[y1] at y4;cases y4;exact⟨i,s',y5,y2,y3⟩
 have mv:Mov (Oc X ns) (Oc Y ns) H H2:=⟨a.le,λn o p q ht=>⟨⟨λz=>(by
  rcases (hY n z).2 with z |z
  .exact p.1 z
  .rw[q] at z;cases z),p.2⟩,a.keep n o q ht λz=>by obtain⟨j,s,z1,_⟩:=z;obtain⟨i,_,y⟩:=ba z1;exact p.2 (aB.mpr ⟨i,y⟩)⟩⟩
 have key:∀i:Nat,(∃(j:Nat) (v:Val) (s:Sl),sub[j]?=some (some i)/\e2[j]?=some (.mu v)/\e[i]?=some s/\s.mt=true/\(aC sub e2 e)[i]?=some (s.re v)/\d_[j]?=ns[i]?)\/((∀n,ns[i]?=some (some n)->¬ Mt (aE sub ns) ei n)/\(aC sub e2 e)[i]?=e[i]?):=λi=>by
  by_cases hx:∃(j:Nat) (v:Val),sub[j]?=some (some i)/\e2[j]?=some (.mu v)
  .obtain⟨j,v,q1,q2⟩:=hx;obtain⟨u,q3,q4⟩:=a.mu j v q2;obtain⟨i',s,y1,y2,y3⟩:=lk.mu j u q3;rw[q1] at y1;cases y1;refine .inl ⟨j,v,s,q1,q2,y2,y3,by rw[lF lk.inj q1 q2,y2];rfl,?_⟩;rw[q4];have hl:i<ns.length:=by rw[S.l2];exact (f_.mp y2).1
   rw[o_ hl];exact vJ q1 (o_ hl)
  .refine .inr ⟨λn q ⟨j,s,z1,z2,z3⟩=>hx ?_,ia λj v y1 y2=>hx ⟨j,v,y1,y2⟩⟩;obtain⟨v,rfl⟩:=lk.mt j s z2 z3;obtain⟨i',y4,y5⟩:=ba z1;have:i'=i:=S.inj i' i n y5 q;subst this;obtain⟨v',y6,_⟩:=a.mu' j v z2;exact⟨j,v',y4,y6⟩
 refine⟨⟨by rw[fC];exact S.l1,by rw[fC];exact S.l2,λx z=>S.lh x (a.dom x z),λn z=>(hY n z).1,S.inj,λi n q z=>?_,λi s q=>?_,hb⟩,⟨a.le,a.dom,λm o q ht hm=>a.keep m o q ht λz=>hm (hM m z),λ_ _ q=>.inl q,λi s q hl=>?_,λi s q hl=>?_,λi v q=>?_,λi v q=>?_⟩⟩
 .rcases (hY n z).2 with z |z
  .exact S.nx i n q z
  .obtain⟨_,_,_,_,_,_,_,q',_⟩:=S.own q;rw[q'] at z;cases z
 .rcases key i with ⟨j,v,s0,k1,k2,k3,k4,k5,k6⟩ |⟨k1,k2⟩
  .rw[k5] at q;cases q;have y:=S.sl i s0 k3;cases s0 with
   |ow u=>obtain⟨n,o,y1,y2,y3,_⟩:=y;obtain⟨o',z1,z2,z3⟩:=hc j v n k2 (by rw[k6];exact y1);exact⟨n,o',y1,y2,y3,z1,z2,z3⟩
   |mu u=>obtain⟨n,o,y1,y2,_⟩:=y;obtain⟨o',z1,z2,z3⟩:=hc j v n k2 (by rw[k6];exact y1);exact⟨n,o',y1,y2,z1,z2,z3⟩
   |_=>cases k4
  .rw[k2] at q;exact (S.sl i s q).mono mv λn o q1 q2 hf=>a.keep n o q2 hf.nt (k1 n q1)
 .rcases key i with ⟨j,v,s0,k1,k2,k3,k4,k5,k6⟩ |⟨k1,k2⟩
  .rw[k3] at q;cases q;cases s <;> first |cases hl;done |cases k4;done
  .rw[k2];exact⟨q,rfl⟩
 .rcases key i with ⟨j,v,s0,k1,k2,k3,k4,k5,k6⟩ |⟨k1,k2⟩
  .rw[k5] at q;cases q;cases s0 <;> first |cases hl;done |cases k4;done
  .rw[k2] at q;exact⟨q,rfl⟩
 .rcases key i with ⟨j,u,s0,k1,k2,k3,k4,k5,k6⟩ |⟨k1,k2⟩
  .rw[k5] at q;cases s0 with
   |mu w=>exact⟨w,k3,rfl⟩
   |ow w=>cases q
   |_=>cases k4
  .rw[k2] at q;exact⟨v,q,rfl⟩
 .rcases key i with ⟨j,u,s0,k1,k2,k3,k4,k5,k6⟩ |⟨k1,k2⟩
  .rw[k3] at q;cases q;exact⟨u,k5,rfl⟩
  .exact⟨v,by rw[k2];exact q,rfl⟩
end
noncomputable def inS:Sl->Sl
 |.ow v=>.mu v
 |.lo v=>.lm v
 |s=>s
noncomputable def bu (sub:Cn) (e:E3):E3:=sub.map λo=>match o with
 |none=>.no
 |some i=>match e[i]? with
  |some s=>inS s
  |none=>.no
noncomputable def lcV (g:MG3) (c:MT3) (F:ME3):List Val->List Val->E3->R3 (List Val)
 | [],acc,e=>.ok acc e
 |v::vs,acc,e=>if acc.length<16777216 then (match g v e with
  |none=>.stuck
  |some e1=>(c e1).bind λb e2=>if b=true then (F e2).bind λt e3=>(match bh e3 t with
   |some (e4,y)=>lcV g c F vs (acc++[y]) e4
   |none=>.stuck) else lcV g c F vs acc e2) else .stuck
noncomputable def vLC (I:MI3) (sub:Cn) (g:MG3) (c:MT3) (F:ME3) (e:E3):R3 Tm:=(I e).bind λp e1=>match lcV g c F p.1 [] (bu sub (lockO e1 p.2)) with
 |.ok ys e2=>if ys.length<=16777216 then .ok (.new (.lst ys)) (bM (aC sub e2 (lockO e1 p.2)) p.2) else .stuck
 |_=>.stuck
noncomputable def pLC (i:PIt) (sub:Cn) (hs:(sub.filterMap id).Nodup) (g:PGt) (c:PTs) (a:PEx):PEx:=⟨21,vLC i.G sub g.G c.G a.G⟩
def gw(sub:Cn):Prop:=∀(j k:Nat) (i:Nat),sub[j]?=some (some i)->sub[k]?=some (some i)->j=k
def nV(h:(sub.filterMap id).Nodup):gw sub:=by
 induction sub with
 |nil=>intro j k i q;simp at q
 |
  cons o sub ih=>
  have hsub:(sub.filterMap id).Nodup:=by
   cases o with
   |none=>simpa using h
   |some i=>rw[Bj] at h;simp at h;exact h.2
  have hno:∀(i k:Nat),o=some i->sub[k]?=some (some i)->False:=λi k z q=>by subst z;rw[Bj] at h;simp at h;exact h.1 (Bd q)
  intro j k i q1 q2;cases j with
  |
   zero=>
   cases k with
   |zero=>rfl
   |succ k=>exact (hno i k (by simpa using q1) (by simpa using q2)).elim
  |
   succ j=>
   cases k with
   |zero=>exact (hno i j (by simpa using q2) (by simpa using q1)).elim
   |succ k=>exact A0 (· + 1) (ih hsub j k i (by simpa using q1) (by simpa using q2))
def Xin(X:Addr->Prop)(ns:Ns)(sub:Cn)(n:Addr):Prop:=X n\/(some n∈ns/\some n∉aE sub ns)
def j6{n:Addr}(q:some n∈aE sub ns):some n∈ns:=by obtain⟨j,q⟩:=aB.mp q;obtain⟨i,_,q2⟩:=ba q;exact aB.mpr ⟨i,q2⟩
def tX{X:Addr->Prop}{H:Hp}:Mov (Oc X ns) (Oc (Xin X ns sub) (aE sub ns)) H H:=.of λn p=>⟨λz=>by
 rcases z with z |⟨z,_⟩
 .exact p.1 z
 .exact p.2 z,λz=>p.2 (j6 z)⟩
def et{sub:Cn}{e:E3}{j:Nat}{s:Sl}(q:(bu sub e)[j]?=some s):(sub[j]?=some none/\s=.no)\/(∃i,sub[j]?=some (some i)/\((e[i]?=none/\s=.no)\/∃t,e[i]?=some t/\s=inS t)):=by
 unfold bu at q;rw[x_] at q;cases z:sub[j]? with
 |none=>rw[z] at q;cases q
 |
  some o=>
  rw[z] at q;cases o with
  |none=>cases q;exact .inl ⟨rfl,rfl⟩
  |
   some i=>
   refine .inr ⟨i,rfl,?_⟩;have q':=u_ q;dsimp only at q';cases y:e[i]? with
   |none=>rw[y] at q';exact .inl ⟨rfl,q'.symm⟩
   |some t=>rw[y] at q';exact .inr ⟨t,rfl,q'.symm⟩
section
variable{K:W.Frag}{mg:Cj}{X N0:Addr->Prop}{ns:Ns}{e:E3}{σ:St}{H:Hp}{sub:Cn}
def Sat.inner(S:Sat K mg X N0 ns e σ H)(hs:gw sub):Sat K mg (Xin X ns sub) N0 (aE sub ns) (bu sub e) (bR sub σ) H:=by
 refine⟨by unfold bR bu;rw[e_,e_],by unfold aE bu;rw[e_,e_],S.lh,λn z=>?_,λj k n q1 q2=>?_,λj n q z=>?_,λj s q=>?_,S.bs⟩
 .rcases z with z |⟨z,_⟩
  .exact S.xl n z
  .obtain⟨i,z⟩:=aB.mp z;obtain⟨_,_,o,_,_,_,_,q',_⟩:=S.own z;exact⟨o,q'⟩
 .obtain⟨i,y1,y2⟩:=ba q1;obtain⟨i',y3,y4⟩:=ba q2
  have:=S.inj i i' n y2 y4
  subst this;exact hs j k i y1 y3
 .rcases z with z |⟨_,z⟩
  .obtain⟨i,y1,y2⟩:=ba q;exact S.nx i n y2 z
  .exact z (aB.mpr ⟨j,q⟩)
 .have hj:∀{o},sub[j]?=some o->(aE sub ns)[j]?=some (o.bind λi=>(ns[i]?).bind id)/\(bR sub σ)[j]?=some (o.bind λi=>(σ[i]?).bind id):=λ{o} z=>by unfold aE bR;rw[x_,x_,z];exact⟨rfl,rfl⟩
  rcases et q with ⟨z,rfl⟩ |⟨i,z,⟨y,rfl⟩ |⟨t,y,rfl⟩⟩
  .rw[(hj z).1];rfl
  .rw[(hj z).1];show some ((ns[i]?).bind id)=some none;have:ns[i]?=none:=by rw[List.getElem?_eq_none_iff] at y ⊢;rw[S.l2];exact y
   rw[this];rfl
  .have k:=(S.sl i t y).mono (tX (sub:=sub) (H:=H)) λ_ _ _ q _=>q;rw[(hj z).1,(hj z).2];show SlR K mg _ N0 (some ((ns[i]?).bind id)) (some ((σ[i]?).bind id)) H (inS t);have w1:∀x,ns[i]?=some x->some ((ns[i]?).bind id)=some x:=λx q=>by rw[q];rfl
   have w2:∀x,σ[i]?=some x->some ((σ[i]?).bind id)=some x:=λx q=>by rw[q];rfl
   cases t with
   |no=>rw[w1 _ k];rfl
   |sh v=>obtain⟨k1,x,k2,k3⟩:=k;rw[w1 _ k1,w2 _ k2];exact⟨rfl,x,rfl,k3⟩
   |ow v=>obtain⟨m,o,k1,k2,_,k3⟩:=k;rw[w1 _ k1,w2 _ k2];exact⟨m,o,rfl,rfl,k3⟩
   |lo v=>obtain⟨m,o,k1,k2,_,k3⟩:=k;rw[w1 _ k1,w2 _ k2];exact⟨m,o,rfl,rfl,k3⟩
   |mu v=>obtain⟨m,o,k1,k2,k3⟩:=k;rw[w1 _ k1,w2 _ k2];exact⟨m,o,rfl,rfl,k3⟩
   |lm v=>obtain⟨m,o,k1,k2,k3⟩:=k;rw[w1 _ k1,w2 _ k2];exact⟨m,o,rfl,rfl,k3⟩
end
def lu(hs:gw sub):Lnk sub e (bu sub e):=by
 refine⟨hs,λj v q=>?_,λj s q hm=>?_⟩
 .rcases et q with ⟨_,z⟩ |⟨i,z,⟨_,y⟩ |⟨t,y,y2⟩⟩
  .cases z
  .cases y
  .refine⟨i,t,z,y,?_⟩;cases t <;> first |rfl |cases y2
 .rcases et q with ⟨_,z⟩ |⟨i,z,⟨_,y⟩ |⟨t,y,y2⟩⟩
  .subst z;cases hm
  .subst y;cases hm
  .subst y2;cases t with
   |ow v=>exact⟨v,rfl⟩
   |mu v=>exact⟨v,rfl⟩
   |_=>cases hm
structure DTs(K:W.Frag)(mg:Cj)(X:Cx)(ES:St->XK)(es:List Expr)(F:PTs):Prop where
 ok:L2.PTs X es (rdT K mg ES F.G)
def Mov.trans{P P1 P2:Addr->Prop}{H H1 H2:Hp}(a:Mov P P1 H H1)(b:Mov P1 P2 H1 H2):Mov P P2 H H2:=⟨a.le.trans b.le,λn o p q ht=>by obtain⟨p1,q1⟩:=a.cl n o p q ht;exact b.cl n o p1 q1 ht⟩
section
variable{K:W.Frag}{mg:Cj}{X:Cx}{ES:St->XK}{a b c o iter tg elt:Expr}{ifs:List Expr}{I:PIt}{g:PGt}{p:PEx}{t:PTs}{pos:Pos}{sub:Cn}
def iq:DTs K mg X ES [] qY:=⟨λpins s σ H Q i ⟨Y,N0,ns,e,S,p⟩=>uT pins s σ H Q i (PG3.ret p S)⟩
def hJ(h:DT K mg X ES c t):DTs K mg X ES [c] t:=⟨vr h.ok⟩
def tD{hsb:(sub.filterMap id).Nodup}(σ:St)(H:Hp)(Q:VK):rdE K mg ES (pLC I sub hsb g t p).G σ H Q->jf (rdI K mg ES I.G) sub (rdG K mg g.G) (rdT K mg (λ_=>E0) t.G) (rdE K mg (λ_=>E0) p.G) σ H Q:=λzz=>zz.el λY N0 L ns e S hl pp=>
 ⟨Y,
  N0,ns,e,S,PG3.imp pp S λw e1 ns1 H1 a1 S1 p1 J it hk=>by
  have hs':=nV hsb;have S2:=S1.lockO w.2;have S3:=S2.inner hs';try dsimp only at p1
  split at p1
  .rename_i ys
    e2 q
   split at p1
   .rename_i hy;have kp:∀{ns' e' H'},Stp (aE sub ns1) (bu sub (lockO e1 w.2)) H1 ns' e' H'->Kp Y ns1 w.2 H1 (Oc (Xin Y ns1 sub) ns') H':=λ{ns' e' H'} a=>⟨tX.trans a.mov,λk n ob hk1 hk2 qm ht=>a.keep n ob qm ht λ⟨j,s,z1,z2,z3⟩=>by
     obtain⟨i,y1,y2⟩:=ba z1
     have:=S1.inj i k n y2 hk2
     subst this;obtain⟨s',w1,w2⟩:=hk i hk1;have hl:(lockO e1 w.2)[i]?=some (aG s'):=by rw[hk1];exact hZ w1
     rcases et z2 with ⟨z,_⟩ |⟨i',z,y⟩
     .rw[y1] at z;cases z
     .rw[y1] at z;cases z;rcases y with ⟨y,_⟩ |⟨t,y,rfl⟩
      .rw[hl] at y;cases y
      .rw[hl] at y;cases y;cases s' <;> first |cases w2;done |cases z3;done⟩
    refine⟨λi m acc σ' H'=>m=w.1.length-i/\i<=w.1.length/\∃ns' e' av,Stp (aE sub ns1) (bu sub (lockO e1 w.2)) H1 ns' e' H'/\Sat K mg (Xin Y ns1 sub) N0 ns' e' σ' H'/\Rds K mg (Oc (Xin Y ns1 sub) ns') H' acc av/\lcV g.G t.G p.G (w.1.drop i) av e'=.ok ys e2,⟨_,rfl,A3 _,_,_,[],.refl,S3,.nil,q⟩,?_⟩;rintro i m acc σ' H' ⟨rfl,hi,ns',e',av,a',S',ra,q'⟩;by_cases hlt:i<w.1.length
    .rw[List.drop_eq_getElem_cons hlt] at q';unfold lcV at q';split at q'
     .rename_i hla;obtain⟨go,yl⟩:=(it _ _ (kp a')).1 i _ (o_ hlt);refine .inr ⟨go,by rw[ra.len];exact hla,λacc' σ2 H2=>i+1<=w.1.length/\∃ns' e' av,Stp (aE sub ns1) (bu sub (lockO e1 w.2)) H1 ns' e' H2/\Sat K mg (Xin Y ns1 sub) N0 ns' e' σ2 H2/\Rds K mg (Oc (Xin Y ns1 sub) ns') H2 acc' av/\lcV g.G t.G p.G (w.1.drop (i+1)) av e'=.ok ys e2,λacc' σ2 H2 n=>⟨_,by omega,rfl,n⟩,λx H2 y=>?_⟩;obtain⟨gr,rx⟩:=yl x H2 y;have a2:=a'.trans S3 (.gr gr);have S4:=S'.gr gr;have ra2:=ra.mono gr.mov;split at q'
      .cases q'
      .rename_i e3 qg;refine⟨_,N0,ns',e',_,e3,S4,rx,qg,λσ3 ns3 a3 S5=>⟨_,N0,ns3,e3,S5,?_⟩⟩;have a4:=a2.trans S3 a3;have ra3:=ra2.mono a3.mov;cases qc:t.G e3 with
       |stuck=>rw[qc] at q';cases q'
       |exc _ _=>rw[qc] at q';cases q'
       |
        ok b e4=>
        rw[qc] at q';intro H4 ns4 a5 S6;have a6:=a4.trans S3 a5;have ra4:=ra3.mono a5.mov;show if b=true then _ else _
        have q':(if b=true then (p.G e4).bind λtt e3=>(match bh e3 tt with
         |some (e4,y)=>lcV g.G t.G p.G (w.1.drop (i+1)) (av++[y]) e4
         |none=>.stuck) else lcV g.G t.G p.G (w.1.drop (i+1)) av e4)=.ok ys e2:=q'
        by_cases hb:b=true
        .rw[if_pos hb] at q' ⊢;refine⟨_,N0,λ_=>True,ns4,e4,S6,λ_ _=>trivial,?_⟩;cases qp:p.G e4 with
         |stuck=>rw[qp] at q';cases q'
         |exc _ _=>rw[qp] at q';cases q'
         |
          ok tt e5=>
          rw[qp] at q';intro H5 ns5 a7 S7 v rv;have q':(match bh e5 tt with
           |some (e4,y)=>lcV g.G t.G p.G (w.1.drop (i+1)) (av++[y]) e4
           |none=>.stuck)=.ok ys e2:=q'
          split at q'
          .rename_i e6 u qd;obtain⟨ns6,S8,a8,r8⟩:=cX S7 rv qd;exact⟨hlt,ns6,e6,_,(a6.trans S3 a7).trans S3 a8,S8,((ra4.mono a7.mov).mono a8.mov).append (.cons r8 .nil),q'⟩
          .cases q'
        .rw[if_neg hb] at q' ⊢;exact⟨hlt,ns4,e4,av,a6,S6,ra4,q'⟩
     .cases q'
    .have hi2:i=w.1.length:=by omega
     subst hi2;rw[List.drop_length] at q';cases q';have k3:∀n,Oc (Xin Y ns1 sub) ns' n->Oc Y ns1 n:=λn z=>⟨λy=>z.1 (.inl y),λy=>by
      by_cases w:some n∈aE sub ns1
      .obtain⟨j,w⟩:=aB.mp w;obtain⟨s,v,o,b1,b2,_⟩:=S3.own w;rcases b2 with b2 |b2
       .obtain⟨v',rfl⟩:=(lu (e:=lockO e1 _) hs').mt j s b1 b2;obtain⟨u,c1,c2⟩:=a'.mu' j v' b1;exact z.2 (aB.mpr ⟨j,by rw[c2];exact w⟩)
       .obtain⟨c1,c2⟩:=a'.lk j s b1 b2;exact z.2 (aB.mpr ⟨j,by rw[c2];exact w⟩)
      .exact z.1 (.inr ⟨y,w⟩)⟩
     obtain⟨S5,a5⟩:=S2.back (Y:=Y) (lu hs') a' S'.bs (λn z=>by
      obtain⟨ob,z'⟩:=S2.xl n z;exact⟨by
       cases qh:H' n with
       |none=>rw[a'.dom n qh] at z';cases z'
       |some o'=>exact⟨o',rfl⟩,.inl z⟩) (λ_ z=>z) λj v n q1 q2=>by
      obtain⟨s,u,o,b1,b2,b3,b4,b5,b6,b7⟩:=S'.own q2;rw[q1] at b1;cases b1;cases b3;exact⟨o,b5,b6,b7.mono (.of k3)⟩
     have fin:∀e'',Sat K mg Y N0 ns1 e'' σ H'->Stp ns1 e1 H1 ns1 e'' H'->PG3 K mg Y N0 ns1 e1 σ H1 (ES σ) (KE K mg Y N0 L σ Q) (.ok (.new (.lst ys)) e'')->∀D,H' D=none->Q (.ref D) (upd H' D (.lst acc)):=λe'' S6 a6 p6 D hD=>
      PG3.bv (b:=.new (.lst ys)) (p6.after S1 a6) S6 (λa z=>hl a (a1.dom a (a6.dom a z))) H' D _ .refl hD trivial (.lst (ra.mono (.of k3)))
     refine .inl ⟨(it _ _ (kp a')).2,by rw[ra.len];exact hy,?_⟩;cases hp:w.2 with
     |none=>rw[hp] at S5 a5 p1;exact fin _ S5 a5 p1
     |some k=>rw[hp] at S5 a5 p1;obtain⟨s,w1,w2⟩:=hk k hp;exact fin _ (S5.unlock k) (a5.unlock w1 w2) p1
   .exact p1.elim
  .exact p1.elim⟩
def jC{scope:Scope}(M:List Str)(kn:List (Str×NameKind))(N:List Str)(sub:Cn){hsb:(sub.filterMap id).Nodup}(hi:DI K mg X ES tg iter I)(hg:N.Nodup->∀cl C s₂ H fp,DG K mg (aT X N scope cl C s₂ H fp) tg g)(ht:N.Nodup->∀cl C s₂ H fp,DTs K mg (aT X N scope cl C s₂ H fp) (λ_=>E0) ifs t)(he:N.Nodup->∀cl C s₂ H fp,DE K mg (aT X N scope cl C s₂ H fp) (λ_=>E0) elt p)(hnd:N.Nodup:=by decide)(hc:X.calm=true:=by rfl)(hM:X.N=M:=by rfl)(hkn:X.env.scope.names=kn:=by rfl)(hsub:jk M scope.names sub N=true:=by decide)(hk:scope.kind=.function:=by rfl)(hnc:∀x∈scope.names,x.2 ≠ .cell:=by decide)(b_:∀x∈scope.names,x.2=.local->scope.names.lookup x.1=some .local:=by decide)(hfr:nE kn scope.names=true:=by decide)(hsl:sub.length=N.length:=by rfl)(hs:∀x,foldedSetIterable iter X.env x=pure x:=by intro _;rfl):DE K mg X ES (.ListComp elt [⟨tg,iter,ifs,0⟩] scope pos) (pLC I sub hsb g t p):=
 ⟨PE.imp (yw hc hi.ok hk hnc b_ (by subst hkn;exact lL hfr) hsl (by subst hM;exact km hsub) (λcl C s H f=>(hg hnd cl C s H f).ok) (λcl C s H f=>(ht hnd cl C s H f).ok) (λcl C s H f=>(he hnd cl C s H f).ok) hs) tD⟩
def zSlc{ow:Bool}{px spos:Pos}{iT:Nat}{xT:Str}{scope:Scope}(hN:X.N.Nodup)(M:List Str)(kn:List (Str×NameKind))(N:List Str)(sub:Cn){hsb:(sub.filterMap id).Nodup}(hi:DI K mg X ES tg iter I)(hg:N.Nodup->∀cl C s₂ H fp,DG K mg (aT X N scope cl C s₂ H fp) tg g)(ht:N.Nodup->∀cl C s₂ H fp,DTs K mg (aT X N scope cl C s₂ H fp) (λ_=>E0) ifs t)(he:N.Nodup->∀cl C s₂ H fp,DE K mg (aT X N scope cl C s₂ H fp) (λ_=>E0) elt p)(hsw:swapsWith (.ListComp elt [⟨tg,iter,ifs,0⟩] scope pos) (some (.Name xT px)) spos.line X.env=pure true:=by rfl)(hnd:N.Nodup:=by decide)(hc:X.calm=true:=by rfl)(hix:X.N[iT]?=some xT:=by rfl)(hxl:Loc X.env.scope xT:=by first |exact Or.inl rfl |exact Or.inr rfl)(hM:X.N=M:=by rfl)(hkn:X.env.scope.names=kn:=by rfl)(hsub:jk M scope.names sub N=true:=by decide)(hk:scope.kind=.function:=by rfl)(hnc:∀x∈scope.names,x.2 ≠ .cell:=by decide)(b_:∀x∈scope.names,x.2=.local->scope.names.lookup x.1=some .local:=by decide)(hfr:nE kn scope.names=true:=by decide)(hsl:sub.length=N.length:=by rfl)(hs:∀x,foldedSetIterable iter X.env x=pure x:=by intro _;rfl)(hf:X.fn xT=true\/X.env.scope.names.lookup xT=some .local:=by first |exact .inl rfl |exact .inr rfl |assumption):DS K mg X ES (.Assign [.Name xT px] (.ListComp elt [⟨tg,iter,ifs,0⟩] scope pos) spos) (aN ow iT (pLC I sub hsb g t p)):=
 ⟨PS.imp (wY hc hN hix hxl hi.ok hk hnc b_ (by subst hkn;exact lL hfr) hsl (by subst hM;exact km hsub) (λcl C s H f=>(hg hnd cl C s H f).ok) (λcl C s H f=>(ht hnd cl C s H f).ok) (λcl C s H f=>(he hnd cl C s H f).ok) hsw hs hf) λD σ H q=>tD σ H _ (oi D σ H q)⟩
end
inductive R3F where
 |ok (r:Rt) (mv:List Val) |exc (c:Str) (mv:List Val) |stuck
abbrev Fn3:=List Val->R3F
noncomputable def sl1 (b:Bool) (v:Val):Sl:=if b=true then .mu v else .sh v
noncomputable def sls (ms:List Bool) (vs:List Val):E3:=List.zipWith sl1 ms vs
noncomputable def ao:List Bool->List Val->E3
 |true::ms,v::vs=>.mu v::ao ms vs
 |true::ms,[]=>.no::ao ms []
 |false::ms,vs=>.no::ao ms vs
 | [],_=>[]
noncomputable def muV:List Bool->E3->Option (List Val)
 |true::ms,.mu v::e=>(muV ms e).map (v :: ·)
 |true::_,_=>none
 |false::ms,_::e=>muV ms e
 |false::_,[]=>none
 | [],_=>some []
noncomputable def fnV (ms:List Bool) (N:Nat) (F:MS3):Fn3:=λvs=>if vs.length=ms.length then (match F (sls ms vs++List.replicate (N-vs.length) .no) with
 |.nx e=>(match muV ms e with |some mv=>.ok (.val .non) mv |none=>.stuck)
 |.rt r e=>(match muV ms e with |some mv=>.ok r mv |none=>.stuck)
 |.exc c e=>(match muV ms e with |some mv=>.exc c mv |none=>.stuck)
 |_=>.stuck) else .stuck
def bX{ms:List Bool}{vs:List Val}{i:Nat}{s:Sl}(q:(sls ms vs)[i]?=some s):∃b v,ms[i]?=some b/\vs[i]?=some v/\s=sl1 b v:=by
 unfold sls at q;rw[BG] at q;cases h1:ms[i]? with
 |none=>rw[h1] at q;cases q
 |
  some b=>
  cases h2:vs[i]? with
  |none=>rw[h1,h2] at q;cases q
  |some v=>rw[h1,h2] at q;cases q;exact⟨b,v,rfl,rfl,rfl⟩
theorem cZ:∀{ms:List Bool}{e:E3}{mv:List Val}{i:Nat}{s:Sl},muV ms e=some mv->(ao ms mv)[i]?=some s->(ms[i]?=some false/\s=.no)\/(ms[i]?=some true/\∃v,e[i]?=some (.mu v)/\s=.mu v)
 | [],_,_,_,_,_,q=>by unfold ao at q;simp at q
 |
  true::ms,.mu v::e,mv,i,s,q,q2=>by
  obtain⟨mv',z1,z2⟩:=v_.mp (show (muV ms e).map (v :: ·)=some mv from q);subst z2;cases i with
  |zero=>
   right;have:Sl.mu v=s:=by simpa [ao] using q2
   subst this;exact⟨rfl,v,rfl,rfl⟩
  |
   succ i=>
   have:=cZ (i:=i) (s:=s) z1 (by simpa [ao] using q2)
   simpa using this
 |true::ms,[],mv,i,s,q,q2=>by cases q
 |true::ms,.no::e,mv,i,s,q,q2=>by cases q
 |true::ms,.sh v::e,mv,i,s,q,q2=>by cases q
 |true::ms,.ow v::e,mv,i,s,q,q2=>by cases q
 |true::ms,.lo v::e,mv,i,s,q,q2=>by cases q
 |true::ms,.lm v::e,mv,i,s,q,q2=>by cases q
 |false::ms,[],mv,i,s,q,q2=>by cases q
 |
  false::ms,t::e,mv,i,s,q,q2=>by
  cases i with
  |zero=>
   left;have:Sl.no=s:=by simpa [ao] using q2
   exact⟨rfl,this.symm⟩
  |
   succ i=>
   have:=cZ (i:=i) (s:=s) (show muV ms e=some mv from q) (by simpa [ao] using q2)
   simpa using this
theorem gO:∀{ms:List Bool}{e:E3}{mv:List Val}{i:Nat},muV ms e=some mv->ms[i]?=some true->∃v,e[i]?=some (.mu v)/\(ao ms mv)[i]?=some (.mu v)
 | [],_,_,i,_,q=>by simp at q
 |
  true::ms,.mu v::e,mv,i,q,q2=>by
  obtain⟨mv',z1,z2⟩:=v_.mp (show (muV ms e).map (v :: ·)=some mv from q);subst z2;cases i with
  |zero=>exact⟨v,rfl,rfl⟩
  |succ i=>obtain⟨u,y1,y2⟩:=gO (i:=i) z1 (by simpa using q2);exact⟨u,by simpa using y1,by simpa [ao] using y2⟩
 |true::ms,[],mv,i,q,q2=>by cases q
 |true::ms,.no::e,mv,i,q,q2=>by cases q
 |true::ms,.sh v::e,mv,i,q,q2=>by cases q
 |true::ms,.ow v::e,mv,i,q,q2=>by cases q
 |true::ms,.lo v::e,mv,i,q,q2=>by cases q
 |true::ms,.lm v::e,mv,i,q,q2=>by cases q
 |false::ms,[],mv,i,q,q2=>by cases q
 |
  false::ms,t::e,mv,i,q,q2=>by
  cases i with
  |zero=>simp at q2
  |succ i=>obtain⟨u,y1,y2⟩:=gO (i:=i) (show muV ms e=some mv from q) (by simpa using q2);exact⟨u,by simpa using y1,by simpa [ao] using y2⟩
theorem cV:∀{ms:List Bool}{mv:List Val},(ao ms mv).length=ms.length
 | [],_=>rfl
 |true::ms,v::mv=>by show (ao ms mv).length+1=ms.length+1;rw[cV]
 |true::ms,[]=>by show (ao ms []).length+1=ms.length+1;rw[cV]
 |false::ms,mv=>by show (ao ms mv).length+1=ms.length+1;rw[cV]
noncomputable def cJ (i:Nat):List Tm->Bool
 |.bor j::ts=>(i==j) || cJ i ts
 |_::ts=>cJ i ts
 | []=>false
noncomputable def b8 (i:Nat):List Bool->List Tm->Bool
 |true::ms,.bor j::ts=>(i==j) || b8 i ms ts
 |_::ms,_::ts=>b8 i ms ts
 |_,_=>false
noncomputable def okA (e:E3):List Bool->List Tm->Bool
 |true::ms,.bor i::ts=>((e[i]?).bind Sl.mv).isSome && !(cJ i ts)&&okA e ms ts
 |true::_,_::_=>false
 |false::ms,.bor i::ts=>!(b8 i ms ts)&&okA e ms ts
 |false::ms,_::ts=>okA e ms ts
 | [],[]=>true
 |_,_=>false
noncomputable def fU (b:Bool) (t:Tm):Option Nat:=match b,t with
 |true,.bor i=>some i
 |_,_=>none
noncomputable def az (ms:List Bool) (ts:List Tm):List (Option Nat):=List.zipWith fU ms ts
noncomputable def ay (e:E3):List Bool->List Tm->List Nat
 |false::ms,.bor i::ts=>(match e[i]? with
  |some (.sh _)=>ay e ms ts
  |_=>i::ay e ms ts)
 |_::ms,_::ts=>ay e ms ts
 |_,_=>[]
mutual
def flatV:Val->Bool
 |.tup xs=>bo xs
 |.lst _=>false
 |.kl _=>false
 |.dct _=>false
 |.set _=>false
 |_=>true
def bo:List Val->Bool
 | []=>true
 |v::vs=>flatV v&&bo vs
end
noncomputable def gz:List (Key×Val)->Bool
 | []=>true
 |(_,v)::vs=>flatV v&&gz vs
noncomputable def bf:Val->Bool
 |.lst xs=>bo xs
 |.dct xs=>gz xs
 |.set _=>true
 |_=>false
noncomputable def er:Rt->Bool
 |.val v=>flatV v
 |.new v=>bf v
 |.par _=>true
 |.pr v u=>flatV v&&bf u
noncomputable def ed (e:E3):List Nat->Option E3
 | []=>some e
 |i::is=>match bh e (.bor i) with
  |some (e1,_)=>ed e1 is
  |none=>none
noncomputable def Rt.tm (ts:List Tm):Rt->Tm
 |.val v=>.val v
 |.new v=>.new v
 |.par i=>(ts[i]?).getD (.val .non)
 |.pr v u=>.val (.tup [v,u])
noncomputable def uv (ms:List Bool) (G:Fn3) (A:MA3) (e:E3):R3 Tm:=(A e).bind λts e1=>match rss e1 ts with
 |none=>.stuck
 |some vs=>if okA e1 ms ts=true then (match G vs with
  |.stuck=>.stuck
  |.ok r mv=>if (ay e1 ms ts).isEmpty || (er r&&mv.all bf) then .ok (r.tm ts) (aC (az ms ts) (ao ms mv) e1) else (match ed e1 (ay e1 ms ts) with
   |some e2=>.ok (r.tm ts) (aC (az ms ts) (ao ms mv) e2)
   |none=>.stuck)
  |.exc c mv=>if (ay e1 ms ts).isEmpty || mv.all bf then .exc c (aC (az ms ts) (ao ms mv) e1) else .stuck) else .stuck
section
variable{K:W.Frag}{mg:Cj}{P P':Addr->Prop}{H H':Hp}
def Rd.flat(l:LeH H H')(f:flatV v=true)(r:Rd K mg P H d v):Rd K mg P' H' d v:=
 @Rd.rec K mg P H (λd v _=>flatV v=true->Rd K mg P' H' d v) (λo v _=>flatV v=true->Rd K mg P' H' .non v) (λds vs _=>bo vs=true->Rds K mg P' H' ds vs) (λws us _=>True) (λ_=>.non) (λb _=>.bl b) (λi _=>.int i) (λx _=>.str x) (λn _=>.ty n) (λm _=>.glb m) (λm e _=>.exc m (l.ext _ _ e)) (λh _ ih f=>.tup (l.sqT h) (ih f)) (λ_ _ _ f=>absurd f h_) (λ_ _ r _ f=>by cases r <;> exact absurd f h_) (λ_ _ f=>absurd f h_) (λ_ _ f=>absurd f h_) (λ_ _ f=>absurd f h_) (λ_ _ f=>absurd f h_) (λ_=>.nil) (λ_ _ a b f=>.cons (a (i_ .. ▸ f).1) (b (i_ .. ▸ f).2)) trivial (λ_ _ _ _=>trivial) d v r f
def Rds.flat(l:LeH H H')(f:bo v=true)(r:Rds K mg P H ds v):Rds K mg P' H' ds v:=
 r.ind (M:=λds vs=>bo vs=true->Rds K mg P' H' ds vs) (λ_=>.nil) (λr _ ih f=>by rw[bo,i_] at f;exact .cons (Rd.flat l f.1 r) (ih f.2)) f
def Rk.flat(l:LeH H H')(f:gz v=true)(r:Rk K mg P H ds v):Rk K mg P' H' ds v:=
 r.ind (M:=λds vs=>gz vs=true->Rk K mg P' H' ds vs) (λ_=>.nil) (λr _ ih f=>by rw[gz,i_] at f;exact .cons (Rd.flat l f.1 r) (ih f.2)) f
def Rc.flat(l:LeH H H')(f:bf v=true)(r:Rc K mg P H o v):Rc K mg P' H' o v:=by
 cases r with
 |lst r=>exact .lst (Rds.flat l (by simpa [bf] using f) r)
 |fz r=>simp [bf] at f
 |dct r=>exact .dct (Rk.flat l (by simpa [bf] using f) r)
 |set xs nd=>exact .set xs nd
end
structure PFn where
 ms:List Bool
 G:Fn3
def nn(H:Hp)(a:Addr):Prop:=H a=none
def sp3(K:W.Frag)(mg:Cj)(f:PFn):Sp:=λvs H Q E=>∃Y ps us,us.length=f.ms.length/\Sat K mg Y (nn H) ps (sls f.ms us) (vs.map some) H/\match f.G us with
 |.ok r mv=>∀x H',Stp ps (sls f.ms us) H ps (ao f.ms mv) H'->RtR K mg Y (nn H) ps (ao f.ms mv) (vs.map some) H' x r->Q x H'
 |.exc c mv=>∀C H',Stp ps (sls f.ms us) H ps (ao f.ms mv) H'->Sat K mg Y (nn H) ps (ao f.ms mv) (vs.map some) H'->mg c=some (.ref C)->E (.ref C) none H'
 |.stuck=>False
noncomputable def fnP (ms:List Bool) (N:Nat) (c:PSt):PFn:=⟨ms,fnV ms N c.G⟩
section
variable{K:W.Frag}{mg:Cj}{X N0:Addr->Prop}{ps:Ns}{e:E3}{H H':Hp}{ms:List Bool}{us:List Val}{vs:List V}{k:Nat}
def u9(S:Sat K mg X N0 ps e σ H):Sat K mg X N0 (ps++List.replicate k none) (e++List.replicate k .no) (σ++List.replicate k none) H:=by
 have gns:∀{i n:Nat},(ps++List.replicate k (none:Option Addr))[i]?=some (some n)->ps[i]?=some (some n):=λ{i n} q=>by
  rw[B6] at q;split at q
  .exact q
  .rw[A4] at q;split at q <;> cases q
 refine⟨?_,?_,S.lh,S.xl,λi j n q1 q2=>S.inj i j n (gns q1) (gns q2),λi n q=>S.nx i n (gns q),λi s q=>?_,S.bs⟩
 .rw[k_,k_,Bl,Bl,S.l1]
 .rw[k_,k_,Bl,Bl,S.l2]
 .rw[B6] at q;split at q
  .rename_i hi;rw[AM (by rw[S.l2];exact hi),AM (by rw[S.l1];exact hi)];exact (S.sl i s q).mono (.of λn p=>⟨p.1,λz=>p.2 (by obtain⟨j,z⟩:=aB.mp z;exact aB.mpr ⟨j,gns z⟩)⟩) λ_ _ _ q _=>q
  .rename_i hi;rw[A4] at q;split at q
   .cases q;rw[BM (by rw[S.l2];exact Nat.le_of_not_lt hi),A4,if_pos (by rw[S.l2];assumption)];rfl
   .cases q
def dX{Y:Addr->Prop}(hl:us.length=ms.length)(S:Sat K mg X N0 ps (sls ms us) σ H)(hXY:∀n,X n->Y n)(a:Stp (ps++List.replicate k none) (sls ms us++List.replicate k .no) H ns' e' H')(S2:Sat K mg Y N0 ns' e' σ' H')(qm:muV ms e'=some mv):
 Stp ps (sls ms us) H ps (ao ms mv) H'/\Sat K mg Y N0 ps (ao ms mv) σ H'/\∀n,Oc Y ns' n->Oc Y ps n:=by
 have lS:(sls ms us).length=ms.length:=by unfold sls;rw[Bt];omega
 have ltS:∀{i:Nat},i<ms.length->i<(sls ms us).length:=λh=>by omega
 have ltP:∀{i:Nat},i<(sls ms us).length->i<ps.length:=λh=>S.l2.symm ▸ h;have kmu:∀{i:Nat},ms[i]?=some true->∃v u n o,e'[i]?=some (.mu v)/\(ao ms mv)[i]?=some (.mu v)/\(sls ms us)[i]?=some (.mu u)/\ns'[i]?=ps[i]?/\ps[i]?=some (some n)/\σ[i]?=some (some (.ref n))/\H' n=some o/\NotFz o/\Rc K mg (Oc Y ns') H' o v:=by intro i hi;obtain⟨v,y1,y2⟩:=gO qm hi;have hil:i<ms.length:=(f_.mp hi).1;obtain⟨u,y3,y4⟩:=a.mu i v y1;rw[AM (ltS hil)] at y3;rw[AM (ltP (ltS hil))] at y4;obtain⟨n,o,z1,z2,_⟩:=S.sl i _ y3;obtain⟨n',o',w1,w2,w3,w4,w5⟩:=S2.sl i _ y1;rw[y4,z1] at w1;cases w1;exact⟨v,u,n,o',y1,y2,y3,y4,z1,z2,w3,w4,w5⟩
 have kown:∀{i n:Nat},ps[i]?=some (some n)->ms[i]?=some true:=λ{i n} q=>by
  obtain⟨s,v,o,z1,z2,_⟩:=S.own q;obtain⟨b,u,y1,_,y2⟩:=bX z1;cases b with
  |true=>exact y1
  |false=>subst y2;rcases z2 with z2 |z2 <;> cases z2
 have koc:∀n,Oc Y ns' n->Oc Y ps n:=λn z=>⟨z.1,λy=>by obtain⟨i,y⟩:=aB.mp y;obtain⟨v,u,n',o,_,_,_,k1,k2,_⟩:=kmu (kown y);exact z.2 (aB.mpr ⟨i,by rw[k1];exact y⟩)⟩;refine⟨⟨a.le,a.dom,λm o q ht hm=>a.keep m o q ht λ⟨i,s,z1,z2,z3⟩=>hm ?_,λ_ _ q=>.inl q,λi s q hl'=>?_,λi s q hl'=>?_,λi v q=>?_,λi v q=>?_⟩,⟨?_,?_,λn z=>S.lh n (a.dom n z),S2.xl,S.inj,λi n q z=>?_,λi s q=>?_,S2.bs⟩,koc⟩
 .rw[B6] at z1;split at z1
  .rename_i hi;rw[AM (by rw[<- S.l2];exact hi)] at z2;exact⟨i,s,z1,z2,z3⟩
  .rw[A4] at z1;split at z1 <;> cases z1
 .obtain⟨b,u,_,_,y⟩:=bX q;subst y;cases b <;> cases hl'
 .rcases cZ qm q with ⟨_,z⟩ |⟨_,v,_,z⟩ <;> subst z <;> cases hl'
 .rcases cZ qm q with ⟨_,z⟩ |⟨z,_⟩
  .cases z
  .obtain⟨v',u,n,o,_,_,k1,_⟩:=kmu z;exact⟨u,k1,rfl⟩
 .obtain⟨b,u,y1,_,y2⟩:=bX q;cases b with
  |false=>cases y2
  |true=>obtain⟨v',u,n,o,_,k0,k1,_⟩:=kmu y1;exact⟨v',k0,rfl⟩
 .rw[S.l1,cV];exact lS
 .rw[S.l2,cV];exact lS
 .obtain⟨v,u,n',o,_,_,_,k1,k2,_⟩:=kmu (kown q);exact S2.nx i n (by rw[k1];exact q) z
 .rcases cZ qm q with ⟨z,rfl⟩ |⟨z,v,z2,rfl⟩
  .have hil:i<ms.length:=(f_.mp z).1;have hi:i<(sls ms us).length:=ltS hil;obtain⟨b,u,y1,_,y2⟩:=bX (o_ hi);rw[z] at y1;cases y1;have k:=S.sl i _ (o_ hi);rw[y2] at k;exact k.1
  .obtain⟨v',u,n,o,k0,_,_,k1,k2,k3,k4,k5,k6⟩:=kmu z;rw[z2] at k0;cases k0;exact⟨n,o,k2,k3,k4,k5,k6.mono (.of koc)⟩
variable{P:Program}{w:World}{base:Heap}{fx:Str}{fst:Stmt}{n m:Nat}{pn N:List Str}{x:PSt}
def jI(sp:sp3 K mg (fnP ms m x) vs H Q E):vs.length=ms.length:=by obtain⟨Y,ps,us,hl,S,_⟩:=sp;have q:=S.l1;unfold sls at q;rw[e_,Bt] at q;have hl':us.length=ms.length:=hl;have:(fnP ms m x).ms=ms:=rfl;rw[this] at q;omega
def jP{Q:VK}{E:XK}(sp:sp3 K mg (fnP ms N.length x) vs H Q E):rdS K mg (λ_=>E) x.G { nx:=λ_ H'=>Q .non H',rt:=Q } (bt N vs) H:=by
 have hv:=jI sp;obtain⟨Y,ps,us,hl,S0,p⟩:=sp;have hl:us.length=ms.length:=hl;have S0:Sat K mg Y (nn H) ps (sls ms us) (vs.map some) H:=S0;have S1:=u9 (k:=N.length-vs.length) S0;refine⟨Y,nn H,_,_,S1,?_⟩;have p:match fnV ms N.length x.G us with
  |.ok r mv=>∀y H',Stp ps (sls ms us) H ps (ao ms mv) H'->RtR K mg Y (nn H) ps (ao ms mv) (vs.map some) H' y r->Q y H'
  |.exc c mv=>∀C H',Stp ps (sls ms us) H ps (ao ms mv) H'->Sat K mg Y (nn H) ps (ao ms mv) (vs.map some) H'->mg c=some (.ref C)->E (.ref C) none H'
  |.stuck=>False:=p
 unfold fnV at p;rw[if_pos hl] at p;have hvu:us.length=vs.length:=by omega
 rw[hvu] at p;cases q:x.G (sls ms us++List.replicate (N.length-vs.length) .no) with
 |stuck=>rw[q] at p;exact p.elim
 |bk _=>rw[q] at p;exact p.elim
 |ct _=>rw[q] at p;exact p.elim
 |
  nx e'=>
  rw[q] at p;intro H' σ' ns' a S2;try dsimp only at p
  cases qm:muV ms e' with
  |none=>rw[qm] at p;exact p.elim
  |some mv=>rw[qm] at p;obtain⟨a3,S3,koc⟩:=dX hl S0 (λ_ z=>z) a S2 qm;exact p _ _ a3 ⟨S3,.non⟩
 |
  exc c e'=>
  rw[q] at p;intro H' σ' ns' C a S2 hC;try dsimp only at p
  cases qm:muV ms e' with
  |none=>rw[qm] at p;exact p.elim
  |some mv=>rw[qm] at p;obtain⟨a3,S3,koc⟩:=dX hl S0 (λ_ z=>z) a S2 qm;exact p _ _ a3 S3 hC
 |
  rt r e'=>
  rw[q] at p;intro H' σ' ns' y a rr;try dsimp only at p
  cases qm:muV ms e' with
  |none=>rw[qm] at p;exact p.elim
  |
   some mv=>
   rw[qm] at p;cases r with
   |val v=>obtain⟨a3,S3,koc⟩:=dX hl S0 (λ_ z=>z) a rr.1 qm;exact p _ _ a3 ⟨S3,rr.2.mono (.of koc)⟩
   |new v=>obtain⟨n,o,z1,z2,z3,z4,z5,z6,z7⟩:=rr;obtain⟨a3,S3,koc⟩:=dX (Y:=Xn Y n) hl S0 (λ_ z=>.inl z) a z6 qm;exact p _ _ a3 ⟨n,o,z1,z2,z3,z4,z5,S3,z7.mono (.of koc)⟩
   |pr v u=>obtain⟨pp,d1,n,o,z0,z1,z2,z3,z4,z5,z6,z7,z8⟩:=rr;obtain⟨a3,S3,koc⟩:=dX (Y:=Xn Y n) hl S0 (λ_ z=>.inl z) a z6 qm;exact p _ _ a3 ⟨pp,d1,n,o,z0,z1,z2,z3,z4,z5,S3,z7.mono (.of koc),z8.mono (.of koc)⟩
   |
    par i=>
    obtain⟨R1,R2,v,R3⟩:=rr;obtain⟨a3,S3,koc⟩:=dX hl S0 (λ_ z=>z) a R1 qm;refine p _ _ a3 ⟨S3,?_,?_⟩;all_goals
     obtain⟨u,k1,k2⟩:=a.mu i v R3;have hi:i<(sls ms us).length:=by apply Decidable.byContradiction;intro hi;rw[BM (Nat.le_of_not_lt hi),A4] at k1;split at k1 <;> cases k1
     rw[AM hi] at k1;rw[AM (by rw[S0.l2];exact hi)] at k2;obtain⟨m,o,w1,w2,_⟩:=S0.sl i _ k1
    .obtain⟨m',o',x1,x2,_⟩:=R1.sl i _ R3;rw[k2,w1] at x1;cases x1;rw[R2] at x2;cases x2;exact w2
    .obtain⟨v',y,_⟩:=a3.mu' i u k1;exact⟨v',y⟩
def okP(D:Def K mg fx fst)(S:FnScope N pn (ai fst))
 (hb:∀(kV doc pm:Value) (an:Option Addr) (cdv ct:Value) (us:List Value),us.length=pn.length->bindArgs (W.fnOf fx fx (bE fst) (aO fst) (ai fst) .none kV doc pm an cdv ct) ⟨us,[]⟩=pure (pn.zip us))
 (a_:N.Nodup->∀(f:Addr) (cdv:Value) (A:Around) (outer:List Env) (s:Shared) (H:Hp) (E:XK),Room k (A.deeper (envOfC fx (ai fst) s.heap.objs.size f cdv))->
  DSs K mg (bT (CX1 P w) P w K mg base N fx (ai fst) f cdv A outer s H E) (λ_=>E) (aO fst) x) (hn:ms.length=pn.length:=by rfl) (hm:N.length=m:=by rfl):Callee P w K mg base fx (k+1) pn (sp3 K mg (fnP ms m x)):=by
 subst hm;exact D.okR S hb (λvs H Q E sp=>by rw[<- hn];exact jI sp) λf cdv A outer s H vs Q E hr sp=>⟨_,(a_ S.nd f cdv A outer s H E hr).ok,jP sp⟩
end
theorem g8:∀{ts:List Tm}{k:Nat},ts[k]?=some (.bor i)->cJ i ts=true
 | [],_,q=>by simp at q
 |
  t::ts,0,q=>by
  have:t=.bor i:=by simpa using q
  subst this;simp [cJ]
 |
  t::ts,k+1,q=>by
  have:=g8 (ts:=ts) (k:=k) (by simpa using q)
  cases t <;> simp [cJ,this]
theorem mf:∀{ms:List Bool}{ts:List Tm}{k:Nat},ms[k]?=some true->ts[k]?=some (.bor i)->b8 i ms ts=true
 | [],_,_,q,_=>by simp at q
 |_::_,[],_,_,q=>by simp at q
 |
  b::ms,t::ts,0,q1,q=>by
  have:t=.bor i:=by simpa using q
  have:b=true:=by simpa using q1
  subst_vars;simp [b8]
 |
  b::ms,t::ts,k+1,q1,q=>by
  have:=mf (ms:=ms) (ts:=ts) (k:=k) (by simpa using q1) (by simpa using q)
  cases b <;> cases t <;> simp [b8,this]
theorem fh:∀{ms:List Bool}{ts:List Tm}{k:Nat},okA e ms ts=true->ms[k]?=some true->∃i,ts[k]?=some (.bor i)/\∃u,(e[i]?).bind Sl.mv=some u
 | [],_,_,_,q=>by simp at q
 |b::ms,[],_,o,_=>by cases b <;> simp [okA] at o
 |
  b::ms,t::ts,0,o,q=>by
  have:b=true:=by simpa using q
  subst this;cases t with
  |bor i=>simp only[okA,i_] at o;exact⟨i,rfl,Bg.mp o.1.1⟩
  |_=>simp [okA] at o
 |
  b::ms,t::ts,k+1,o,q=>by
  have o':okA e ms ts=true:=by cases b <;> cases t <;> simp only[okA,i_] at o <;> first |exact o.2 |exact o |(simp at o;done)
  obtain⟨i,y⟩:=fh (k:=k) o' (by simpa using q);exact⟨i,by simpa using y⟩
theorem d3:∀{ms:List Bool}{ts:List Tm}{k j i:Nat},okA e ms ts=true->ms[k]?=some true->ts[k]?=some (.bor i)->ts[j]?=some (.bor i)->j=k
 | [],_,_,_,_,_,q,_,_=>by simp at q
 |b::ms,[],_,_,_,o,_,_,_=>by cases b <;> simp [okA] at o
 |b::ms,t::ts,0,0,i,o,q1,q2,q3=>rfl
 |
  b::ms,t::ts,0,j+1,i,o,q1,q2,q3=>by
  have h1:b=true:=by simpa using q1
  have h2:t=.bor i:=by simpa using q2
  subst h1 h2;simp only[okA,i_] at o
  have:=g8 (i:=i) (ts:=ts) (k:=j) (by simpa using q3)
  rw[this] at o;simp at o
 |
  b::ms,t::ts,k+1,0,i,o,q1,q2,q3=>by
  have h2:t=.bor i:=by simpa using q3
  subst h2;have hm:=mf (i:=i) (ms:=ms) (ts:=ts) (k:=k) (by simpa using q1) (by simpa using q2);have hb:=g8 (i:=i) (ts:=ts) (k:=k) (by simpa using q2);cases b <;> simp [okA,hm,hb] at o
 |
  b::ms,t::ts,k+1,j+1,i,o,q1,q2,q3=>by
  have o':okA e ms ts=true:=by cases b <;> cases t <;> simp only[okA,i_] at o <;> first |exact o.2 |exact o |(simp at o;done)
  exact A0 (· + 1) (d3 (k:=k) (j:=j) (i:=i) o' (by simpa using q1) (by simpa using q2) (by simpa using q3))
theorem g9:∀{ms:List Bool}{ts:List Tm},okA e ms ts=true->ms.length=ts.length
 | [],[],_=>rfl
 | [],_::_,o=>by simp [okA] at o
 |b::ms,[],o=>by cases b <;> simp [okA] at o
 |
  b::ms,t::ts,o=>by
  have o':okA e ms ts=true:=by cases b <;> cases t <;> simp only[okA,i_] at o <;> first |exact o.2 |exact o |(simp at o;done)
  exact A0 (· + 1) (g9 o')
theorem fE:∀{ms:List Bool}{ts:List Tm}{k i:Nat},ms[k]?=some false->ts[k]?=some (.bor i)->(∀v,e[i]?≠some (.sh v))->i∈ay e ms ts
 | [],_,_,_,q,_,_=>by simp at q
 |_::_,[],_,_,_,q,_=>by simp at q
 |
  b::ms,t::ts,0,i,q1,q2,hn=>by
  have h1:b=false:=by simpa using q1
  have h2:t=.bor i:=by simpa using q2
  subst h1 h2;unfold ay;split
  .rename_i v q;exact absurd q (hn v)
  .exact y_ ..
 |
  b::ms,t::ts,k+1,i,q1,q2,hn=>by
  have ih:=fE (ms:=ms) (ts:=ts) (k:=k) (by simpa using q1) (by simpa using q2) hn;cases b <;> cases t <;> simp only[ay] <;> first |exact ih |(split;exact ih;exact s_ _ ih)
def bV{ms:List Bool}{ts:List Tm}{k i:Nat}(q:(az ms ts)[k]?=some (some i)):ms[k]?=some true/\ts[k]?=some (.bor i):=by
 unfold az at q;rw[BG] at q;cases h1:ms[k]? with
 |none=>rw[h1] at q;cases q
 |
  some b=>
  cases h2:ts[k]? with
  |none=>rw[h1,h2] at q;cases q
  |some t=>rw[h1,h2] at q;have q':fU b t=some i:=u_ q;cases b <;> cases t <;> first |(cases q';done) |(cases q';exact⟨rfl,rfl⟩)
def uO{ms:List Bool}{ts:List Tm}{k i:Nat}(q1:ms[k]?=some true)(q2:ts[k]?=some (.bor i)):(az ms ts)[k]?=some (some i):=by unfold az;rw[BG,q1,q2];rfl
theorem lT:∀{ts:List Tm}{vs:List Val}{k:Nat}{v:Val},rss e ts=some vs->vs[k]?=some v->∃t,ts[k]?=some t/\rs e t=some v
 | [],_,_,_,q,q2=>by cases q;simp at q2
 |
  t::ts,vs,k,v,q,q2=>by
  unfold rss at q;split at q
  .rename_i u us e1 e2;cases q;cases k with
   |zero=>
    have:u=v:=by simpa using q2
    subst this;exact⟨t,rfl,e1⟩
   |succ k=>obtain⟨t',y1,y2⟩:=lT (k:=k) e2 (by simpa using q2);exact⟨t',by simpa using y1,y2⟩
  .cases q
theorem ie:∀{ts:List Tm}{vs:List Val},rss e ts=some vs->vs.length=ts.length
 | [],_,q=>by cases q;rfl
 |
  t::ts,vs,q=>by
  unfold rss at q;split at q
  .rename_i u us e1 e2;cases q;exact A0 (· + 1) (ie e2)
  .cases q
theorem ej:∀{ms:List Bool}{mv:List Val}{j:Nat}{v:Val},(ao ms mv)[j]?=some (.mu v)->v∈mv
 | [],_,_,_,q=>by simp [ao] at q
 |true::ms,u::mv,0,v,q=>by
  have:Sl.mu u=.mu v:=by simpa [ao] using q
  cases this;exact y_ ..
 |true::ms,u::mv,j+1,v,q=>s_ _ (ej (ms:=ms) (mv:=mv) (j:=j) (by simpa [ao] using q))
 |true::ms,[],0,v,q=>by simp [ao] at q
 |true::ms,[],j+1,v,q=>ej (ms:=ms) (mv:=[]) (j:=j) (by simpa [ao] using q)
 |false::ms,mv,0,v,q=>by simp [ao] at q
 |false::ms,mv,j+1,v,q=>ej (ms:=ms) (mv:=mv) (j:=j) (by simpa [ao] using q)
theorem fS:∀{ms:List Bool}{ts:List Tm}{i:Nat},i∈ay e ms ts->∃k:Nat,ms[k]?=some false/\ts[k]?=some (.bor i)
 | [],_,_,q=>by simp [ay] at q
 |_::_,[],_,q=>by simp [ay] at q
 |
  b::ms,t::ts,i,q=>by
  have up:i∈ay e ms ts->∃k:Nat,(b::ms)[k]?=some false/\(t::ts)[k]?=some (.bor i):=λz=>by obtain⟨k,y1,y2⟩:=fS z;exact⟨k+1,by simpa using y1,by simpa using y2⟩
  cases b <;> cases t <;> simp only[ay] at q <;> first |exact up q |skip
  split at q
  .exact up q
  .rcases AL.mp q with rfl |q
   .exact⟨0,rfl,rfl⟩
   .exact up q
def uX(q:bh e (.bor i)=some (e1,v)):(∀j,j≠i->e1[j]?=e[j]?)/\e1[i]?=some (.sh v)/\(e[i]?).bind Sl.val=some v:=by
 unfold bh at q;dsimp only at q;split at q
 .rename_i u q1;cases q;exact⟨λ_ _=>rfl,q1,by rw[q1];rfl⟩
 .rename_i u q1;cases q;exact⟨λj z=>bc z,bx (f_.mp q1).1,by rw[q1];rfl⟩
 .cases q
theorem iI:∀{ms:List Bool}{ts:List Tm},(∀(k i:Nat),ms[k]?=some true->ts[k]?=some (.bor i)->e2[i]?=e[i]?)->okA e ms ts=true->okA e2 ms ts=true
 | [],[],_,o=>rfl
 | [],_::_,_,o=>by simp [okA] at o
 |b::ms,[],_,o=>by cases b <;> simp [okA] at o
 |
  b::ms,t::ts,hk,o=>by
  have o':okA e ms ts=true:=by cases b <;> cases t <;> simp only[okA,i_] at o <;> first |exact o.2 |exact o |(simp at o;done)
  have ih:=iI (λk i q1 q2=>hk (k+1) i (by simpa using q1) (by simpa using q2)) o';cases b with
  |false=>cases t <;> simp only[okA,i_] at o ⊢ <;> first |exact⟨o.1,ih⟩ |exact ih
  |
   true=>
   cases t with
   |bor i=>simp only[okA,i_] at o ⊢;rw[hk 0 i rfl rfl];exact⟨o.1,ih⟩
   |_=>simp [okA] at o
theorem kF:∀{ms:List Bool}{ts:List Tm},(∀(k i:Nat),ms[k]?=some false->ts[k]?=some (.bor i)->∃v,e[i]?=some (.sh v))->ay e ms ts=[]
 | [],_,_=>by simp [ay]
 |_::_,[],_=>by simp [ay]
 |
  b::ms,t::ts,hk=>by
  have ih:=kF (λk i q1 q2=>hk (k+1) i (by simpa using q1) (by simpa using q2));cases b <;> cases t <;> simp only[ay] <;> first |exact ih |skip
  rename_i i;obtain⟨v,q⟩:=hk 0 i rfl rfl;rw[q];exact ih
theorem iG(hv:∀i:Nat,(e2[i]?).bind Sl.val=(e[i]?).bind Sl.val):∀(ts:List Tm),rss e2 ts=rss e ts
 | []=>rfl
 |
  t::ts=>by
  unfold rss;rw[iG hv ts];have:rs e2 t=rs e t:=by
   cases t with
   |bor i=>exact hv i
   |_=>rfl
  rw[this]
def sH(ok:okA e ms ts=true):Lnk (az ms ts) e (sls ms vs):=by
 refine⟨λj k i q1 q2=>d3 ok (bV q2).1 (bV q2).2 (bV q1).2,λj v q=>?_,λj s q hm=>?_⟩
 .obtain⟨b,u,q1,_,q2⟩:=bX q;cases b with
  |false=>cases q2
  |true=>obtain⟨i,y1,w,y2⟩:=fh ok q1;obtain⟨s,z1,z2⟩:=A5.mp y2;exact⟨i,s,uO q1 y1,z1,by cases s <;> first |rfl |cases z2⟩
 .obtain⟨b,u,q1,_,q2⟩:=bX q;cases b with
  |false=>subst q2;cases hm
  |true=>exact⟨u,q2⟩
section
variable{K:W.Frag}{mg:Cj}{X N0 L:Addr->Prop}{ns:Ns}{e e2:E3}{σ:St}{H H':Hp}{ms:List Bool}{ts:List Tm}{ds:List V}{vs:List Val}{E:XK}{Q:VK}
theorem TsR.get:∀{ds:List V}{ts:List Tm}{k:Nat}{t:Tm},TsR K mg X ns σ H ds ts->ts[k]?=some t->∃d,ds[k]?=some d/\((∃v,t=.val v/\Rd K mg (Oc X ns) H d v)\/∃i,t=.bor i/\σ[i]?=some (some d))
 |_,_,_,_,.nil,q=>by simp at q
 |_,_,0,_,.val r rr,q=>by have:=(by simpa using q:Tm.val _=_);subst this;exact⟨_,rfl,.inl ⟨_,rfl,r⟩⟩
 |_,_,0,_,.bor r rr,q=>by have:=(by simpa using q:Tm.bor _=_);subst this;exact⟨_,rfl,.inr ⟨_,rfl,r⟩⟩
 |_,_,k+1,t,.val r rr,q=>by obtain⟨d,y⟩:=rr.get (k:=k) (by simpa using q);exact⟨d,by simpa using y⟩
 |_,_,k+1,t,.bor r rr,q=>by obtain⟨d,y⟩:=rr.get (k:=k) (by simpa using q);exact⟨d,by simpa using y⟩
def Xc(X:Addr->Prop)(ns:Ns)(e:E3)(ms:List Bool)(ts:List Tm)(n:Addr):Prop:=(X n\/some n∈ns)/\some n∉aE (az ms ts) ns/\∀i∈ay e ms ts,ns[i]?≠some (some n)
def fG(S:Sat K mg X N0 ns e σ H)(rt:TsR K mg X ns σ H ds ts)(qv:rss e ts=some vs)(ok:okA e ms ts=true):
 Sat K mg (Xc X ns e ms ts) (nn H) (aE (az ms ts) ns) (sls ms vs) (ds.map some) H:=by
 have l1:=g9 ok;have l2:=ie qv;have l3:=TsR.len rt;have hs:gw (az ms ts):=λj k i q1 q2=>d3 ok (bV q2).1 (bV q2).2 (bV q1).2;have mv:Mov (Oc X ns) (Oc (Xc X ns e ms ts) (aE (az ms ts) ns)) H H:=.of λn p=>⟨λz=>by
  rcases z.1 with z |z
  .exact p.1 z
  .exact p.2 z,λz=>p.2 (j6 z)⟩
 refine⟨?_,?_,λ_ z=>z,λn z=>?_,λj k n q1 q2=>?_,λj n q z=>z.2.1 (aB.mpr ⟨j,q⟩),λk s q=>?_,S.bs⟩
 .unfold sls;rw[e_,Bt];omega
 .unfold aE az sls;rw[e_,Bt,Bt];omega
 .rcases z.1 with z |z
  .exact S.xl n z
  .obtain⟨i,z⟩:=aB.mp z;obtain⟨_,_,o,_,_,_,_,q',_⟩:=S.own z;exact⟨o,q'⟩
 .obtain⟨i,y1,y2⟩:=ba q1;obtain⟨i',y3,y4⟩:=ba q2
  have:=S.inj i i' n y2 y4
  subst this;exact hs j k i y1 y3
 .obtain⟨b,v,q1,q2,rfl⟩:=bX q;obtain⟨t,q3,q4⟩:=lT qv q2;obtain⟨d,q5,q6⟩:=rt.get q3;have qd:(ds.map some)[k]?=some (some d):=by rw[x_,q5];rfl
  rw[qd];have qn:(aE (az ms ts) ns)[k]?=some ((fU b t).bind λi=>(ns[i]?).bind id):=by unfold aE az;rw[x_,BG,q1,q3];rfl
  rw[qn];cases b with
  |
   true=>
   obtain⟨i,y1,u,y2⟩:=fh ok q1;rw[q3] at y1;cases y1;have q4':(e[i]?).bind Sl.val=some v:=q4;obtain⟨s,z1,z2⟩:=A5.mp y2;rw[z1] at q4';have hv:s.val=some v:=q4';have huv:u=v:=by cases s <;> first |cases z2;done |(cases z2;cases hv;rfl)
   subst huv;have hns:∃n,ns[i]?=some (some n):=by
    have y:=S.sl i s z1;cases s with
    |ow v=>obtain⟨n,o,y1,_⟩:=y;exact⟨n,y1⟩
    |mu v=>obtain⟨n,o,y1,_⟩:=y;exact⟨n,y1⟩
    |_=>cases z2
   obtain⟨n,hn⟩:=hns;obtain⟨n',o,k1,k0,k2,k3,k4,_⟩:=S.write z1 z2;rcases q6 with ⟨_,z,_⟩ |⟨i',z,q6⟩
   .cases z
   .cases z;rw[q6] at k1;cases k1;obtain⟨_,_,_,_,_,_,w,_⟩:=S.own hn;rw[q6] at w;cases w;exact⟨n,o,by show some ((ns[i]?).bind id)=_;rw[hn];rfl,rfl,k2,k3,k4.mono mv⟩
  |
   false=>
   refine⟨by cases t <;> rfl,d,rfl,?_⟩;rcases q6 with ⟨u,rfl,q6⟩ |⟨i,rfl,q6⟩
   .cases q4;exact q6.mono mv
   .obtain⟨s,z1,z2⟩:=A5.mp (show (e[i]?).bind Sl.val=some v from q4);have y:=S.sl i s z1;by_cases hsh:∃w,s=.sh w
    .obtain⟨w,rfl⟩:=hsh;cases z2;obtain⟨_,x,w1,w2⟩:=y;rw[q6] at w1;cases w1;exact w2.mono mv
    .have hl:=fE q1 q3 λw z=>hsh ⟨w,by rw[z1] at z;exact u_ z⟩;have:∃n o,ns[i]?=some (some n)/\σ[i]?=some (some (.ref n))/\H n=some o/\Rc K mg (Oc X ns) H o v:=by
      cases s with
      |no=>cases z2
      |sh w=>exact absurd ⟨w,rfl⟩ hsh
      |ow w=>cases z2;obtain⟨n,o,y1,y2,_,y3,_,y4⟩:=y;exact⟨n,o,y1,y2,y3,y4⟩
      |lo w=>cases z2;obtain⟨n,o,y1,y2,_,y3,_,y4⟩:=y;exact⟨n,o,y1,y2,y3,y4⟩
      |mu w=>cases z2;obtain⟨n,o,y1,y2,y3,_,y4⟩:=y;exact⟨n,o,y1,y2,y3,y4⟩
      |lm w=>cases z2;obtain⟨n,o,y1,y2,y3,_,y4⟩:=y;exact⟨n,o,y1,y2,y3,y4⟩
     obtain⟨n,o,w1,w2,w3,w4⟩:=this;rw[q6] at w2;cases w2;refine .cell ⟨λy=>y.2.2 i hl w1,λy=>?_⟩ w3 (w4.mono mv);obtain⟨j,y⟩:=aB.mp y;obtain⟨i',y1,y2⟩:=ba y;obtain⟨y3,y4⟩:=bV y1
     have:=S.inj i' i n y2 w1
     subst this
     have:=d3 ok y3 y4 q3
     subst this;rw[q1] at y3;cases y3
theorem fQ:∀{is:List Nat}{ns:Ns}{e e2:E3},Sat K mg X N0 ns e σ H->(∀i∈is,∃d,σ[i]?=some (some d))->ed e is=some e2->∃d_,Sat K mg X N0 d_ e2 σ H/\Stp ns e H d_ e2 H/\(∀i,i∉is->e2[i]?=e[i]?)/\(∀i∈is,∃v,e2[i]?=some (.sh v))/\∀i:Nat,(e2[i]?).bind Sl.val=(e[i]?).bind Sl.val
 | [],ns,e,e2,S,_,q=>by cases q;exact⟨ns,S,.refl,λ_ _=>rfl,(λ_ z=>by cases z),λ_=>rfl⟩
 |
  i::is,ns,e,e2,S,hd,q=>by
  unfold ed at q;split at q
  .rename_i e1 v q1;obtain⟨d,hd0⟩:=hd i (y_ ..);obtain⟨ns1,S1,a1,r1⟩:=cX (L:=X) (t:=.bor i) S hd0 q1;obtain⟨d_,S2,a2,k1,k2,k3⟩:=fQ S1 (λj z=>hd j (s_ _ z)) q;obtain⟨y1,y2,y3⟩:=uX q1;refine⟨d_,S2,a1.trans S a2,λj hj=>?_,λj hj=>?_,λj=>?_⟩
   .rw[AL,not_or] at hj;rw[k1 j hj.2,y1 j hj.1]
   .by_cases z:j∈is
    .exact k2 j z
    .rcases AL.mp hj with rfl |hj
     .exact⟨v,by rw[k1 j z];exact y2⟩
     .exact absurd hj z
   .rw[k3 j];by_cases z:j=i
    .subst z;rw[y2,y3];rfl
    .rw[y1 j z]
  .cases q
def l9(hl:ay e ms ts=[])(z:¬ Xc X ns e ms ts n)(z2:some n∉aE (az ms ts) ns):Oc X ns n:=
 ⟨λy=>z ⟨.inl y,z2,λi hi=>by rw[hl] at hi;cases hi⟩,λy=>z ⟨.inr y,z2,λi hi=>by rw[hl] at hi;cases hi⟩⟩
def fD{Y:Addr->Prop}(S:Sat K mg X N0 ns e σ H)(ok:okA e ms ts=true)(a:Stp (aE (az ms ts) ns) (sls ms vs) H (aE (az ms ts) ns) (ao ms mv) H')(hf:ay e ms ts=[]\/mv.all bf=true)(hY:∀n,Y n->(∃o,H' n=some o)/\H n=none)(S3:Sat K mg (λn=>Xc X ns e ms ts n\/Y n) N1 (aE (az ms ts) ns) (ao ms mv) (ds.map some) H'):
 Sat K mg (λn=>X n\/Y n) N0 ns (aC (az ms ts) (ao ms mv) e) σ H'/\Stp ns e H ns (aC (az ms ts) (ao ms mv) e) H'/\(ay e ms ts=[]->∀m,Oc (λn=>Xc X ns e ms ts n\/Y n) (aE (az ms ts) ns) m->Oc (λn=>X n\/Y n) ns m):=by
 have kk:ay e ms ts=[]->∀m,Oc (λn=>Xc X ns e ms ts n\/Y n) (aE (az ms ts) ns) m->Oc (λn=>X n\/Y n) ns m:=λhf m z=>by
  have:=l9 hf (λy=>z.1 (.inl y)) z.2
  exact⟨λy=>by
   rcases y with y |y
   .exact this.1 y
   .exact z.1 (.inr y),this.2⟩
 obtain⟨S4,a4⟩:=S.back (Y:=λn=>X n\/Y n) (sH (vs:=vs) ok) a S3.bs (λm z=>by
  rcases z with z |z
  .obtain⟨o,z'⟩:=S.xl m z;refine⟨?_,.inl z⟩;cases qh:H' m with
   |none=>rw[a.dom m qh] at z';cases z'
   |some o'=>exact⟨o',rfl⟩
  .exact⟨(hY m z).1,.inr (hY m z).2⟩) (λ_ z=>.inl z) λj w n' q1 q2=>by
  obtain⟨s,u,o,b1,b2,b3,b4,b5,b6,b7⟩:=S3.own q2;rw[q1] at b1;cases b1;cases b3;rcases hf with hf |hf
  .exact⟨o,b5,b6,b7.mono (.of (kk hf))⟩
  .exact⟨o,b5,b6,b7.flat .refl (AK.mp hf w (ej q1))⟩
 exact⟨S4,a4,kk⟩
def Sat.eqX{X Y:Addr->Prop}(S:Sat K mg X N0 ns e σ H)(h:∀n,X n ↔ Y n):Sat K mg Y N0 ns e σ H:=by have:X=Y:=funext λn=>propext (h n);exact this ▸ S
def hV(S:Sat K mg X N0 ns e σ H)(ok:okA e ms ts=true)(a:Stp (aE (az ms ts) ns) (sls ms vs) H (aE (az ms ts) ns) (ao ms mv) H')(hf:ay e ms ts=[]\/mv.all bf=true)(S3:Sat K mg (Xc X ns e ms ts) N1 (aE (az ms ts) ns) (ao ms mv) (ds.map some) H'):
 Sat K mg X N0 ns (aC (az ms ts) (ao ms mv) e) σ H'/\Stp ns e H ns (aC (az ms ts) (ao ms mv) e) H'/\(ay e ms ts=[]->∀m,Oc (Xc X ns e ms ts) (aE (az ms ts) ns) m->Oc X ns m):=by
 obtain⟨S4,a4,_⟩:=fD (Y:=λ_=>False) S ok a hf (λ_ z=>z.elim) (S3.eqX λn=>⟨.inl,λz=>z.elim id (·.elim)⟩);exact⟨S4.eqX λn=>⟨λz=>z.elim id (·.elim),.inl⟩,a4,λhf m z=>l9 hf z.1 z.2⟩
def lz(S:Sat K mg X N0 ns e σ H)(hL:∀a,H a=none->L a)(rt:TsR K mg X ns σ H ds ts)(ok:okA e ms ts=true)(hf:ay e ms ts=[]\/(er r=true/\mv.all bf=true))(p:PG3 K mg X N0 ns e σ H E (KE K mg X N0 L σ Q) (.ok (r.tm ts) (aC (az ms ts) (ao ms mv) e)))
 (a:Stp (aE (az ms ts) ns) (sls ms vs) H (aE (az ms ts) ns) (ao ms mv) H') (rr:RtR K mg (Xc X ns e ms ts) (nn H) (aE (az ms ts) ns) (ao ms mv) (ds.map some) H' x r):Q x H':=by
 have hf2:ay e ms ts=[]\/mv.all bf=true:=hf.imp id (·.2);cases r with
 |
  val v=>
  obtain⟨S3,rv⟩:=rr;obtain⟨S4,a4,kk⟩:=hV S ok a hf2 S3;refine p _ _ a4 S4 x ?_;rcases hf with hf |hf
  .exact rv.mono (.of (kk hf))
  .exact rv.flat .refl hf.1
 |
  new v=>
  obtain⟨n,o,rfl,z2,z3,z4,z5,S3,z7⟩:=rr;obtain⟨S4,a4,kk⟩:=fD (Y:=λm=>m=n) S ok a hf2 (λm z=>by subst z;exact⟨⟨o,z4⟩,z2⟩) S3;refine p _ _ a4 (S4.weak λ_ z=>.inl z) _ ⟨n,o,rfl,hL n z2,λy=>?_,z4,z5,S4,?_⟩
  .obtain⟨u,y⟩:=S.xl n y;rw[show H n=none from z2] at y;cases y
  .rcases hf with hf |hf
   .exact z7.mono (.of (kk hf))
   .exact z7.flat .refl hf.1
 |
  pr v u=>
  obtain⟨pp,d1,n,o,rfl,z1,z2,z3,z4,z5,S3,z6,z7⟩:=rr;obtain⟨S4,a4,kk⟩:=fD (Y:=λm=>m=n) S ok a hf2 (λm z=>by subst z;exact⟨⟨o,z4⟩,z2⟩) S3;have on:Oc X ns n:=⟨λy=>(by
   obtain⟨u,y⟩:=S.xl n y;rw[show H n=none from z2] at y;cases y),λy=>by
   obtain⟨i,y⟩:=aB.mp y;exact S4.nx i n y (.inr rfl)⟩
  have wk:Mov (Oc (λm=>X m\/m=n) ns) (Oc X ns) H' H':=.of λm z=>⟨λc=>z.1 (.inl c),z.2⟩;refine p _ _ a4 (S4.weak λ_ z=>.inl z) _ (.tup z1 (.cons ?_ (.cons (.cell on z4 ?_) .nil)))
  .rcases hf with hf |hf
   .exact (z6.mono (.of (kk hf))).mono wk
   .exact z6.flat .refl (i_ _ _ ▸ hf.1).1
  .rcases hf with hf |hf
   .exact (z7.mono (.of (kk hf))).mono wk
   .exact z7.flat .refl (i_ _ _ ▸ hf.1).2
 |
  par i=>
  obtain⟨S3,w1,w,w2⟩:=rr;obtain⟨S4,a4,_⟩:=hV S ok a hf2 S3;refine p _ _ a4 S4 x ?_;obtain⟨u,x1,_⟩:=a.mu i w w2;obtain⟨b,u',x2,_,x3⟩:=bX x1;cases b with
  |false=>cases x3
  |
   true=>
   obtain⟨k,y1,_⟩:=fh ok x2;obtain⟨d',y2,z⟩:=rt.get y1;have e1:(Rt.par i).tm ts=.bor k:=by show (ts[i]?).getD _=_;rw[y1];rfl
   rw[e1];rcases z with ⟨_,z,_⟩ |⟨j,z,z2⟩
   .cases z
   .cases z;rw[x_,y2] at w1;cases w1;exact z2
theorem rB{f:PFn}(S:Sat K mg X N0 ns e σ H)(hL:∀a,H a=none->L a)(rt:TsR K mg X ns σ H ds ts)(p:PG3 K mg X N0 ns e σ H E (KE K mg X N0 L σ Q) (match rss e ts with
 |none=>.stuck
 |some vs=>if okA e f.ms ts=true then (match f.G vs with
  |.stuck=>.stuck
  |.ok r mv=>if (ay e f.ms ts).isEmpty || (er r&&mv.all bf) then .ok (r.tm ts) (aC (az f.ms ts) (ao f.ms mv) e) else (match ed e (ay e f.ms ts) with
   |some e2=>.ok (r.tm ts) (aC (az f.ms ts) (ao f.ms mv) e2)
   |none=>.stuck)
  |.exc c mv=>if (ay e f.ms ts).isEmpty || mv.all bf then .exc c (aC (az f.ms ts) (ao f.ms mv) e) else .stuck) else .stuck)):sp3 K mg f ds H Q E:=by
 split at p
 .exact p.elim
 .rename_i vs
   qv
  split at p
  .rename_i ok;have hlen:vs.length=f.ms.length:=by rw[ie qv,g9 ok]
   split at p
   .exact p.elim
   .rename_i r mv q;split at p
    .rename_i hf;rw[Bool.or_eq_true,i_] at hf;exact⟨_,_,vs,hlen,fG S rt qv ok,by rw[q];exact λx H' a rr=>lz S hL rt ok (hf.imp List.isEmpty_iff.mp id) p a rr⟩
    .split
      at p
     .rename_i e2 qd;obtain⟨d_,S2,a2,k1,k2,k3⟩:=fQ S (λi hi=>by
       obtain⟨k,_,y⟩:=fS hi;obtain⟨d,_,z⟩:=rt.get y;rcases z with ⟨_,z,_⟩ |⟨j,z,z2⟩
       .cases z
       .cases z;exact⟨d,z2⟩) qd
      have ok2:okA e2 f.ms ts=true:=iI (λk i q1 q2=>k1 i λz=>by
       obtain⟨k',y1,y2⟩:=fS z
       have:=d3 ok q1 q2 y2
       subst this;rw[q1] at y1;cases y1) ok
      have ln:ay e2 f.ms ts=[]:=kF λk i q1 q2=>by
       by_cases z:i∈ay e f.ms ts
       .exact k2 i z
       .rw[k1 i z];exact Classical.byContradiction λw=>z (fE q1 q2 λv y=>w ⟨v,y⟩)
      exact⟨_,_,vs,hlen,fG S2 (rt.stp a2) (by rw[iG k3];exact qv) ok2,by rw[q];exact λx H' a rr=>lz S2 (λb z=>hL b z) (rt.stp a2) ok2 (.inl ln) (p.after S a2) a rr⟩
     .exact p.elim
   .rename_i c mv q;split at p
    .rename_i hf;rw[Bool.or_eq_true] at hf;refine⟨_,_,vs,hlen,fG S rt qv ok,?_⟩;rw[q];intro C H' a S3 hC;obtain⟨S4,a4,_⟩:=hV S ok a (hf.imp List.isEmpty_iff.mp id) S3;exact p _ _ C a4 S4 hC
    .exact p.elim
  .exact p.elim
end
noncomputable def aF (f:PFn) (a:PAs):PEx:=⟨22,uv f.ms f.G a.G⟩
section
variable{K:W.Frag}{mg:Cj}{X:Cx}{ES:St->XK}{e:Expr}{es:List Expr}{A:PAs}{pos:Pos}{k:Nat}{ps:List Str}
def lW{f:PFn}(σ:St)(H:Hp)(Q:VK):rdE K mg ES (aF f A).G σ H Q->rdA K mg ES A.G σ H λvs H1=>sp3 K mg f vs H1 Q (ES σ):=λzz=>zz.el λY N0 L ns e S hl p=>
 ⟨Y,N0,ns,e,S,PG3.imp p S λts e1 ns1 H1 a1 S1 p1 xs r1=>rB S1 (λa z=>hl a (a1.dom a z)) r1 p1⟩
def su{f:PFn}{x:Str}{p0:Pos}(C:Callee X.prog X.w X.K X.mg X.base x k ps (sp3 K mg f))(hr:Room k X.A)(hg:Gl X x)(hx:cD X ES)(ha:DA K mg X ES (e::es) A)
 (hdb:(x==("__debug__" : Str))=false) (he:starEach (e::es) X.env=(false,eval e X.env)::starEach es X.env) (hpl:(backTo pos (starEach es X.env)).any (·.1)=false):
 DE K mg X ES (.Call (.Name x p0) (e::es) [] pos) (aF f A):=by
 obtain⟨fa,fd,F',m,kp,bb,_⟩:=C.ex;refine⟨λpins s σ H Q I hh=>BB (dZ I hg m ?_ hdb)⟩;refine W.callWith_K (h₀:=X.base) I.ok.mod.kin kp (z_ (ha.ok pos pins s σ H _ I (lW σ H Q hh)) (λus s1 ⟨vs,H1,I1,r,q⟩=>⟨I1.kIn,?_⟩) λ_ _ z=>z) he hpl;have hl:(us++[]).length=ps.length:=by rw[AN,<- r.length];exact F'.len _ _ _ _ q
 refine wpAny_call (Cb (F'.run X.A X.stack s1 H1 ⟨us,[]⟩ us vs Q (ES σ) hr I1.env0 (by simpa using bb s1 us I1.kIn hl) r q) λr s' hq=>?_);cases r with
 |error ex=>exact hx pins σ H1 s1 ex s' I1 hq
 |
  ok fl=>
  cases fl with
  |ret u=>exact I1.after hq
  |next=>exact False.elim hq
  |brk=>exact False.elim hq
  |cont=>exact False.elim hq
def uk(hp:kG (CX1 X.prog X.w) X E):cD X (λ_=>E):=λpins σ H s e s' I h=>hp pins σ H s e s' I h
def mO:cD X (λ_=>E0):=λpins σ H s e s' I h=>zm pins σ H s e s' I h
def zcF{f:PFn}{x:Str}{p0:Pos}{k j:Nat}{ps:List Str}(C:Callee X.prog X.w X.K X.mg X.base x j ps (sp3 K mg f))(hr:Room k X.A)(ha:DA K mg X ES (e::es) A)(hk:j<=k:=by omega)(hg:Gl X x:=by exact rfl)(hx:cD X ES:=by first |exact uk sT |exact mO |assumption)(hdb:(x==("__debug__" : Str))=false:=by decide)(he:starEach (e::es) X.env=(false,eval e X.env)::starEach es X.env:=by rfl)(hpl:(backTo pos (starEach es X.env)).any (·.1)=false:=by rfl):DE K mg X ES (.Call (.Name x p0) (e::es) [] pos) (aF f A):=su C (hr.mono hk) hg hx ha hdb he hpl
end
noncomputable def aI (f:Int->Int->Val):Val->Val->Bv:=λx y=>match x,y with
 |.int i,.int j=>.val (f i j)
 |_,_=>.stuck
open Classical in
def aIc(C:Int->Int->Prop)(f:Int->Int->Val):Val->Val->Bv:=λx y=>match x,y with
 |.int i,.int j=>if C i j then .val (f i j) else .stuck
 |_,_=>.stuck
noncomputable def aCat:Val->Val->Bv:=λx y=>match x,y with
 |.lst xs,.lst ys=>if xs.length+ys.length<=16777216 then .new (.lst (xs++ys)) else .stuck
 |.tup xs,.tup ys=>if xs.length+ys.length<=16777216 then .val (.tup (xs++ys)) else .stuck
 |_,_=>.stuck
noncomputable def qU:Val->Val->Bv:=λx y=>match x,y with
 |.int i,.int j=>.val (.int (i+j))
 |x,y=>aCat x y
noncomputable def aMin:=aI λi j=>.int (i-j)
def rF:=aIc CMulA λi j=>.int (i*j)
def qM:=aIc CDivB λi j=>.int (i.fdiv j)
def sF:=aIc (λ_ j=>j≠0) λi j=>.int (i.fmod j)
def sQ:=aIc eV λi j=>.int (i^j.toNat)
def so:=aIc eV λi j=>.int (i*2^j.toNat)
noncomputable def aLt:=aI λi j=>.bl (decide (i<j))
noncomputable def aLe:=aI λi j=>.bl (decide (i<=j))
noncomputable def aGt:=aI λi j=>.bl (decide (j<i))
noncomputable def aGe:=aI λi j=>.bl (decide (j<=i))
noncomputable def qS:Val->Bv:=λx=>match x with
 |.int i=>.val (.int (-i))
 |_=>.stuck
noncomputable def aIx:Val->Val->Bv:=λx y=>match x.items,y with
 |some xs,.int i=>(match atI xs i with
  |some v=>.val v
  |none=>.stuck)
 |_,_=>.stuck
mutual
def aV:Nat->Val->Option PyData
 |0,_=>none
 |_+1,.non=>some .none
 |_+1,.bl b=>some (.bool b)
 |_+1,.int i=>some (.int i)
 |_+1,.str x=>some (.str x)
 |k+1,.tup xs=>(bJ k xs).map .tuple
 |k+1,.lst xs=>(bJ k xs).map .list
 |_+1,_=>none
def bJ:Nat->List Val->Option (List PyData)
 |_,[]=>some []
 |k,x::xs=>match aV k x,bJ k xs with
  |some a,some b=>some (a::b)
  |_,_=>none
end
noncomputable def aW (x y:Val):Option Bool:=match aV 164 x,aV 164 y with
 |some a,some b=>if shp a=true/\shp b=true then some (PyData.eqv a b) else none
 |_,_=>none
noncomputable def aEq (neg:Bool):Val->Val->Bv:=λx y=>match aW x y with
 |some b=>.val (.bl (if neg then !b else b))
 |none=>.stuck
noncomputable def fg:Val->Bool
 |.non=>true
 |.bl _=>true
 |.int _=>true
 |.str _=>true
 |_=>false
noncomputable def ke:Val->V
 |.bl b=>.bl b
 |.int i=>.int i
 |.str x=>.str x
 |_=>.non
noncomputable def eq1 (x y:Val):Bool:=eqV (ke x) (ke y)
noncomputable def aIn (neg:Bool):Val->Val->Bv:=λx y=>match y.items with
 |some xs=>if fg x=true/\xs.all fg=true then .val (.bl (if neg then !(xs.any λd=>eq1 d x) else xs.any λd=>eq1 d x)) else .stuck
 |none=>.stuck
noncomputable def aIsN (neg:Bool):Val->Val->Bv:=λx y=>match x,y with
 |.non,.non=>.val (.bl (!neg))
 |_,.non=>.val (.bl neg)
 |_,_=>.stuck
noncomputable def sG:List Val->Bv:=λvs=>match vs with
 | [v]=>(match v.items with
  |some xs=>.val (.int xs.length)
  |none=>(match v with
   |.str z=>if z.length<=16777216 then .val (.int z.length) else .stuck
   |_=>.stuck))
 |_=>.stuck
noncomputable def fAbs:List Val->Bv:=λvs=>match vs with
 | [.int i]=>.val (.int (if i<0 then -i else i))
 |_=>.stuck
noncomputable def zv:List Val->Bv:=λvs=>match vs with
 | [.int i,.int j]=>.val (.int (if j>i then j else i))
 |_=>.stuck
noncomputable def mZ:List Val->Bv:=λvs=>match vs with
 | [.int i,.int j]=>.val (.int (if j<i then j else i))
 |_=>.stuck
noncomputable def fJ:List Val->Option (List Bool)
 | []=>some []
 |.bl b::r=>(fJ r).map (b :: ·)
 |_=>none
noncomputable def bA:List Val->Option (List Int)
 | []=>some []
 |.int b::r=>(bA r).map (b :: ·)
 |_=>none
noncomputable def fAll:List Val->Bv:=λvs=>match vs with
 | [.lst xs]=>(match fJ xs with
  |some bs=>.val (.bl (bs.all id))
  |none=>.stuck)
 |_=>.stuck
noncomputable def fSum:List Val->Bv:=λvs=>match vs with
 | [.lst xs]=>(match bA xs with
  |some bs=>.val (.int bs.sum)
  |none=>.stuck)
 |_=>.stuck
noncomputable def nz:List Val->Bv:=λvs=>match vs with
 | [v]=>(match v.items with
  |some xs=>.new (.lst xs)
  |none=>.stuck)
 |_=>.stuck
noncomputable def yk:List Val->Bv:=λvs=>match vs with
 | [v]=>(match v.items with
  |some xs=>.val (.tup xs)
  |none=>.stuck)
 |_=>.stuck
noncomputable def fInt:List Val->Bv:=λvs=>match vs with
 | [.int i]=>.val (.int i)
 | [.bl b]=>.val (.int (if b then 1 else 0))
 |_=>.stuck
noncomputable def tyC:Val->Option Cl
 |.non=>some (.b "NoneType")
 |.bl _=>some (.b "bool")
 |.int _=>some (.b "int")
 |.str _=>some (.b "str")
 |.tup _=>some (.b "tuple")
 |.exc x=>some (.o x)
 |.lst _=>some (.b "list")
 |.dct _=>some (.b "dict")
 |_=>none
noncomputable def clV:Val->Option Cl
 |.ty n=>some (.b n)
 |.glb x=>some (.o x)
 |_=>none
noncomputable def jS:List Val->Option (List Cl)
 | []=>some []
 |v::vs=>match clV v,jS vs with
  |some c,some cs=>some (c::cs)
  |_,_=>none
noncomputable def yQ:Val->Option (List Cl)
 |.tup cs=>jS cs
 |v=>(clV v).map ([·])
noncomputable def sg (kt:dH):List Val->Bv:=λvs=>match vs with
 | [v,c]=>(match tyC v,yQ c with
  |some t,some (c0::cr)=>(match cU kt t (c0::cr),kit kt t c0 with
   |some b,some _=>.val (.bl b)
   |_,_=>.stuck)
  |_,_=>.stuck)
 |_=>.stuck
noncomputable def cp (xs:List Val) (lo hi:Option Int):List Val:=(xs.drop (HT.sIx xs.length 0 lo)).take (HT.sIx xs.length xs.length hi-HT.sIx xs.length 0 lo)
noncomputable def aSl (x:Val) (lo hi:Option Int):Bv:=match x with
 |.tup xs=>if HT.sIx xs.length 0 lo=0/\HT.sIx xs.length xs.length hi=xs.length then .stuck else .val (.tup (cp xs lo hi))
 |.lst xs=>.new (.lst (cp xs lo hi))
 |.kl xs=>.new (.lst (cp xs lo hi))
 |.str z=>if z.length<=16777216 then .val (.str (Txt.slice z lo hi)) else .stuck
 |_=>.stuck
noncomputable def ir:Val->List Val->Option (Val×Val):=λu vs=>match u,vs with
 |.lst xs,[v]=>if xs.length<16777216 then some (.lst (xs++[v]),.non) else none
 |_,_=>none
noncomputable def sL:Val->Val->Val->Option Val:=λu i v=>match u,i with
 |.lst xs,.int k=>(match ixN xs.length k with
  |some j=>some (.lst (xs.set j v))
  |none=>none)
 |_,_=>none
noncomputable def eL (d:Val):List Val->Option (List Bool)
 | []=>some []
 |x::r=>match aW x d,eL d r with
  |some b,some bs=>some (b::bs)
  |_,_=>none
noncomputable def ic:Val->List Val->Bv:=λx vs=>match x,vs with
 |.lst xs,[d]=>(match eL d xs with
  |some bs=>if bs.idxOf true<bs.length then .val (.int (bs.idxOf true:Nat)) else .stuck
  |none=>.stuck)
 |_,_=>.stuck
noncomputable def gT:Val->List Val->Bv:=λx vs=>match x,vs with
 |.lst xs,[d]=>if ((aV 164 d).map shp)=some true then (match eL d xs with
  |some bs=>.val (.int (bs.count true:Nat))
  |none=>.stuck) else .stuck
 |_,_=>.stuck
noncomputable def aU:PO2:=⟨qU⟩
noncomputable def qW:PO2:=⟨aMin⟩
def bC:PO2:=⟨rF⟩
def cK:PO2:=⟨qM⟩
def bq:PO2:=⟨sF⟩
def m6:PO2:=⟨sQ⟩
def iu:PO2:=⟨so⟩
noncomputable def bLt:PO2:=⟨aLt⟩
noncomputable def bLe:PO2:=⟨aLe⟩
noncomputable def bGt:PO2:=⟨aGt⟩
noncomputable def bGe:PO2:=⟨aGe⟩
noncomputable def bIx:PO2:=⟨aIx⟩
noncomputable def bEq:PO2:=⟨aEq false⟩
noncomputable def bNe:PO2:=⟨aEq true⟩
noncomputable def fX:PO2:=⟨aIn true⟩
noncomputable def bIs:PO2:=⟨aIsN false⟩
noncomputable def bIsn:PO2:=⟨aIsN true⟩
noncomputable def bAug:PO2:=⟨aI λi j=>.int (i+j)⟩
noncomputable def bAuS:PO2:=⟨aI λi j=>.int (i-j)⟩
noncomputable def ng:PU1:=⟨qS⟩
noncomputable def cF:PBf:=⟨sG⟩
noncomputable def Ao:PBf:=⟨fAbs⟩
noncomputable def xw:PBf:=⟨zv⟩
noncomputable def jD:PBf:=⟨mZ⟩
noncomputable def zP:PBf:=⟨fAll⟩
noncomputable def zr:PBf:=⟨fSum⟩
noncomputable def dW:PBf:=⟨nz⟩
noncomputable def ve:PBf:=⟨yk⟩
noncomputable def uE:PBf:=⟨fInt⟩
noncomputable def ak (kt:dH):PBf:=⟨sg kt⟩
noncomputable def cq:PMm:=⟨ir⟩
noncomputable def iw:PMv:=⟨ic⟩
noncomputable def il:PMv:=⟨gT⟩
noncomputable def seL:PSe:=⟨sL⟩
section
variable{K:W.Frag}{mg:Cj}{P:Addr->Prop}{H:Hp}{Q:VK}{v:Val}{vs:List Val}{x:V}{ds:List V}{neg:Bool}
def bv(p:∀H1 x,Gr H H1->Rd K mg P H1 x v->Q x H1)(r:Rd K mg P H x v):Q x H:=p H x .refl r
def bvL(p:∀H1 a o,Gr H H1->H1 a=none->NotFz o->Rc K mg P H1 o (.lst vs)->Q (.ref a) (upd H1 a o))(r:Rds K mg P H ds vs):∀l,H l=none->Q (.ref l) (upd H l (.lst ds)):=λl hl=>p H l _ .refl hl trivial (.lst r)
def bvT(p:∀H1 x,Gr H H1->Rd K mg P H1 x (.tup vs)->Q x H1)(r:Rds K mg P H ds vs):∀l,H l=none->Q (.ref l) (upd H l (.tup ds)):=λl hl=>p _ _ (Gr.upd hl) (.tup (SqT.of ar) (r.mono (Gr.upd hl).mov))
def jo{f:Int->Int->V}{g:Int->Int->Val}(hr:∀i j P H,Rd K mg P H (f i j) (g i j)):OpD K mg (rI0 f) (aI g):=λP H x y v u Q rx ry p=>by
 unfold aI at p;split at p
 .obtain rfl:=rx.int;obtain rfl:=ry.int;exact⟨_,_,rfl,rfl,bv p (hr _ _ _ _)⟩
 .exact p.elim
def kI{f:Int->Int->V}{g:Int->Int->Val}{C:Int->Int->Prop}(hr:∀i j P H,Rd K mg P H (f i j) (g i j)):OpD K mg (rI C f) (aIc C g):=λP H x y v u Q rx ry p=>by
 unfold aIc at p;split at p
 .obtain rfl:=rx.int;obtain rfl:=ry.int;split at p
  .rename_i hc;exact⟨_,_,rfl,rfl,hc,bv p (hr _ _ _ _)⟩
  .exact p.elim
 .exact p.elim
def pR:OpD K mg (λx y H Q=>rI0 (λi j=>.int (i+j)) x y H Q\/(mR x y H Q\/(jj K x y H Q\/jr K x y H Q))) aU.G:=λP H x y v u Q rx ry p=>by
 replace p:BvP K mg P H Q (qU v u):=p;unfold qU at p;split at p
 .obtain rfl:=rx.int;obtain rfl:=ry.int;exact .inl ⟨_,_,rfl,rfl,bv p (.int _)⟩
 .right;unfold aCat at p;split at p
  .obtain⟨a,xs,rfl,e1,q1⟩:=rx.lst;obtain⟨b,ys,rfl,e2,q2⟩:=ry.lst;split at p
   .rename_i hl;exact .inl ⟨_,_,xs,ys,rfl,rfl,e1,e2,by rw[q1.len,q2.len];exact hl,bvL p (q1.append q2)⟩
   .exact p.elim
  .obtain⟨a,xs,rfl,e1,q1⟩:=rx.tup;obtain⟨b,ys,rfl,e2,q2⟩:=ry.tup;split at p
   .rename_i hl;cases q1 with
    |nil=>exact .inr (.inr ⟨_,_,_,rfl,rfl,e1,e2,bv p (.tup e2 q2)⟩)
    |cons r0 r1=>refine .inr (.inl ⟨_,_,_,_,rfl,rfl,e1,e2,(λz=>nomatch z),by rw[(Rds.cons r0 r1).len,q2.len];exact hl,λz=>?_,λ_=>bvT p ((Rds.cons r0 r1).append q2)⟩);subst z;cases q2;rw[AN] at p;exact bv p (.tup e1 (.cons r0 r1))
   .exact p.elim
  .exact p.elim
def xj:OpD K mg (rI0 λi j=>.int (i-j)) qW.G:=jo λ_ _ _ _=>.int _
def yN:OpD K mg (rI CMulA λi j=>.int (i*j)) bC.G:=kI λ_ _ _ _=>.int _
def xE:OpD K mg (rI CDivB λi j=>.int (i.fdiv j)) cK.G:=kI λ_ _ _ _=>.int _
def yn:OpD K mg (rI (λ_ j=>j≠0) λi j=>.int (i.fmod j)) bq.G:=kI λ_ _ _ _=>.int _
def wo:OpD K mg (rI eV λi j=>.int (i^j.toNat)) m6.G:=kI λ_ _ _ _=>.int _
def yd:OpD K mg (rI eV λi j=>.int (i*2^j.toNat)) iu.G:=kI λ_ _ _ _=>.int _
def zY:OpD K mg (rI0 λi j=>.bl (decide (i<j))) bLt.G:=jo λ_ _ _ _=>.bl _
def yU:OpD K mg (rI0 λi j=>.bl (decide (j<i))) bGt.G:=jo λ_ _ _ _=>.bl _
def Ae:OpD K mg (rI0 λi j=>.bl (decide (j<=i))) bGe.G:=jo λ_ _ _ _=>.bl _
def xH:UnD K mg (rU λi=>.int (-i)) ng.G:=λP H x v Q r p=>by
 replace p:BvP K mg P H Q (qS v):=p;unfold qS at p;split at p
 .obtain rfl:=r.int;exact⟨_,rfl,bv p (.int _)⟩
 .exact p.elim
def Ag(r:Rds K mg P H ds vs)(e:atI vs i=some v):∃d,atI ds i=some d/\Rd K mg P H d v:=by
 unfold atI at e ⊢;rw[r.len];cases q:ixN vs.length i with
 |none=>rw[q] at e;cases e
 |some j=>rw[q] at e;exact r.get e
def zG:OpD K mg (λx y H Q=>mX K x y H Q\/mH K x y H Q) bIx.G:=λP H x y v u Q rx ry p=>by
 replace p:BvP K mg P H Q (aIx v u):=p;unfold aIx at p;split at p
 .rename_i xs i e1;obtain⟨a,ys,rfl,h,q⟩:=rx.items e1;obtain rfl:=ry.int;split at p
  .rename_i w e3;obtain⟨d,e4,q2⟩:=Ag q e3;rcases h with h |h
   .exact .inl ⟨_,_,_,d,rfl,rfl,h,e4,bv p q2⟩
   .exact .inr ⟨_,_,_,d,rfl,rfl,h,e4,bv p q2⟩
  .exact p.elim
 .exact p.elim
def rE{k:Nat}(hk:∀d v pd,Rd K mg P H d v->aV k v=some pd->Rep K H d pd){ps:List PyData}(r:Rds K mg P H ds vs):bJ k vs=some ps->Reps K H ds ps:=
 r.ind (M:=λds vs=>∀ps,bJ k vs=some ps->Reps K H ds ps) (λ_ q=>by unfold bJ at q;cases q;exact .nil) (λr _ ih ps q=>by
  unfold bJ at q;split at q
  .rename_i a b e1 e2;cases q;exact .cons (hk _ _ _ r e1) (ih _ e2)
  .cases q) ps
theorem cT:∀(k:Nat) (d:V) (v:Val) (pd:PyData),ShR K mg P H d v->aV k v=some pd->Rep K H d pd
 |0,_,_,_,_,q=>by unfold aV at q;cases q
 |
  k+1,d,v,pd,r,q=>by
  have ih:∀{ds:List V}{vs:List Val}{ps:List PyData},Rds K mg P H ds vs->bJ k vs=some ps->Reps K H ds ps:=λr=>rE (λd v pd r q=>cT k d v pd (.inl r) q) r;cases v with
  |non=>obtain rfl:=r.non;simp only[aV] at q;cases q;exact .non
  |bl b=>obtain rfl:=r.bl;simp only[aV] at q;cases q;exact .bl b
  |int b=>obtain rfl:=r.int;simp only[aV] at q;cases q;exact .int b
  |str b=>obtain rfl:=r.str;simp only[aV] at q;cases q;exact .str b
  |tup xs=>obtain⟨a,ds,rfl,e,r2⟩:=r.tup;simp only[aV] at q;obtain⟨ps,q1,rfl⟩:=v_.mp q;exact .tup e (ih r2 q1)
  |lst xs=>obtain⟨a,ds,rfl,e,r2⟩:=r.lstL;simp only[aV] at q;obtain⟨ps,q1,rfl⟩:=v_.mp q;exact .lst e (ih r2 q1)
  |_=>simp only[aV] at q;cases q
def yb{x y:V}{u:Val}{b:Bool}(r1:ShR K mg P H x v)(r2:ShR K mg P H y u)(q:aW v u=some b):∃a c,Rep K H x a/\Rep K H y c/\shp a=true/\shp c=true/\PyData.eqv a c=b:=by
 unfold aW at q;split at q
 .rename_i a c e1 e2;split at q
  .rename_i hs;cases q;exact⟨a,c,cT 164 _ _ _ r1 e1,cT 164 _ _ _ r2 e2,hs.1,hs.2,rfl⟩
  .cases q
 .cases q
def sZ{x y:V}{u:Val}(r1:ShR K mg P H x v)(r2:ShR K mg P H y u)(p:BvP K mg P H Q (aEq neg v u)):∃a c,Rep K H x a/\Rep K H y c/\shp a=true/\shp c=true/\Q (.bl (if neg then !PyData.eqv a c else PyData.eqv a c)) H:=by
 unfold aEq at p;split at p
 .rename_i b q;obtain⟨a,c,h1,h2,h3,h4,rfl⟩:=yb r1 r2 q;exact⟨a,c,h1,h2,h3,h4,bv p (.bl _)⟩
 .exact p.elim
def sV:OpD K mg (qJ K) bEq.G:=λP H x y v u Q rx ry p=>sZ rx ry p
def zT:OpD K mg (rJ K) bNe.G:=λP H x y v u Q rx ry p=>sZ rx ry p
def l6(r:ShR K mg P H x v)(f:fg v=true):x=ke v/\L2.flatV x=true:=by
 cases v with
 |non=>obtain rfl:=r.non;exact⟨rfl,rfl⟩
 |bl b=>obtain rfl:=r.bl;exact⟨rfl,rfl⟩
 |int b=>obtain rfl:=r.int;exact⟨rfl,rfl⟩
 |str b=>obtain rfl:=r.str;exact⟨rfl,rfl⟩
 |_=>cases f
def sA(y:Val)(r:Rds K mg P H ds vs):vs.all fg=true->ds.all L2.flatV=true/\inV (ke y) ds=vs.any λd=>eq1 d y:=
 r.ind (M:=λds vs=>vs.all fg=true->ds.all L2.flatV=true/\inV (ke y) ds=vs.any λd=>eq1 d y) (λ_=>⟨rfl,rfl⟩) λr _ ih f=>by rw[B1,i_] at f;obtain⟨rfl,h2⟩:=l6 (.inl r) f.1;obtain⟨h3,h4⟩:=ih f.2;refine⟨by rw[B1,h2,h3];rfl,?_⟩;unfold inV at h4 ⊢;rw[A8,A8,h4];rfl
def AB:OpD K mg (rIn K neg) (aIn neg):=λP H x y v u Q rx ry p=>by
 unfold aIn at p;split at p
 .rename_i xs e;obtain⟨a,ys,rfl,h,q⟩:=ry.items e;split at p
  .rename_i hf;obtain⟨rfl,f2⟩:=l6 rx hf.1;obtain⟨f3,f4⟩:=sA v q hf.2;exact⟨a,ys,rfl,h,f2,f3,by rw[f4];exact bv p (.bl _)⟩
  .exact p.elim
 .exact p.elim
def wc:OpD K mg (rIn K true) fX.G:=AB
def xQ:d8 K mg (λxs H Q=>(∃p ys,xs=[.ref p]/\(SqL K H p ys\/SqT K H p ys)/\Q (.int ys.length) H)\/(∃z,xs=[.str z]/\z.length<=sizeLine/\Q (.int z.length) H)) cF.G:=λP H xs vs Q r0 p=>by
 replace p:BvP K mg P H Q (sG vs):=p;unfold sG at p;split at p
 .obtain⟨d,rfl,r⟩:=gH r0;split at p
  .rename_i xs e;obtain⟨a,ys,rfl,h,q⟩:=r.items e;exact .inl ⟨_,_,rfl,h,by rw[q.len];exact bv p (.int _)⟩
  .split at p
   .obtain rfl:=r.str;split at p
    .rename_i hl;exact .inr ⟨_,rfl,hl,bv p (.int _)⟩
    .exact p.elim
   .exact p.elim
 .exact p.elim
def vD:d8 K mg (λxs H Q=>∃i j,xs=[.int i,.int j]/\Q (.int (if j<i then j else i)) H) jD.G:=λP H xs vs Q r0 p=>by
 replace p:BvP K mg P H Q (mZ vs):=p;unfold mZ at p;split at p
 .obtain⟨d,d',rfl,r,r'⟩:=nA r0;obtain rfl:=r.int;obtain rfl:=r'.int;exact⟨_,_,rfl,bv p (.int _)⟩
 .exact p.elim
def nR{bs:List Int}(r:Rds K mg P H ds vs):bA vs=some bs->ds=bs.map V.int:=
 r.ind (M:=λds vs=>∀bs,bA vs=some bs->ds=bs.map V.int) (λbs q=>by cases q;rfl) (λ{d v ds vs} r _ ih bs q=>by
  cases v with
  |int b=>obtain rfl:=ShR.int (.inl r);obtain⟨b',q1,rfl⟩:=v_.mp (show (bA vs).map (b :: ·)=some bs from q);rw[ih _ q1];rfl
  |_=>cases q) bs
def lQ:d8 K mg (λxs H Q=>∃p ys,xs=[.ref p]/\(SqL K H p ys\/SqT K H p ys)/\∀l,H l=none->Q (.ref l) (upd H l (.lst ys))) dW.G:=λP H xs vs Q r0 p=>by
 replace p:BvP K mg P H Q (nz vs):=p;unfold nz at p;split at p
 .obtain⟨d,rfl,r⟩:=gH r0;split at p
  .rename_i xs e;obtain⟨a,ys,rfl,h,q⟩:=r.items e;exact⟨_,_,rfl,h,bvL p q⟩
  .exact p.elim
 .exact p.elim
def Ab{kt:dH}{t c:Cl}{b:Bool}(ok:KitsOk K mg kt)(r:ShR K mg P H x v)(q:tyC v=some t)(k:kit kt t c=some b):∃tv,TyX K H x tv/\ClV mg t tv:=by
 cases v with
 |non=>obtain rfl:=r.non;cases q;exact⟨_,.of .non,rfl⟩
 |bl b=>obtain rfl:=r.bl;cases q;exact⟨_,.of (.bl _),rfl⟩
 |int b=>obtain rfl:=r.int;cases q;exact⟨_,.of (.int _),rfl⟩
 |str b=>obtain rfl:=r.str;cases q;exact⟨_,.of (.str _),rfl⟩
 |exc b=>obtain⟨a,C,rfl,m,e⟩:=r.exc;cases q;exact⟨_,.exc e (ok.xc _ (gS k) _ _ rfl m),_,rfl,m⟩
 |tup b=>obtain⟨a,ds,rfl,h,_⟩:=r.tup;cases q;exact⟨_,.sqT h,rfl⟩
 |lst b=>obtain⟨a,ds,rfl,e,_⟩:=r.lst;cases q;exact⟨_,.of (.lst e),rfl⟩
 |dct b=>obtain⟨a,ds,rfl,e,_⟩:=r.dct;cases q;exact⟨_,.of (.dK e),rfl⟩
 |_=>cases q
def ue{c:Cl}(r:ShR K mg P H x v)(q:clV v=some c):∃cv,cB x=some cv/\ClV mg c cv:=by
 cases v with
 |ty b=>obtain rfl:=r.ty;cases q;exact⟨_,rfl,rfl⟩
 |glb b=>obtain⟨a,rfl,m⟩:=r.glb;cases q;exact⟨_,rfl,_,rfl,m⟩
 |_=>cases q
def xo{cs:List Cl}(r:Rds K mg P H ds vs):jS vs=some cs->∃cvs,ds.mapM cB=some cvs/\Paired (ClV mg) cs cvs:=
 r.ind (M:=λds vs=>∀cs,jS vs=some cs->∃cvs,ds.mapM cB=some cvs/\Paired (ClV mg) cs cvs) (λcs q=>by cases q;exact⟨[],rfl,.nil⟩) (λr _ ih cs q=>by
  unfold jS at q;split at q
  .rename_i c cs' e1 e2;cases q;obtain⟨cv,h1,h2⟩:=ue (.inl r) e1;obtain⟨cvs,h3,h4⟩:=ih _ e2;refine⟨cv::cvs,?_,.cons h2 h4⟩;rw[List.mapM_cons,h1,h3];rfl
  .cases q) cs
def wq{kt:dH}(ok:KitsOk K mg kt):d8 K mg (λxs H Q=>(∃x c t v b,xs=[x,c]/\TyX K H x t/\cB c=some v/\W.kitOne K t v=some b/\Q (.bl b) H)\/
 (∃x tp cs t vs b,xs=[x,.ref tp]/\SqT K H tp cs/\TyX K H x t/\cs.mapM cB=some vs/\W.kitAny K t vs=some b/\Q (.bl b) H)) (ak kt).G:=λP H xs vs Q r0 p=>by
 replace p:BvP K mg P H Q (sg kt vs):=p;unfold sg at p;split at p
 .rename_i v c;obtain⟨d,d',rfl,r1,r2⟩:=nA r0;split at p
  .rename_i t c0 cr e1 e2;split at p
   .rename_i b b' e4 e5;obtain⟨tv,h1,h2⟩:=Ab ok r1 e1 e5;by_cases ht:∃cs,c=.tup cs
    .obtain⟨cs,rfl⟩:=ht;obtain⟨a,es,rfl,h,q⟩:=r2.tup;obtain⟨cvs,h3,h4⟩:=xo q e2;exact .inr ⟨_,_,_,tv,cvs,b,rfl,h,h1,h3,pj ok h2 h4 e4,bv p (.bl _)⟩
    .have e2':(clV c).map ([·])=some (c0::cr):=by
      cases c with
      |tup cs=>exact absurd ⟨cs,rfl⟩ ht
      |_=>exact e2
     obtain⟨cl,y1,y2⟩:=v_.mp e2';cases y2;obtain⟨cv,h3,h4⟩:=ue r2 y1;have:kit kt t c0=some b:=by
      unfold cU at e4;rw[e5] at e4 ⊢;cases b' with
      |true=>exact e4
      |false=>unfold cU at e4;exact e4
     exact .inl ⟨_,_,tv,cv,b,rfl,h1,h3,ok.one _ (gS this) _ _ h2 h4,bv p (.bl _)⟩
   .exact p.elim
  .exact p.elim
 .exact p.elim
def wF(r:Rc K mg P H o (.lst us)):∃vs,o=.lst vs/\Rds K mg P H vs us:=by cases r with |lst r=>exact⟨_,rfl,r⟩
def rds1(r:Rds K mg P H ds [v]):∃d,ds=[d]/\Rd K mg P H d v:=by cases r with |cons r rr=>cases rr;exact⟨_,rfl,r⟩
def dB:MmD K mg gP cq.G:=λP H n o u ds vs u' v Q np e hf r0 rs q k=>by
 replace q:ir u vs=some (u',v):=q;unfold ir at q;split at q
 .split at q
  .rename_i hl;cases q;obtain⟨xs,rfl,r⟩:=wF r0;obtain⟨d,rfl,rd⟩:=rds1 rs;exact⟨n,xs,d,rfl,rfl,e,by rw[r.len];exact hl,k _ _ trivial (.lst (r.append (.cons rd .nil))) .non⟩
  .cases q
 .cases q
def ua{y:V}{w:Val}{pd:PyData}(ry:Rep K H y pd)(es:aV 164 w=some pd){bs:List Bool}(r:Rds K mg P H ds vs):eL w vs=some bs->EqsR K H y pd ds bs:=
 r.ind
  (M:=λds vs=>∀bs,eL w vs=some bs->EqsR K H y pd ds bs) (λbs q=>by cases q;exact .nil) (λr _ ih bs q=>by
  unfold eL at q;split at q
  .rename_i b bs' e1 e2;cases q;unfold aW at e1;rw[es] at e1;split at e1
   .rename_i a c e3 e4;cases e4;split at e1
    .rename_i hs;cases e1;exact .cons (cT 164 _ _ _ (.inl r) e3) hs.1 (ih _ e2)
    .cases e1
   .cases e1
  .cases q) bs
theorem rY{w:Val}:∀{vs:List Val}{bs:List Bool},eL w vs=some bs->vs=[]\/∃pd,aV 164 w=some pd/\shp pd=true
 | [],_,_=>.inl rfl
 |
  x::xs,bs,e=>by
  right;unfold eL at e;split at e
  .rename_i b bs' e1 e2;unfold aW at e1;split at e1
   .rename_i a c e3 e4;split at e1
    .rename_i hs;exact⟨c,e4,hs.2⟩
    .cases e1
   .cases e1
  .cases e
def sd:MtD K mg (hW K) iw.G:=λP H d v ds vs Q r hv rs p=>by
 replace p:BvP K mg P H Q (ic v vs):=p;unfold ic at p;split at p
 .obtain⟨a,xs,rfl,h,q⟩:=r.lstL;obtain⟨y,rfl,ry⟩:=gH rs;split at p
  .rename_i bs eb;split at p
   .rename_i hl;rcases rY eb with rfl |⟨pd,h3,h4⟩
    .cases eb;exact absurd hl (by simp)
    .have r3:=cT 164 _ _ _ ry h3;exact⟨a,y,bs,rfl,rfl,⟨xs,pd,h,r3,h4,ua r3 h3 q eb⟩,hl,bv p (.int _)⟩
   .exact p.elim
  .exact p.elim
 .exact p.elim
def oB:MtD K mg (hE K) il.G:=λP H d v ds vs Q r hv rs p=>by
 replace p:BvP K mg P H Q (gT v vs):=p;unfold gT at p;split at p
 .obtain⟨a,xs,rfl,h,q⟩:=r.lstL;obtain⟨y,rfl,ry⟩:=gH rs;split at p
  .rename_i hs;obtain⟨pd,s1,s2⟩:=v_.mp hs;have r3:=cT 164 _ _ _ ry s1;split at p
   .rename_i bs eb;exact⟨a,y,bs,rfl,rfl,⟨xs,pd,h,r3,s2,ua r3 s1 q eb⟩,bv p (.int _)⟩
   .exact p.elim
  .exact p.elim
 .exact p.elim
end
abbrev MO3:=E3->R3 (Option Int)
noncomputable def yf (e:E3):R3 (Option Int):=.ok none e
noncomputable def yB (F:ME3) (e:E3):R3 (Option Int):=(F e).bind λt e1=>match rs e1 t with
 |some (.int i)=>.ok (some i) e1
 |_=>.stuck
noncomputable def vSl (F:ME3) (L U:MO3) (e:E3):R3 Tm:=(F e).bind λt e1=>(L e1).bind λlo e2=>(U e2).bind λhi e3=>match rs e3 t.drop with
 |some v=>(aSl v lo hi).at e3
 |none=>.stuck
structure POp where
 t:Nat
 G:MO3
noncomputable def oN:POp:=⟨1,yf⟩
noncomputable def oS (a:PEx):POp:=⟨2,yB a.G⟩
noncomputable def pSl (a:PEx) (l u:POp):PEx:=⟨23,vSl a.G l.G u.G⟩
noncomputable def vD0 (e:E3):R3 Tm:=.ok (.new (.dct [])) e
noncomputable def pD0:PEx:=⟨24,vD0⟩
def rdO(K:W.Frag)(mg:Cj)(ES:St->XK)(G:MO3):TO:=λσ H Q=>∃X N0 ns e,Sat K mg X N0 ns e σ H/\PG3 K mg X N0 ns e σ H (ES σ) (λo _ _ H'=>Q o H') (G e)
def rdO.el{K:W.Frag}{mg:Cj}{G:MO3}(h:rdO K mg ES G σ H Q){Z:Prop}(k:∀X N0 ns e,Sat K mg X N0 ns e σ H->PG3 K mg X N0 ns e σ H (ES σ) (λo _ _ H'=>Q o H') (G e)->Z):Z:=by obtain⟨X,N0,ns,e,S,p⟩:=h;exact k X N0 ns e S p
structure DO(K:W.Frag)(mg:Cj)(X:Cx)(ES:St->XK)(e:Option Expr)(F:POp):Prop where
 ok:PO X e (rdO K mg ES F.G)
section
variable{K:W.Frag}{mg:Cj}{X:Cx}{ES:St->XK}{e a:Expr}{p:PEx}{l u:POp}{lo hi:Option Expr}{pos p2:Pos}
def ly:DO K mg X ES none oN:=⟨PO.imp uI λσ H Q zz=>rdO.el zz λY N0 ns e S p=>PG3.ret p S⟩
def mn(he:DE K mg X ES e p):DO K mg X ES (some e) (oS p):=⟨PO.imp (vM he.ok) λσ H Q zz=>rdO.el zz λY N0 ns e S p=>
 ⟨Y,
  N0,λ_=>True,ns,e,S,λ_ _=>trivial,PG3.imp p S λt e1 ns1 H1 a1 S1 p1 x r1=>by
  try dsimp only at p1
  split at p1
  .rename_i i q;obtain rfl:=(r1.sh S1 q).int;exact⟨_,rfl,p1.ret S1⟩
  .exact p1.elim⟩⟩
def zI{P:Addr->Prop}{H:Hp}{Q:VK}{x:V}{v:Val}{lo hi:Option Int}(r:ShR K mg P H x v)(p:BvP K mg P H Q (aSl v lo hi)):(rQ K x lo hi H Q\/rj K x lo hi H Q)\/rX x lo hi H Q:=by
 have cut:∀{vs us},Rds K mg P H vs us->Rds K mg P H (eN vs lo hi) (cp us lo hi):=λr=>by unfold eN cp;rw[r.len];exact (r.drop _).take _
 unfold aSl at p;split at p
 .obtain⟨a,ds,rfl,h,q⟩:=r.tup;split at p
  .exact p.elim
  .rename_i hn;exact .inl (.inr ⟨_,_,rfl,h,by rw[q.len];exact hn,bvT p (cut q)⟩)
 .obtain⟨a,ds,rfl,h,q⟩:=r.lstL;exact .inl (.inl ⟨_,_,rfl,h,bvL p (cut q)⟩)
 .obtain⟨a,ds,rfl,h,q⟩:=r.kl;exact .inl (.inl ⟨_,_,rfl,h,bvL p (cut q)⟩)
 .obtain rfl:=r.str;split at p
  .rename_i hz;exact .inr ⟨_,rfl,hz,bv p (.str _)⟩
  .exact p.elim
 .exact p.elim
def j8(hK:X.K=K)(he:DE K mg X ES e p)(hl:DO K mg X ES lo l)(hu:DO K mg X ES hi u):DE K mg X ES (.Subscript e (.Slice lo hi none p2) pos) (pSl p l u):=
 ⟨PE.imp (rp (slK hK) he.ok hl.ok hu.ok) λσ H Q zz=>zz.el λY N0 L ns e S hL p=>⟨Y,N0,L,ns,e,S,hL,PG3.imp p S λt e1 ns1 H1 a1 S1 p1 x rx=>⟨Y,N0,ns1,e1,S1,PG3.imp p1 S1 λlo e2 d_ H2 a2 S2 p2=>⟨Y,N0,d_,e2,S2,PG3.imp p2 S2 λhi e3 ns3 H3 a3 S3 p3=>by
  try dsimp only at p3
  split at p3
  .rename_i v q;exact zI ((rx.drop (a2.trans S1 a3)).sh S3 q) (p3.bv S3 λa z=>hL a (a1.dom a (a2.dom a (a3.dom a z))))
  .exact p3.elim⟩⟩⟩⟩
end
noncomputable def unS (i:Nat) (k:E3->SR3) (e:E3):SR3:=match e[i]? with
 |some s=>if s.pl=true then k (e.set i .no) else .stuck
 |none=>.stuck
noncomputable def kK (mro:List Str) (i:Nat) (B U:MS3) (e:E3):SR3:=match B e with
 |
  .exc c e1=>if c∈mro then match e1[i]? with
   |
    some s0=>if s0.pl=true then match U (e1.set i (.sh (.exc c))) with
     |.nx e2=>unS i .nx e2
     |.bk e2=>unS i .bk e2
     |.ct e2=>unS i .ct e2
     |.rt d e2=>.rt d e2
     |_=>.stuck
    else .stuck
   |none=>.stuck
  else .stuck
 |r=>r
noncomputable def ug (mro:List Str) (B U:MS3) (e:E3):SR3:=match B e with
 |
  .exc c e1=>if c∈mro then match U e1 with
   |.exc _ _=>.stuck
   |r=>r
  else .stuck
 |r=>r
noncomputable def rH (mro:List Str) (i:Nat) (b u:PSt):PSt:=⟨18,kK mro i b.G u.G⟩
noncomputable def y7 (mro:List Str) (b u:PSt):PSt:=⟨19,ug mro b.G u.G⟩
section
variable{K:W.Frag}{mg:Cj}{X:Cx}{ES:St->XK}{cn n:Str}{C:Addr}{i:Nat}{body suite:List Stmt}{b₀:Stmt}{x y:PSt}{np hpos pos:Pos}{mro:List Str}
def uL(hb:∀(pn:Ck) (xe:Cm) (ES':St->XK),cD (cxT X pn xe) ES'->DSs K mg (cxT X pn xe) ES' body x):PSsx X body (λDe E σ H=>rdS K mg E x.G De σ H):=by
 intro pins s σ H De E I hh
 let xe:Value->Shared->Prop:=λe s'=>∃pins2 σ1 H1 s1,Inv (cxT X (X.pn++pins) (λ_ _=>False)) pins2 σ1 H1 s1/\CX1 X.prog X.w X.stack H1 s1 (E σ1) e s'
 have hx:cD (cxT X (X.pn++pins) xe) E:=λpins2 σ1 H1 s1 e s' I1 q=>⟨pins2,σ1,H1,s1,⟨⟨I1.ok.mod,I1.ok.kind,I1.ok.glob,I1.ok.blt,I1.ok.above,I1.ok.inj,I1.ok.has,I1.ok.cab,I1.ok.hd,I1.ok.frames,I1.ok.stk,I1.ok.exf,I1.ok.bs,I1.ok.bsz,I1.ok.noex,I1.ok.exfs,I1.ok.funs,I1.ok.frf⟩,I1.os,I1.bare,I1.base,I1.loc,I1.cell,I1.free,I1.freeC,I1.pin,I1.hok,I1.len⟩,q⟩;refine z_ ((hb (X.pn++pins) xe E hx).ok [] s σ H De I.toT hh) (λf s' q=>?_) λe s' q=>?_
 .cases f with
  |next=>obtain⟨σ1,H1,I1,q1⟩:=q;exact⟨σ1,H1,I1.ofT,q1⟩
  |brk=>obtain⟨σ1,H1,I1,q1⟩:=q;exact⟨σ1,H1,I1.ofT,q1⟩
  |cont=>obtain⟨σ1,H1,I1,q1⟩:=q;exact⟨σ1,H1,I1.ofT,q1⟩
  |ret u=>obtain⟨v,σ1,H1,I1,r1,q1⟩:=q;exact⟨v,σ1,H1,I1.ofT,r1,q1⟩
 .obtain⟨pins2,σ1,H1,s1,I1,q1⟩:=q;exact⟨σ1,H1,s1,I1.ofT,q1⟩
def jR{Y N0:Addr->Prop}{ns ns':Ns}{e e2:E3}{σ:St}{H H':Hp}{De:Ends}{k:E3->SR3}{R:St->Hp->Prop}(hk:∀e',PS3 K mg Y N0 ns e H De ES (k e')->∀H' σ' ns',Stp ns e H ns' e' H'->Sat K mg Y N0 ns' e' σ' H'->R σ' H')(p:PS3 K mg Y N0 ns e H De ES (unS i k e2))(a:Stp ns e H ns' e2 H')(S:Sat K mg Y N0 ns' e2 σ H'):R (σ.set i none) H':=by
 unfold unS at p;split at p
 .rename_i s q;split at p
  .rename_i hp;have hi:=(f_.mp q).1;exact hk _ p H' _ _ (a.put (x:=none) (s:=.no) hi (λ_ z=>by cases z) q hp rfl S.l2) (S.putN hi rfl)
  .exact p.elim
 .exact p.elim
def xJ(T:X.Top)(hN:X.N.Nodup)(hi:X.N[i]?=some n)(hl:X.env.kindOf n=some .local)(hg:Gl X cn)(hm:mg cn=some (.ref C))(hh:XHand K C)(hmro:∀c∈mro,∀Ce,mg c=some (.ref Ce)->W.mroIn K Ce (.ref C)=some true)
 (hb:∀(pn:Ck) (xe:Cm) (ES':St->XK),cD (cxT X pn xe) ES'->DSs K mg (cxT X pn xe) ES' body x) (hs:∀ea,DSs K mg (dO X ea) (λ_=>E0) (b₀::suite) y)
 (hK:X.K=K:=by rfl) (hk:X.mg=mg:=by rfl) (hd:(cn==("__debug__" : Str))=false:=by decide):DS K mg X ES (.Try body [.ExceptHandler (some (.Name cn np)) (some n) (b₀::suite) hpos] [] [] pos) (rH mro i x y):=by
 subst hK hk;refine⟨PS.imp (xi T hN hi hl hg hm hh (uL hb) (λea=>(hs ea).ok) hd) λDe σ H zz=>zz.el λY N0 ns e S p=>⟨Y,N0,ns,e,S,?_⟩⟩;replace p:PS3 X.K X.mg Y N0 ns e H De ES (kK mro i x.G y.G e):=p;unfold kK at p;cases q:x.G e with
 |nx e1=>rw[q] at p;exact p
 |rt d e1=>rw[q] at p;exact p
 |bk e1=>rw[q] at p;exact p
 |ct e1=>rw[q] at p;exact p
 |stuck=>rw[q] at p;exact p
 |
  exc c e1=>
  rw[q] at p;dsimp only at p;split at p
  .rename_i hc;split at p
   .rename_i s0 q0;split at p
    .rename_i p0;intro H1 σ1 ns1 Ce a1 S1 mc;refine⟨Ce,rfl,hmro c hc Ce mc,λea hn=>?_⟩;have hi':=(f_.mp q0).1;have g:=Gr.upd (u:=.ext (fW ea Ce)) hn;have S2:=(S1.gr g).putN (s:=.sh (.exc c)) (d:=some (.ref ea)) hi' ⟨rfl,_,rfl,.exc mc ar⟩;have a2:=(a1.trans S (.gr g)).put (x:=none) (s:=.sh (.exc c)) hi' (λ_ z=>by cases z) q0 p0 rfl S1.l2;refine⟨Y,N0,_,_,S2,?_⟩;cases q2:y.G (e1.set i (.sh (.exc c))) with
     |nx e2=>rw[q2] at p;exact λH' σ' ns' b S'=>jR (De:=De) (ES:=ES) (e:=e) (k:=.nx) (R:=De.nx) (λe' p=>p) p (a2.trans S b) S'
     |bk e2=>rw[q2] at p;exact λH' σ' ns' b S'=>jR (De:=De) (ES:=ES) (e:=e) (k:=.bk) (R:=De.bk) (λe' p=>p) p (a2.trans S b) S'
     |ct e2=>rw[q2] at p;exact λH' σ' ns' b S'=>jR (De:=De) (ES:=ES) (e:=e) (k:=.ct) (R:=De.ct) (λe' p=>p) p (a2.trans S b) S'
     |rt d e2=>rw[q2] at p;exact λH' σ' ns' x b S'=>p H' σ' ns' x (a2.trans S b) S'
     |exc c2 e2=>rw[q2] at p;exact p.elim
     |stuck=>rw[q2] at p;exact p.elim
    .exact p.elim
   .exact p.elim
  .exact p.elim
end
theorem gQ{K:W.Frag}{mg:Cj}{P:Addr->Prop}{H:Hp}:∀(ns:List Int),Rds K mg P H (ns.map V.int) (ns.map Val.int)
 | []=>.nil
 |_::r=>.cons (.int _) (gQ r)
def law3{P:Program}{w:World}{K:W.Frag}{mg:Cj}{base:Heap}{x y:Str}{k:Nat}(p:PFn)(C:Callee P w K mg base x k [y] (sp3 K mg p))(hT:∀P q,¬ rn K mg P q)(hm:p.ms=[false])(hG:∀ns:List Int,ns.length<=63->p.G [.kl (ns.map .int)]=.ok (.val (.bl true)) []):
 Callee P w K mg base x k [y] (λvs H Q _=>∃(a:Addr) (ns:List Int),vs=[.ref a]/\gU H/\SqL K H a (ns.map V.int)/\ns.length<=63/\∀H',Q (.bl true) H'):=C.imp λvs H Q E ⟨a,ns,e,hO,hq,hl,q⟩=>by
 subst e;refine⟨λ_=>False,[none],[.kl (ns.map .int)],by rw[hm];rfl,?_,?_⟩
 .rw[hm];have rd:Rd K mg (Oc (λ_=>False) [none]) H (.ref a) (.kl (ns.map .int)):=by
   rcases hq with (hq |⟨o,hq⟩) |hq
   .rcases hO a with z |⟨o,xs,z⟩ <;> rw[hq] at z <;> cases z
   .exact .cell ⟨λz=>z,by simp⟩ hq (.fz (gQ ns))
   .exact .kl hq (gQ ns)
  refine⟨rfl,rfl,λ_ z=>z,λ_ z=>z.elim,λi j n q=>?_,λi n q z=>z,λi s q=>?_,λP q l=>(hT P q l).elim⟩
  .cases i with
   |zero=>simp at q
   |succ i=>simp at q
  .cases i with
   |
    zero=>
    have:sl1 false (.kl (ns.map .int))=s:=by simpa [sls] using q
    subst this;exact⟨rfl,_,rfl,rd⟩
   |succ i=>simp [sls] at q
 .rw[hG ns hl];intro x H' _ rr;rw[ShR.bl (.inl rr.2)];exact q H'
structure PFx(ms:List Bool) where
 G:Fn3
noncomputable def PFx.fn {ms:List Bool} (p:PFx ms):PFn:=⟨ms,p.G⟩
section
variable{K:W.Frag}{mg:Cj}{X:Cx}{ES:St->XK}{e:Expr}{p:PEx}{pos:Pos}
def zsS{ow:Bool}(i:Nat){x:Str}{pos':Pos}(hN:X.N.Nodup)(he:DE K mg X ES e p)(hi:X.N[i]?=some x:=by exact rfl)(hx:Loc X.env.scope x:=by first |exact Or.inl rfl |exact Or.inr rfl)(hs:swapsWith e (some (.Name x pos')) pos.line X.env=pure false:=by rfl)(hf:X.fn x=true\/X.env.scope.names.lookup x=some .local:=by first |exact .inl rfl |exact .inr rfl |assumption):DS K mg X ES (.Assign [.Name x pos'] e pos) (aN ow i p):=wK hN hi hx he hs hf
def zgN(i:Nat){x:Str}(hN:X.N.Nodup)(hi:X.N[i]?=some x:=by exact rfl)(hx:Loc X.env.scope x:=by first |exact Or.inl rfl |exact Or.inr rfl)(hf:X.fn x=true\/X.env.scope.names.lookup x=some .local:=by first |exact .inl rfl |exact .inr rfl |assumption):DG K mg X (.Name x pos) (gtN i):=vj hN hi hx hf
end
section
variable(e:E3)
@[simp] theorem eh(a:α)(f:α->E3->R3 β):(R3.ok a e).bind f=f a e:=rfl
@[simp] theorem wt(c:Str)(f:α->E3->R3 β):(R3.exc c e:R3 α).bind f=.exc c e:=rfl
@[simp] theorem r9(f:α->E3->R3 β):(R3.stuck:R3 α).bind f=.stuck:=rfl
@[simp] theorem tO(a:α)(f:α->E3->SR3):(R3.ok a e).toS f=f a e:=rfl
@[simp] theorem pw(c:Str)(f:α->E3->SR3):(R3.exc c e:R3 α).toS f=.exc c e:=rfl
@[simp] theorem rA(f:α->E3->SR3):(R3.stuck:R3 α).toS f=.stuck:=rfl
@[simp] theorem gi(f:E3->SR3):(SR3.nx e).then f=f e:=rfl
@[simp] theorem tR(r:Rt)(f:E3->SR3):(SR3.rt r e).then f=.rt r e:=rfl
@[simp] theorem zV(f:E3->SR3):(SR3.bk e).then f=.bk e:=rfl
@[simp] theorem zN(f:E3->SR3):(SR3.ct e).then f=.ct e:=rfl
@[simp] theorem pB(c:Str)(f:E3->SR3):(SR3.exc c e).then f=.exc c e:=rfl
@[simp] theorem rW(f:E3->SR3):(SR3.stuck).then f=.stuck:=rfl
@[simp] theorem ft(f:E3->SR3):(SR3.nx e).loop f=f e:=rfl
@[simp] theorem tU(f:E3->SR3):(SR3.ct e).loop f=f e:=rfl
@[simp] theorem Ah(f:E3->SR3):(SR3.bk e).loop f=.nx e:=rfl
@[simp] theorem zw(r:Rt)(f:E3->SR3):(SR3.rt r e).loop f=.rt r e:=rfl
@[simp] theorem xS(c:Str)(f:E3->SR3):(SR3.exc c e).loop f=.exc c e:=rfl
@[simp] theorem uy(r:SR3):r.unl none=r:=by cases r <;> rfl
@[simp] theorem tQ(k:Nat):(SR3.nx e).unl (some k)=.nx (unlock e k):=rfl
@[simp] theorem Aw(r:Rt)(k:Nat):(SR3.rt r e).unl (some k)=.rt r (unlock e k):=rfl
@[simp] theorem yH(c:Str)(k:Nat):(SR3.exc c e).unl (some k)=.exc c (unlock e k):=rfl
@[simp] theorem jQ:lockO e none=e:=rfl
@[simp] theorem jA(k:Nat):lockO e (some k)=lock e k:=rfl
@[simp] theorem gC:bM e none=e:=rfl
@[simp] theorem nu(k:Nat):bM e (some k)=unlock e k:=rfl
@[simp] theorem n5(v:Val):(Bv.val v).at e=.ok (.val v) e:=rfl
@[simp] theorem oj(v:Val):(Bv.new v).at e=.ok (.new v) e:=rfl
@[simp] theorem sP:Bv.stuck.at e=.stuck:=rfl
@[simp] theorem pO(v:Val):rs e (.val v)=some v:=rfl
@[simp] theorem oU(v:Val):rs e (.new v)=some v:=rfl
@[simp] theorem pe(i:Nat):rs e (.bor i)=(e[i]?).bind Sl.val:=rfl
@[simp] theorem oO(v:Val):(Tm.val v).drop=.val v:=rfl
@[simp] theorem pv(v:Val):(Tm.new v).drop=.val v:=rfl
@[simp] theorem o4(i:Nat):(Tm.bor i).drop=.bor i:=rfl
@[simp] theorem mh:rss e []=some []:=rfl
@[simp] theorem kP(t:Tm)(ts:List Tm):rss e (t::ts)=match rs e t,rss e ts with
 |some v,some vs=>some (v::vs)
 |_,_=>none:=rfl
@[simp] theorem oC(v:Val):bh e (.val v)=some (e,v):=rfl
@[simp] theorem wO(v:Val):bh e (.new v)=some (e,v):=rfl
@[simp] theorem xA(i:Nat):bh e (.bor i)=match e[i]? with
 |some (.sh v)=>some (e,v)
 |some (.ow v)=>some (e.set i (.sh v),v)
 |_=>none:=rfl
@[simp] theorem kO:dem e []=some (e,[]):=rfl
@[simp] theorem lB(t:Tm)(ts:List Tm):dem e (t::ts)=match bh e t with
 |some (e1,v)=>match dem e1 ts with
  |some (e2,vs)=>some (e2,v::vs)
  |none=>none
 |none=>none:=rfl
@[simp] theorem n0(b:Bool):bOf (some (.bl b))=some b:=rfl
@[simp] theorem ur(i:Nat):(af i).G e=match e[i]? with
 |some (.sh v)=>.ok (.val v) e
 |some .no=>.stuck
 |some _=>.ok (.bor i) e
 |none=>.stuck:=rfl
@[simp] theorem uF(i:Int):(aj i).G e=.ok (.val (.int i)) e:=rfl
@[simp] theorem v_bl(i:Bool):(pBl i).G e=.ok (.val (.bl i)) e:=rfl
@[simp] theorem uc(i:Str):(ax i).G e=.ok (.val (.str i)) e:=rfl
@[simp] theorem Aq:pNon.G e=.ok (.val .non) e:=rfl
@[simp] theorem v_ty(i:String):(pTy i).G e=.ok (.val (.ty i)) e:=rfl
@[simp] theorem sW(i:Str):(bG i).G e=.ok (.val (.glb i)) e:=rfl
@[simp] theorem vO(v:Val):(kg v).G e=.ok (.val v) e:=rfl
@[simp] theorem v_un(o:PU1)(a:PEx):(pUn o a).G e=(a.G e).bind λt e1=>match rs e1 t with
 |some v=>(o.G v).at e1
 |none=>.stuck:=rfl
@[simp] theorem v_op(o:PO2)(a b:PEx):(pOp o a b).G e=(a.G e).bind λt1 e1=>(b.G e1).bind λt2 e2=>match rs e2 t1.drop,rs e2 t2 with
 |some v1,some v2=>(o.G v1 v2).at e2
 |_,_=>.stuck:=rfl
@[simp] theorem tS:ag.G e=.ok [] e:=rfl
@[simp] theorem nM(a:PEx)(r:PAs):(aa a r).G e=(a.G e).bind λt e1=>(r.G e1).bind λts e2=>.ok (t.drop::ts) e2:=rfl
@[simp] theorem v_fn(o:PBf)(a:PAs):(pFn o a).G e=(a.G e).bind λts e1=>match rss e1 ts with
 |some vs=>(o.G vs).at e1
 |none=>.stuck:=rfl
@[simp] theorem uj(a:PAs):(m8 a).G e=(a.G e).bind λts e1=>match dem e1 ts with
 |some (e2,vs)=>if vs.length<=16777216 then .ok (.val (.tup vs)) e2 else .stuck
 |none=>.stuck:=rfl
@[simp] theorem tV(a:PAs):(bg a).G e=(a.G e).bind λts e1=>match dem e1 ts with
 |some (e2,vs)=>if vs.length<=16777216 then .ok (.new (.lst vs)) e2 else .stuck
 |none=>.stuck:=rfl
@[simp] theorem zX(a b:PEx):(pAnd a b).G e=(a.G e).bind λt e1=>match bOf (rs e1 t) with
 |some true=>b.G e1
 |some false=>.ok (.val (.bl false)) e1
 |none=>.stuck:=rfl
@[simp] theorem y_or(a b:PEx):(pOr a b).G e=(a.G e).bind λt e1=>match bOf (rs e1 t) with
 |some true=>.ok (.val (.bl true)) e1
 |some false=>b.G e1
 |none=>.stuck:=rfl
@[simp] theorem zo(a:PEx):(pNot a).G e=(a.G e).bind λt e1=>match bOf (rs e1 t) with
 |some b=>.ok (.val (.bl (!b))) e1
 |none=>.stuck:=rfl
@[simp] theorem v_if(c:PTs)(a b:PEx):(pIf c a b).G e=(c.G e).bind λk e1=>if k=true then a.G e1 else b.G e1:=rfl
@[simp] theorem c_of(a:PEx):(qOf a).G e=(a.G e).bind λt e1=>match bOf (rs e1 t) with
 |some b=>.ok b e1
 |none=>.stuck:=rfl
@[simp] theorem c_tr(a:PEx):(qTr a).G e=(a.G e).bind λt e1=>match (rs e1 t).bind rm with
 |some b=>.ok b e1
 |none=>.stuck:=rfl
@[simp] theorem c_an(a b:PTs):(qAn a b).G e=(a.G e).bind λk e1=>if k=true then b.G e1 else .ok false e1:=rfl
@[simp] theorem c_o(a b:PTs):(qO a b).G e=(a.G e).bind λk e1=>if k=true then .ok true e1 else b.G e1:=rfl
@[simp] theorem c_no(a:PTs):(qNo a).G e=(a.G e).bind λk e1=>.ok (!k) e1:=rfl
@[simp] theorem c_y:qY.G e=.ok true e:=rfl
@[simp] theorem x_nx:xNx.G e=.nx e:=rfl
@[simp] theorem x_bk:xBk.G e=.bk e:=rfl
@[simp] theorem x_ct:xCt.G e=.ct e:=rfl
@[simp] theorem x9:yZ.G e=.rt (.val .non) e:=rfl
@[simp] theorem tK(a:PEx):(br a).G e=(a.G e).toS gW:=rfl
@[simp] theorem lN(v:Val):gW (.val v) e=.rt (.val v) e:=rfl
@[simp] theorem lE(v:Val):gW (.new v) e=.rt (.new v) e:=rfl
@[simp] theorem lI(i:Nat):gW (.bor i) e=match e[i]? with
 |some (.sh v)=>.rt (.val v) e
 |some (.ow v)=>.rt (.new v) (e.set i .no)
 |some (.mu _)=>.rt (.par i) e
 |_=>.stuck:=rfl
@[simp] theorem o8(a:PEx):(dq a).G e=(a.G e).toS λ_ e1=>.nx e1:=rfl
@[simp] theorem eC(a b:PSt):(au a b).G e=(a.G e).then b.G:=rfl
@[simp] theorem x_if(c:PTs)(a b:PSt):(xIf c a b).G e=(c.G e).toS λk e1=>if k=true then a.G e1 else b.G e1:=rfl
@[simp] theorem uC(o:Bool)(i:Nat)(a:PEx):(aN o i a).G e=(a.G e).toS (c8 o i):=rfl
@[simp] theorem uf:Sl.no.pl=true:=rfl
@[simp] theorem tq(v:Val):(Sl.sh v).pl=true:=rfl
@[simp] theorem tG(v:Val):(Sl.ow v).pl=true:=rfl
@[simp] theorem lR(o:Bool)(i:Nat)(v:Val):c8 o i (.val v) e=match e[i]? with
 |some s0=>if s0.pl=true then .nx (e.set i (.sh v)) else .stuck
 |none=>.stuck:=by unfold c8;rfl
@[simp] theorem kj(i:Nat)(v:Val):c8 true i (.new v) e=match e[i]? with
 |some s0=>if s0.pl=true then .nx (e.set i (.ow v)) else .stuck
 |none=>.stuck:=by unfold c8;rfl
@[simp] theorem kB(i:Nat)(v:Val):c8 false i (.new v) e=match e[i]? with
 |some s0=>if s0.pl=true then .nx (e.set i (.sh v)) else .stuck
 |none=>.stuck:=by unfold c8;rfl
@[simp] theorem uP(o:Bool)(i j:Nat):c8 o i (.bor j) e=match e[i]? with
 |some s0=>if s0.pl=true then (match bh e (.bor j) with
  |some (e2,v)=>.nx (e2.set i (.sh v))
  |none=>.stuck) else .stuck
 |none=>.stuck:=by unfold c8;rfl
@[simp] theorem g_n(i:Nat)(v:Val):(gtN i).G v e=match e[i]? with
 |some s=>if s.pl=true then some (e.set i (.sh v)) else none
 |none=>none:=rfl
@[simp] theorem g_sn:gtsN.G [] e=some e:=rfl
@[simp] theorem g_sc(a:PGt)(b:PGs)(v:Val)(vs:List Val):(gtsC a b).G (v::vs) e=(a.G v e).bind λe1=>b.G vs e1:=rfl
@[simp] theorem g_t(n:Nat)(a:PGs)(vs:List Val):(gtT n a).G (.tup vs) e=if vs.length=n then a.G vs e else none:=rfl
@[simp] theorem xu(a:PEx)(g:PGt):(zg a g).G e=(a.G e).toS λt e1=>match bh e1 t with
 |some (e2,v)=>match g.G v e2 with
  |some e3=>.nx e3
  |none=>.stuck
 |none=>.stuck:=rfl
@[simp] theorem zl(i j:Nat)(a:PAs):(xPar i j a).G e=(a.G e).toS λts e1=>match dem e1 ts with
 |some (e2,[v,u])=>match (pN i v e2).bind (pN j u) with
  |some e3=>.nx e3
  |none=>.stuck
 |_=>.stuck:=rfl
@[simp] theorem Aj(i:Nat)(v:Val):pN i v e=match e[i]? with
 |some s=>if s.pl=true then some (e.set i (.sh v)) else none
 |none=>none:=rfl
@[simp] theorem zh(i:Nat)(o:PO2)(a:PEx):(xAug i o a).G e=match e[i]? with
 |some (.sh x)=>(a.G e).toS λt e1=>match rs e1 t with
  |some y=>match o.G x y with
   |.val z=>match pN i z e1 with
    |some e2=>.nx e2
    |none=>.stuck
   |_=>.stuck
  |none=>.stuck
 |_=>.stuck:=rfl
@[simp] theorem lP(c:Str)(a:PAs):(ka c a).G e=(a.G e).toS λts e1=>if ts.length<=16777216 then .exc c e1 else .stuck:=rfl
@[simp] theorem ux(i:Nat)(w:PSe)(k a:PEx):(j0 i w k a).G e=(a.G e).toS λt e1=>match (e1[i]?).bind Sl.mv with
 |none=>.stuck
 |some _=>(k.G e1).toS λt2 e2=>match rs e2 t2 with
  |none=>.stuck
  |some vi=>match bh e2 t.drop with
   |none=>.stuck
   |some (e3,v)=>match e3[i]? with
    |none=>.stuck
    |some s=>match s.mv with
     |none=>.stuck
     |some u=>match w.G u vi v with
      |some u'=>.nx (e3.set i (s.re u'))
      |none=>.stuck:=rfl
@[simp] theorem tf(v:Val):(Sl.ow v).mv=some v:=rfl
@[simp] theorem sR(v:Val):(Sl.mu v).mv=some v:=rfl
@[simp] theorem uB(v u:Val):(Sl.ow v).re u=.ow u:=rfl
@[simp] theorem um(v u:Val):(Sl.mu v).re u=.mu u:=rfl
@[simp] theorem wj(v:Val):(Sl.sh v).val=some v:=rfl
@[simp] theorem n9(v:Val):(Sl.ow v).val=some v:=rfl
@[simp] theorem oy(v:Val):(Sl.mu v).val=some v:=rfl
@[simp] theorem oM(v:Val):(Sl.lo v).val=some v:=rfl
@[simp] theorem we(v:Val):(Sl.lm v).val=some v:=rfl
@[simp] theorem sX(mro:List Str)(i:Nat)(b u:PSt):(rH mro i b u).G e=kK mro i b.G u.G e:=rfl
@[simp] theorem ye(mro:List Str)(b u:PSt):(y7 mro b u).G e=ug mro b.G u.G e:=rfl
@[simp] theorem tZ(i:Nat)(m:PMm)(a:PAs):(ib i m a).G e=match e[i]? with
 |some s=>if (s.mv.map dD)=some true then (a.G e).bind λts e1=>match dem e1 ts with
  |some (e2,vs)=>match e2[i]? with
   |some s2=>match s2.mv with
    |some u=>match m.G u vs with
     |some (u',v)=>.ok (.val v) (e2.set i (s2.re u'))
     |none=>.stuck
    |none=>.stuck
   |none=>.stuck
  |none=>.stuck else .stuck
 |none=>.stuck:=rfl
@[simp] theorem wa(i:Nat)(m:PMm):(Ac i m).G e=match e[i]? with
 |some s=>if (s.mv.map dD)=some true then (match s.mv with
  |some u=>match m.G u [] with
   |some (u',v)=>.ok (.val v) (e.set i (s.re u'))
   |none=>.stuck
  |none=>.stuck) else .stuck
 |none=>.stuck:=by
 show gY i m.G mP e=_;unfold gY;cases q:e[i]? with
 |none=>rfl
 |
  some s=>
  dsimp only;split
  .simp only[mP,eh,kO,j9,q];try rfl
  .rfl
@[simp] theorem kQ(xs:List Val):dD (.lst xs)=true:=rfl
@[simp] theorem nS(m:PMv)(a:PEx)(b:PAs):(ji m a b).G e=(a.G e).bind λt e1=>if (rs e1 t).map dD=some true then (b.G e1).bind λts e2=>(match rs e2 t.drop,rss e2 ts with
 |some v,some vs=>if dD v=true then (m.G v vs).at e2 else .stuck
 |_,_=>.stuck) else .stuck:=rfl
@[simp] theorem tu(a:PEx):(bS a).G e=(a.G e).bind λt e1=>match bU t e1 with
 |some p=>.ok p e1
 |none=>.stuck:=rfl
@[simp] theorem yP(a:PAs):(z9 a).G e=(a.G e).bind λts e1=>match ts with
 | [t]=>(match bU t e1 with
  |some p=>.ok (sE 0 p.1,p.2) e1
  |none=>.stuck)
 |_=>.stuck:=rfl
@[simp] theorem Ar(a:PAs):(yY a).G e=(a.G e).bind λts e1=>match ts with
 | [t,u]=>(match bU t e1,bU u e1 with
  |some (xs,k),some (ys,none)=>.ok (List.zipWith (λx y=>.tup [x,y]) xs ys,k) e1
  |_,_=>.stuck)
 |_=>.stuck:=rfl
@[simp] theorem pJ(v:Val):bU (.val v) e=(cE v).map λxs=>(xs,none):=rfl
@[simp] theorem nO(v:Val):bU (.new v) e=(cE v).map λxs=>(xs,none):=rfl
@[simp] theorem nH(k:Nat):bU (.bor k) e=match e[k]? with
 |some (.sh v)=>(cE v).map λxs=>(xs,none)
 |some (.ow (.lst xs))=>some (xs,some k)
 |some (.mu (.lst xs))=>some (xs,some k)
 |_=>none:=rfl
@[simp] theorem pA(xs:List Val):cE (.tup xs)=some xs:=rfl
@[simp] theorem o9(xs:List Val):cE (.lst xs)=some xs:=rfl
@[simp] theorem tH(a:PAs):(du a).G e=(a.G e).bind λts e1=>match (rss e1 ts).bind cL with
 |some xs=>.ok (xs,none) e1
 |none=>.stuck:=rfl
@[simp] theorem uD(a:PAs):(jm a).G e=(a.G e).bind λts e1=>match (rss e1 ts).bind jG with
 |some xs=>.ok (xs,none) e1
 |none=>.stuck:=rfl
@[simp] theorem uq(i:PIt)(g:PGt)(b:PSt):(cw i g b).G e=(i.G e).toS λp e1=>(bW g.G b.G p.1 (lockO e1 p.2)).unl p.2:=rfl
@[simp] theorem d4(g:MG3)(B:MS3):bW g B [] e=.nx e:=rfl
theorem bB(g:MG3)(B:MS3)(v:Val)(vs:List Val):bW g B (v::vs) e=match g v e with
 |some e1=>(B e1).loop (bW g B vs)
 |none=>.stuck:=rfl
@[simp] theorem v_lc(i:PIt)(sub:Cn)(hs:(sub.filterMap id).Nodup)(g:PGt)(c:PTs)(a:PEx):(pLC i sub hs g c a).G e=(i.G e).bind λp e1=>match lcV g.G c.G a.G p.1 [] (bu sub (lockO e1 p.2)) with
 |.ok ys e2=>if ys.length<=16777216 then .ok (.new (.lst ys)) (bM (aC sub e2 (lockO e1 p.2)) p.2) else .stuck
 |_=>.stuck:=rfl
@[simp] theorem oQ(f:PFn)(a:PAs):(aF f a).G e=(a.G e).bind λts e1=>match rss e1 ts with
 |none=>.stuck
 |some vs=>if okA e1 f.ms ts=true then (match f.G vs with
  |.stuck=>.stuck
  |.ok r mv=>if (ay e1 f.ms ts).isEmpty || (er r&&mv.all bf) then .ok (r.tm ts) (aC (az f.ms ts) (ao f.ms mv) e1) else (match ed e1 (ay e1 f.ms ts) with
   |some e2=>.ok (r.tm ts) (aC (az f.ms ts) (ao f.ms mv) e2)
   |none=>.stuck)
  |.exc c mv=>if (ay e1 f.ms ts).isEmpty || mv.all bf then .exc c (aC (az f.ms ts) (ao f.ms mv) e1) else .stuck) else .stuck:=rfl
@[simp] theorem oh(ts:List Tm)(v:Val):(Rt.val v).tm ts=.val v:=rfl
@[simp] theorem pP(ts:List Tm)(v:Val):(Rt.new v).tm ts=.new v:=rfl
@[simp] theorem xP(ts:List Tm)(i:Nat):(Rt.par i).tm ts=(ts[i]?).getD (.val .non):=rfl
@[simp] theorem o_n:oN.G e=.ok none e:=rfl
@[simp] theorem o_s(a:PEx):(oS a).G e=(a.G e).bind λt e1=>match rs e1 t with
 |some (.int i)=>.ok (some i) e1
 |_=>.stuck:=rfl
@[simp] theorem v_sl(a:PEx)(l u:POp):(pSl a l u).G e=(a.G e).bind λt e1=>(l.G e1).bind λlo e2=>(u.G e2).bind λhi e3=>match rs e3 t.drop with
 |some v=>(aSl v lo hi).at e3
 |none=>.stuck:=rfl
@[simp] theorem v_d0:pD0.G e=.ok (.new (.dct [])) e:=rfl
theorem bP(ms:List Bool)(N:Nat)(c:PSt)(vs:List Val):(fnP ms N c).G vs=if vs.length=ms.length then (match c.G (sls ms vs++List.replicate (N-vs.length) .no) with
 |.nx e=>(match muV ms e with |some mv=>.ok (.val .non) mv |none=>.stuck)
 |.rt r e=>(match muV ms e with |some mv=>.ok r mv |none=>.stuck)
 |.exc c e=>(match muV ms e with |some mv=>.exc c mv |none=>.stuck)
 |_=>.stuck) else .stuck:=rfl
@[simp] theorem zK(p:PFx ms):p.fn.ms=ms:=rfl
@[simp] theorem fx_G(p:PFx ms)(vs:List Val):p.fn.G vs=p.G vs:=rfl
@[simp] theorem f_ms(ms:List Bool)(N:Nat)(c:PSt):(fnP ms N c).ms=ms:=rfl
end
@[simp] theorem tw(i j:Int):aU.G (.int i) (.int j)=.val (.int (i+j)):=rfl
@[simp] theorem uh(i j:Int):qW.G (.int i) (.int j)=.val (.int (i-j)):=rfl
@[simp] theorem k_lt(i j:Int):bLt.G (.int i) (.int j)=.val (.bl (decide (i<j))):=rfl
@[simp] theorem k_le(i j:Int):bLe.G (.int i) (.int j)=.val (.bl (decide (i<=j))):=rfl
@[simp] theorem k_gt(i j:Int):bGt.G (.int i) (.int j)=.val (.bl (decide (j<i))):=rfl
@[simp] theorem k_ge(i j:Int):bGe.G (.int i) (.int j)=.val (.bl (decide (j<=i))):=rfl
@[simp] theorem yV(i j:Int):bAug.G (.int i) (.int j)=.val (.int (i+j)):=rfl
@[simp] theorem Ax(i j:Int):bAuS.G (.int i) (.int j)=.val (.int (i-j)):=rfl
@[simp] theorem ub(i:Int):ng.G (.int i)=.val (.int (-i)):=rfl
def cP(c:CMulA i j):bC.G (.int i) (.int j)=.val (.int (i*j)):=by show rF (.int i) (.int j)=_;unfold rF aIc;dsimp only;rw[if_pos c]
def jl(c:CDivB i j):cK.G (.int i) (.int j)=.val (.int (i.fdiv j)):=by show qM (.int i) (.int j)=_;unfold qM aIc;dsimp only;rw[if_pos c]
def dj(c:j≠0):bq.G (.int i) (.int j)=.val (.int (i.fmod j)):=by show sF (.int i) (.int j)=_;unfold sF aIc;dsimp only;rw[if_pos c]
def zH(c:eV i j):m6.G (.int i) (.int j)=.val (.int (i^j.toNat)):=by show sQ (.int i) (.int j)=_;unfold sQ aIc;dsimp only;rw[if_pos c]
def sY(c:eV i j):iu.G (.int i) (.int j)=.val (.int (i*2^j.toNat)):=by show so (.int i) (.int j)=_;unfold so aIc;dsimp only;rw[if_pos c]
@[simp] theorem k_ix(x:Val)(i:Int):bIx.G x (.int i)=match x.items with
 |some xs=>(match atI xs i with
  |some v=>.val v
  |none=>.stuck)
 |none=>.stuck:=by show aIx x (.int i)=_;unfold aIx;cases x.items <;> rfl
@[simp] theorem yA(xs:List Val):(Val.tup xs).items=some xs:=rfl
@[simp] theorem gA(xs:List Val):(Val.lst xs).items=some xs:=rfl
@[simp] theorem Ap(xs:List Val):(Val.kl xs).items=some xs:=rfl
@[simp] theorem k_eq(x y:Val):bEq.G x y=match aW x y with
 |some b=>.val (.bl b)
 |none=>.stuck:=by show aEq false x y=_;unfold aEq;cases aW x y <;> rfl
@[simp] theorem k_ne(x y:Val):bNe.G x y=match aW x y with
 |some b=>.val (.bl (!b))
 |none=>.stuck:=by show aEq true x y=_;unfold aEq;cases aW x y <;> rfl
@[simp] theorem ud(x y:Int):aW (.int x) (.int y)=some (x==y):=rfl
@[simp] theorem zu(x y:Bool):aW (.bl x) (.bl y)=some (x==y):=by cases x <;> cases y <;> rfl
def eq_str(hx:PyData.strOk x=true)(hy:PyData.strOk y=true):aW (.str x) (.str y)=some (x==y):=by unfold aW;show (if shp (.str x)=true/\shp (.str y)=true then _ else _)=_;rw[if_pos ⟨dk hx (A3 _),dk hy (A3 _)⟩];rfl
@[simp] theorem k_is(x:Val):bIs.G x .non=match x with
 |.non=>.val (.bl true)
 |_=>.val (.bl false):=by cases x <;> rfl
@[simp] theorem zp(x:Val):bIsn.G x .non=match x with
 |.non=>.val (.bl false)
 |_=>.val (.bl true):=by cases x <;> rfl
@[simp] theorem uA(v:Val):cF.G [v]=match v.items with
 |some xs=>.val (.int xs.length)
 |none=>(match v with
  |.str z=>if z.length<=16777216 then .val (.int z.length) else .stuck
  |_=>.stuck):=rfl
@[simp] theorem yW(i:Int):Ao.G [.int i]=.val (.int (if i<0 then -i else i)):=rfl
@[simp] theorem yT(i j:Int):xw.G [.int i,.int j]=.val (.int (if j>i then j else i)):=rfl
@[simp] theorem tN(i j:Int):jD.G [.int i,.int j]=.val (.int (if j<i then j else i)):=rfl
@[simp] theorem Ai(xs:List Val):zP.G [.lst xs]=match fJ xs with
 |some bs=>.val (.bl (bs.all id))
 |none=>.stuck:=rfl
@[simp] theorem zi(xs:List Val):zr.G [.lst xs]=match bA xs with
 |some bs=>.val (.int bs.sum)
 |none=>.stuck:=rfl
@[simp] theorem oD(v:Val):dW.G [v]=match v.items with
 |some xs=>.new (.lst xs)
 |none=>.stuck:=rfl
@[simp] theorem vT(v:Val):ve.G [v]=match v.items with
 |some xs=>.val (.tup xs)
 |none=>.stuck:=rfl
@[simp] theorem wH(i:Int):uE.G [.int i]=.val (.int i):=rfl
@[simp] theorem wu(b:Bool):uE.G [.bl b]=.val (.int (if b then 1 else 0)):=rfl
@[simp] theorem jM(xs:List Val)(v:Val):cq.G (.lst xs) [v]=if xs.length<16777216 then some (.lst (xs++[v]),.non) else none:=rfl
@[simp] theorem bK:∀(bs:List Int),bA (bs.map Val.int)=some bs
 | []=>rfl
 |b::r=>by show (bA (r.map Val.int)).map (b :: ·)=_;rw[bK r];rfl
@[simp] theorem jx:∀(bs:List Bool),fJ (bs.map Val.bl)=some bs
 | []=>rfl
 |b::r=>by show (fJ (r.map Val.bl)).map (b :: ·)=_;rw[jx r];rfl
def og(b:Bool)(ms:List Bool)(v:Val)(vs:List Val):sls (b::ms) (v::vs)=sl1 b v::sls ms vs:=rfl
def lH:sls [] []=[]:=rfl
def tE(v:Val):sl1 true v=.mu v:=rfl
def tP(v:Val):sl1 false v=.sh v:=rfl
section
variable(e:E3)
def lM:okA e [] []=true:=rfl
def pq(i:Nat)(ms:List Bool)(ts:List Tm):okA e (true::ms) (.bor i::ts)=(((e[i]?).bind Sl.mv).isSome && !(cJ i ts)&&okA e ms ts):=rfl
def xZ(i:Nat)(ms:List Bool)(ts:List Tm):okA e (false::ms) (.bor i::ts)=(!(b8 i ms ts)&&okA e ms ts):=rfl
def nU(v:Val)(ms:List Bool)(ts:List Tm):okA e (false::ms) (.val v::ts)=okA e ms ts:=rfl
def ym(v:Val)(ms:List Bool)(ts:List Tm):okA e (false::ms) (.new v::ts)=okA e ms ts:=rfl
def ku(i:Nat):cJ i []=false:=rfl
def xx(i j:Nat)(ts:List Tm):cJ i (.bor j::ts)=((i==j) || cJ i ts):=rfl
def pQ(i:Nat)(v:Val)(ts:List Tm):cJ i (.val v::ts)=cJ i ts:=rfl
def qy(i:Nat):b8 i [] []=false:=rfl
def vd(i j:Nat)(ms:List Bool)(ts:List Tm):b8 i (true::ms) (.bor j::ts)=((i==j) || b8 i ms ts):=rfl
def uW(i:Nat)(v:Val)(ms:List Bool)(ts:List Tm):b8 i (true::ms) (.val v::ts)=b8 i ms ts:=rfl
def wC(i:Nat)(t:Tm)(ms:List Bool)(ts:List Tm):b8 i (false::ms) (t::ts)=b8 i ms ts:=by cases t <;> rfl
def iU:ay e [] []=[]:=rfl
theorem va(i:Nat)(ms:List Bool)(ts:List Tm):ay e (false::ms) (.bor i::ts)=match e[i]? with
 |some (.sh _)=>ay e ms ts
 |_=>i::ay e ms ts:=rfl
def lY(v:Val)(ms:List Bool)(ts:List Tm):ay e (false::ms) (.val v::ts)=ay e ms ts:=rfl
def pG(t:Tm)(ms:List Bool)(ts:List Tm):ay e (true::ms) (t::ts)=ay e ms ts:=by cases t <;> rfl
end
def iA:az [] []=[]:=rfl
def me(b:Bool)(t:Tm)(ms:List Bool)(ts:List Tm):az (b::ms) (t::ts)=fU b t::az ms ts:=rfl
def lG(i:Nat):fU true (.bor i)=some i:=rfl
def vK(v:Val):fU true (.val v)=none:=rfl
def pZ(t:Tm):fU false t=none:=by cases t <;> rfl
def jV(e:E3):aC [] [] e=e:=rfl
def pH(o:Option Nat)(sub:Cn)(s:Sl)(i e:E3):aC (o::sub) (s::i) e=aC sub i (cz o s e):=rfl
theorem lX(i:Nat)(v:Val)(e:E3):cz (some i) (.mu v) e=match e[i]? with
 |some t=>e.set i (t.re v)
 |none=>e:=rfl
def qb(s:Sl)(e:E3):cz none s e=e:=rfl
def kR(vs:List Val):ao [] vs=[]:=rfl
def pK(ms:List Bool)(v:Val)(vs:List Val):ao (true::ms) (v::vs)=.mu v::ao ms vs:=rfl
def oo(ms:List Bool)(vs:List Val):ao (false::ms) vs=.no::ao ms vs:=by cases vs <;> rfl
def lD(e:E3):muV [] e=some []:=by cases e <;> rfl
def tT(ms:List Bool)(v:Val)(e:E3):muV (true::ms) (.mu v::e)=(muV ms e).map (v :: ·):=rfl
def uz(ms:List Bool)(s:Sl)(e:E3):muV (false::ms) (s::e)=muV ms e:=by cases s <;> rfl
def iP(v:Val):er (.val v)=flatV v:=rfl
def iX(v:Val):er (.new v)=bf v:=rfl
def oE(i:Nat):er (.par i)=true:=rfl
def iK(xs:List Val):bf (.lst xs)=bo xs:=rfl
def ny:bo []=true:=by simp [bo]
def lg(v:Val)(vs:List Val):bo (v::vs)=(flatV v&&bo vs):=by simp [bo]
def iZ(i:Int):flatV (.int i)=true:=by simp [flatV]
def jH(i:Bool):flatV (.bl i)=true:=by simp [flatV]
def iJ(i:Str):flatV (.str i)=true:=by simp [flatV]
def iM:flatV .non=true:=by simp [flatV]
def oX(i:Str):flatV (.exc i)=true:=by simp [flatV]
def ox(xs:List Val):flatV (.tup xs)=bo xs:=by simp [flatV]
def bQ(h0:0<=i)(h:l[i.toNat]?=some x):atI l i=some x:=by have hl:=(f_.mp h).1;unfold atI ixN;rw[if_pos h0,if_pos (by omega)];exact h
def gB(h0:0<=i)(h:i.toNat<n):ixN n i=some i.toNat:=by unfold ixN;rw[if_pos h0,if_pos (by omega)]
section
variable(a b c d e f g h:α)(l:List α)
def ati0:atI (a::l) 0=some a:=bQ (by decide) rfl
def ati1:atI (a::b::l) 1=some b:=bQ (by decide) rfl
def ati2:atI (a::b::c::l) 2=some c:=bQ (by decide) rfl
def ati3:atI (a::b::c::d::l) 3=some d:=bQ (by decide) rfl
def ati4:atI (a::b::c::d::e::l) 4=some e:=bQ (by decide) rfl
def ati5:atI (a::b::c::d::e::f::l) 5=some f:=bQ (by decide) rfl
def ati6:atI (a::b::c::d::e::f::g::l) 6=some g:=bQ (by decide) rfl
def ati7:atI (a::b::c::d::e::f::g::h::l) 7=some h:=bQ (by decide) rfl
end
def ixn0(n:Nat):ixN (n+1) 0=some 0:=gB (i:=0) (by decide) (by show 0<n+_;omega)
def ixn1(n:Nat):ixN (n+2) 1=some 1:=gB (i:=1) (by decide) (by show 1<n+_;omega)
def ixn2(n:Nat):ixN (n+3) 2=some 2:=gB (i:=2) (by decide) (by show 2<n+_;omega)
def ixn3(n:Nat):ixN (n+4) 3=some 3:=gB (i:=3) (by decide) (by show 3<n+_;omega)
theorem AG(xs:List Val)(k:Int)(v:Val):seL.G (.lst xs) (.int k) v=match ixN xs.length k with
 |some j=>some (.lst (xs.set j v))
 |none=>none:=rfl
mutual
def vq:Val->Val->Bool
 |.non,.non=>true
 |.bl a,.bl b=>a==b
 |.bl a,.int j=>(if a then 1 else 0)==j
 |.int i,.bl b=>i==(if b then 1 else 0)
 |.int i,.int j=>i==j
 |.str x,.str y=>x==y
 |.tup xs,.tup ys=>vqs xs ys
 |.lst xs,.lst ys=>vqs xs ys
 |_,_=>false
def vqs:List Val->List Val->Bool
 | [],[]=>true
 |x::xs,y::ys=>vq x y&&vqs xs ys
 |_,_=>false
end
mutual
def wfV:Nat->Val->Bool
 |_,.non=>true
 |_,.bl _=>true
 |_,.int _=>true
 |_,.str x=>PyData.strOk x
 |k+1,.tup xs=>bF k xs
 |k+1,.lst xs=>bF k xs
 |_,_=>false
def bF:Nat->List Val->Bool
 |_,[]=>true
 |k,x::xs=>wfV k x&&bF k xs
end
mutual
def cN:Val->PyData
 |.bl b=>.bool b
 |.int i=>.int i
 |.str x=>.str x
 |.tup xs=>.tuple (bN xs)
 |.lst xs=>.list (bN xs)
 |_=>.none
def bN:List Val->List PyData
 | []=>[]
 |x::xs=>cN x::bN xs
end
mutual
theorem g6:∀(k:Nat) (v:Val),wfV k v=true->(∀j,k<j->aV j v=some (cN v))/\(cN v).canLay0=true/\(cN v).depth<=k
 |k,.non,_=>⟨λj hj=>by cases j with |zero=>exact absurd hj (BA _) |succ j=>rfl,rfl,A3 _⟩
 |k,.bl b,_=>⟨λj hj=>by cases j with |zero=>exact absurd hj (BA _) |succ j=>rfl,rfl,A3 _⟩
 |k,.int b,_=>⟨λj hj=>by cases j with |zero=>exact absurd hj (BA _) |succ j=>rfl,rfl,A3 _⟩
 |k,.str b,w=>⟨λj hj=>by cases j with |zero=>exact absurd hj (BA _) |succ j=>rfl,by cases k <;> exact w,A3 _⟩
 |0,.tup xs,w=>absurd w h_
 |0,.lst xs,w=>absurd w h_
 |
  k+1,.tup xs,w=>by
  obtain⟨h1,h2,h3⟩:=fL k xs w;exact⟨λj hj=>by cases j with |zero=>exact absurd hj (BA _) |succ j=>simp only[aV,cN,h1 j (Nat.lt_of_succ_lt_succ hj),Option.map_some],h2,by simpa [cN,PyData.depth] using h3⟩
 |
  k+1,.lst xs,w=>by
  obtain⟨h1,h2,h3⟩:=fL k xs w;exact⟨λj hj=>by cases j with |zero=>exact absurd hj (BA _) |succ j=>simp only[aV,cN,h1 j (Nat.lt_of_succ_lt_succ hj),Option.map_some],h2,by simpa [cN,PyData.depth] using h3⟩
 |k,.ty _,w=>by cases k <;> exact absurd w h_
 |k,.glb _,w=>by cases k <;> exact absurd w h_
 |k,.exc _,w=>by cases k <;> exact absurd w h_
 |k,.kl _,w=>by cases k <;> exact absurd w h_
 |k,.dct _,w=>by cases k <;> exact absurd w h_
 |k,.set _,w=>by cases k <;> exact absurd w h_
theorem fL:∀(k:Nat) (vs:List Val),bF k vs=true->(∀j,k<j->bJ j vs=some (bN vs))/\PyData.canLayAll0 (bN vs)=true/\PyData.depthAll (bN vs)<=k
 |k,[],_=>⟨λj hj=>by simp [bJ,bN],rfl,A3 _⟩
 |
  k,v::vs,w=>by
  have w':(wfV k v&&bF k vs)=true:=w;rw[i_] at w';obtain⟨h1,h2,h3⟩:=g6 k v w'.1;obtain⟨i1,i2,i3⟩:=fL k vs w'.2;exact⟨λj hj=>by simp [bJ,bN,h1 j hj,i1 j hj],by simp [bN,PyData.canLayAll0,h2,i2],Nat.max_le.mpr ⟨h3,i3⟩⟩
end
mutual
theorem pI:∀(k:Nat) (v u:Val),wfV k v=true->wfV k u=true->PyData.eqv (cN v) (cN u)=vq v u
 |
  k,v,u,hv,hu=>by
  cases v <;> first |(cases k <;> exact absurd hv h_) |skip
  all_goals (cases u <;> first |(cases k <;> exact absurd hu h_) |rfl |(cases k with |zero=>exact absurd hv h_ |succ k=>exact lK k _ _ hv hu))
theorem lK:∀(k:Nat) (v u:List Val),bF k v=true->bF k u=true->PyData.eqvAll (bN v) (bN u)=vqs v u
 |_,[],[],_,_=>rfl
 |_,[],_::_,_,_=>rfl
 |_,_::_,[],_,_=>rfl
 |
  k,x::xs,y::ys,hv,hu=>by
  have h1:(wfV k x&&bF k xs)=true:=hv;have h2:(wfV k y&&bF k ys)=true:=hu;rw[i_] at h1 h2;show (PyData.eqv (cN x) (cN y)&&PyData.eqvAll (bN xs) (bN ys))=(vq x y&&vqs xs ys);rw[pI k x y h1.1 h2.1,lK k xs ys h1.2 h2.2]
end
def wQ(hk:k<=160)(hx:wfV k x=true)(hy:wfV k y=true):aW x y=some (vq x y):=by obtain⟨h1,h2,h3⟩:=g6 k x hx;obtain⟨i1,i2,i3⟩:=g6 k y hy;unfold aW;rw[h1 164 (by omega),i1 164 (by omega)];dsimp only;rw[if_pos ⟨dk h2 (by omega),dk i2 (by omega)⟩,pI k x y hx hy]
def tW(hx:wfV 60 x=true)(hy:wfV 60 y=true):aW x y=some (vq x y):=wQ (by decide) hx hy
mutual
theorem gZ:∀(k:Nat) (v:Val),wfV k v=true->vq v v=true
 |
  k,v,hv=>by
  cases v <;> first |(cases k <;> exact absurd hv h_) |rfl |exact beq_self_eq_true _ |(cases k with |zero=>exact absurd hv h_ |succ k=>exact kH k _ hv)
theorem kH:∀(k:Nat) (v:List Val),bF k v=true->vqs v v=true
 |_,[],_=>rfl
 |
  k,x::xs,hv=>by
  have h1:(wfV k x&&bF k xs)=true:=hv;rw[i_] at h1;show (vq x x&&vqs xs xs)=true;rw[gZ k x h1.1,kH k xs h1.2];rfl
end
noncomputable def rgV (k:Nat):List Val:=(List.range k).map λj=>Val.int (j:Nat)
def dY(h:k<1000000):cL [.int (k:Nat)]=some (rgV k):=by simp only[cL];rw[if_pos (⟨by omega,by omega⟩:RgB _),Int.toNat_natCast];unfold j5 rgV;simp only[Int.zero_add]
def lA(h0:0<=i)(h:i<1000000):cL [.int i]=some (rgV i.toNat):=by
 have:=dY (k:=i.toNat) (by omega)
 rwa [show ((i.toNat:Nat):Int)=i from by omega] at this
theorem fF(fv fw:α->Val)(P:E3->Prop):∀(l:List α) (acc:List Val) (e:E3),P e->(∀a∈l,∀e,P e->∃e1 t e2,g (fv a) e=some e1/\F e1=.ok t e2/\bh e2 t=some (e2,fw a)/\P e2)->acc.length+l.length<=16777216->∃e',P e'/\lcV g qY.G F (l.map fv) acc e=.ok (acc++l.map fw) e'
 | [],acc,e,hp,_,_=>⟨e,hp,by simp [lcV]⟩
 |
  v::vs,acc,e,hp,hf,hl=>by
  obtain⟨e1,t,e2,q1,q2,q3,q4⟩:=hf v (y_ ..) e hp;obtain⟨e',p',q5⟩:=fF fv fw P vs (acc++[fw v]) e2 q4 (λu hu=>hf u (s_ _ hu)) (by simp at hl ⊢;omega);refine⟨e',p',?_⟩;rw[n_];unfold lcV;have cy:qY.G=cY:=rfl;rw[cy] at q5 ⊢;rw[if_pos (by simp at hl;omega),q1];simp only[cY,eh,BH,q2,q3,q5];simp
def wb(v:Val):inS (.mu v)=.mu v:=rfl
def yu(v:Val):inS (.ow v)=.mu v:=rfl
def p9(v:Val):inS (.sh v)=.sh v:=rfl
def yL:inS .no=.no:=rfl
def wx(v:Val):inS (.lo v)=.lm v:=rfl
def yx(v:Val):inS (.lm v)=.lm v:=rfl
theorem fM(k:Nat):∀xs:List Val,bF k xs=xs.all (wfV k)
 | []=>by simp [bF]
 |x::xs=>by simp [bF,fM k xs]
def lO(i:Nat)(v:Val)(e:E3):cz (some i) (.sh v) e=e:=rfl
def wd(b:Bool):rm (.bl b)=some b:=rfl
noncomputable def rM (ms:List Bool) (r:SR3):R3F:=match r with
 |.nx e=>(match muV ms e with |some mv=>.ok (.val .non) mv |none=>.stuck)
 |.rt r e=>(match muV ms e with |some mv=>.ok r mv |none=>.stuck)
 |.exc c e=>(match muV ms e with |some mv=>.exc c mv |none=>.stuck)
 |_=>.stuck
def zq(h:vs.length=ms.length):(fnP ms N c).G vs=rM ms (c.G (sls ms vs++List.replicate (N-vs.length) .no)):=by rw[bP,if_pos h];rfl
def Ak(ms:List Bool)(r:Rt)(e:E3):rM ms (.rt r e)=match muV ms e with |some mv=>.ok r mv |none=>.stuck:=rfl
def eR{Q:SR3->Prop}(I:E3->Prop){a b:PSt}{e:E3}(h1:∃e1,a.G e=.nx e1/\I e1)(h2:∀e1,I e1->Q (b.G e1)):Q ((au a b).G e):=by obtain⟨e1,q,i⟩:=h1;rw[eC,q];exact h2 e1 i
def sm8(h:m.natAbs<1099511627776):Sm 8000 m:=t_ (show m.natAbs<2^40 from h) (Bn (by decide) (by decide))
noncomputable def wG (cs:List (Str×PFn)) (F:ME3) (A:MA3) (e:E3):R3 Tm:=(F e).bind λt e1=>match rs e1 t with
 |some (.glb x)=>(match cs.lookup x with
  |some p=>uv p.ms p.G A e1
  |none=>.stuck)
 |_=>.stuck
noncomputable def yt (cs:List (Str×PFn)) (f:PEx) (a:PAs):PEx:=⟨25,wG cs f.G a.G⟩
theorem u1(e:E3)(cs:List (Str×PFn))(f:PEx)(a:PAs):(yt cs f a).G e=(f.G e).bind λt e1=>match rs e1 t with
 |some (.glb x)=>(match cs.lookup x with
  |some p=>(aF p a).G e1
  |none=>.stuck)
 |_=>.stuck:=rfl
def oF(xs ys:List Val):aU.G (.lst xs) (.lst ys)=if xs.length+ys.length<=16777216 then .new (.lst (xs++ys)) else .stuck:=rfl
def xY(xs ys:List Val):aU.G (.tup xs) (.tup ys)=if xs.length+ys.length<=16777216 then .val (.tup (xs++ys)) else .stuck:=rfl
section
variable{K:W.Frag}{mg:Cj}{P:Addr->Prop}{H:Hp}{ws ws':List (Key×V)}{us us':List (Key×Val)}{k:Key}
def zA(r:Rk K mg P H ws us):lkD us k=some v->∃d,lkD ws k=some d/\Rd K mg P H d v:=
 r.ind (M:=λws us=>lkD us k=some v->∃d,lkD ws k=some d/\Rd K mg P H d v) (λq=>by cases q) (λ{k2 d v2 ds vs} r _ ih q=>by
  unfold lkD at q ih ⊢;rw[Bk] at q ⊢;dsimp only at q ⊢;by_cases hk:k2=k
  .rw[Bb hk] at q ⊢;cases q;exact⟨d,rfl,r⟩
  .rw[AO hk] at q ⊢;exact ih q)
def uS(r:Rk K mg P H ws us):us.map (·.1)=ws.map (·.1):=
 r.ind (M:=λws us=>us.map (·.1)=ws.map (·.1)) rfl λ_ _ ih=>by rw[n_,n_,ih]
def wJ(r:Rk K mg P H ws us):ws.length=us.length:=
 r.ind (M:=λws us=>ws.length=us.length) rfl λ_ _ ih=>A0 (· + 1) ih
def xp(r:Rk K mg P H ws us)(q:Rk K mg P H ws' us'):Rk K mg P H (ws++ws') (us++us'):=
 r.ind (M:=λws us=>Rk K mg P H (ws++ws') (us++us')) q λr _ ih=>.cons r ih
def xn(rd:Rd K mg P H d v)(r:Rk K mg P H ws us):Rk K mg P H (m7 ws k d) (m7 us k v):=by
 unfold m7;rw[qE (uS r)];by_cases hc:(ws.any λkv=>decide (kv.1=k))=true
 .rw[if_pos hc,if_pos hc];exact r.ind (M:=λws us=>Rk K mg P H (ws.map λkv=>if kv.1=k then (kv.1,d) else kv) (us.map λkv=>if kv.1=k then (kv.1,v) else kv)) .nil (λ{k2 d2 v2 ds vs} r _ ih=>by
   rw[n_,n_];dsimp only;by_cases hk:k2=k
   .rw[if_pos hk,if_pos hk];exact .cons rd ih
   .rw[if_neg hk,if_neg hk];exact .cons r ih)
 .rw[if_neg hc,if_neg hc];exact xp r (.cons rd .nil)
def wV:∀{ks:List Key}{ds:List V}{vs:List Val},Rds K mg P H ds vs->Rk K mg P H (ks.zip ds) (ks.zip vs):=by
 intro ks;induction ks with
 |nil=>intro ds vs _;exact .nil
 |
  cons k ks ih=>
  intro ds vs r;cases r with
  |nil=>exact .nil
  |cons r rr=>exact .cons r (ih rr)
end
noncomputable def rb:Val->Val->Bv:=λx y=>match x with
 |.dct kvs=>(match y with
  |.str k=>(match lkD kvs (.inr k) with
   |some v=>.val v
   |none=>.stuck)
  |_=>.stuck)
 |_=>.stuck
noncomputable def cu:PO2:=⟨rb⟩
theorem Ay(kvs:List (Key×Val))(k:Str):cu.G (.dct kvs) (.str k)=match lkD kvs (.inr k) with
 |some v=>.val v
 |none=>.stuck:=rfl
noncomputable def sD:Val->Val->Val->Option Val:=λo i v=>match o with
 |.dct kvs=>(match i with
  |.str k=>if kvs.length<16777216 then some (.dct (m7 kvs (.inr k) v)) else none
  |_=>none)
 |_=>none
noncomputable def seD:PSe:=⟨sD⟩
noncomputable def mL (ks:List Str) (A:MA3) (e:E3):R3 Tm:=(A e).bind λts e1=>match dem e1 ts with
 |some (e2,vs)=>if ks.length=vs.length then .ok (.new (.dct ((ks.map Sum.inr).zip vs))) e2 else .stuck
 |none=>.stuck
noncomputable def mJ (ks:List Str) (a:PAs):PEx:=⟨26,mL ks a.G⟩
theorem kC(e:E3)(ks:List Str)(a:PAs):(mJ ks a).G e=(a.G e).bind λts e1=>match dem e1 ts with
 |some (e2,vs)=>if ks.length=vs.length then .ok (.new (.dct ((ks.map Sum.inr).zip vs))) e2 else .stuck
 |none=>.stuck:=rfl
noncomputable def aL:List (Str×PEx)->PAs
 | []=>ag
 |p::r=>aa p.2 (aL r)
section
variable{K:W.Frag}{mg:Cj}{X N0:Addr->Prop}{ns ns0:Ns}{e e0:E3}{σ:St}{H H0:Hp}
def Sat.fill(S:Sat K mg (Xn X n) N0 ns e σ H)(q:H n=some o)(hf:NotFz o):Mov (Oc (Xn X n) ns) (Oc (Xn X n) ns) H (upd H n o')/\Sat K mg (Xn X n) N0 ns e σ (upd H n o'):=by
 have up:∀m,m≠n->upd H n o' m=H m:=λm z=>aq z;have mv:Mov (Oc (Xn X n) ns) (Oc (Xn X n) ns) H (upd H n o'):=⟨LeH.wr q hf,λm ob p q' _=>⟨p,by rw[up m λz=>p.1 (.inr z)];exact q'⟩⟩;refine⟨mv,⟨S.l1,S.l2,λa z=>S.lh a ?_,λm z=>?_,S.inj,S.nx,λj s qj=>(S.sl j s qj).mono mv λm ob qm qo _=>?_,S.bs.wr q hf⟩⟩
 .rw[up a λy=>by subst y;rw[ar] at z;cases z] at z;exact z
 .by_cases y:m=n
  .subst y;exact⟨o',ar⟩
  .rw[up m y];exact S.xl m z
 .rw[up m λy=>by subst y;exact S.nx j m qm (.inr rfl)];exact qo
def Stp.fill(a:Stp ns0 e0 H0 ns e H)(hn:H0 n=none)(q:H n=some o)(hf:NotFz o):Stp ns0 e0 H0 ns e (upd H n o'):=by
 have up:∀m,m≠n->upd H n o' m=H m:=λm z=>aq z;refine⟨a.le.trans (LeH.wr q hf),λm z=>a.dom m ?_,λm ob qm ht hM=>?_,a.nw,a.lk,a.lk',a.mu,a.mu'⟩
 .rw[up m λy=>by subst y;rw[ar] at z;cases z] at z;exact z
 .rw[up m λy=>by subst y;rw[hn] at qm;cases qm];exact a.keep m ob qm ht hM
def TsR.cons'{L:Addr->Prop}{t:Tm}(r:relE K mg X N0 L σ ns e H d t.drop)(rs:TsR K mg X ns σ H ds ts):TsR K mg X ns σ H (d::ds) (t.drop::ts):=by
 generalize hg:t.drop=t' at *;cases t' with
 |val v=>exact .val r rs
 |new v=>cases t <;> cases hg
 |bor i=>exact .bor r rs
end
section
variable{K:W.Frag}{mg:Cj}{X:Cx}{ES:St->XK}{a b v:Expr}{keys:List (Option Expr)}{ks:List (Option Expr)}{values vs:List Expr}{p q F:PEx}{A:PAs}{prs:List (Str×PEx)}{pos kp:Pos}
noncomputable def tps (K:W.Frag) (mg:Cj) (ES:St->XK) (prs:List (Str×PEx)):List (TE×TE):=prs.map λp=>(tC (.str p.1),rdE K mg ES p.2.G)
theorem jy:∀(prs:List (Str×PEx)) {Y N0:Addr->Prop}{ns:Ns}{e:E3}{σ:St}{H:Hp}{Q:List (V×V)->Hp->Prop},Sat K mg Y N0 ns e σ H->PG3 K mg Y N0 ns e σ H (ES σ) (λts _ ns' H'=>∀vs,TsR K mg Y ns' σ H' vs ts->Q ((prs.map λp=>V.str p.1).zip vs) H') ((aL prs).G e)->gx (tps K mg ES prs) σ H Q
 | [],Y,N0,ns,e,σ,H,Q,S,p=>PG3.ret p S [] .nil
 |pr::r,Y,N0,ns,e,σ,H,Q,S,p=>⟨Y,N0,λ_=>True,ns,e,S,λ_ _=>trivial,PG3.imp p S λt e1 ns1 H1 a1 S1 p1 y ry=>jy r S1 (PG3.imp p1 S1 λts e2 d_ H2 a2 S2 p2 vs rs=>p2.ret S2 (y::vs) (TsR.cons' (ry.drop a2) rs))⟩
def uK(hu:X.A.units+1<cLine)(ha:DE K mg X ES a p)(hb:DE K mg X ES b q)(hs:rP b):DE K mg X ES (.Subscript a b pos) (pOp cu p q):=⟨PE.imp (vS hu ha.ok hb.ok hs) λσ H Q zz=>zz.el λY N0 L ns e S hl p=>
 ⟨Y,
  N0,L,ns,e,S,hl,PG3.imp p S λt1 e1 ns1 H1 a1 S1 p1 x r1=>⟨Y,N0,L,ns1,e1,S1,λa z=>hl a (a1.dom a z),PG3.imp p1 S1 λt2 e2 d_ H2 a2 S2 p2 y r2=>by
  try dsimp only at p2
  split at p2
  .rename_i v u q1 q2;replace p2:PG3 K mg Y N0 d_ e2 σ H2 (ES σ) (KE K mg Y N0 L σ Q) ((rb v u).at e2):=p2;unfold rb at p2;split at p2
   .split at p2
    .split at p2
     .rename_i q3;obtain⟨a,ws,rfl,h,rk⟩:=((r1.drop a2).sh S2 q1).dct;obtain rfl:=(r2.sh S2 q2).str;obtain⟨d,q4,rd⟩:=zA rk q3;exact⟨a,d,rfl,q4 ▸ DGet.k (k:=.inr _) h,p2.ret S2 _ rd⟩
     .exact p2.elim
    .exact p2.elim
   .exact p2.elim
  .exact p2.elim⟩⟩⟩
def vL:PPs X pos [] [] (tps K mg ES []):=uM
def fV(hv:DE K mg X ES v F)(hr:PPs X pos ks vs (tps K mg ES prs)):PPs X pos (some (.Constant (.str k) j kp)::ks) (v::vs) (tps K mg ES ((k,F)::prs)):=qN pS hv.ok hr
def uY{ns:List Str}(hp:PPs X pos keys values (tps K mg ES prs))(h1:ns=prs.map (·.1):=by rfl)(h2:A=aL prs:=by rfl)(hn:ns.Nodup:=by decide)(hall:keys.all (·.isSome)=true:=by rfl)(hl:keys.length=values.length:=by rfl)(h0:keys≠[]:=by intro h;cases h)(h15:keys.length<=15:=by decide)(hp15:prs.length<=15:=by decide):DE K mg X ES (.Dict keys values pos) (mJ ns A):=by
 subst h1 h2;refine⟨PE.imp (vN hp hall hl h0 h15) λσ H Q ⟨Y,N0,L,ns,e,S,hL,p⟩ pp hpp=>?_⟩;have g:=Gr.upd (u:=.dK []) hpp;have SG:=S.grow g hpp ar;refine jy prs SG ?_;replace p:PG3 K mg Y N0 ns e σ H (ES σ) (KE K mg Y N0 L σ Q) (mL (prs.map (·.1)) (aL prs).G e):=p;unfold mL at p;cases q:(aL prs).G e with
 |stuck=>rw[q] at p;exact p
 |exc c e'=>rw[q] at p;exact λH' ns' C a S' m=>p H' ns' C ((Stp.gr g).trans S a) (S'.weak λ_ z=>.inl z) m
 |
  ok ts e1=>
  rw[q] at p;intro H2 ns1 a1 S1 vs rs;replace p:PG3 K mg Y N0 ns e σ H (ES σ) (KE K mg Y N0 L σ Q) (match dem e1 ts with
   |some (e2,vs)=>if (prs.map (·.1)).length=vs.length then .ok (.new (.dct (((prs.map (·.1)).map Sum.inr).zip vs))) e2 else .stuck
   |none=>.stuck):=p
  split at p
  .rename_i e2 us qd;split at p
   .rename_i hlen;obtain⟨d_,S2,a2,r2⟩:=fb S1 rs qd;have k1:H2 pp=some (.dK []):=a1.keep pp _ ar (λ_ z=>nomatch z) λ⟨i,s,z,_⟩=>SG.nx i _ z (.inr rfl);have hlv:vs.length=prs.length:=by rw[r2.len,<- hlen,e_]
    refine⟨k1,((prs.map (·.1)).map Sum.inr).zip vs,?_,?_,?_⟩
    .rw[<- kJ,Bo];rfl
    .rw[List.length_zip,e_,e_];omega
    .have hz:(((prs.map (·.1)).map Sum.inr).zip vs:List (Key×V)).map (·.1)=(prs.map (·.1)).map Sum.inr:=List.map_fst_zip (by rw[e_,e_];omega);rw[jT _ [] (by rw[AU,hz];exact List.Pairwise.map _ (λa b hab z=>hab (Sum.inr.inj z)) hn),AU];obtain⟨mv,S3⟩:=S2.fill (o':=.dK (((prs.map (·.1)).map Sum.inr).zip vs)) k1 trivial;exact p _ d_ ((((Stp.gr g).trans S a1).trans S a2).fill hpp k1 trivial) (S3.weak λ_ z=>.inl z) _ ⟨pp,_,rfl,hL pp hpp,λz=>(by obtain⟨o,z⟩:=S.xl _ z;rw[hpp] at z;cases z),ar,trivial,S3,.dct ((wV r2).mono mv)⟩
   .exact p.elim
  .exact p.elim
def nZ:SetD K mg sU seD.G:=λP H n o u di vi d v u' Q np e hf r0 ri rd q k=>by
 replace q:sD u vi v=some u':=q;unfold sD at q;split at q
 .split at q
  .split at q
   .rename_i hl;cases q;obtain rfl:=ri.str;cases r0 with
    |dct rk=>exact⟨n,_,rfl,DPut.k (k:=.inr _) e (by rw[wJ rk];exact hl),k _ trivial (.dct (xn rd rk))⟩
   .cases q
  .cases q
 .cases q
noncomputable def fAny:List Val->Bv:=λvs=>match vs with
 | [.lst xs]=>(match fJ xs with
  |some bs=>.val (.bl (bs.any id))
  |none=>.stuck)
 |_=>.stuck
noncomputable def zU:PBf:=⟨fAny⟩
theorem Av(xs:List Val):zU.G [.lst xs]=match fJ xs with
 |some bs=>.val (.bl (bs.any id))
 |none=>.stuck:=rfl
end
noncomputable def pU (n:Nat) (u:hU):MG3:=λv e=>match v with
 |.tup vs=>if vs.length=n then u vs e else none
 |.lst vs=>if vs.length=n then u vs e else none
 |_=>none
noncomputable def gtU (n:Nat) (a:PGs):PGt:=⟨3,pU n a.G⟩
section
variable{e:E3}
def g_u(n:Nat)(a:PGs)(vs:List Val):(gtU n a).G (.tup vs) e=if vs.length=n then a.G vs e else none:=rfl
def g_uL(n:Nat)(a:PGs)(vs:List Val):(gtU n a).G (.lst vs) e=if vs.length=n then a.G vs e else none:=rfl
end
theorem ar1{α:Type}{P:List α->Prop}(h:∀a,P [a]):∀us:List α,us.length=1->P us
 | [a],_=>h a
theorem ar2{α:Type}{P:List α->Prop}(h:∀a b,P [a,b]):∀us:List α,us.length=2->P us
 | [a,b],_=>h a b
open PySem PySem.Spec PyProof.Rows L2 PySem.W
noncomputable def adr (K:Frag) (x:Str):Addr:=match nsIn K mainGlobals x with
 |some (some (.ref a))=>a
 |_=>0
noncomputable def eW (K:Frag) (x:Str):Bool:=match nsIn K mainGlobals x with
 |some (some (.ref _))=>true
 |_=>false
noncomputable def nq (K:Frag) (x:Str):Bool:=match nsIn K mainGlobals x with
 |some none=>true
 |_=>false
noncomputable def xcB (K:Frag) (C:Addr):Bool:=(clsIn K C).isSome&&(findIn K (.ref C) "__getattribute__" == some (some (.builtin "BaseException.__getattribute__"))&&(findIn K (.ref C) "__getattr__" == some none&&(findIn K (.ref C) "__class__" == some (some (.builtin "object.__class__"))&&(specialIn K (.builtin "object.__class__") "__get__" == some (some (.builtin "getset_descriptor.__get__"))&&(takesIn K (.builtin "object.__class__")==some true&&(mroIn K C (.type "object")==some true&&mroIn K C (.type "BaseException")==some true))))))
noncomputable def hdB (K:Frag) (C:Addr):Bool:=typeIn K (.ref C)==some (.type "type")&&((clsIn K C).isSome&&mroIn K C (.type "BaseException")==some true)
noncomputable def clA (K:Frag):Cl->Value
 |.b n=>.type n
 |.o x=>.ref (adr K x)
noncomputable def sI (K:Frag):Cl->Bool
 |.b _=>true
 |.o x=>eW K x
noncomputable def rz (K:Frag) (p:Cl×Cl×Bool):Bool:=kitOne K (clA K p.1) (clA K p.2.1)==some p.2.2&&(sI K p.1&&sI K p.2.1)
noncomputable def xkB (K:Frag):Cl->Bool
 |.b _=>true
 |.o x=>xcB K (adr K x)
noncomputable def mE:Val->Value->Bool
 |.int i,.int j _=>i==j
 |.str x,.str y _=>x==y
 |.non,.none=>true
 |.bl b,.bool c=>b==c
 |_,_=>false
noncomputable def dV:Val->V
 |.int i=>.int i
 |.str x=>.str x
 |.bl b=>.bl b
 |_=>.non
noncomputable def ju:List Val->List Value->Bool
 | [],[]=>true
 |d::ds,v::vs=>mE d v&&ju ds vs
 |_,_=>false
noncomputable def gcB (K:Frag) (x:Str):Val->Bool
 |.tup ds=>(match nsIn K mainGlobals x with
  |some (some (.ref a))=>(match K.lookup a with
   |some ⟨.type "tuple",_,.seq its _,_⟩=>decide (its.size<=1000)&&ju ds its.toList
   |_=>false)
  |_=>false)
 |d=>match nsIn K mainGlobals x with
  |some (some v)=>mE d v
  |_=>false
noncomputable def bFn:List String:=["abs", "all", "any", "isinstance", "len", "max", "min", "sorted", "sum"]
noncomputable def bTy:List String:=["bool", "dict", "int", "list", "set", "str", "tuple", "ValueError"]
noncomputable def bIt:List String:=["range", "zip", "enumerate"]
def xX:(bFn.all λn=>bootBuiltins (Str.ofString n)==some (.builtin n))=true:=by decide
def xO:(bTy.all λn=>bootBuiltins (Str.ofString n)==some (.type n))=true:=by decide
def boF{n:String}(h:bFn.contains n=true):bootBuiltins (Str.ofString n)=some (.builtin n):=AQ.mp (AK.mp xX n (AY.mp h))
def boT{n:String}(h:bTy.contains n=true):bootBuiltins (Str.ofString n)=some (.type n):=AQ.mp (AK.mp xO n (AY.mp h))
structure Tb where
 us:List Str
 rs:List Str
 hs:List (Str×List Str)
 kt:dH
 gs:List (Str×Val)
noncomputable def Tb.ok (b:Tb) (K:Frag):Bool:=(bFn++(bTy++bIt)).all (λn=>nq K (Str.ofString n))&&(b.us.all (eW K)&&(b.rs.all (λx=>excIn K (adr K x) gN "ValueError.__new__" && eW K x)&&(b.hs.all (λp=>hdB K (adr K p.1)&&p.2.all λc=>mroIn K (adr K c) (.ref (adr K p.1))==some true&&eW K c)&&(b.kt.all (λp=>rz K p&&xkB K p.1)&&b.gs.all λp=>gcB K p.1 p.2))))
structure Tx(b:Tb)(K:Frag)(mg:Cj):Prop where
 n:∀{n:String},(bFn++(bTy++bIt)).contains n=true->mg (Str.ofString n)=none
 m:∀{x:Str},b.us.contains x=true->mg x=some (.ref (adr K x))
 x:∀{x:Str},b.rs.contains x=true->excIn K (adr K x) gN "ValueError.__new__"=true
 h:∀{x:Str}{l:List Str},(x,l)∈b.hs->XHand K (adr K x)/\∀c∈l,∀Ce,mg c=some (.ref Ce)->mroIn K Ce (.ref (adr K x))=some true
 k:KitsOk K mg b.kt
 g:∀{x:Str}{d:Val},b.gs.lookup x=some d->GC K mg x d
section
variable{K:Frag}{h:Heap}{mg:Cj}{x:Str}(X:K.In h)(G:h.Ns mainGlobals mg)
include X G
def jq(e:eW K x=true):mg x=some (.ref (adr K x)):=by
 unfold eW at e;split at e
 .rename_i a q;unfold adr;rw[q];exact mg_of X G q
 .cases e
def t9(e:nq K x=true):mg x=none:=by
 unfold nq at e;split at e
 .rename_i q;exact mg_none_of X G q
 .cases e
omit X G in
def Af{C:Addr}(e:xcB K C=true):XCls K C:=by simp only[xcB,i_,AQ] at e;obtain⟨e1,e2,e3,e4,e5,e6,e7,e8⟩:=e;exact⟨e1,e2,e3,e4,e5,e6,e7,e8⟩
def uo{c:Cl}{v:Value}(e:sI K c=true)(q:ClV mg c v):v=clA K c:=by
 cases c with
 |b n=>exact q
 |o y=>obtain⟨a,rfl,m⟩:=q;rw[jq X G (show eW K y=true from e)] at m;cases m;rfl
omit X G in
def oI{d:Val}{v:Value}(e:mE d v=true):RelV (dV d) v/\∀P H,Rd K mg P H (dV d) d:=by
 unfold mE at e;split at e
 .cases AQ.mp e;exact⟨⟨_,rfl⟩,λ_ _=>.int _⟩
 .cases AQ.mp e;exact⟨⟨_,rfl⟩,λ_ _=>.str _⟩
 .exact⟨rfl,λ_ _=>.non⟩
 .cases AQ.mp e;exact⟨rfl,λ_ _=>.bl _⟩
 .cases e
omit X G in
theorem l7:∀{ds:List Val}{vs:List Value},ju ds vs=true->Vals (ds.map dV) vs/\∀P H,Rds K mg P H (ds.map dV) ds
 | [],[],_=>⟨.nil,λ_ _=>.nil⟩
 |
  d::ds,v::vs,e=>by
  rw[ju,i_] at e;obtain⟨a1,a2⟩:=oI (K:=K) (mg:=mg) e.1;obtain⟨b1,b2⟩:=l7 e.2;exact⟨.cons a1 b1,λP H=>.cons (a2 P H) (b2 P H)⟩
 | [],_::_,e=>nomatch e
 |_::_,[],e=>nomatch e
def Ad{d:Val}(e:gcB K x d=true):GC K mg x d:=by
 unfold gcB at e;split at e
 .rename_i ds;split at e
  .rename_i a q;split at e
   .rename_i dd its n sl l;rw[i_] at e;obtain⟨v1,v2⟩:=l7 (K:=K) (mg:=mg) e.2;exact⟨_,.ref a,mg_of X G q,rfl,λP H=>.tup (.inr ⟨_,its,n,l,rfl,rfl,AJ (of_decide_eq_true e.1) (by decide),v1⟩) (v2 P H)⟩
   .cases e
  .cases e
 .split at e
  .rename_i v q;obtain⟨v1,v2⟩:=oI (K:=K) (mg:=mg) e;exact⟨_,_,mg_of X G q,v1,v2⟩
  .cases e
omit X G in
theorem n8{d:Val}:∀{l:List (Str×Val)},l.lookup x=some d->(x,d)∈l
 | [],h=>nomatch h
 |
  (y,e)::l,h=>by
  rw[A9] at h;split at h
  .rename_i q;cases h;rw[AQ.mp q];exact y_
  .exact s_ _ (n8 h)
def AA{b:Tb}(e:b.ok K=true):Tx b K mg:=by
 unfold Tb.ok at e;simp only[i_] at e;obtain⟨e1,e2,e3,e4,e5,e6⟩:=e;simp only[AK,i_] at e1 e2 e3 e4 e5 e6;refine⟨λh=>t9 X G (e1 _ (AY.mp h)),λh=>jq X G (e2 _ (AY.mp h)),λh=>(e3 _ (AY.mp h)).1,λh=>?_,⟨λp hp t v h1 h2=>?_,λp hp x C e' m=>?_⟩,λh=>Ad X G (e6 _ (n8 h))⟩
 .obtain⟨a1,a2⟩:=e4 _ h;refine⟨?_,λc hc Ce m=>?_⟩
  .simp only[hdB,i_,AQ] at a1;exact⟨a1.1,a1.2.1,a1.2.2⟩
  .obtain⟨b1,b2⟩:=a2 c hc;rw[jq X G b2] at m;cases m;exact AQ.mp b1
 .obtain⟨a1,_⟩:=e5 p hp;simp only[rz,i_,AQ] at a1;rw[uo X G a1.2.1 h1,uo X G a1.2.2 h2];exact a1.1
 .obtain⟨a1,a2⟩:=e5 p hp;simp only[rz,i_,AQ] at a1;have a3:=a1.2.1;rw[e'] at a2 a3;rw[jq X G (show eW K x=true from a3)] at m;cases m;exact Af a2
end
def dNm(s:Stmt):Str:=match s with
 |.FunctionDef n ..=>n
 |_=>""
def AllD(K:Frag)(mg:Cj)(top:Nat->Stmt):List Nat->Prop
 | []=>True
 |i::l=>Def K mg (dNm (top i)) (top i)/\AllD K mg top l
theorem AllD.get{K:Frag}{mg:Cj}{top:Nat->Stmt}:∀{l:List Nat},AllD K mg top l->∀i,l.contains i=true->Def K mg (dNm (top i)) (top i)
 | [],_,i,h=>nomatch h
 |
  j::l,⟨a,b⟩,i,h=>by
  rcases AL.mp (AY.mp h) with rfl |h
  .exact a
  .exact b.get i (AY.mpr h)
def Tx.e{b:Tb}{K:Frag}{mg:Cj}{x:Str}(T:Tx b K mg)(h:b.us.contains x=true):∃a,mg x=some (.ref a):=⟨_,T.m h⟩
structure Ty(b:Tb)(top:Nat->Stmt)(ds:List Nat)(K:Frag)(mg:Cj):Prop extends Tx b K mg where
 d:AllD K mg top ds
noncomputable def scB (N P:List Str) (sc:Scope):Bool:=decide (sc.kind=.function)&&(!sc.isCoroutine&&(!sc.isGenerator&&(decide N.Nodup&&(decide (N.take P.length=P)&&(P.all (λx=>decide (sc.names.lookup x=some .local\/sc.names.lookup x=some .cell))&&sc.names.all λy=>decide (y.2 ≠ .free))))))
def bY{N P:List Str}{sc:Scope}(e:scB N P sc=true):FnScope N P sc:=by simp only[scB,i_,BZ,AK,Bool.not_eq_true'] at e;obtain⟨e1,e2,e3,e4,e5,e6,e7⟩:=e;exact⟨e1,e2,e3,e4,e5,e6,e7⟩
section
variable{K:Frag}{h:Heap}{mg:Cj}(X:K.In h)(G:h.Ns mainGlobals mg)
include X G
def wL(e:rq.all (nq K)=true)(P:Addr)(q:Str):¬ rn K mg P q:=λ⟨x,f,oc,od,fd,sl,c,a1,a2,a3,_⟩=>by
 have:=t9 X G (AK.mp e x a1)
 rw[a3] at this;cases this
end
theorem iS(P:Nat->E3->Prop)(m:Nat)(hs:∀i,i<m->∀e,P i e->∃e1 e2,g (.int (i:Nat)) e=some e1/\(B e1=.nx e2\/B e1=.ct e2)/\P (i+1) e2):∀(k i:Nat) (e:E3),i+k=m->P i e->∃e',P m e'/\bW g B ((List.range' i k).map λj=>Val.int (j:Nat)) e=.nx e'
 |
  0,i,e,h,p=>by
  obtain rfl:i=m:=by omega
  exact⟨e,p,rfl⟩
 |
  k+1,i,e,h,p=>by
  obtain⟨e1,e2,q1,q2,q3⟩:=hs i (by omega) e p;obtain⟨e',p',q4⟩:=iS P m hs k (i+1) e2 (by omega) q3;refine⟨e',p',?_⟩;rw[List.range'_succ,n_,bB,q1];rcases q2 with q2 |q2
  .simp only[q2,ft];exact q4
  .simp only[q2,tU];exact q4
def gd(P:Nat->E3->Prop)(m:Nat)(h0:P 0 e)(hs:∀i,i<m->∀e,P i e->∃e1 e2,g (.int (i:Nat)) e=some e1/\(B e1=.nx e2\/B e1=.ct e2)/\P (i+1) e2):∃e',P m e'/\bW g B (rgV m) e=.nx e':=by
 have:=iS P m hs m 0 e (by omega) h0
 rw[<- List.range_eq_range'] at this;exact this
def kr(xs:List Val)(n:Nat):cp xs none (some (n:Int))=xs.take n:=by
 unfold cp;rw[HT.sIx_none,HT.sIx_nat,List.drop_zero,Nat.sub_zero];by_cases h:n<=xs.length
 .rw[Nat.min_eq_left h]
 .rw[Nat.min_eq_right (by omega),BC (r_ _),BC (by omega)]
def sv(xs:List Val)(n:Nat):cp xs (some (n:Int)) none=xs.drop n:=by
 unfold cp;rw[HT.sIx_none,HT.sIx_nat];by_cases h:n<=xs.length
 .rw[Nat.min_eq_left h,BC (by rw[List.length_drop];exact r_ _)]
 .rw[Nat.min_eq_right (by omega),List.drop_of_length_le (r_ _),List.drop_of_length_le (by omega),B2]
def vX(xs:List Val):cp xs none (some (-1))=xs.dropLast:=by unfold cp;rw[HT.sIx_none,List.drop_zero,Nat.sub_zero,List.dropLast_eq_take];show xs.take (if (-1:Int)<0 then ((-1:Int)+(xs.length:Int)).toNat else min (-1:Int).toNat xs.length)=_;rw[if_pos (by decide)];congr 1;omega
def gK(xs:List Val)(lo hi:Option Int):aSl (.lst xs) lo hi=.new (.lst (cp xs lo hi)):=rfl
def zk(xs:List Val)(lo hi:Option Int):aSl (.kl xs) lo hi=.new (.lst (cp xs lo hi)):=rfl
@[irreducible] def gtX(a:PGt):PGt:=a
def g_x(a:PGt)(v:Val)(e:E3):(gtX a).G v e=a.G v e:=by unfold gtX;rfl
theorem fq{g:MG3}{c:MT3}{F:ME3}{α:Type}(pz:α->Bool)(fv fw:α->Val)(P:E3->Prop):∀(l:List α) (acc:List Val) (e:E3),P e->(∀a∈l,∀e,P e->∃e1 e2,g (fv a) e=some e1/\c e1=.ok (pz a) e2/\P e2/\(pz a=true->∃t e3,F e2=.ok t e3/\bh e3 t=some (e3,fw a)/\P e3))->acc.length+l.length<=16777216->∃e',P e'/\lcV g c F (l.map fv) acc e=.ok (acc++(l.filter pz).map fw) e'
 | [],acc,e,hp,_,_=>⟨e,hp,by simp [lcV]⟩
 |
  a::l,acc,e,hp,hf,hl=>by
  obtain⟨e1,e2,q1,q2,q3,q4⟩:=hf a (y_ ..) e hp;rw[p_] at hl;cases hz:pz a with
  |false=>obtain⟨e',p',q⟩:=fq pz fv fw P l acc e2 q3 (λu hu=>hf u (s_ _ hu)) (by omega);refine⟨e',p',?_⟩;rw[hz] at q2;rw[n_];unfold lcV;rw[if_pos (by omega),q1];simp only[q2,eh,A_,BK,q];rw[Bw (by rw[hz];exact h_)]
  |true=>obtain⟨t,e3,r1,r2,r3⟩:=q4 hz;obtain⟨e',p',q⟩:=fq pz fv fw P l (acc++[fw a]) e3 r3 (λu hu=>hf u (s_ _ hu)) (by simp;omega);refine⟨e',p',?_⟩;rw[hz] at q2;rw[n_];unfold lcV;rw[if_pos (by omega),q1];simp only[q2,eh,BH,r1,r2,q];rw[Bx hz,n_,A6];rfl
def nr(xs:List Int):(xs.map Val.int).all fg=true:=by rw[List.all_map,AK];intro x _;rfl
def rG(xs:List Int)(a:Int):((xs.map Val.int).any λd=>eq1 d (.int a))=xs.contains a:=by
 induction xs with
 |nil=>rfl
 |cons x xs ih=>rw[n_,A8,ih,List.contains_cons];congr 1;show (x==a)=(a==x);rw[Bool.eq_iff_iff,AQ,AQ];exact⟨Eq.symm,Eq.symm⟩
def qu(xs:List Int)(a:Int):fX.G (.int a) (.lst (xs.map .int))=.val (.bl (!xs.contains a)):=by show aIn true (.int a) (.lst (xs.map .int))=_;unfold aIn;dsimp only [Val.items];rw[if_pos ⟨rfl,nr xs⟩,rG];rfl
section
variable{K:W.Frag}{mg:Cj}
theorem oz{P:Addr->Prop}{H:Hp}:∀{ds:List V}{vs:List Val},ds.length=vs.length->(∀(i:Nat) d v,ds[i]?=some d->vs[i]?=some v->Rd K mg P H d v)->Rds K mg P H ds vs
 | [],[],_,_=>.nil
 |d::ds,v::vs,h,k=>.cons (k 0 d v rfl rfl) (oz (Nat.succ.inj h) λi d v q1 q2=>k (i+1) d v q1 q2)
end
section
variable{P:Program}{w:World}{K:W.Frag}{mg:Cj}{base:Heap}{fx:Str}{fst:Stmt}{k m:Nat}{pn N:List Str}{ms:List Bool}{x:PSt}
def okPU(D:Def K mg fx fst)(S:FnScope N pn (ai fst))
 (hb:∀(kV doc pm:Value) (an:Option Addr) (cdv ct:Value) (us:List Value),us.length=pn.length->bindArgs (W.fnOf fx fx (bE fst) (aO fst) (ai fst) .none kV doc pm an cdv ct) ⟨us,[]⟩=pure (pn.zip us))
 (a_:N.Nodup->∀(f:Addr) (cdv:Value) (A:Around) (outer:List Env) (s:Shared) (H:Hp) (E:XK),RoomU k (A.deeper (envOfC fx (ai fst) s.heap.objs.size f cdv))->
  DSs K mg (eu (CX1 P w) P w K mg base N fx (ai fst) f cdv A outer s H E) (λ_=>E) (aO fst) x) (hn:ms.length=pn.length:=by rfl) (hm:N.length=m:=by rfl):CalleeU P w K mg base fx (k+1) pn (sp3 K mg (fnP ms m x)):=by
 subst hm;exact D.okRU S hb (λvs H Q E sp=>by rw[<- hn];exact jI sp) λf cdv A outer s H vs Q E hr sp=>⟨_,(a_ S.nd f cdv A outer s H E hr).ok,jP sp⟩
end
section
variable{K:W.Frag}{mg:Cj}{X:Cx}{ES:St->XK}{e:Expr}{es:List Expr}{A:PAs}{pos:Pos}{k:Nat}{ps:List Str}
def pX{f:PFn}{x:Str}{p0:Pos}(C:CalleeU X.prog X.w X.K X.mg X.base x k ps (sp3 K mg f))(hr:RoomU k X.A)(hg:Gl X x)(hx:cD X ES)(ha:DA K mg X ES (e::es) A)
 (hdb:(x==("__debug__" : Str))=false:=by decide) (he:starEach (e::es) X.env=(false,eval e X.env)::starEach es X.env:=by rfl) (hpl:(backTo pos (starEach es X.env)).any (·.1)=false:=by rfl):
 DE K mg X ES (.Call (.Name x p0) (e::es) [] pos) (aF f A):=by
 obtain⟨fa,fd,F',m,kp,bb,_⟩:=C.ex;refine⟨λpins s σ H Q I hh=>BB (dZ I hg m ?_ hdb)⟩;refine W.callWith_K (h₀:=X.base) I.ok.mod.kin kp (z_ (ha.ok pos pins s σ H _ I (lW σ H Q hh)) (λus s1 zz=>exA zz λvs H1 I1 r q=>⟨I1.kIn,?_⟩) λ_ _ z=>z) he hpl;have hl:(us++[]).length=ps.length:=by rw[AN,<- r.length];exact F'.len _ _ _ _ q
 refine wpAny_call (Cb (F'.run X.A X.stack s1 H1 ⟨us,[]⟩ us vs Q (ES σ) hr I1.env0 (by simpa using bb s1 us I1.kIn hl) r q) λr s' hq=>?_);cases r with
 |error ex=>exact hx pins σ H1 s1 ex s' I1 hq
 |
  ok fl=>
  cases fl with
  |ret u=>exact I1.after hq
  |next=>exact False.elim hq
  |brk=>exact False.elim hq
  |cont=>exact False.elim hq
end
noncomputable def kD (neg:Bool) (n:Str) (kvs:List (Str×Int)):Val->Val->Bv:=λx y=>match x,y with
 |.str k,.glb m=>if m=n then .val (.bl (neg ^^ (lkS kvs k).isSome)) else .stuck
 |_,_=>.stuck
noncomputable def mW (n:Str) (kvs:List (Str×Int)):PO2:=⟨kD true n kvs⟩
def nY(n:Str)(kvs:List (Str×Int))(k:Str):(mW n kvs).G (.str k) (.glb n)=.val (.bl (!(lkS kvs k).isSome)):=by show kD true n kvs (.str k) (.glb n)=_;unfold kD;dsimp only;rw[if_pos rfl];cases (lkS kvs k).isSome <;> rfl
section
variable{K:W.Frag}{mg:Cj}{n:Str}{kvs:List (Str×Int)}
def vf(neg:Bool):OpD K mg (rL neg mg n kvs) (kD neg n kvs):=λP H x y v u Q rx ry p=>by
 unfold kD at p;split at p
 .split at p
  .rename_i hm;subst hm;obtain rfl:=rx.str;obtain⟨a,rfl,e⟩:=ry.glb;exact⟨_,a,rfl,rfl,e,bv p (.bl _)⟩
  .exact p.elim
 .exact p.elim
def vv:OpD K mg (rL true mg n kvs) (mW n kvs).G:=vf true
end
structure TyD(dn:Str)(kvs:List (Str×Int))(w:World)(b:Tb)(top:Nat->Stmt)(ds:List Nat)(K:W.Frag)(mg:Cj):Prop extends Ty b top ds K mg where
 kd:KDict w K mg dn kvs
noncomputable def lockA (e:E3):E3:=e.map aG
noncomputable def eE (L:Nat):Val->Bool
 |.tup [.str _,.lst xs,.lst ys]=>(bA xs).isSome&&(bA ys).isSome&&decide (xs.length≠L)&&decide (ys.length≠L)&&decide (xs.length<=1000)&&decide (ys.length<=1000)
 |_=>false
noncomputable def mr (fi ci hi ki:Nat) (f:PFn) (c:MT3) (e:E3):SR3:=match e[hi]?,e[ki]?,e[fi]?,e[ci]? with
 |some (.sh (.lst hs)),some (.sh (.str k)),some sf,some sc=>if sf.pl=true/\sc.pl=true/\(bA hs).isSome=true then (match f.G [.lst hs,.str k] with
  |.ok (.new (.lst cuts)) _=>if cuts.all (eE hs.length)=true/\cuts.length<=1000 then (match c (lockA (e.set fi (.ow (.lst cuts)))) with
   |.ok false _=>.nx ((e.set ci .no).set fi (.ow (.lst [])))
   |_=>.stuck) else .stuck
  |_=>.stuck) else .stuck
 |_,_,_,_=>.stuck
noncomputable def fo (fi ci hi ki:Nat) (f:PFn) (c:PTs):PSt:=⟨44,mr fi ci hi ki f c.G⟩
theorem xF(fi ci hi ki:Nat)(f:PFn)(c:PTs)(e:E3):(fo fi ci hi ki f c).G e=match e[hi]?,e[ki]?,e[fi]?,e[ci]? with
 |some (.sh (.lst hs)),some (.sh (.str k)),some sf,some sc=>if sf.pl=true/\sc.pl=true/\(bA hs).isSome=true then (match f.G [.lst hs,.str k] with
  |.ok (.new (.lst cuts)) _=>if cuts.all (eE hs.length)=true/\cuts.length<=1000 then (match c.G (lockA (e.set fi (.ow (.lst cuts)))) with
   |.ok false _=>.nx ((e.set ci .no).set fi (.ow (.lst [])))
   |_=>.stuck) else .stuck
  |_=>.stuck) else .stuck
 |_,_,_,_=>.stuck:=rfl
section
variable{K:W.Frag}{mg:Cj}{X X' N0 P:Addr->Prop}{ns:Ns}{e:E3}{σ:St}{H H' H0:Hp}
def Sat.lockA(S:Sat K mg X N0 ns e σ H):Sat K mg X N0 ns (L3.lockA e) σ H:=by unfold L3.lockA;refine⟨by rw[e_];exact S.l1,by rw[e_];exact S.l2,S.lh,S.xl,S.inj,S.nx,λi s q=>?_,S.bs⟩;rw[x_] at q;obtain⟨s0,q0,rfl⟩:=v_.mp q;exact (S.sl i s0 q0).lock
def jt{n:Addr}:¬ Mt ns (lockA e) n:=λ⟨i,s,_,q,m⟩=>by unfold lockA at q;rw[x_] at q;obtain⟨s0,_,rfl⟩:=v_.mp q;cases s0 <;> cases m
def GrN(H H':Hp):Prop:=∀a o,H a=some o->ik o->H' a=some o
def GrN.le(g:GrN H H'):LeH H H':=⟨λ_ _ e=>g _ _ e (λ_ z=>(nomatch z)),λ_ _ _ e=>g _ _ e (λ_ z=>(nomatch z)),λ_ _ e=>g _ _ e (λ_ z=>(nomatch z))⟩
def Sat.grN(S:Sat K mg X N0 ns e σ H)(g:GrN H H')(dom:∀a,H' a=none->H a=none)(hX:∀a,X' a->X a\/H a=none)(xl:∀a,X' a->∃o,H' a=some o)(bs:Bs K mg H'):Sat K mg X' N0 ns e σ H':=by
 refine⟨S.l1,S.l2,λa z=>S.lh a (dom a z),xl,S.inj,λi n q z=>?_,λi s q=>(S.sl i s q).mono ⟨g.le,λa o p q nt=>⟨⟨λz=>?_,p.2⟩,g a o q nt⟩⟩ (λj o _ q hf=>g j o q hf.nt),bs⟩
 .rcases hX n z with z |z
  .exact S.nx i n q z
  .obtain⟨_,_,_,_,_,_,_,y,_⟩:=S.own q;rw[z] at y;cases y
 .rcases hX a z with z |z
  .exact p.1 z
  .rw[z] at q;cases q
def Stp.grN(g:GrN H H')(dom:∀a,H' a=none->H a=none):Stp ns e H ns e H':=⟨g.le,dom,λm o q nt _=>g m o q nt,λ_ _ q=>.inl q,λ_ _ q _=>⟨q,rfl⟩,λ_ _ q _=>⟨q,rfl⟩,λ_ _ q=>⟨_,q,rfl⟩,λ_ _ q=>⟨_,q,rfl⟩⟩
def GrN.trans(a:GrN H H0)(b:GrN H0 H'):GrN H H':=λx o q nt=>b x o (a x o q nt) nt
def dU{is:List Int}:Rds K mg P H (is.map V.int) (is.map Val.int):=by
 induction is with
 |nil=>exact .nil
 |cons i is ih=>exact .cons (.int i) ih
def eO{xs:List Val}(h:(bA xs).isSome=true):∃is:List Int,xs=is.map Val.int:=by
 induction xs with
 |nil=>exact⟨[],rfl⟩
 |
  cons x xs ih=>
  cases x with
  |
   int i=>
   cases q:bA xs with
   |none=>unfold bA at h;rw[q] at h;cases h
   |some js=>obtain⟨is,rfl⟩:=ih (by rw[q];rfl);exact⟨i::is,rfl⟩
  |_=>cases h
def uU{d:V}{v:Val}{L:Nat}(r:Rd K mg P H d v)(h:eE L v=true):∃(t a b:Addr) (w:Str) (is js:List Int),d=.ref t/\v=.tup [.str w,.lst (is.map .int),.lst (js.map .int)]/\SqT K H t [.str w,.ref a,.ref b]/\P a/\P b/\H a=some (.lst (is.map V.int))/\H b=some (.lst (js.map V.int))/\is.length≠L/\js.length≠L/\is.length<=1000/\js.length<=1000:=by
 unfold eE at h;split at h
 .rename_i w xs ys;simp only[i_,BZ] at h;obtain⟨⟨⟨⟨⟨h1,h2⟩,h3⟩,h4⟩,h5⟩,h6⟩:=h;obtain⟨is,rfl⟩:=eO h1;obtain⟨js,rfl⟩:=eO h2;rw[e_] at h3 h4 h5 h6;have get:∀{d:V}{ks:List Int},Rd K mg P H d (.lst (ks.map .int))->∃a,d=.ref a/\P a/\H a=some (.lst (ks.map V.int)):=λ{d ks} r=>by
   cases r with
   |
    cell p q rc=>
    cases rc with
    |lst rs=>exact⟨_,rfl,p,by rw[q,nR rs (bK ks)]⟩
  cases r with
  |
   tup sq rs=>
   cases rs with
   |
    cons r1 rs=>
    cases rs with
    |
     cons r2 rs=>
     cases rs with
     |cons r3 rs=>cases rs;obtain rfl:=ShR.str (.inl r1);obtain⟨a,rfl,pa,ea⟩:=get r2;obtain⟨b,rfl,pb,eb⟩:=get r3;exact⟨_,a,b,w,is,js,rfl,rfl,sq,pa,pb,ea,eb,h3,h4,h5,h6⟩
  |cell p q rc=>cases rc
 .cases h
end
section
variable{K:W.Frag}{mg:Cj}{X N0:Addr->Prop}{ns:Ns}{e:E3}{σ:St}{H0 H H2:Hp}{D c:Addr}{n:Nat}{r:V}{ks:List Int}{xs:List V}{ES:St->XK}{De:Ends}{fi ci hi:Nat}{ct c3:PTs}{refs:List V}
def Raw(K:W.Frag)(H0 H:Hp)(D:Addr)(n:Nat)(r:V):Prop:=∃(t a b:Addr) (w:Str) (is js:List Int),r=.ref t/\SqT K H t [.str w,.ref a,.ref b]/\(H0 a=none/\a≠D)/\(H0 b=none/\b≠D)/\H a=some (.lst (is.map V.int))/\H b=some (.lst (js.map V.int))/\is.length<=n/\js.length<=n
def kx{a:Addr}{is:List Int}(hk:ks.length<=n+1)(q:H a=some (.lst (is.map V.int)))(l:is.length<=n):∃is':List Int,upd H c (.lst (ks.map V.int)) a=some (.lst (is'.map V.int))/\is'.length<=n+1:=by
 by_cases z:a=c
 .subst z;exact⟨ks,ar,hk⟩
 .exact⟨is,by rw[aq z];exact q,by omega⟩
def Raw.upd(h:Raw K H0 H D n r)(e:H c=some (.lst xs))(hk:ks.length<=n+1):Raw K H0 (L2.upd H c (.lst (ks.map V.int))) D (n+1) r:=by obtain⟨t,a,b,w,is,js,rfl,sq,ha,hb,ea,eb,l1,l2⟩:=h;obtain⟨is',e1,m1⟩:=kx (c:=c) hk ea l1;obtain⟨js',e2,m2⟩:=kx (c:=c) hk eb l2;exact⟨t,a,b,w,is',js',rfl,(LeH.wr e trivial).sqT sq,ha,hb,e1,e2,m1,m2⟩
def Raw.grN(h:Raw K H0 H D n r)(g:GrN H H2):Raw K H0 H2 D n r:=by obtain⟨t,a,b,w,is,js,rfl,sq,ha,hb,ea,eb,l1,l2⟩:=h;exact⟨t,a,b,w,is,js,rfl,g.le.sqT sq,ha,hb,g _ _ ea (λ_ z=>(nomatch z)),g _ _ eb (λ_ z=>(nomatch z)),l1,l2⟩
structure RS(K:W.Frag)(mg:Cj)(X:Addr->Prop)(H0:Hp)(D:Addr)(refs:List V)(n:Nat)(H:Hp):Prop where
 g:GrN H0 H
 dom:∀a,H a=none->H0 a=none
 xl:∀a,X a->∃o,H a=some o
 bs:Bs K mg H
 d:H D=some (.lst refs)
 raw:∀r∈refs,Raw K H0 H D n r
def RS.upd(h:RS K mg X H0 D refs n H)(e:H c=some (.lst xs))(h0:H0 c=none)(hc:c≠D)(hk:ks.length<=n+1):RS K mg X H0 D refs (n+1) (L2.upd H c (.lst (ks.map V.int))):=by
 refine⟨λa o q nt=>?_,λa z=>?_,λa z=>?_,h.bs.wr e trivial,?_,λr hr=>(h.raw r hr).upd e hk⟩
 .rw[aq λz=>by subst z;rw[h0] at q;cases q];exact h.g a o q nt
 .by_cases y:a=c
  .subst y;exact h0
  .rw[aq y] at z;exact h.dom a z
 .by_cases y:a=c
  .subst y;exact⟨_,ar⟩
  .rw[aq y];exact h.xl a z
 .rw[aq (Ne.symm hc)];exact h.d
def RS.next(h:RS K mg X H0 D refs n H)(g:GrN H H2)(dom:∀a,H2 a=none->H a=none)(xl:∀a,X a->∃o,H2 a=some o)(bs:Bs K mg H2):RS K mg X H0 D refs n H2:=
 ⟨h.g.trans g,λa z=>h.dom a (dom a z),xl,bs,g _ _ h.d (λ_ z=>(nomatch z)),λr hr=>(h.raw r hr).grN g⟩
def rIxQ(K:W.Frag):R2:=λx y H Q=>mX K x y H Q\/mH K x y H Q
def eP(K:W.Frag)(mg:Cj)(ES:St->XK)(ci:Nat)(c3:PTs)(tr:TS):TS:=f9 (j3 (rdT K mg ES c3.G) tr eX) (f9 (gk (mU K "list" gu (tOp (rIxQ K) (dC ci) (tC (.int 1))))) (f9 (gk (tBM K "list" gP (tOp (rIxQ K) (dC ci) (tC (.int 2))) (fm (tC (.int 7)) nc))) eX))
def oq{tr:TS}{sf sc:Sl}(S:Sat K mg X N0 ns e σ H0)(hfc:fi≠ci)(qf:e[fi]?=some sf)(qc:e[ci]?=some sc)(h3:∀(e:E3) w vs us,e[ci]?=some (.sh (.tup [.str w,.lst vs,.lst us]))->∃e',c3.G e=.ok false e')(hD:H0 D=none)(hn:n<=5000)(R:RS K mg X H0 D refs n H)(hr:r∈refs)
 (k:∀H',RS K mg X H0 D refs (n+2) H'->De.nx ((σ.set fi (some (.ref D))).set ci (some r)) H'):eP K mg ES ci c3 tr De ((σ.set fi (some (.ref D))).set ci (some r)) H:=by
 have hfi:=(f_.mp qf).1;have hci:=(f_.mp qc).1;obtain⟨t,a,b,w,is,js,rfl,sq,ha,hb,ea,eb,l1,l2⟩:=R.raw r hr;have Sa:=(S.putN hfi (s:=.no) (d:=some (.ref D)) rfl).putN (i:=ci) (by rw[j_];exact hci) (s:=.no) (d:=some (.ref t)) rfl;have Sb:=Sa.grN R.g R.dom (X':=X) (λa z=>.inl z) R.xl R.bs;have nX:∀{a:Addr},H0 a=none->¬ X a:=λ{a} q z=>by obtain⟨o,y⟩:=S.xl a z;rw[q] at y;cases y
 have nN:∀{a:Addr},H0 a=none->some a∉((ns.set fi none).set ci none).set ci none:=λ{a} q z=>by
  obtain⟨i,z⟩:=aB.mp z;rw[Bp] at z;have z1:ns[i]?=some (some a):=by
   rw[BX] at z;split at z
   .split at z <;> cases z
   .rw[BX] at z;split at z
    .split at z <;> cases z
    .exact z
  obtain⟨_,_,_,_,_,_,_,y,_⟩:=S.own z1;rw[q] at y;cases y
 have Sc:=Sb.putN' (i:=ci) (by rw[j_,j_];exact hci) (s:=.sh (.tup [.str w,.lst (is.map .int),.lst (js.map .int)])) ⟨rfl,.ref t,by rw[AV (by rw[j_,S.l1];exact hci)],.tup sq (.cons (.str w) (.cons (.cell ⟨nX ha.1,nN ha.1⟩ ea (.lst dU)) (.cons (.cell ⟨nX hb.1,nN hb.1⟩ eb (.lst dU)) .nil)))⟩;obtain⟨e3,q3⟩:=h3 (lockA ((((e.set fi .no).set ci .no)).set ci (.sh (.tup [.str w,.lst (is.map .int),.lst (js.map .int)])))) w (is.map .int) (js.map .int) (by unfold lockA;rw[x_,AV (by rw[j_,j_];exact hci)];rfl);have qci:((σ.set fi (some (V.ref D))).set ci (some (.ref t)))[ci]?=some (some (.ref t)):=AV (by rw[j_,S.l1];exact hci);refine⟨X,N0,_,_,Sc.lockA,?_⟩;rw[q3];intro H4 ns4 a4 S4;have R4:=R.next (λx o q nt=>a4.keep x o q nt jt) a4.dom S4.xl S4.bs;show if false=true then _ else _
 rw[if_neg h_];have ea4:H4 a=some (.lst (is.map V.int)):=a4.keep _ _ ea (λ_ z=>(nomatch z)) jt;have sq4:=a4.le.sqT sq;have R5:=R4.upd ea4 ha.1 ha.2 (ks:=[]) (by show 0<=n+1;omega);refine⟨.ref t,qci,.inr ⟨t,_,1,.ref a,rfl,rfl,sq4,rfl,.inl ⟨rfl,_,SqL.of ea4⟩,a,_,rfl,rfl,ea4,?_⟩⟩;have sq5:=(LeH.wr ea4 (o:=.lst []) trivial).sqT sq4;obtain⟨js',e5,m5⟩:=kx (c:=a) (ks:=[]) (n:=n) (by show 0<=n+1;omega) (a4.keep _ _ eb (λ_ z=>(nomatch z)) jt) l2;have R6:=R5.upd e5 hb.1 hb.2 (ks:=js'++[7]) (by rw[k_];show js'.length+1<=n+1+1;omega);refine⟨.ref t,qci,.inr ⟨t,_,2,.ref b,rfl,rfl,sq5,rfl,.inl ⟨rfl,_,SqL.of e5⟩,b,_,_,rfl,rfl,e5,by rw[e_,show sizeLine=16777216 from rfl];omega,?_⟩⟩;rw[AX] at R6;exact k _ R6
def nQ{tr:TS}{sf sc:Sl}(S:Sat K mg X N0 ns e σ H0)(hfc:fi≠ci)(qf:e[fi]?=some sf)(qc:e[ci]?=some sc)(h3:∀(e:E3) w vs us,e[ci]?=some (.sh (.tup [.str w,.lst vs,.lst us]))->∃e',c3.G e=.ok false e')(hD:H0 D=none)(hl:refs.length<=1000)(R:RS K mg X H0 D refs 1000 H)
 (k:∀d H' n,RS K mg X H0 D refs n H'->De.nx ((σ.set fi (some (.ref D))).set ci d) H'):∃W:Nat->Nat->St->Hp->Prop,(∃m,W 0 m (σ.set fi (some (.ref D))) H)/\∀i m σ H,W i m σ H->
  ((Itl K D).stop i H/\De.nx σ H)\/((Itl K D).go i H/\∃N:St->Hp->Prop,(∀σ' H',N σ' H'->∃m',m'<m/\W (i+1) m' σ' H')/\∀x H',(Itl K D).yld i H x H'->dz ci x σ H' λσ2 H2=>eP K mg ES ci c3 tr { De with nx:=N,ct:=N,bk:=De.nx } σ2 H2):=by
 have hci:=(f_.mp qc).1;refine qI (λi σ' H'=>(∃d,σ'=(σ.set fi (some (.ref D))).set ci d)/\i<=refs.length/\RS K mg X H0 D refs (1000+2*i) H') ⟨⟨(σ.set fi (some (V.ref D)))[ci]'(by rw[j_,S.l1];exact hci),by rw[List.set_getElem_self]⟩,A3 _,R⟩ (λi σ' H' _ p=>SqL.of p.2.2.d) (λi x σ' H' q p=>?_) (λσ' H' p=>?_)
 .obtain⟨⟨d,rfl⟩,hi,Ri⟩:=p;have hlt:=(f_.mp q).1;show eP K mg ES ci c3 tr _ (((σ.set fi (some (.ref D))).set ci d).set ci (some x)) H';rw[Bp];exact oq S hfc qf qc h3 hD (by omega) Ri (Bd q) λH2 R2=>⟨⟨_,rfl⟩,hlt,R2⟩
 .obtain⟨⟨d,rfl⟩,hi,Ri⟩:=p;exact k d H' _ Ri
end
section
variable{K:W.Frag}{mg:Cj}{σ:St}{H0:Hp}{ES:St->XK}{De:Ends}{fi ci hi ki:Nat}{f:PFn}{c c3:PTs}
def oP(K:W.Frag)(mg:Cj)(ES:St->XK)(f:PFn)(hi ki:Nat):TE:=λσ H Q=>fm (dC hi) (fm (dC ki) nc) σ H λvs H1=>sp3 K mg f vs H1 Q (ES σ)
def tJ(K:W.Frag)(fi:Nat):TI:=λσ H R=>dC fi σ H λx H1=>(∃a,x=.ref a/\(∃xs,SqL K H1 a xs)/\R (Itl K a) H1)\/(∃a,x=.ref a/\(∃xs,SqT K H1 a xs)/\R (Itt K a) H1)
def vY{tr t3:TS}(hms:f.ms=[false,false])(hfc:fi≠ci)(h3:∀(e:E3) w vs us,e[ci]?=some (.sh (.tup [.str w,.lst vs,.lst us]))->∃e',c3.G e=.ok false e')(zz:rdS K mg ES (fo fi ci hi ki f c).G De σ H0):
 f9 (kq (oP K mg ES f hi ki) (dz fi)) (f9 (j3 (rdT K mg ES c.G) tr eX) (f9 (qF (tJ K fi) (dz ci) (eP K mg ES ci c3 t3)) (gk (mU K "list" gu (dC fi))))) De σ H0:=zz.el λX N0 ns e S p=>by
 replace p:PS3 K mg X N0 ns e H0 De ES (mr fi ci hi ki f c.G e):=p;unfold mr at p;split at p
 .rename_i hs
   kk sf sc qh qk qf qc
  split at p
  .rename_i hpl;obtain⟨pf,pc,hin⟩:=hpl;split at p
   .rename_i cuts mv qG;split at p
    .rename_i hcut;obtain⟨hall,hlen⟩:=hcut;split at p
     .rename_i e2 qcd;have hfi:=(f_.mp qf).1;have hci:=(f_.mp qc).1;obtain⟨his,rfl⟩:=eO hin;obtain⟨_,xh,sh,rh⟩:=S.sl hi _ qh;obtain⟨m,ds,rfl,em,rds⟩:=ShR.lst (.inl rh);obtain rfl:=nR rds (bK his);obtain⟨_,x,sk,rx⟩:=S.sl ki _ qk;obtain rfl:=ShR.str (.inl rx);rw[e_] at hall;refine⟨.ref m,sh,.str kk,sk,λa=>H0 a≠none/\a≠m,[none,none],[.lst (his.map .int),.str kk],by rw[hms];rfl,?_,?_⟩
      .rw[hms];refine⟨rfl,rfl,λa z=>z,λa z=>?_,λi j n q=>?_,λi n q=>?_,λi s q=>?_,S.bs⟩
       .cases q:H0 a with
        |none=>exact absurd q z.1
        |some o=>exact⟨o,rfl⟩
       .match i,q with
        |0,q=>cases q
        |1,q=>cases q
        |_+2,q=>cases q
       .match i,q with
        |0,q=>cases q
        |1,q=>cases q
        |_+2,q=>cases q
       .match i,q with
        |0,q=>cases q;exact⟨rfl,.ref m,rfl,.cell ⟨λz=>z.2 rfl,by simp⟩ em (.lst dU)⟩
        |1,q=>cases q;exact⟨rfl,.str kk,rfl,.str kk⟩
        |_+2,q=>cases q
      .rw[qG];rintro x H1 A1 ⟨D,o,rfl,nD,nYD,eD,hfD,SD,rD⟩;rw[hms] at A1 SD;cases rD with
       |lst rs=>
       rename_i refs;have g01:GrN H0 H1:=λa o q nt=>A1.keep a o q nt λ⟨i,s,z,_⟩=>(by
        match i,z with
        |0,z=>cases z
        |1,z=>cases z
        |_+2,z=>cases z)
       have dom1:=A1.dom;have rl:=rs.len;have get:∀(k:Nat) d v,refs[k]?=some d->cuts[k]?=some v->∃(t a b:Addr) (w:Str) (is js:List Int),d=.ref t/\v=.tup [.str w,.lst (is.map .int),.lst (js.map .int)]/\SqT K H1 t [.str w,.ref a,.ref b]/\(H0 a=none/\a≠D)/\(H0 b=none/\b≠D)/\H1 a=some (.lst (is.map V.int))/\H1 b=some (.lst (js.map V.int))/\is.length<=1000/\js.length<=1000:=λk d v q1 q2=>by
        obtain⟨d',z1,z2⟩:=rs.get q2;rw[q1] at z1;cases z1;obtain⟨t,a,b,w,is,js,rfl,rfl,sq,pa,pb,ea,eb,n1,n2,l1,l2⟩:=uU z2 (AK.mp hall v (Bd q2));have key:∀{a:Addr}{ks:List Int},Oc (Xn (λa=>H0 a≠none/\a≠m) D) [none,none] a->H1 a=some (.lst (ks.map V.int))->ks.length≠his.length->H0 a=none/\a≠D:=λ{a ks} pa ea nl=>by
         refine⟨?_,λz=>pa.1 (.inr z)⟩;cases q:H0 a with
         |none=>rfl
         |
          some o=>
          refine absurd ?_ (λz=>pa.1 (.inl ⟨(by rw[q];exact λy=>nomatch y),z⟩));intro z;subst z
          have:=g01 _ _ em (λ_ z=>(nomatch z))
          rw[ea] at this;injection this with this;injection this with this
          have:=A0 List.length this
          rw[e_,e_] at this;exact nl this
        exact⟨t,a,b,w,is,js,rfl,rfl,sq,key pa ea n1,key pb eb n2,ea,eb,l1,l2⟩
       have raw:∀r∈refs,Raw K H0 H1 D 1000 r:=λr hr=>by
        obtain⟨k,q1⟩:=List.getElem?_of_mem hr;have hk:k<cuts.length:=by rw[<- rl];exact (f_.mp q1).1
        obtain⟨t,a,b,w,is,js,rfl,_,sq,ha,hb,ea,eb,l1,l2⟩:=get k r cuts[k] q1 (o_ hk);exact⟨t,a,b,w,is,js,rfl,sq,ha,hb,ea,eb,l1,l2⟩
       have nX:∀{a:Addr},H0 a=none->¬ X a:=λ{a} q z=>by obtain⟨o,y⟩:=S.xl a z;rw[q] at y;cases y
       have nN:∀{a:Addr},H0 a=none->some a∉ns.set fi none:=λ{a} q z=>by
        rcases BP z with z |z
        .obtain⟨i,z⟩:=aB.mp z;obtain⟨_,_,_,_,_,_,_,y,_⟩:=S.own z;rw[q] at y;cases y
        .cases z
       have rdC:Rds K mg (Oc (Xn X D) (ns.set fi none)) H1 refs cuts:=oz rl λk d v q1 q2=>by
        obtain⟨t,a,b,w,is,js,rfl,rfl,sq,ha,hb,ea,eb,_⟩:=get k d v q1 q2;have oc:∀{a:Addr},H0 a=none/\a≠D->Oc (Xn X D) (ns.set fi none) a:=λ{a} h=>by
         refine⟨λz=>?_,nN h.1⟩;rcases z with z |z
         .exact nX h.1 z
         .exact h.2 z
        exact .tup sq (.cons (.str w) (.cons (.cell (oc ha) ea (.lst dU)) (.cons (.cell (oc hb) eb (.lst dU)) .nil)))
       have nD':H0 D=none:=nD;have xl1:∀{H':Hp},(∀a,H' a=none->H0 a=none)->H' D≠none->∀a,Xn X D a->∃o,H' a=some o:=λ{H'} dm hd a z=>by
        cases q:H' a with
        |some o=>exact⟨o,rfl⟩
        |
         none=>
         rcases z with z |rfl
         .exact absurd z (nX (dm a q))
         .exact absurd q hd
       have S1:=((S.putN hfi (s:=.no) (d:=some (.ref D)) rfl).grN g01 dom1 (X':=Xn X D) (λa z=>by
        rcases z with z |rfl
        .exact .inl z
        .exact .inr nD') (xl1 dom1 (by rw[eD];exact λz=>nomatch z)) SD.bs).putO (nX nD') (by rw[j_];exact hfi) (S.lh D nD') eD hfD (.lst rdC)
       rw[Bp,Bp,Bp] at S1;show j3 (rdT K mg ES c.G) tr eX _ (σ.set fi (some (.ref D))) H1;refine⟨X,N0,_,_,S1.lockA,?_⟩;rw[qcd];intro H2 d_ a2 S2;show if false=true then _ else _
       rw[if_neg h_];have g12:GrN H1 H2:=λx o q nt=>a2.keep x o q nt jt;have R2:RS K mg X H0 D refs 1000 H2:=⟨g01.trans g12,λa z=>dom1 a (a2.dom a z),S2.xl,S2.bs,g12 _ _ eD (λ_ z=>(nomatch z)),λr hr=>(raw r hr).grN g12⟩;have sfi:(σ.set fi (some (V.ref D)))[fi]?=some (some (.ref D)):=AV (by rw[S.l1];exact hfi);refine⟨.ref D,sfi,.inl ⟨D,rfl,⟨refs,SqL.of R2.d⟩,nQ S hfc qf qc h3 nD' (by rw[rl];exact hlen) R2 λd H' n R=>?_⟩⟩;refine⟨.ref D,by rw[Bc (Ne.symm hfc)];exact sfi,.inl ⟨rfl,refs,SqL.of R.d⟩,D,refs,rfl,rfl,R.d,?_⟩;have gF:GrN H0 (upd H' D (.lst [])):=λa o q nt=>by rw[aq λz=>by subst z;rw[nD'] at q;cases q];exact R.g a o q nt
       have domF:∀a,upd H' D (.lst []) a=none->H0 a=none:=λa z=>by
        by_cases y:a=D
        .subst y;exact nD'
        .rw[aq y] at z;exact R.dom a z
       have qf2:(e.set ci .no)[fi]?=some sf:=by rw[Bc (Ne.symm hfc)];exact qf
       have F1:=(S.putN hci (s:=.no) (d:=d) rfl).putN (i:=fi) (by rw[j_];exact hfi) (s:=.no) (d:=some (.ref D)) rfl;have F2:=(F1.grN gF domF (X':=Xn X D) (λa z=>by
        rcases z with z |rfl
        .exact .inl z
        .exact .inr nD') (xl1 domF (by rw[ar];exact λz=>nomatch z)) (R.bs.wr R.d trivial)).putO (nX nD') (by rw[j_,j_];exact hfi) (S.lh D nD') ar trivial (.lst .nil)
       rw[Bp,Bp,Bp] at F2;refine p _ _ _ (((Stp.grN gF domF).put hci (x:=none) (s:=.no) (λ_ z=>nomatch z) qc pc rfl S.l2).put (i:=fi) (by rw[j_];exact hfi) (x:=some D) (s:=.ow (.lst [])) (λn z=>by cases z;exact nD') qf2 pf rfl (by rw[j_,j_];exact S.l2)) ?_;rw[List.set_comm _ _ hfc];exact F2
     .exact p.elim
    .exact p.elim
   .exact p.elim
  .exact p.elim
 .exact p.elim
end
section
variable{K:W.Frag}{mg:Cj}{X:Cx}{ES:St->XK}{e:Expr}{es:List Expr}{k hi ki:Nat}{f:PFn}{ps:List Str}{pos p0:Pos}{x:Str}
def sr(C:Callee X.prog X.w X.K X.mg X.base x k ps (sp3 K mg f))(hr:Room k X.A)(hg:Gl X x)(hx:cD X ES)(ha:PA X (e::es) (fm (dC hi) (fm (dC ki) nc)))
 (hdb:(x==("__debug__" : Str))=false) (he:starEach (e::es) X.env=(false,eval e X.env)::starEach es X.env) (hpl:(backTo pos (starEach es X.env)).any (·.1)=false):
 PE X (.Call (.Name x p0) (e::es) [] pos) (oP K mg ES f hi ki):=by
 obtain⟨fa,fd,F',m,kp,bb,_⟩:=C.ex;refine λpins s σ H Q I hh=>BB (dZ I hg m ?_ hdb);refine W.callWith_K (h₀:=X.base) I.ok.mod.kin kp (z_ (ha pos pins s σ H _ I hh) (λus s1 ⟨vs,H1,I1,r,q⟩=>⟨I1.kIn,?_⟩) λ_ _ z=>z) he hpl;have hl:(us++[]).length=ps.length:=by rw[AN,<- r.length];exact F'.len _ _ _ _ q
 refine wpAny_call (Cb (F'.run X.A X.stack s1 H1 ⟨us,[]⟩ us vs Q (ES σ) hr I1.env0 (by simpa using bb s1 us I1.kIn hl) r q) λr s' hq=>?_);cases r with
 |error ex=>exact hx pins σ H1 s1 ex s' I1 hq
 |
  ok fl=>
  cases fl with
  |ret u=>exact I1.after hq
  |next=>exact False.elim hq
  |brk=>exact False.elim hq
  |cont=>exact False.elim hq
end
section
variable{K:W.Frag}{mg:Cj}{X:Cx}{ES:St->XK}{sts:List Stmt}{r2 r3:Stmt}{ct c3t:Expr}{c c3:PTs}{y y2 y3:PSt}{k j fi ci hi ki j1 j2 j7:Nat}{f:PFn}{ps:List Str}{x z g h0 k0:Str}{px p0 ph pk pc spos ip py px2 ip3 py2 pj1 pp1 ap1 cp1 ep1 py3 pj2 pp2 ap2 cp2 ep2 pj7 fpos px3 ap3 cp3 ep3:Pos}
def rZ(C:Callee X.prog X.w X.K X.mg X.base g j ps (sp3 K mg f))(hr:Room k X.A)(hN:X.N.Nodup)(hp:PassesOwn (model X.prog X.w) X.A X.env X.xe)(hK:X.K=K)(hms:f.ms=[false,false])(hc:DT K mg X ES ct c)(hr2:DSs K mg X ES [r2] y2)(hc3:DT K mg X ES c3t c3)(hr3:DSs K mg X ES [r3] y3)
 (h3:∀(e:E3) w vs us,e[ci]?=some (.sh (.tup [.str w,.lst vs,.lst us]))->∃e',c3.G e=.ok false e') (hy:DSs K mg X ES sts y)
 (hk:j<=k:=by omega) (hg:Gl X g:=by exact rfl) (hx:cD X ES:=by first |exact uk sT |exact mO |assumption) (hdb:(g==("__debug__" : Str))=false:=by decide) (hfc:fi≠ci:=by decide)
 (he:starEach [.Name h0 ph,.Name k0 pk] X.env=(false,eval (.Name h0 ph) X.env)::starEach [.Name k0 pk] X.env:=by rfl) (he2:starEach [.Name k0 pk] X.env=(false,eval (.Name k0 pk) X.env)::starEach [] X.env:=by rfl) (hpl:(backTo pc (starEach [.Name k0 pk] X.env)).any (·.1)=false:=by rfl)
 (hcalm:X.calm=true:=by rfl) (hfN:X.N[fi]?=some x:=by rfl) (hfl:Loc X.env.scope x:=by first |exact Or.inl rfl |exact Or.inr rfl) (hff:X.fn x=true\/X.env.scope.names.lookup x=some .local:=by first |exact .inl rfl |exact .inr rfl |assumption) (hfv:Vis X.env.scope x:=by first |exact Or.inl rfl |exact Or.inr (Or.inl rfl) |exact Or.inr (Or.inr rfl)) (hxd:(x==("__debug__" : Str))=false:=by decide) (hxc:(x==("__classdict__" : Str))=false:=by decide)
 (hcN:X.N[ci]?=some z:=by rfl) (hcl:Loc X.env.scope z:=by first |exact Or.inl rfl |exact Or.inr rfl) (hcf:X.fn z=true\/X.env.scope.names.lookup z=some .local:=by first |exact .inl rfl |exact .inr rfl |assumption) (hcv:Vis X.env.scope z:=by first |exact Or.inl rfl |exact Or.inr (Or.inl rfl) |exact Or.inr (Or.inr rfl)) (hzd:(z==("__debug__" : Str))=false:=by decide) (hzc:(z==("__classdict__" : Str))=false:=by decide)
 (hhN:X.N[hi]?=some h0:=by rfl) (hhv:Vis X.env.scope h0:=by first |exact Or.inl rfl |exact Or.inr (Or.inl rfl) |exact Or.inr (Or.inr rfl)) (hhd:(h0==("__debug__" : Str))=false:=by decide) (hhc:(h0==("__classdict__" : Str))=false:=by decide)
 (hkN:X.N[ki]?=some k0:=by rfl) (hkv:Vis X.env.scope k0:=by first |exact Or.inl rfl |exact Or.inr (Or.inl rfl) |exact Or.inr (Or.inr rfl)) (hkd:(k0==("__debug__" : Str))=false:=by decide) (hkc:(k0==("__classdict__" : Str))=false:=by decide)
 (hsw0:swapsWithSole [.Name x px] (.Call (.Name g p0) [.Name h0 ph,.Name k0 pk] [] pc) spos.line X.env=pure false:=by rfl) (hst0:swappedStores [.Name x px] (.Call (.Name g p0) [.Name h0 ph,.Name k0 pk] [] pc) X.env=pure none:=by rfl) (has0:(assignEach [.Name x px] X.env).map (·.2)=[assign (.Name x px) X.env]:=by rfl)
 (hs:∀v,foldedSetIterable (.Name x px2) X.env v=pure v:=by intro _;rfl)
 (sw1:swapsWith (.Call (.Attribute (.Subscript (.Name z py2) (.Constant (.int 1) j1 pj1) pp1) "clear" ap1) [] [] cp1) none ep1.line X.env=pure false:=by rfl)
 (ba1:attributeBase (.Subscript (.Name z py2) (.Constant (.int 1) j1 pj1) pp1) "clear" X.env (eval (.Subscript (.Name z py2) (.Constant (.int 1) j1 pj1) pp1) X.env)=eval (.Subscript (.Name z py2) (.Constant (.int 1) j1 pj1) pp1) X.env:=by rfl) (li1:(ap1.endLine==cp1.line)=true:=by rfl)
 (px1:ff (.Constant (.int 1) j1 pj1):=by exact λ_ _=>rfl) (px2':ff (.Constant (.int 2) j2 pj2):=by exact λ_ _=>rfl)
 (sw2:swapsWith (.Call (.Attribute (.Subscript (.Name z py3) (.Constant (.int 2) j2 pj2) pp2) "append" ap2) [.Constant (.int 7) j7 pj7] [] cp2) none ep2.line X.env=pure false:=by rfl)
 (ba2:attributeBase (.Subscript (.Name z py3) (.Constant (.int 2) j2 pj2) pp2) "append" X.env (eval (.Subscript (.Name z py3) (.Constant (.int 2) j2 pj2) pp2) X.env)=eval (.Subscript (.Name z py3) (.Constant (.int 2) j2 pj2) pp2) X.env:=by rfl)
 (fw2:((backTo cp2 (starEach [.Constant (.int 7) j7 pj7] X.env)).all (λx=>!x.1)&&(backToKw cp2 (keywordEach [] X.env)).all (λx=>x.1.isSome)&&decide ([(.Constant (.int 7) j7 pj7:Expr)].length+([]:List Keyword).length+(if ([]:List Keyword).isEmpty then 0 else 1)<30))=true:=by rfl) (li2:(ap2.endLine==cp2.line)=true:=by rfl)
 (st2:starEach [.Constant (.int 7) j7 pj7] X.env=(false,eval (.Constant (.int 7) j7 pj7) X.env)::starEach [] X.env:=by rfl) (pl2:(backTo cp2 (starEach ([]:List Expr) X.env)).any (·.1)=false:=by rfl)
 (sw3:swapsWith (.Call (.Attribute (.Name x px3) "clear" ap3) [] [] cp3) none ep3.line X.env=pure false:=by rfl) (ba3:attributeBase (.Name x px3) "clear" X.env (eval (.Name x px3) X.env)=eval (.Name x px3) X.env:=by rfl) (li3:(ap3.endLine==cp3.line)=true:=by rfl):
 DSs K mg X ES (.Assign [.Name x px] (.Call (.Name g p0) [.Name h0 ph,.Name k0 pk] [] pc) spos :: .If ct [r2] [] ip :: .For (.Name z py) (.Name x px2) [.If c3t [r3] [] ip3,.Expr (.Call (.Attribute (.Subscript (.Name z py2) (.Constant (.int 1) j1 pj1) pp1) "clear" ap1) [] [] cp1) ep1,.Expr (.Call (.Attribute (.Subscript (.Name z py3) (.Constant (.int 2) j2 pj2) pp2) "append" ap2) [.Constant (.int 7) j7 pj7] [] cp2) ep2] [] fpos :: .Expr (.Call (.Attribute (.Name x px3) "clear" ap3) [] [] cp3) ep3::sts) (au (fo fi ci hi ki f c) y):=by
 subst hK;have h1:=qt (sr (hi:=hi) (ki:=ki) (ES:=ES) C (hr.mono hk) hg hx (fj (c7 hhN hhv hhd hhc) (fj (c7 hkN hkv hkd hkc) kM he2) he) hdb he hpl) (gX (pos:=px) hN hfN hfl hff) hsw0 hst0 has0;have h2:PS X (.If ct [r2] [] ip) (j3 (rdT X.K mg ES c.G) (rdS X.K mg ES y2.G) eX):=mK hc.ok hr2.ok eZ;have h4:PS X (.For (.Name z py) (.Name x px2) [.If c3t [r3] [] ip3,.Expr (.Call (.Attribute (.Subscript (.Name z py2) (.Constant (.int 1) j1 pj1) pp1) "clear" ap1) [] [] cp1) ep1,.Expr (.Call (.Attribute (.Subscript (.Name z py3) (.Constant (.int 2) j2 pj2) pp2) "append" ap2) [.Constant (.int 7) j7 pj7] [] cp2) ep2] [] fpos) (qF (tJ X.K fi) (dz ci) (eP X.K mg ES ci c3 (rdS X.K mg ES y3.G))):=
  nW hp hcalm (qq (c7 hfN hfv hxd hxc)) (gX hN hcN hcl hcf) (bL (mK hc3.ok hr3.ok eZ) (bL (fk (nT Bi PySem.F.slot_list_clear PySem.F.type_list_clear kf (mq (ixK rfl) (c7 hcN hcv hzd hzc) gy px1) ba1 li1) sw1)
   (bL (fk (mY Bi Bq Br cI (mq (ixK rfl) (c7 hcN hcv hzd hzc) gy px2') (fj gy kM st2) ba2 fw2 li2 st2 pl2) sw2) eZ))) hs
 have h5:PS X (.Expr (.Call (.Attribute (.Name x px3) "clear" ap3) [] [] cp3) ep3) (gk (mU X.K "list" gu (dC fi))):=fk (nT Bi PySem.F.slot_list_clear PySem.F.type_list_clear kf (c7 hfN hfv hxd hxc) ba3 li3) sw3;refine⟨PSs.imp (bL h1 (bL h2 (bL h4 (bL h5 hy.ok)))) λDe σ H zz=>zz.el λY N0 ns e S p=>?_⟩;exact vY hms hfc h3 (De:={ De with nx:=λσ1 H1=>rdS X.K mg ES y.G De σ1 H1 }) ⟨Y,N0,ns,e,S,PS3.then p S λe1 ns1 σ1 H1 a1 S1 p1=>⟨Y,N0,ns1,e1,S1,p1⟩⟩
end
def pW{kt:dH}{ci:Nat}(h1:∀xs,(ak kt).G [.tup xs,.ty "tuple"]=.val (.bl true))(h2:∀xs,(ak kt).G [.lst xs,.ty "list"]=.val (.bl true)):∀(e:E3) w vs us,e[ci]?=some (.sh (.tup [.str w,.lst vs,.lst us]))->∃e',(qO (qNo (qOf (pFn (ak kt) (aa (af ci) (aa (pTy "tuple") ag))))) (qO (qNo (qOf (pFn (ak kt) (aa (pOp bIx (af ci) (aj 1)) (aa (pTy "list") ag))))) (qNo (qOf (pFn (ak kt) (aa (pOp bIx (af ci) (aj 2)) (aa (pTy "list") ag))))))).G e=.ok false e':=λe w vs us q=>by have a1:atI [Val.str w,.lst vs,.lst us] 1=some (.lst vs):=bQ (by decide) rfl;have a2:atI [Val.str w,.lst vs,.lst us] 2=some (.lst us):=bQ (by decide) rfl;refine⟨e,?_⟩;simp only[eh,wt,r9,tO,pw,rA,gi,tR,zV,zN,pB,rW,ft,tU,Ah,zw,xS,uy,tQ,Aw,yH,jQ,jA,gC,nu,n5,oj,sP,pO,oU,pe,oO,pv,o4,mh,kP,oC,wO,xA,kO,lB,n0,ur,uF,v_bl,uc,Aq,v_ty,sW,vO,v_un,v_op,tS,nM,v_fn,uj,tV,zX,y_or,zo,v_if,c_of,c_tr,c_an,c_o,c_no,c_y,x_nx,x_bk,x_ct,x9,tK,lN,lE,lI,o8,eC,x_if,uC,uf,tq,tG,lR,kj,kB,uP,g_n,g_sn,g_sc,g_t,g_x,xu,zl,Aj,zh,lP,ux,tf,sR,uB,um,wj,n9,oy,oM,we,sX,ye,tZ,wa,kQ,nS,tu,yP,Ar,pJ,nO,nH,pA,o9,tH,uD,uq,d4,v_lc,oQ,oh,pP,xP,o_n,o_s,v_sl,v_d0,zK,fx_G,f_ms,tw,uh,k_lt,k_le,k_gt,k_ge,yV,Ax,ub,k_ix,yA,gA,Ap,k_eq,k_ne,ud,zu,k_is,zp,uA,yW,yT,tN,Ai,zi,oD,vT,wH,wu,jM,bK,jx,List.getElem?_cons_zero,List.getElem?_cons_succ,List.getElem?_nil,List.set_cons_zero,List.set_cons_succ,List.set_nil,p_,AR,j_,Option.bind_some,Option.bind_none,Option.map_some,Option.map_none,Option.isSome_some,BH,BK,ite_true,ite_false,Bool.not_true,Bool.not_false,Bool.and_true,Bool.true_and,Bool.and_false,Bool.false_and,Bool.or_true,Bool.true_or,Bool.or_false,Bool.false_or,Nat.reduceLeDiff,Nat.reduceLT,Nat.reduceAdd,Nat.reduceSub,Nat.reduceEqDiff,Nat.zero_add,Nat.add_zero,Nat.sub_self,List.cons_append,AU,AN,List.replicate,reduceIte,reduceCtorEq,decide_true,decide_false,A_,B1,List.all_nil,List.isEmpty_nil,List.isEmpty_cons,n_,AZ,Int.reduceBEq,Int.reduceLT,Int.reduceLE,Int.reduceAdd,Int.reduceSub,Int.reduceMul,Int.cast_ofNat_Int,og,lH,pq,nU,ym,xZ,lM,ku,xx,pQ,qy,vd,wC,uW,iU,va,lY,pG,me,iA,lG,pZ,vK,jV,pH,lX,qb,kR,pK,oo,lD,tT,uz,tE,tP,iP,oE,iX,iK,ny,lg,iZ,jH,iJ,iM,ox,oX,ati0,ati1,ati2,ati3,ati4,ati5,ati6,ati7,ixn0,ixn1,ixn2,ixn3,AG,bu,wb,yu,p9,yL,wx,yx,Int.reduceNeg,lO,wd,u1,A9,List.lookup_nil,oF,xY,g_u,g_uL,kC,Ay,Av,q,h1,h2,a1,a2]
noncomputable def en (i:Nat) (e:E3):SR3:=match e[i]? with
 |some (.ow _)=>(match ed e [i] with
  |some e'=>.nx e'
  |none=>.stuck)
 |some (.sh _)=>.nx e
 |_=>.stuck
noncomputable def fN (i:Nat):PSt:=⟨45,en i⟩
def ou{i:Nat}{e:E3}{v:Val}(h:e[i]?=some (.sh v)):(fN i).G e=.nx e:=by show en i e=_;unfold en;rw[h]
theorem oa{i:Nat}{e:E3}{v:Val}(h:e[i]?=some (.ow v)):(fN i).G e=(match ed e [i] with
 |some e'=>.nx e'
 |none=>.stuck):=by
 show en i e=_;unfold en;rw[h]
section
variable{K:W.Frag}{mg:Cj}{X:Cx}{ES:St->XK}{sts:List Stmt}{y:PSt}{i:Nat}
def vH(hy:DSs K mg X ES sts y):DSs K mg X ES sts (au (fN i) y):=⟨PSs.imp hy.ok λDe σ H zz=>zz.el λY N0 ns e S p=>by
 rw[eC] at p;cases q:e[i]? with
 |none=>rw[show (fN i).G e=.stuck by show en i e=_;unfold en;rw[q]] at p;exact p.elim
 |
  some s=>
  cases s with
  |sh v=>rw[ou q] at p;exact⟨Y,N0,ns,e,S,p⟩
  |
   ow v=>
   rw[oa q] at p;obtain⟨m,o,_,qs,_⟩:=S.sl i _ q;cases q2:ed e [i] with
   |none=>rw[q2] at p;exact p.elim
   |some e2=>rw[q2] at p;obtain⟨d_,S2,a2,_⟩:=fQ S (λj hj=>by rw[Ba] at hj;subst hj;exact⟨_,qs⟩) q2;exact⟨Y,N0,d_,e2,S2,p.after S a2⟩
  |_=>rw[show (fN i).G e=.stuck by show en i e=_;unfold en;rw[q]] at p;exact p.elim⟩
end
noncomputable def liV (l:List Int):Val:=.lst (l.map .int)
noncomputable def rst (nums l:List Int):List Int:=nums.filter λx=>!l.contains x
structure Lot(nums l:List Int):Prop where
 sub:l.Sublist nums
 ne:l≠[]
 lt:l.length<nums.length
def Lot.mono(h:Lot p l)(s:p.Sublist q):Lot q l:=⟨h.sub.trans s,h.ne,t_ h.lt s.length_le⟩
def Lot.more(h:Lot p l)(x:Int):Lot (p++[x]) (l++[x]):=⟨h.sub.append (List.Sublist.refl _),by simp,by have:=h.lt;simp;omega⟩
def Lot.self(h:p≠[])(x:Int):Lot (p++[x]) p:=⟨List.sublist_append_left ..,h,by simp⟩
def sC(h:l.Sublist nums):nums.Nodup->(l++rst nums l).Perm nums:=by
 induction h with
 |slnil=>intro _;exact .nil
 |
  cons a s ih=>
  intro nd;rw[Be] at nd;rename_i l nums;have ha:¬ a∈l:=λz=>nd.1 (s.subset z);have e:rst (a::nums) l=a::rst nums l:=by unfold rst;rw[Bx];simp [ha]
  rw[e];exact List.perm_middle.trans ((ih nd.2).cons a)
 |
  cons_cons a s ih=>
  intro nd;rw[Be] at nd;rename_i l nums;have e:rst (a::nums) (a::l)=rst nums l:=by unfold rst;rw[Bw (by simp)];refine List.filter_congr λx hx=>?_;have:x≠a:=λz=>nd.1 (z ▸ hx);simp [this]
  rw[e];exact (ih nd.2).cons a
def l4(h:Lot nums l)(nd:nums.Nodup):Lot nums (rst nums l):=by have p:=(sC h.sub nd).length_eq;rw[k_] at p;have h1:=h.lt;have h2:=List.length_pos_iff.mpr h.ne;refine⟨List.filter_sublist,λz=>?_,by omega⟩;rw[z,AR] at p;omega
noncomputable def bI:List (List Int)->List Int->List (List Int)
 |L,[]=>L
 |L,x::ah=>bI (L++L.map λl=>l++[x]) ah
noncomputable def aA (kind:Str) (nums:List Int):List (List Int):=if kind="order" then (List.range' 1 (nums.length-1)).map λi=>nums.take i else match nums with
 | []=>[]
 |x::ah=>(bI [[x]] ah).dropLast
theorem gf:∀(ah p:List Int) (M:List (List Int)),p≠[]->(∀l∈M,Lot p l)->∃M',bI (M++[p]) ah=M'++[p++ah]/\(∀l∈M',Lot (p++ah) l)/\(ah≠[]->M'≠[])/\(M≠[]->M'≠[])
 | [],p,M,hp,hM=>⟨M,by unfold bI;rw[AN],by simpa using hM,λz=>absurd rfl z,λz=>z⟩
 |
  x::ah,p,M,hp,hM=>by
  obtain⟨M',q1,q2,q3,q4⟩:=gf ah (p++[x]) (M++[p]++M.map λl=>l++[x]) (by simp) (λl hl=>by
   rcases Bz.mp hl with hl |hl
   .rcases Bz.mp hl with hl |hl
    .exact (hM l hl).mono (List.sublist_append_left ..)
    .rw[Ba] at hl;subst hl;exact .self hp x
   .obtain⟨l',h',rfl⟩:=B8.mp hl;exact (hM l' h').more x)
  refine⟨M',?_,by rw[A6] at q2;exact q2,λ_=>q4 (by simp),λ_=>q4 (by simp)⟩;unfold bI;rw[<- show (M++[p]++(M.map λl=>l++[x]))++[p++[x]]=M++[p]++(M++[p]).map (λl=>l++[x]) by simp,q1];simp
def sm(h:l∈aA kind nums):Lot nums l:=by
 unfold aA at h;split at h
 .obtain⟨i,hi,rfl⟩:=B8.mp h;rw[List.mem_range'_1] at hi;refine⟨List.take_sublist ..,λz=>?_,by rw[BJ];omega⟩
  have:=A0 List.length z
  rw[BJ,AR] at this;omega
 .split at h
  .exact nomatch h
  .rename_i x ah;obtain⟨M',q1,q2,_,_⟩:=gf ah [x] [] (by simp) (λ_ z=>nomatch z);rw[AU] at q1;rw[q1,List.dropLast_concat] at h;exact q2 l h
theorem eK:∀(ah:List Int) (L:List (List Int)),(bI L ah).length=L.length*2^ah.length
 | [],L=>by simp [bI]
 |
  x::ah,L=>by
  unfold bI;rw[eK ah,k_,e_,p_,Ca,<- Nat.two_mul,BS 2,Nat.mul_assoc,BS 2]
def ee(h:nums.length<=10):(aA kind nums).length<=1000:=by
 unfold aA;split
 .rw[e_,List.length_range'];omega
 .split
  .simp
  .rename_i x ah;rw[p_] at h;rw[List.length_dropLast,eK];have:2^ah.length<=2^9:=Bn (by decide) (by omega);simp;omega
noncomputable def cuV (c:Str×List Int×List Int):Val:=.tup [.str c.1,liV c.2.1,liV c.2.2]
noncomputable def bp (nums l:List Int):List (Str×List Int×List Int):=[("across",l,rst nums l),("down",l,rst nums l)]
noncomputable def aX (kind:Str) (nums:List Int):List (Str×List Int×List Int):=(aA kind nums).flatMap (bp nums)
structure CutOk(nums:List Int)(c:Str×List Int×List Int):Prop where
 way:c.1="across" \/ c.1="down"
 one:Lot nums c.2.1
 two:Lot nums c.2.2
 ah:c.2.2=rst nums c.2.1
def ml(nd:nums.Nodup)(h:c∈aX kind nums):CutOk nums c:=by
 obtain⟨l,hl,hc⟩:=List.mem_flatMap.mp h;have lo:=sm hl;unfold bp at hc;rcases AL.mp hc with rfl |hc
 .exact⟨.inl rfl,lo,l4 lo nd,rfl⟩
 .rw[Ba] at hc;subst hc;exact⟨.inr rfl,lo,l4 lo nd,rfl⟩
end L3
namespace KK
open PySem PySem.Spec PyProof.Rows L2 L3
def top(i:Nat):Stmt:=PySem.Challenge.pw_weightrooms_k56_first_cuts.main.body.getD i (.Pass ⟨0,0,0,0⟩)
noncomputable def aw:dH:=[((.o "NoKind"),(.o "NoBox"),false),((.o "NoKind"),(.o "NoCut"),false),((.o "NoKind"),(.o "NoFraction"),false),((.o "NoKind"),(.o "NoKind"),true),((.o "NoKind"),(.o "NoName"),false),((.o "NoKind"),(.o "NoRow"),false),((.o "NoKind"),(.o "NoRule"),false),((.o "NoKind"),(.o "NoText"),false),((.o "NoKind"),(.o "NoThing"),false),((.o "NoKind"),(.o "NoTree"),false),((.o "NoKind"),(.o "NoWay"),false),((.o "NoKind"),(.o "NoWeights"),false),((.o "NoKind"),(.o "Taken"),false),((.o "NoKind"),(.o "TooMany"),false),((.o "NoKind"),(.o "Unknown"),false),((.o "NoKind"),(.b "ValueError"),true),((.b "NoneType"),(.b "list"),false),((.b "bool"),(.b "list"),false),((.b "int"),(.b "list"),false),((.b "str"),(.b "list"),false),((.b "tuple"),(.b "list"),false),((.b "list"),(.b "list"),true),((.b "dict"),(.b "list"),false),((.b "NoneType"),(.b "str"),false),((.b "bool"),(.b "str"),false),((.b "int"),(.b "str"),false),((.b "str"),(.b "str"),true),((.b "tuple"),(.b "str"),false),((.b "list"),(.b "str"),false),((.b "dict"),(.b "str"),false),((.b "NoneType"),(.b "tuple"),false),((.b "bool"),(.b "tuple"),false),((.b "int"),(.b "tuple"),false),((.b "str"),(.b "tuple"),false),((.b "tuple"),(.b "tuple"),true),((.b "list"),(.b "tuple"),false),((.b "dict"),(.b "tuple"),false)]
noncomputable def cM:List Str:=["NoKind"]
noncomputable def aR:List (Str×Int):=[("order",6),("any",5)]
noncomputable def oW:Val:=(.tup [(.str "across"),(.str "down")])
abbrev tb:Tb:=⟨["RoomError", "NoFraction", "NoBox", "NoWay", "NoWeights", "TooMany", "NoTree", "NoRule", "NoKind", "NoName", "Taken", "Unknown", "NoThing", "NoCut", "NoText", "NoRow"],["NoKind"],[("RoomError",cM)],aw,[("WAYS",oW)]⟩
abbrev TT(w:World)(K:W.Frag)(mg:Cj):Prop:=TyD "MOST_THINGS" aR w tb top [20,21,22,24,26,27,28,29,30,31,32] K mg
section
variable{P:Program}{w:World}{K:W.Frag}{mg:Cj}{base:Heap}
def lC:PEx:=kg oW
def vA(e:E3):lC.G e=.ok (.val (.tup [(.str "across"),(.str "down")])) e:=rfl
def dI(s:String):Lean.TSyntax `term:=⟨Lean.mkIdent (s.replace "%" "").toName⟩
def dA(f:String)(a:Lean.TSyntax `term):Lean.TSyntax `term:=Lean.Syntax.mkApp (dI f) #[a]
def dF:List (Lean.TSyntax `tactic)->Lean.MacroM (Lean.TSyntax `tactic)
 | []=>`(tactic|fail)
 |a::l=>do `(tactic|first | $a:tactic | $(<- dF l):tactic)
def dL(f:String->Lean.MacroM (Lean.TSyntax `tactic)):List String->Lean.MacroM (List (Lean.TSyntax `tactic))
 | []=>pure []
 |s::l=>do return (<- f s)::(<- dL f l)
set_option hygiene false in
def dQ(ap:String->Lean.TSyntax `term)(s:String):Lean.MacroM (Lean.TSyntax `tactic):=match (s.splitOn ";").map ap with
 | [d,c,a,b]=>`(tactic|((case d=>with_reducible exact $d);(case c=>exact $c);(case a=>exact $a);(case b=>exact $b)))
 |d::c::_=>`(tactic|((case d=>with_reducible exact $d);(case c=>exact $c)))
 |_=>`(tactic|fail)
set_option hygiene false in
def dR(ap:String->Lean.TSyntax `term)(g:String):Lean.MacroM (Lean.TSyntax `tactic):=match g.splitOn ":" with
 | [r]=>`(tactic|refine $(ap r))
 |r::l=>do `(tactic|(refine' $(ap r);$(<- dF (<- dL (dQ ap) l)):tactic))
 | []=>`(tactic|fail)
set_option hygiene false in
local macro_rules | `('d')=>do
 let h <- `(?_)
 let u <- `(_)
 let R:=dI "rfl"
 let qA <- `(?a)
 let qB <- `(?b)
 let qC <- `(?c)
 let qD <- `(?d)
 let qp <- `((λ_ _=>rfl))
 let ap:=λ(s:String)=>let w:=s.splitOn " ";Lean.Syntax.mkApp (dI (w.getD 0 "")) (((w.getD 1 "").toList.map λc=>([('1',dI "hr.u100"),('8',dI "hr.u180"),('A',qA),('B',qB),('C',qC),('D',qD),('G',dI "T.kd"),('K',dI "T.k"),('_',u),('b',dA "%boT" R),('f',dA "%boF" R),('g',dA "T.g" R),('k',dA "T.n" R),('m',dA "T.m" R),('n',dI "nd"),('o',dI "%dE"),('p',qp),('r',R),('t',dI "T"),('u',dA "%zL" (dI "hr")),('v',dA "%jJ" u),('x',dA "T.x" R),('z',dI "%rz1")].lookup c).getD h).toArray)
 let rd:=λ(s:String)=>dL (dR ap) (s.splitOn "|")
 let e0 <- `(tactic|refine zcF (by $(<- dF (<- rd "%ih|kS t|jZ t|jd t|gR t|lb t|kY t|dN t|lj t|gJ t")):tactic) hr ?_)
 let e3 <- `(tactic|exact xI rfl (by first |exact T.e rfl |exact T.kd.ex))
 `(by repeat' $(<- dF ((<- rd "%jJ _|gh|nG|bw ??|aD ??|bj ?|zsS _n?|jh ???|gv ?|yi ?|xV|zy|v7|yK ?")++[e0,e3]++(<- rd "%zS CD??:zG;ixK r|w6 CD??:yU;ze:Ae;yS:zY;zO:vv;vp rrrG:sV;eqDK r8:wc;yy r:zT;neDK r8|rT CDrkf?:xQ;zR r:vD;nL r:wq K;yX r|tI CD??:yn;uG:xE;sj:pR;pE r:wo;xv:yN;yr:yd;yM:xj;wD|iO CDrkb?:lQ;o7 r|vP rABCD??:oB;yh r1;PySem.F.slot_list_count;PySem.F.type_list_count:sd;yE r1;PySem.F.slot_list_index;PySem.F.type_list_index|gn rABCDv?:dB;cI;PySem.F.slot_list_append;PySem.F.type_list_append|Am CD?:xH;yg|vx ?v?CD:nZ;sO u|zt_w ?|uK u??p|za rg|j8 r???|zE rkb|zgN _n|oV rk?|qw rk?|wy r?|ly|mn ?|fu ?|cc or???|qQ rzrmx?|yp ?|xR ??|vI ?|Al ??|wU ?"))):tactic)
def gL:PSt:=
 (br (mJ ["cells", "at", "left"] (aa (pFn dW (aa (pSl (af 0) oN (oS (aj 63))) ag)) (aa (aj 0) (aa (aj 0) ag)))))
def cb:PFn:=fnP [false] 1 gL
def kZ:cb.ms=[false]:=rfl
def kS(T:TT w K mg):Callee P w K mg base "_law_feed" 1 ["_law_script"] (sp3 K mg cb):=okP (T.d.get 26 rfl) (bY (N:=["_law_script"]) (by decide)) (λ_ _ _ _ _ _=>ar1 λ_=>rfl) λnd _ _ _ _ _ _ _ hr=>(bj (gv (uY (fV (iO (o7 (K:=K) rfl) lQ rfl (T.n rfl) (by first |exact boF rfl |exact boT rfl) (bw (j8 rfl (jJ 0) ly (mn gh)) nG)) (fV gh (fV gh vL))))))
def gM:PSt:=
 (au (xIf (qOf (pOp bGt (pOp cu (af 0) (ax "left")) (aj 0))) (au (aN false 2 (pOp bq (pOp cu (af 0) (ax "left")) (af 1)))
  (au (j0 0 seD (ax "left") (pOp cK (pOp cu (af 0) (ax "left")) (af 1)))
  (br (af 2)))) xNx)
  (au (aN false 3 (pOp cu (af 0) (ax "at")))
  (au (j0 0 seD (ax "at") (pOp aU (af 3) (aj 1)))
  (au (aN false 4 (af 3))
  (au (xIf (qOf (pOp bGt (pFn cF (aa (pOp cu (af 0) (ax "cells")) ag)) (aj 0))) (aN false 4 (pOp bIx (pOp cu (af 0) (ax "cells")) (pOp bq (af 3) (pFn cF (aa (pOp cu (af 0) (ax "cells")) ag))))) xNx)
  (au (xIf (qAn (qOf (pOp bGe (af 4) (pOp m6 (aj 10) (aj 18)))) (qOf (pOp bLt (af 3) (pFn cF (aa (pOp cu (af 0) (ax "cells")) ag))))) (au (j0 0 seD (ax "left") (pOp cK (af 4) (af 1)))
  (br (pOp bq (af 4) (af 1)))) xNx)
  (au (aN false 5 (pOp bq (pOp bC (pOp aU (pOp aU (pOp aU (pOp bq (af 4) (aj 1000003)) (pOp bC (pOp bC (aj 61) (af 3)) (af 3))) (pOp bC (aj 7) (af 3))) (aj 1)) (aj 48271)) (aj 999983)))
  (br (pOp bq (pOp cK (pOp bq (pOp bC (pOp bq (pOp aU (pOp bC (af 5) (aj 69623)) (pOp bC (aj 7919) (af 3))) (aj 1999993)) (aj 16811)) (aj 524287)) (aj 5)) (af 1))))))))))
def aK:PFn:=fnP [true,false] 6 gM
def k8:aK.ms=[true,false]:=rfl
def jZ(T:TT w K mg):Callee P w K mg base "_law_draw" 1 ["_law_feed_here", "_law_many"] (sp3 K mg aK):=okP (T.d.get 27 rfl) (bY (N:=["_law_feed_here", "_law_many", "_law_found", "_law_at", "_law_cell", "_law_number"]) (by decide)) (λ_ _ _ _ _ _=>ar2 λ_ _=>rfl) λnd _ _ _ _ _ _ _ hr=>'d'
def cW:PSt:=
 (aN false 2 (pOp aU (pOp bC (af 2) (aj 100000)) (aF aK (aa (af 0) (aa (aj 100000) ag)))))
def dJ:PSt:=
 (au (aN false 2 (aj 0))
  (au (cw (du (aa (af 1) ag)) (gtN 3) (cW))
  (br (af 2))))
def aY:PFn:=fnP [true,false] 4 dJ
def ky:aY.ms=[true,false]:=rfl
def jd(T:TT w K mg):Callee P w K mg base "_law_great" 2 ["_law_feed_here", "_law_pieces"] (sp3 K mg aY):=okP (T.d.get 28 rfl) (bY (N:=["_law_feed_here", "_law_pieces", "_law_number", "_law_k"]) (by decide)) (λ_ _ _ _ _ _=>ar2 λ_ _=>rfl) λnd _ _ _ _ _ _ _ hr=>'d'
def dh:PSt:=
 (xIf (qO (qNo (qOf (pFn (ak aw) (aa (af 0) (aa (pTy "str") ag))))) (qOf (pOp (mW "MOST_THINGS" aR) (af 0) (bG "MOST_THINGS")))) (ka "NoKind" (aa (ax "this is no kind of trees") ag)) xNx)
def aZ:PFn:=fnP [false] 1 dh
def jc:aZ.ms=[false]:=rfl
def gR(T:TT w K mg):Callee P w K mg base "check_kind" 1 ["kind"] (sp3 K mg aZ):=okP (T.d.get 20 rfl) (bY (N:=["kind"]) (by decide)) (λ_ _ _ _ _ _=>ar1 λ_=>rfl) λnd _ _ _ _ _ _ _ hr=>'d'
def gq:PSt:=
 (aN false 2 (pOp aU (af 2) (pLC (bS (af 2)) [none,some 3] (by decide) (gtN 0) qY (pOp aU (af 0) (bg (aa (af 1) ag))))))
def eM:PSt:=
 (au (xIf (qOf (pOp bEq (af 1) (ax "order"))) (br (pLC (jm (aa (aj 1) (aa (pFn cF (aa (af 0) ag)) ag))) [none,some 0] (by decide) (gtN 0) qY (pSl (af 1) oN (oS (af 0))))) xNx)
  (au (aN false 2 (bg (aa (pSl (af 0) oN (oS (aj 1))) ag)))
  (au (cw (bS (pSl (af 0) (oS (aj 1)) oN)) (gtN 3) (gq))
  (br (pSl (af 2) oN (oS (pUn ng (aj 1))))))))
def bz:PFn:=fnP [false,false] 4 eM
def mC:bz.ms=[false,false]:=rfl
def lb(T:TT w K mg):Callee P w K mg base "lots_of" 1 ["numbers", "kind"] (sp3 K mg bz):=okP (T.d.get 21 rfl) (bY (N:=["numbers", "kind", "lots", "number"]) (by decide)) (λ_ _ _ _ _ _=>ar2 λ_ _=>rfl) λnd _ _ _ _ _ _ _ hr=>(aD (jh 'd' (bj (gv (jC ["numbers", "kind", "lots", "number"] (ai (top 21)).names ["many", "numbers"] [none,some 0] 'd' (λnd _ _ _ _ _=>'d') (λ_ _ _ _ _ _=>iq) (λnd _ _ _ _ _=>'d')))) 'd') (aD 'd' (aD (cc dE rfl 'd' 'd' (bj (zsS 2 nd (tI (pE (K:=K) rfl) pR 'd' (jC ["numbers", "kind", "lots", "number"] (ai (top 21)).names ["lot", "number"] [none,some 3] 'd' (λnd _ _ _ _ _=>'d') (λ_ _ _ _ _ _=>iq) (λnd _ _ _ _ _=>'d')))))) 'd')))
def eB:PSt:=
 (dq (ib 2 cq (aa (m8 (aa (af 4) (aa (pFn dW (aa (af 3) ag)) (aa (pLC (bS (af 0)) [none,some 3] (by decide) (gtN 0) (qOf (pOp fX (af 0) (af 1))) (af 0)) ag)))) ag)))
def cS:PSt:=
 (cw (bS lC) (gtN 4) (eB))
def iE:PSt:=
 (au (aN true 2 (bg ag))
  (au (cw (bS (aF bz (aa (af 0) (aa (af 1) ag)))) (gtN 3) (cS))
  (br (af 2))))
def cH:PFn:=fnP [false,false] 5 iE
def mF:cH.ms=[false,false]:=rfl
def kY(T:TT w K mg):Callee P w K mg base "cuts_of" 2 ["numbers", "kind"] (sp3 K mg cH):=okP (T.d.get 22 rfl) (bY (N:=["numbers", "kind", "cuts", "lot", "way"]) (by decide)) (λ_ _ _ _ _ _=>ar2 λ_ _=>rfl) λnd _ _ _ _ _ _ _ hr=>(aD 'd' (aD (cc dE rfl 'd' 'd' (bj (cc dE rfl 'd' 'd' (bj (fu (gn rfl Bq Br cI dB 'd' (bw (n6 (bw 'd' (bw 'd' (bw (jC ["numbers", "kind", "cuts", "lot", "way"] (ai (top 22)).names ["number", "lot"] [none,some 3] 'd' (λnd _ _ _ _ _=>'d') (λnd _ _ _ _ _=>hJ 'd') (λnd _ _ _ _ _=>'d')) 'd')))) 'd'))))))) 'd'))
def c4:PSt:=
 (au (dq (aF aZ (aa (af 1) ag)))
  (br (aF cH (aa (af 0) (aa (af 1) ag)))))
def aJ:PFn:=fnP [false,false] 2 c4
def eI:aJ.ms=[false,false]:=rfl
def dN(T:TT w K mg):Callee P w K mg base "first_cuts" 3 ["numbers", "kind"] (sp3 K mg aJ):=okP (T.d.get 24 rfl) (bY (N:=["numbers", "kind"]) (by decide)) (λ_ _ _ _ _ _=>ar2 λ_ _=>rfl) λnd _ _ _ _ _ _ _ hr=>'d'
def cm:PSt:=
 (xIf (qOf (pOp bEq (pOp bq (af 3) (aj 2)) (aj 1))) (dq (ib 2 cq (aa (pLC (du (aa (pFn cF (aa (af 0) ag)) ag)) [none,some 0,some 3] (by decide) (gtN 0) (qOf (pOp bEq (pOp bq (pOp cK (af 2) (pOp iu (aj 1) (af 0))) (aj 2)) (aj 1))) (pOp bIx (af 1) (af 0))) ag))) xNx)
def eA:PSt:=
 (dq (ib 4 cq (aa (m8 (aa (af 6) (aa (af 5) (aa (pLC (bS (af 0)) [none,some 5] (by decide) (gtN 0) (qOf (pOp fX (af 0) (af 1))) (af 0)) ag)))) ag)))
def cQ:PSt:=
 (cw (bS (bg (aa (ax "across") (aa (ax "down") ag)))) (gtN 6) (eA))
def eU:PSt:=
 (au (aN true 2 (pLC (jm (aa (aj 1) (aa (pFn cF (aa (af 0) ag)) ag))) [none,some 0] (by decide) (gtN 0) qY (pSl (af 1) oN (oS (af 0)))))
  (au (xIf (qOf (pOp bEq (af 1) (ax "any"))) (au (aN true 2 (bg ag))
  (cw (du (aa (pOp qW (pOp iu (aj 1) (pFn cF (aa (af 0) ag))) (aj 1)) ag)) (gtN 3) (cm))) xNx)
  (au (aN true 4 (bg ag))
  (au (cw (bS (af 2)) (gtN 5) (cQ))
  (br (af 4))))))
def aP:PFn:=fnP [false,false] 7 eU
def my:aP.ms=[false,false]:=rfl
def lj(T:TT w K mg):Callee P w K mg base "_law_due" 1 ["_law_numbers", "_law_kind"] (sp3 K mg aP):=okP (T.d.get 30 rfl) (bY (N:=["_law_numbers", "_law_kind", "_law_lots", "_law_places", "_law_cuts", "_law_lot", "_law_way"]) (by decide)) (λ_ _ _ _ _ _=>ar2 λ_ _=>rfl) λnd _ _ _ _ _ _ _ hr=>(aD (zSlc nd ["_law_numbers", "_law_kind", "_law_lots", "_law_places", "_law_cuts", "_law_lot", "_law_way"] (ai (top 30)).names ["_law_k", "_law_numbers"] [none,some 0] 'd' (λnd _ _ _ _ _=>'d') (λ_ _ _ _ _ _=>iq) (λnd _ _ _ _ _=>'d')) (aD (jh 'd' (aD 'd' (bj (cc dE rfl 'd' 'd' (bj (jh 'd' (bj (fu (gn rfl Bq Br cI dB 'd' (bw (jC ["_law_numbers", "_law_kind", "_law_lots", "_law_places", "_law_cuts", "_law_lot", "_law_way"] (ai (top 30)).names ["_law_k", "_law_numbers", "_law_places"] [none,some 0,some 3] 'd' (λnd _ _ _ _ _=>'d') (λnd _ _ _ _ _=>hJ 'd') (λnd _ _ _ _ _=>'d')) 'd')))) 'd'))))) 'd') (aD 'd' (aD (cc dE rfl 'd' 'd' (bj (cc dE rfl 'd' 'd' (bj (fu (gn rfl Bq Br cI dB 'd' (bw (n6 (bw 'd' (bw 'd' (bw (jC ["_law_numbers", "_law_kind", "_law_lots", "_law_places", "_law_cuts", "_law_lot", "_law_way"] (ai (top 30)).names ["_law_number", "_law_lot"] [none,some 5] 'd' (λnd _ _ _ _ _=>'d') (λnd _ _ _ _ _=>hJ 'd') (λnd _ _ _ _ _=>'d')) 'd')))) 'd'))))))) 'd'))))
def gm:PSt:=
 (au (aN false 1 (bg (aa (pFn (ak aw) (aa (af 0) (aa (bG "NoBox") ag))) (aa (pFn (ak aw) (aa (af 0) (aa (bG "NoWeights") ag))) (aa (pFn (ak aw) (aa (af 0) (aa (bG "TooMany") ag))) ag)))))
  (au (aN false 1 (pOp aU (af 1) (bg (aa (pFn (ak aw) (aa (af 0) (aa (bG "NoKind") ag))) (aa (pFn (ak aw) (aa (af 0) (aa (bG "NoRule") ag))) (aa (pFn (ak aw) (aa (af 0) (aa (bG "NoThing") ag))) ag))))))
  (au (aN false 1 (pOp aU (af 1) (bg (aa (pFn (ak aw) (aa (af 0) (aa (bG "NoCut") ag))) (aa (pFn (ak aw) (aa (af 0) (aa (bG "NoText") ag))) (aa (pFn (ak aw) (aa (af 0) (aa (bG "NoRow") ag))) ag))))))
  (au (aN false 1 (pOp aU (af 1) (bg (aa (pFn (ak aw) (aa (af 0) (aa (bG "NoName") ag))) (aa (pFn (ak aw) (aa (af 0) (aa (bG "Taken") ag))) (aa (pFn (ak aw) (aa (af 0) (aa (bG "Unknown") ag))) ag))))))
  (au (aN false 1 (pOp aU (af 1) (bg (aa (pFn (ak aw) (aa (af 0) (aa (bG "NoFraction") ag))) (aa (pFn (ak aw) (aa (af 0) (aa (bG "NoWay") ag))) (aa (pFn (ak aw) (aa (af 0) (aa (bG "NoTree") ag))) ag))))))
  (au (aN false 2 (bg (aa (ax "box") (aa (ax "weights") (aa (ax "many") (aa (ax "kind") (aa (ax "rule") (aa (ax "thing") (aa (ax "cut") (aa (ax "text") (aa (ax "row") (aa (ax "name") (aa (ax "taken") (aa (ax "unknown") ag))))))))))))))
  (au (aN false 2 (pOp aU (af 2) (bg (aa (ax "fraction") (aa (ax "way") (aa (ax "tree") ag))))))
  (au (xIf (qO (qOf (pOp bNe (ji il (af 1) (aa (pBl true) ag)) (aj 1))) (qNo (qOf (pFn (ak aw) (aa (af 0) (aa (pTy "ValueError") ag)))))) (br (ax "odd")) xNx)
  (br (pOp bIx (af 2) (ji iw (af 1) (aa (pBl true) ag))))))))))))
def cj:PFn:=fnP [false] 3 gm
def kU:cj.ms=[false]:=rfl
def kT(T:TT w K mg):CalleeU P w K mg base "_law_word" 1 ["_law_error"] (sp3 K mg cj):=okPU (T.d.get 29 rfl) (bY (N:=["_law_error", "_law_some", "_law_words"]) (by decide)) (λ_ _ _ _ _ _=>ar1 λ_=>rfl) λnd _ _ _ _ _ _ _ hr=>'d'
def eF:PSt:=
 (au (rH cM 2 (dq (aF aJ (aa (af 0) (aa (af 1) ag)))) (br (pOp bEq (aF cj (aa (af 2) ag)) (ax "kind"))))
  (br (pBl false)))
def bD:PFn:=fnP [false,false] 3 eF
def g7:bD.ms=[false,false]:=rfl
def gJ(T:TT w K mg):Callee P w K mg base "_law_refused" 4 ["_law_numbers", "_law_kind"] (sp3 K mg bD):=okP (T.d.get 31 rfl) (bY (N:=["_law_numbers", "_law_kind", "e"]) (by decide)) (λ_ _ _ _ _ _=>ar2 λ_ _=>rfl) λnd _ _ _ _ _ _ _ hr=>(aD (xJ (i:=2) nh nd rfl rfl rfl (T.m rfl) (T.h (.head _)).1 (T.h (.head _)).2 (λ_ _ _ hx=>'d') (λ_=>(bj (gv (xC (eqDK (K:=K) rfl hr.u180) sV (pX (kT T) (hr.toU _ (by omega)) rfl mO 'd') 'd' (jX _)))))) 'd')
def d6:PSt:=
 (dq (ib 3 cq (aa (pOp aU (pOp aU (pOp bIx (af 3) (pUn ng (aj 1))) (aj 1)) (pOp bIx (bg (aa (aj 0) (aa (aF aK (aa (af 1) (aa (aj 9) ag))) (aa (aF aY (aa (af 1) (aa (aj 5) ag))) ag)))) (aF aK (aa (af 1) (aa (aj 3) ag))))) ag)))
def jF:PSt:=
 (au (aN false 6 (pFn dW (aa (af 3) ag)))
  (au (fN 3) (au (fo 7 8 6 5 aJ (qO (qNo (qOf (pFn (ak aw) (aa (af 7) (aa (pTy "list") ag))))) (qO (qOf (pOp bNe (af 7) (aF aP (aa (af 3) (aa (af 5) ag))))) (qOf (pOp bNe (af 6) (af 3))))))
  (xIf (qOf (pOp bNe (aF aJ (aa (af 6) (aa (af 5) ag))) (aF aP (aa (af 3) (aa (af 5) ag))))) (br (pBl false)) xNx))))
def gp:PSt:=
 (au (aN true 3 (bg (aa (pOp bIx (bg (aa (aj 0) (aa (aF aK (aa (af 1) (aa (aj 40) ag))) (aa (pOp cK (aF aY (aa (af 1) (aa (aj 6) ag))) (aj 2)) ag)))) (aF aK (aa (af 1) (aa (aj 3) ag)))) ag)))
  (au (cw (du (aa (pOp aU (aj 1) (aF aK (aa (af 1) (aa (aj 5) ag)))) ag)) (gtN 4) (d6))
  (au (cw (bS (bg (aa (ax "order") (aa (ax "any") ag)))) (gtN 5) (jF))
  (xIf (qNo (qOf (aF bD (aa (af 3) (aa (pOp bIx (bg (aa (ax "") (aa (ax "Any") (aa (ax "order ") (aa (ax "down") (aa (ax "lots") (aa (ax "anyorder") ag))))))) (aF aK (aa (af 1) (aa (aj 6) ag)))) ag))))) (br (pBl false)) xNx))))
def mV:PSt:=
 (au (aN true 1 (aF cb (aa (af 0) ag)))
  (au (cw (du (aa (pOp aU (aj 2) (pFn jD (aa (aj 6) (aa (pFn cF (aa (af 0) ag)) ag)))) ag)) (gtN 2) (gp))
  (br (pBl true))))
def jn:PFn:=fnP [false] 9 mV
def vU(T:TT w K mg):Callee P w K mg base "law" 5 ["_law_script"] (sp3 K mg jn):=okP (T.d.get 32 rfl) (bY (N:=["_law_script", "_law_feed_here", "_law_bout", "_law_numbers", "_law_k", "_law_kind", "_law_handed", "_law_found", "_law_cut"]) (by decide)) (λ_ _ _ _ _ _=>ar1 λ_=>rfl) λnd _ _ _ _ _ _ _ hr=>(aD 'd' (aD (cc dE rfl 'd' 'd' (aD 'd' (aD 'd' (aD (cc dE rfl 'd' 'd' (aD 'd' (vH (rZ (c3:=(qO (qNo (qOf (pFn (ak aw) (aa (af 8) (aa (pTy "tuple") ag))))) (qO (qNo (qOf (pFn (ak aw) (aa (pOp bIx (af 8) (aj 1)) (aa (pTy "list") ag))))) (qNo (qOf (pFn (ak aw) (aa (pOp bIx (af 8) (aj 2)) (aa (pTy "list") ag)))))))) (y2:=(br (pBl false))) (y3:=(br (pBl false))) (dN T) hr nd dE rfl eI 'd' 'd' 'd' 'd' (pW (λ_=>rfl) (λ_=>rfl)) 'd')))) 'd')))) 'd'))
end
noncomputable def fdD (cs:List Int) (a l:Int):Val:=.dct [(.inr "cells",.lst (cs.map .int)),(.inr "at",.int a),(.inr "left",.int l)]
def Fd(n:Nat)(v:Val):Prop:=∃cs a l,v=fdD cs a l/\0<=a/\a<=n
def Fd.mono{n m:Nat}{v:Val}(h:Fd n v)(q:n<=m):Fd m v:=by obtain⟨cs,a,l,e,h0,h1⟩:=h;exact⟨cs,a,l,e,h0,by omega⟩
def dg(cs:List Int)(a l:Int):cu.G (fdD cs a l) (.str "cells")=.val (.lst (cs.map .int)):=rfl
def gj(cs:List Int)(a l:Int):cu.G (fdD cs a l) (.str "at")=.val (.int a):=rfl
def dM(cs:List Int)(a l:Int):cu.G (fdD cs a l) (.str "left")=.val (.int l):=rfl
def dP(cs:List Int)(a l x:Int):seD.G (fdD cs a l) (.str "at") (.int x)=some (fdD cs x l):=rfl
def df(cs:List Int)(a l x:Int):seD.G (fdD cs a l) (.str "left") (.int x)=some (fdD cs a x):=rfl
def jv:m6.G (.int 10) (.int 18)=.val (.int (10^18)):=zH ⟨by decide,by decide,by decide⟩
def ef{a m:Int}(h:0<m):0<=a.fmod m/\a.fmod m<m:=⟨Int.fmod_nonneg_of_pos a h,Int.fmod_lt_of_pos a h⟩
set_option hygiene false in
local macro_rules | `(tactic|simp![$args,*])=>do
 let l <- ("% eh tO pw gi tR pB ft uy tQ jQ jA gC n5 oj pO oU pe oO pv o4 mh kP oC kO lB n0 ur uF v_bl uc v_ty sW v_un v_op tS nM v_fn uj tV c_of c_an c_o c_no x_nx tK lN lE lI o8 eC x_if uC uf tq tG lR kj kB g_n lP ux tf sR uB um n9 oy oM sX tZ kQ nS tu pJ nO nH pA o9 tH uD uq d4 v_lc oQ oh pP o_n o_s v_sl tw uh k_lt k_gt k_ge ub k_ix gA k_eq k_ne ud uA tN oD jM bK List.getElem?_cons_zero List.getElem?_cons_succ List.set_cons_zero List.set_cons_succ List.length_cons List.length_nil Option.bind_some Option.map_some Option.isSome_some if_true if_false Bool.not_true Bool.not_false Bool.and_true Bool.true_and Bool.or_true Bool.true_or Nat.reduceLeDiff Nat.reduceAdd Nat.reduceSub Nat.zero_add Nat.sub_self List.cons_append List.nil_append List.append_nil List.replicate Bool.false_eq_true List.all_cons List.all_nil List.isEmpty_nil List.map_cons List.map_nil Int.reduceBEq Int.reduceAdd Int.reduceSub Int.reduceMul og lH pq nU lM ku pQ iU lY pG me iA lG pZ jV pH lX qb kR pK oo lD tT uz tE tP iP iX iK iZ jH iJ iM ati3 bu p9 Int.reduceNeg lO oF kC kZ k8 ky jc mC mF eI my kU g7 vA".splitOn " ").tail.mapM λs=>`(Lean.Parser.Tactic.simpLemma| $(Lean.mkIdent s.toName):term)
 `(tactic|simp only[$(l.toArray),*,$args,*])
def vy{ns:List Int}(hl:ns.length<=63):∃v,cb.G [.kl (ns.map .int)]=.ok (.new v) []/\Fd 0 v:=by
 refine⟨fdD ns 0 0,?_,ns,0,0,rfl,by omega,by omega⟩;unfold cb;rw[bP];unfold gL;have e:aSl (.kl (ns.map Val.int)) none (some 63)=.new (.lst (ns.map Val.int)):=by
  have:=zk (ns.map Val.int) none (some ((63:Nat):Int))
  rw[kr,BC (by rw[e_];exact hl)] at this;exact this
 have c:Val.items (.lst (ns.map Val.int))=some (ns.map Val.int):=rfl;simp![kC,e,c];rfl
def aM{n:Nat}{v:Val}{m:Int}(f:Fd n v)(hn:n<=1000000000)(h0:0<m)(hm:Sm 8000 m):∃r v',aK.G [v,.int m]=.ok (.val (.int r)) [v']/\Fd (n+1) v'/\0<=r/\r<m:=by
 obtain⟨cs,a,l,rfl,a0,a1⟩:=f;have m0:m≠0:=by omega
 have d1:=λi=>dj (i:=i) m0;have d2:=λi=>jl (i:=i) (CDivB.of m0 hm);unfold aK;rw[bP];unfold gM;have x1:bC.G (.int 61) (.int a)=.val (.int (61*a)):=cP (CMulA.left (by decide) (by decide));have x2:bC.G (.int (61*a)) (.int a)=.val (.int (61*a*a)):=cP (CMulA.right (by omega) (by omega));have x3:bC.G (.int 7) (.int a)=.val (.int (7*a)):=cP (CMulA.left (by decide) (by decide));have x4:∀x:Int,bC.G (.int x) (.int 48271)=.val (.int (x*48271)):=λx=>cP (CMulA.right (by decide) (by decide));have x5:∀x:Int,bC.G (.int x) (.int 69623)=.val (.int (x*69623)):=λx=>cP (CMulA.right (by decide) (by decide));have x6:bC.G (.int 7919) (.int a)=.val (.int (7919*a)):=cP (CMulA.left (by decide) (by decide));have x7:∀x:Int,bC.G (.int x) (.int 16811)=.val (.int (x*16811)):=λx=>cP (CMulA.right (by decide) (by decide));have y1:∀x:Int,bq.G (.int x) (.int 1000003)=.val (.int (x.fmod 1000003)):=λx=>dj (by decide);have y2:∀x:Int,bq.G (.int x) (.int 999983)=.val (.int (x.fmod 999983)):=λx=>dj (by decide);have y3:∀x:Int,bq.G (.int x) (.int 1999993)=.val (.int (x.fmod 1999993)):=λx=>dj (by decide);have y4:∀x:Int,bq.G (.int x) (.int 524287)=.val (.int (x.fmod 524287)):=λx=>dj (by decide);have y5:∀x:Int,cK.G (.int x) (.int 5)=.val (.int (x.fdiv 5)):=λx=>jl (CDivB.of (by decide) (sm8 (by decide)));by_cases hc:0<l
 .have hc':decide (0<l)=true:=Bb hc;refine⟨l.fmod m,fdD cs a (l.fdiv m),?_,⟨cs,a,_,rfl,a0,by omega⟩,ef h0⟩;simp![hc',d1,d2,dg,gj,dM,dP,df]
 .have hc':decide (0<l)=false:=AO hc;have fin:∀x:Int,∃r v',(R3F.ok (Rt.val (.int (x.fmod m))) [fdD cs (a+1) l]:R3F)=.ok (.val (.int r)) [v']/\Fd (n+1) v'/\0<=r/\r<m:=λx=>⟨_,_,rfl,⟨cs,_,_,rfl,by omega,by omega⟩,ef h0⟩;have z18:((10:Int)^18)=1000000000000000000:=by decide
  by_cases hl:0<cs.length
  .have r:=ef (a:=a) (m:=(cs.length:Nat)) (by omega);have hi:(a.fmod (cs.length:Nat)).toNat<cs.length:=by omega
   have at1:atI (cs.map Val.int) (a.fmod (cs.length:Nat))=some (.int cs[(a.fmod (cs.length:Nat)).toNat]):=bQ r.1 (by rw[x_,o_ hi];rfl);have l1:decide ((0:Int)<((cs.length:Nat):Int))=true:=Bb (by omega);have e1:bq.G (.int a) (.int (cs.length:Nat))=.val (.int (a.fmod (cs.length:Nat))):=dj (by omega);by_cases hb:(10^18:Int)<=cs[(a.fmod (cs.length:Nat)).toNat]
   .have hb':=Bb hb;by_cases ha:a<(cs.length:Nat)
    .have ha':=Bb ha;refine⟨(cs[(a.fmod (cs.length:Nat)).toNat]).fmod m,fdD cs (a+1) ((cs[(a.fmod (cs.length:Nat)).toNat]).fdiv m),?_,⟨cs,_,_,rfl,by omega,by omega⟩,ef h0⟩;simp![hc',d1,d2,dg,gj,dM,dP,df,e_,l1,e1,at1,jv,hb',ha']
    .have ha':=AO ha;simp![hc',d1,d2,dg,gj,dM,dP,df,e_,l1,e1,at1,jv,hb',ha',x1,x2,x3,x4,x5,x6,x7,y1,y2,y3,y4,y5];exact fin _
   .have hb':=AO hb;simp![hc',d1,d2,dg,gj,dM,dP,df,e_,l1,e1,at1,jv,hb',x1,x2,x3,x4,x5,x6,x7,y1,y2,y3,y4,y5];exact fin _
  .have l1:decide ((0:Int)<((cs.length:Nat):Int))=false:=AO (by omega);have hb':decide ((10^18:Int)<=a)=false:=AO (by rw[z18];omega);simp![hc',d1,d2,dg,gj,dM,dP,df,e_,l1,jv,hb',x1,x2,x3,x4,x5,x6,x7,y1,y2,y3,y4,y5];exact fin _
def AF:cL [.int 6]=some [.int 0,.int 1,.int 2,.int 3,.int 4,.int 5]:=lA (i:=6) (by decide) (by decide)
def xg{n:Nat}{v:Val}(f:Fd n v)(hn:n<=900000000):∃r v',aY.G [v,.int 6]=.ok (.val (.int r)) [v']/\Fd (n+6) v'/\0<=r:=by have s:Sm 8000 100000:=sm8 (by decide);obtain⟨r1,v1,e1,f1,a1,_⟩:=aM (m:=100000) f (by omega) (by decide) s;obtain⟨r2,v2,e2,f2,a2,_⟩:=aM (m:=100000) f1 (by omega) (by decide) s;obtain⟨r3,v3,e3,f3,a3,_⟩:=aM (m:=100000) f2 (by omega) (by decide) s;obtain⟨r4,v4,e4,f4,a4,_⟩:=aM (m:=100000) f3 (by omega) (by decide) s;obtain⟨r5,v5,e5,f5,a5,_⟩:=aM (m:=100000) f4 (by omega) (by decide) s;obtain⟨r6,v6,e6,f6,a6,_⟩:=aM (m:=100000) f5 (by omega) (by decide) s;have c6:∀x:Int,bC.G (.int x) (.int 100000)=.val (.int (x*100000)):=λx=>cP (CMulA.right (by decide) (by decide));refine⟨((((((0*100000+r1)*100000+r2)*100000+r3)*100000+r4)*100000+r5)*100000+r6),v6,?_,f6.mono (by omega),by omega⟩;unfold aY;rw[bP];unfold dJ cW;simp![AF,bB,c6,e1,e2,e3,e4,e5,e6]
theorem iF{B:PSt}(hB:B=(aN false 2 (pOp aU (af 2) (pLC (bS (af 2)) [none,some 3] (by decide) (gtN 0) qY (pOp aU (af 0) (bg (aa (af 1) ag))))))){nv kv:Val}:∀(ah:List Int) (L:List (List Int)) (s3:Sl),s3.pl=true->L.length*2^ah.length<=1000000->(∀l∈L,l.length+ah.length<=1000)->∃s3',bW (gtN 3).G B.G (ah.map .int) [.sh nv,.sh kv,.sh (.lst (L.map liV)),s3]=.nx [.sh nv,.sh kv,.sh (.lst ((bI L ah).map liV)),s3']
 | [],L,s3,h3,hb,hl=>⟨s3,by rw[AZ,d4];rfl⟩
 |
  x::ah,L,s3,h3,hb,hl=>by
  rw[p_,Ca] at hb;have hpow:1<=2^ah.length:=BU;have hb1:L.length<=1000000:=AJ (Nat.le_mul_of_pos_right _ (Nat.mul_pos hpow (by decide))) hb;have hll:(L++L.map λl=>l++[x]).length=L.length+L.length:=by rw[k_,e_]
  obtain⟨s',ih⟩:=iF hB (nv:=nv) (kv:=kv) ah (L++L.map λl=>l++[x]) (.sh (.int x)) rfl (by
   rw[hll,<- Nat.two_mul,BS 2,Nat.mul_assoc,BS 2];exact hb) (λl h=>by
   rcases Bz.mp h with h |h
   .have:=hl l h
    rw[p_] at this;omega
   .obtain⟨l',h',rfl⟩:=B8.mp h
    have:=hl l' h'
    rw[p_] at this;rw[k_];show l'.length+1+_<=_;omega)
  refine⟨s',?_⟩;have g1:(gtN 3).G (.int x) [.sh nv,.sh kv,.sh (.lst (L.map liV)),s3]=some [.sh nv,.sh kv,.sh (.lst (L.map liV)),.sh (.int x)]:=by simp![h3]
  obtain⟨e',⟨s,rfl,_⟩,lc⟩:=fF (g:=(gtN 0).G) (F:=(pOp aU (af 0) (bg (aa (af 1) ag))).G) liV (λl=>liV (l++[x])) (λe=>∃s,e=[s,.sh (.int x)]/\s.pl=true) L [] [.no,.sh (.int x)] ⟨.no,rfl,rfl⟩ (by
   rintro l h e ⟨s,rfl,hs⟩;have ll:=hl l h;have cl:(l.map Val.int).length+1<=16777216:=by rw[e_];omega
   have e2:liV (l++[x])=.lst (l.map .int++[.int x]):=by unfold liV;rw[AX];rfl
   refine⟨[.sh (liV l),.sh (.int x)],.new (liV (l++[x])),[.sh (liV l),.sh (.int x)],?_,?_,rfl,⟨_,rfl,rfl⟩⟩
   .simp![hs]
   .rw[e2];simp![liV,cl]) (by rw[AR];omega)
  rw[AU] at lc;have c1:(L.map λl=>liV (l++[x])).length<=16777216:=by rw[e_];omega
  have c2:(L.map liV).length+(L.map λl=>liV (l++[x])).length<=16777216:=by rw[e_,e_];omega
  have hcat:L.map liV++(L.map λl=>liV (l++[x]))=(L++L.map λl=>l++[x]).map liV:=by simp
  have b1:B.G [.sh nv,.sh kv,.sh (.lst (L.map liV)),.sh (.int x)]=.nx [.sh nv,.sh kv,.sh (.lst (L.map liV++(L.map λl=>liV (l++[x])))),.sh (.int x)]:=by rw[hB];simp![bu,lc,c1,c2]
  rw[hcat] at b1;rw[n_,bB,g1];simp only[b1,ft];exact ih
def ya:aW (.str "order") (.str "order")=some true:=by rw[L3.eq_str (by decide) (by decide)];exact A0 some (by decide)
def xG:aW (.str "any") (.str "order")=some false:=by rw[L3.eq_str (by decide) (by decide)];exact A0 some (by decide)
def ma{n:Nat}(h:n<=1000):jG [.int 1,.int (n:Nat)]=some ((List.range' 1 (n-1)).map λi=>Val.int (i:Nat)):=by unfold jG;dsimp only;rw[if_pos ⟨⟨by decide,by decide⟩,⟨by omega,by omega⟩⟩];unfold j5;rw[List.range'_eq_map_range,Bo,show (((n:Nat):Int)-1).toNat=n-1 by omega];congr 1
def l0{nums:List Int}(hl:nums.length<=1000):∃s,lcV (gtN 0).G qY.G (pSl (af 1) oN (oS (af 0))).G ((List.range' 1 (nums.length-1)).map λi=>Val.int (i:Nat)) [] [.no,.sh (.lst (nums.map .int))]=.ok ((aA "order" nums).map liV) [s,.sh (.lst (nums.map .int))]:=by
 obtain⟨e',⟨s,rfl,_⟩,lc⟩:=fF (g:=(gtN 0).G) (F:=(pSl (af 1) oN (oS (af 0))).G) (λi:Nat=>Val.int (i:Nat)) (λi=>liV (nums.take i)) (λe=>∃s,e=[s,.sh (.lst (nums.map .int))]/\s.pl=true) (List.range' 1 (nums.length-1)) [] [.no,.sh (.lst (nums.map .int))] ⟨.no,rfl,rfl⟩ (by
  rintro i hi e ⟨s,rfl,hs⟩;have sl:aSl (.lst (nums.map Val.int)) none (some ((i:Nat):Int))=.new (.lst ((nums.take i).map .int)):=by rw[gK,kr,List.map_take]
  refine⟨[.sh (.int (i:Nat)),.sh (.lst (nums.map .int))],.new (liV (nums.take i)),[.sh (.int (i:Nat)),.sh (.lst (nums.map .int))],?_,?_,rfl,⟨_,rfl,rfl⟩⟩
  .simp![hs]
  .simp![liV,sl]) (by simp;omega)
 rw[AU] at lc;refine⟨s,?_⟩;rw[lc];unfold aA;rw[if_pos rfl,Bo];rfl
def mT{nums:List Int}{kind:Str}(hk:kind="order" \/ kind="any")(h2:nums≠[])(hl:nums.length<=10):bz.G [liV nums,.str kind]=.ok (.new (.lst ((aA kind nums).map liV))) []:=by
 have hlen:=ee (kind:=kind) hl;rcases hk with rfl |rfl
 .obtain⟨s,lc⟩:=l0 (nums:=nums) (by omega);have rg:=ma (n:=nums.length) (by omega);have ll:((aA "order" nums).map liV).length<=16777216:=by rw[e_];omega
  have lm:((nums.map Val.int).length:Nat)=nums.length:=e_ ..;show bz.G [.lst (nums.map .int),.str "order"]=_;unfold bz;rw[bP];unfold eM;simp![ya,lm,rg,bu,lc,ll]
 .match nums,h2 with
  |
   x::ah,h2=>
   rw[p_] at hl;obtain⟨s',q4⟩:=iF (B:=gq) rfl (nv:=.lst ((x::ah).map .int)) (kv:=.str "any") ah [[x]] .no rfl (by have:2^ah.length<=2^9:=Bn (by decide) (by omega);simp;omega) (by intro l hl';rw[Ba] at hl';subst hl';simp;omega);have s1:aSl (.lst (Val.int x::ah.map .int)) none (some 1)=.new (liV [x]):=by rw[gK,show (some 1:Option Int)=some ((1:Nat):Int) from rfl,kr];rfl
   have s2:aSl (.lst (Val.int x::ah.map .int)) (some 1) none=.new (.lst (ah.map .int)):=by rw[gK,show (some 1:Option Int)=some ((1:Nat):Int) from rfl,sv];rfl
   have s3:aSl (.lst ((bI [[x]] ah).map liV)) none (some (-1))=.new (.lst ((aA "any" (x::ah)).map liV)):=by rw[gK,vX];unfold aA;rw[if_neg (by decide),List.map_dropLast]
   show bz.G [.lst ((x::ah).map .int),.str "any"]=_;unfold bz;rw[bP];unfold eM;rw[show [[x]].map liV=[liV [x]] from rfl,show (x::ah).map Val.int=Val.int x::ah.map Val.int from rfl] at q4;simp![xG,s1,s2,q4,s3]
def nF(nums l:List Int)(hl:nums.length<=1000):∃s,lcV (gtN 0).G (qOf (pOp fX (af 0) (af 1))).G (af 0).G (nums.map .int) [] [.no,.sh (liV l)]=.ok ((rst nums l).map .int) [s,.sh (liV l)]:=by
 obtain⟨e',⟨s,rfl,_⟩,lc⟩:=fq (g:=(gtN 0).G) (c:=(qOf (pOp fX (af 0) (af 1))).G) (F:=(af 0).G) (λx=>!l.contains x) Val.int Val.int (λe=>∃s,e=[s,.sh (liV l)]/\s.pl=true) nums [] [.no,.sh (liV l)] ⟨.no,rfl,rfl⟩ (by
  rintro x hx e ⟨s,rfl,hs⟩;have k1:fX.G (.int x) (liV l)=.val (.bl (!l.contains x)):=qu l x;refine⟨[.sh (.int x),.sh (liV l)],[.sh (.int x),.sh (liV l)],?_,?_,⟨_,rfl,rfl⟩,λ_=>⟨.val (.int x),[.sh (.int x),.sh (liV l)],?_,rfl,⟨_,rfl,rfl⟩⟩⟩
  .simp![hs]
  .simp![k1]
  .simp![eh]) (by rw[AR];omega)
 rw[AU] at lc;exact⟨s,lc⟩
def xD{nums l:List Int}{kv:Val}{acc:List (Str×List Int×List Int)}{s4:Sl}(h4:s4.pl=true)(hl:nums.length<=1000)(ha:acc.length<=1000000):cS.G [.sh (liV nums),.sh kv,.ow (.lst (acc.map cuV)),.sh (liV l),s4]=.nx [.sh (liV nums),.sh kv,.ow (.lst ((acc++bp nums l).map cuV)),.sh (liV l),.sh (.str "down")]:=by
 obtain⟨s,lc⟩:=nF nums l hl;have lr:((rst nums l).map Val.int).length<=16777216:=by
  rw[e_]
  have:=B3 (λx=>!l.contains x) nums
  show (nums.filter _).length<=_;omega
 have it:(liV l).items=some (l.map .int):=rfl;have sq:bU (.val (.lst (nums.map .int)))=bU (.val (liV nums)):=rfl;have b1:∀(acc:List (Str×List Int×List Int)) (way:Str),acc.length<=1000001->eB.G [.sh (liV nums),.sh kv,.ow (.lst (acc.map cuV)),.sh (liV l),.sh (.str way)]=.nx [.sh (liV nums),.sh kv,.ow (.lst ((acc++[(way,l,rst nums l)]).map cuV)),.sh (liV l),.sh (.str way)]:=by
  intro acc way ha;have la:(acc.map cuV).length<16777216:=by rw[e_];omega
  have e2:(acc++[(way,l,rst nums l)]).map cuV=acc.map cuV++[.tup [.str way,.lst (l.map .int),.lst ((rst nums l).map .int)]]:=by rw[AX];rfl
  rw[e2];unfold eB;unfold liV at lc ⊢;simp![gA,bu,lc,lr,la]
 unfold cS;have e3:acc++bp nums l=(acc++[(("across" : Str),l,rst nums l)])++[(("down" : Str),l,rst nums l)]:=by unfold bp;simp
 rw[e3];have c1:=b1 acc "across" (by omega);have c2:=b1 (acc++[(("across" : Str),l,rst nums l)]) "down" (by rw[k_];show acc.length+1<=_;omega);simp![bB,h4,c1,c2]
def mS{nums:List Int}{kind:Str}(hk:kind="order" \/ kind="any")(h2:nums≠[])(hl:nums.length<=10):cH.G [liV nums,.str kind]=.ok (.new (.lst ((aX kind nums).map cuV))) []:=by
 have lo:=mT hk h2 hl;have ln:=ee (kind:=kind) hl;have fold:∀(ls:List (List Int)) (acc:List (Str×List Int×List Int)) (s3 s4:Sl),s3.pl=true->s4.pl=true->acc.length+2*ls.length<=1000000->∃s3' s4',bW (gtN 3).G cS.G (ls.map liV) [.sh (liV nums),.sh (.str kind),.ow (.lst (acc.map cuV)),s3,s4]=.nx [.sh (liV nums),.sh (.str kind),.ow (.lst ((acc++ls.flatMap (bp nums)).map cuV)),s3',s4']:=by
  intro ls;induction ls with
  |nil=>intro acc s3 s4 _ _ _;exact⟨s3,s4,by rw[AZ,d4,List.flatMap_nil,AN]⟩
  |
   cons l ls ih=>
   intro acc s3 s4 h3 h4 hb;rw[p_] at hb;have g1:(gtN 3).G (liV l) [.sh (liV nums),.sh (.str kind),.ow (.lst (acc.map cuV)),s3,s4]=some [.sh (liV nums),.sh (.str kind),.ow (.lst (acc.map cuV)),.sh (liV l),s4]:=by simp![h3]
   have b2:=xD (kv:=.str kind) (nums:=nums) (l:=l) (acc:=acc) h4 (by omega) (by omega);obtain⟨t3,t4,q⟩:=ih (acc++bp nums l) (.sh (liV l)) (.sh (.str "down")) rfl rfl (by rw[k_];show acc.length+2+_<=_;omega);refine⟨t3,t4,?_⟩;rw[n_,bB,g1];simp only[b2,ft];rw[q,BE,A6]
 obtain⟨s3,s4,fr⟩:=fold (aA kind nums) [] .no .no rfl rfl (by rw[AR];omega);rw[AU,AZ] at fr;unfold cH aX;rw[bP];unfold iE;simp![lo,fr]
def pD:cj.G [.exc "NoKind"]=.ok (.val (.str "kind")) []:=by have i0:(ak aw).G [.exc "NoKind",.glb "NoBox"]=.val (.bl false):=rfl;have i1:(ak aw).G [.exc "NoKind",.glb "NoWeights"]=.val (.bl false):=rfl;have i2:(ak aw).G [.exc "NoKind",.glb "TooMany"]=.val (.bl false):=rfl;have i3:(ak aw).G [.exc "NoKind",.glb "NoKind"]=.val (.bl true):=rfl;have i4:(ak aw).G [.exc "NoKind",.glb "NoRule"]=.val (.bl false):=rfl;have i5:(ak aw).G [.exc "NoKind",.glb "NoThing"]=.val (.bl false):=rfl;have i6:(ak aw).G [.exc "NoKind",.glb "NoCut"]=.val (.bl false):=rfl;have i7:(ak aw).G [.exc "NoKind",.glb "NoText"]=.val (.bl false):=rfl;have i8:(ak aw).G [.exc "NoKind",.glb "NoRow"]=.val (.bl false):=rfl;have i9:(ak aw).G [.exc "NoKind",.glb "NoName"]=.val (.bl false):=rfl;have i10:(ak aw).G [.exc "NoKind",.glb "Taken"]=.val (.bl false):=rfl;have i11:(ak aw).G [.exc "NoKind",.glb "Unknown"]=.val (.bl false):=rfl;have i12:(ak aw).G [.exc "NoKind",.glb "NoFraction"]=.val (.bl false):=rfl;have i13:(ak aw).G [.exc "NoKind",.glb "NoWay"]=.val (.bl false):=rfl;have i14:(ak aw).G [.exc "NoKind",.glb "NoTree"]=.val (.bl false):=rfl;have iv:(ak aw).G [.exc "NoKind",.ty "ValueError"]=.val (.bl true):=rfl;have ct:il.G (.lst [.bl false,.bl false,.bl false,.bl true,.bl false,.bl false,.bl false,.bl false,.bl false,.bl false,.bl false,.bl false,.bl false,.bl false,.bl false]) [.bl true]=.val (.int 1):=rfl;have ix:iw.G (.lst [.bl false,.bl false,.bl false,.bl true,.bl false,.bl false,.bl false,.bl false,.bl false,.bl false,.bl false,.bl false,.bl false,.bl false,.bl false]) [.bl true]=.val (.int 3):=rfl;unfold cj;rw[bP];unfold gm;simp![i0,i1,i2,i3,i4,i5,i6,i7,i8,i9,i10,i11,i12,i13,i14,iv,ct,ix]
def uQ{k:Str}(h:(lkS aR k).isSome=true):aZ.G [.str k]=.ok (.val .non) []:=by have i1:(ak aw).G [.str k,.ty "str"]=.val (.bl true):=rfl;unfold aZ;rw[bP];unfold dh;simp![i1,nY,h]
def rN{k:Str}(h:(lkS aR k).isSome=false):aZ.G [.str k]=.exc "NoKind" []:=by have i1:(ak aw).G [.str k,.ty "str"]=.val (.bl true):=rfl;unfold aZ;rw[bP];unfold dh;simp![i1,nY,h]
def ko{nums:List Int}{kind:Str}(hk:kind="order" \/ kind="any")(h2:nums≠[])(hl:nums.length<=10):aJ.G [liV nums,.str kind]=.ok (.new (.lst ((aX kind nums).map cuV))) []:=by have ck:=uQ (k:=kind) (by rcases hk with rfl |rfl <;> decide +kernel);have ce:=mS hk h2 hl;unfold aJ;rw[bP];unfold c4;generalize liV nums=nv at *;simp![ck,ce]
def mD{nums:List Int}{k:Str}(h:(lkS aR k).isSome=false):bD.G [liV nums,.str k]=.ok (.val (.bl true)) []:=by
 have ck:=rN h;have fc:aJ.G [liV nums,.str k]=.exc "NoKind" []:=by unfold aJ;rw[bP];unfold c4;simp![ck]
 have mc:(Str.ofString "NoKind")∈cM:=by decide
 have se:aW (.str (Str.ofString "kind")) (.str (Str.ofString "kind"))=some true:=by rw[L3.eq_str (by decide) (by decide)];exact A0 some (by decide)
 unfold bD;rw[bP];unfold eF;generalize liV nums=nv at *;simp![kK,fc,mc,pD,se]
noncomputable def sel:List Int->Nat->List Int
 | [],_=>[]
 |x::xs,p=>(if p % 2=1 then [x] else [])++sel xs (p/2)
noncomputable def fK (p k:Nat):Bool:=decide (p/2^k % 2=1)
theorem oT:∀(nums:List Int) (p:Nat),((List.range nums.length).filter (fK p)).map (λk=>nums.getD k 0)=sel nums p
 | [],p=>rfl
 |
  x::xs,p=>by
  rw[p_,List.range_succ_eq_map,List.filter_cons,List.filter_map];have ih:=oT xs (p/2);have e:(fK p ∘ Nat.succ)=fK (p/2):=by funext k;show decide (p/2^(k+1) % 2=1)=decide (p/2/2^k % 2=1);rw[Nat.div_div_eq_div_mul,Ca,BS]
  rw[e];unfold sel;rw[<- ih];have b0:fK p 0=decide (p % 2=1):=by unfold fK;rw[Nat.pow_zero,Nat.div_one]
  rw[b0];by_cases h:p % 2=1
  .rw[if_pos (by simpa using h),if_pos h,n_,Bo];rfl
  .rw[if_neg (by simpa using h),if_neg h,Bo];rfl
theorem jY{α:Type}(f:Nat->List α):∀k:Nat,(List.range (2*k)).flatMap f=(List.range k).flatMap λi=>f (2*i)++f (2*i+1)
 |0=>rfl
 |
  k+1=>by
  rw[show 2*(k+1)=2*k+1+1 by omega,Bf,Bf,BO,BO,jY f k,Bf,BO];simp [A6]
theorem iC:∀(ah:List Int) (L:List (List Int)),bI L ah=(List.range (2^ah.length)).flatMap λq=>L.map λl=>l++sel ah q
 |
  [],L=>by
  unfold bI;show L=(List.range 1).flatMap _;rw[show List.range 1=[0] from rfl,BE,List.flatMap_nil,AN];unfold sel;simp
 |
  y::ah,L=>by
  unfold bI;rw[iC ah,p_,Ca,BS,jY];congr 1;funext i;have e1:sel (y::ah) (2*i)=sel ah i:=by rw[sel,if_neg (by omega),show 2*i/2=i by omega];rfl
  have e2:sel (y::ah) (2*i+1)=y::sel ah i:=by rw[sel,if_pos (by omega),show (2*i+1)/2=i by omega];rfl
  rw[e1,e2,AX,Bo];congr 1;refine List.map_congr_left λl _=>?_;show l++[y]++sel ah i=_;rw[A6];rfl
noncomputable def cC (p:Nat):Bool:=decide (p % 2=1)
theorem lU:∀k:Nat,(List.range (2*k+1)).filter cC=(List.range k).map λi=>2*i+1
 |0=>rfl
 |
  k+1=>by
  rw[show 2*(k+1)+1=2*k+1+1+1 by omega,Bf,Bf,List.filter_append,List.filter_append,lU k,Bf,AX];have h1:cC (2*k+1)=true:=Bb (by omega);have h2:cC (2*k+1+1)=false:=AO (by omega);rw[Bx h1,Bw (by rw[h2];exact h_),List.filter_nil,AN];rfl
def vb{nums:List Int}(h:nums≠[]):((List.range (2^nums.length-1)).filter cC).map (sel nums)=aA "any" nums:=by
 match nums,h with
 |
  x::ah,_=>
  unfold aA;rw[if_neg (by decide)];show _=(bI [[x]] ah).dropLast;rw[iC];have hk:1<=2^ah.length:=BU;obtain⟨k,e⟩:∃k,2^ah.length=k+1:=⟨2^ah.length-1,by omega⟩;rw[p_,Ca,e,show (k+1)*2-1=2*k+1 by omega,lU,Bo,Bf,BO];show _=(List.flatMap _ (List.range k)++[[x]++sel ah k]).dropLast;rw[List.dropLast_concat];have e2:∀i,sel (x::ah) (2*i+1)=[x]++sel ah i:=λi=>by rw[sel,if_pos (by omega),show (2*i+1)/2=i by omega]
  induction List.range k with
  |nil=>rfl
  |cons i l ih=>rw[n_,BE,<- ih];show sel (x::ah) (2*i+1)::_=_;rw[e2];rfl
def fm2(n:Nat):((((n:Nat):Int).fmod 2)==1)=cC n:=by rw[Int.fmod_eq_emod_of_nonneg _ (by decide)];unfold cC;rw[Bool.eq_iff_iff,AQ,decide_eq_true_iff];omega
def xW(p k:Nat):((((((p:Nat):Int).fdiv (1*2^k)).fmod 2))==1)=fK p k:=by
 have e:(1:Int)*2^k=((2^k:Nat):Int):=by rw[Int.one_mul];norm_cast
 rw[e,Int.fdiv_eq_ediv_of_nonneg _ (Int.natCast_nonneg _),<- Int.natCast_ediv];exact fm2 (p/2^k)
def jz{k:Nat}(h:k<=10):2^k<=1024:=Bn (by decide) (n:=2) h
def vG(nums:List Int)(hl:nums.length<=10)(p:Nat):∃s,lcV (gtN 0).G (qOf (pOp bEq (pOp bq (pOp cK (af 2) (pOp iu (aj 1) (af 0))) (aj 2)) (aj 1))).G (pOp bIx (af 1) (af 0)).G (rgV nums.length) [] [.no,.sh (.lst (nums.map .int)),.sh (.int (p:Nat))]=.ok ((sel nums p).map .int) [s,.sh (.lst (nums.map .int)),.sh (.int (p:Nat))]:=by
 obtain⟨e',⟨s,rfl,_⟩,lc⟩:=fq (g:=(gtN 0).G) (c:=(qOf (pOp bEq (pOp bq (pOp cK (af 2) (pOp iu (aj 1) (af 0))) (aj 2)) (aj 1))).G) (F:=(pOp bIx (af 1) (af 0)).G) (fK p) (λk:Nat=>Val.int (k:Nat)) (λk=>Val.int (nums.getD k 0)) (λe=>∃s,e=[s,.sh (.lst (nums.map .int)),.sh (.int (p:Nat))]/\s.pl=true) (List.range nums.length) [] [.no,.sh (.lst (nums.map .int)),.sh (.int (p:Nat))] ⟨.no,rfl,rfl⟩ (by
  rintro k hk e ⟨s,rfl,hs⟩;have kl:=List.mem_range.mp hk;have sh:=sY (i:=1) (j:=(k:Nat)) ⟨by omega,by omega,by decide⟩;rw[show ((k:Nat):Int).toNat=k from rfl] at sh;obtain⟨g,hg⟩:∃g:Nat,g=2^k:=⟨_,rfl⟩;have pl:g<=1024:=hg ▸ jz (k:=k) (by omega);have p1:1<=g:=hg ▸ BU;have e2:(1:Int)*2^k=((g:Nat):Int):=by rw[hg,Int.one_mul];norm_cast
  have dv:cK.G (.int (p:Nat)) (.int (1*2^k))=.val (.int (((p:Nat):Int).fdiv (1*2^k))):=jl (CDivB.of (by rw[e2];omega) (sm8 (by rw[e2];omega)));have md:∀i:Int,bq.G (.int i) (.int 2)=.val (.int (i.fmod 2)):=λi=>dj (by decide);have at1:atI (nums.map Val.int) (k:Nat)=some (.int (nums.getD k 0)):=bQ (by omega) (by rw[show ((k:Nat):Int).toNat=k from rfl,x_,o_ kl,List.getD_eq_getElem?_getD,o_ kl];rfl);refine⟨[.sh (.int (k:Nat)),.sh (.lst (nums.map .int)),.sh (.int (p:Nat))],[.sh (.int (k:Nat)),.sh (.lst (nums.map .int)),.sh (.int (p:Nat))],?_,?_,⟨_,rfl,rfl⟩,λ_=>⟨.val (.int (nums.getD k 0)),[.sh (.int (k:Nat)),.sh (.lst (nums.map .int)),.sh (.int (p:Nat))],?_,rfl,⟨_,rfl,rfl⟩⟩⟩
  .simp![hs]
  .simp![sh,dv,md,xW]
  .simp![at1]) (by rw[AR,BY];omega)
 rw[AU] at lc;refine⟨s,?_⟩;rw[show rgV nums.length=(List.range nums.length).map λk:Nat=>Val.int (k:Nat) from rfl,lc,<- oT,Bo];rfl
theorem lZ:∀(nums:List Int) (p:Nat),(sel nums p).length<=nums.length
 | [],p=>r_ _
 |
  x::xs,p=>by
  rw[sel,k_,p_]
  have:=lZ xs (p/2)
  by_cases h:p % 2=1
  .rw[if_pos h,Bm];omega
  .rw[if_neg h,AR];omega
def qP{nums:List Int}{kv:Val}(hl:nums.length<=10){m:Nat}(hm:m<=2000):∃s3:Sl,s3.pl=true/\bW (gtN 3).G cm.G (rgV m) [.sh (.lst (nums.map .int)),.sh kv,.ow (.lst []),.no,.no,.no,.no]=.nx [.sh (.lst (nums.map .int)),.sh kv,.ow (.lst ((((List.range m).filter cC).map (sel nums)).map liV)),s3,.no,.no,.no]:=by
 obtain⟨e',⟨s3,h3,rfl⟩,q⟩:=gd (g:=(gtN 3).G) (B:=cm.G) (λi e=>∃s3:Sl,s3.pl=true/\e=[.sh (.lst (nums.map .int)),.sh kv,.ow (.lst ((((List.range i).filter cC).map (sel nums)).map liV)),s3,.no,.no,.no]) m (e:=[.sh (.lst (nums.map .int)),.sh kv,.ow (.lst []),.no,.no,.no,.no]) ⟨.no,rfl,rfl⟩ (by
  rintro i hi _ ⟨s3,h3,rfl⟩;obtain⟨s,lc⟩:=vG nums hl i;have rg:cL [.int (nums.length:Nat)]=some (rgV nums.length):=dY (by omega);have lm:((nums.map Val.int).length:Nat)=nums.length:=e_ ..;have md:bq.G (.int (i:Nat)) (.int 2)=.val (.int (((i:Nat):Int).fmod 2)):=dj (by decide);have ls:((sel nums i).map Val.int).length<=16777216:=by
   have:=lZ nums i
   rw[e_];omega
  have la:((((List.range i).filter cC).map (sel nums)).map liV).length<16777216:=by
   have:=B3 cC (List.range i)
   rw[BY] at this;rw[e_,e_];omega
  rw[Bf,List.filter_append,AX,AX];cases ho:cC i with
  |
   true=>
   refine⟨[.sh (.lst (nums.map .int)),.sh kv,.ow (.lst ((((List.range i).filter cC).map (sel nums)).map liV)),.sh (.int (i:Nat)),.no,.no,.no],_,?_,.inl ?_,.sh (.int (i:Nat)),rfl,rfl⟩
   .generalize nums.map Val.int=nv at *;simp![h3]
   .rw[Bx ho,List.filter_nil];unfold cm liV at *;generalize nums.map Val.int=nv at *;simp![lm,rg,md,fm2,ho,bu,lc,ls,la]
  |
   false=>
   refine⟨[.sh (.lst (nums.map .int)),.sh kv,.ow (.lst ((((List.range i).filter cC).map (sel nums)).map liV)),.sh (.int (i:Nat)),.no,.no,.no],_,?_,.inl ?_,.sh (.int (i:Nat)),rfl,rfl⟩
   .generalize nums.map Val.int=nv at *;simp![h3]
   .rw[Bw (by rw[ho];exact h_),List.filter_nil,AZ,AZ,AN];unfold cm;generalize nums.map Val.int=nv at *;simp![md,fm2,ho])
 exact⟨s3,h3,q⟩
def wN{nums l:List Int}{kv lv:Val}{s3:Sl}{acc:List (Str×List Int×List Int)}{s6:Sl}(h6:s6.pl=true)(hl:nums.length<=1000)(ha:acc.length<=1000000):cQ.G [.sh (liV nums),.sh kv,.lo lv,s3,.ow (.lst (acc.map cuV)),.sh (liV l),s6]=.nx [.sh (liV nums),.sh kv,.lo lv,s3,.ow (.lst ((acc++bp nums l).map cuV)),.sh (liV l),.sh (.str "down")]:=by
 obtain⟨s,lc⟩:=nF nums l hl;have lr:((rst nums l).map Val.int).length<=16777216:=by
  rw[e_]
  have:=B3 (λx=>!l.contains x) nums
  show (nums.filter _).length<=_;omega
 have b1:∀(acc:List (Str×List Int×List Int)) (way:Str),acc.length<=1000001->eA.G [.sh (liV nums),.sh kv,.lo lv,s3,.ow (.lst (acc.map cuV)),.sh (liV l),.sh (.str way)]=.nx [.sh (liV nums),.sh kv,.lo lv,s3,.ow (.lst ((acc++[(way,l,rst nums l)]).map cuV)),.sh (liV l),.sh (.str way)]:=by
  intro acc way ha;have la:(acc.map cuV).length<16777216:=by rw[e_];omega
  have e2:(acc++[(way,l,rst nums l)]).map cuV=acc.map cuV++[.tup [.str way,.lst (l.map .int),.lst ((rst nums l).map .int)]]:=by rw[AX];rfl
  rw[e2];unfold eA;unfold liV at lc ⊢;simp![gA,bu,lc,lr,la]
 unfold cQ;have e3:acc++bp nums l=(acc++[(("across" : Str),l,rst nums l)])++[(("down" : Str),l,rst nums l)]:=by unfold bp;simp
 rw[e3];have c1:=b1 acc "across" (by omega);have c2:=b1 (acc++[(("across" : Str),l,rst nums l)]) "down" (by rw[k_];show acc.length+1<=_;omega);simp![bB,h6,c1,c2]
def jL{nums:List Int}{kv lv:Val}{s3:Sl}(hl:nums.length<=1000):∀(ls:List (List Int)) (acc:List (Str×List Int×List Int)) (s5 s6:Sl),s5.pl=true->s6.pl=true->acc.length+2*ls.length<=1000000->∃s5' s6',bW (gtN 5).G cQ.G (ls.map liV) [.sh (liV nums),.sh kv,.lo lv,s3,.ow (.lst (acc.map cuV)),s5,s6]=.nx [.sh (liV nums),.sh kv,.lo lv,s3,.ow (.lst ((acc++ls.flatMap (bp nums)).map cuV)),s5',s6']:=by
 intro ls;induction ls with
 |nil=>intro acc s5 s6 _ _ _;exact⟨s5,s6,by rw[AZ,d4,List.flatMap_nil,AN]⟩
 |
  cons l ls ih=>
  intro acc s5 s6 h5 h6 hb;rw[p_] at hb;have g1:(gtN 5).G (liV l) [.sh (liV nums),.sh kv,.lo lv,s3,.ow (.lst (acc.map cuV)),s5,s6]=some [.sh (liV nums),.sh kv,.lo lv,s3,.ow (.lst (acc.map cuV)),.sh (liV l),s6]:=by simp![h5]
  have b2:=wN (kv:=kv) (lv:=lv) (s3:=s3) (nums:=nums) (l:=l) (acc:=acc) h6 hl (by omega);obtain⟨t5,t6,q⟩:=ih (acc++bp nums l) (.sh (liV l)) (.sh (.str "down")) rfl rfl (by rw[k_];show acc.length+2+_<=_;omega);refine⟨t5,t6,?_⟩;rw[n_,bB,g1];simp only[b2,ft];rw[q,BE,A6]
def xB:aW (.str "order") (.str "any")=some false:=by rw[L3.eq_str (by decide) (by decide)];exact A0 some (by decide)
def wX:aW (.str "any") (.str "any")=some true:=by rw[L3.eq_str (by decide) (by decide)];exact A0 some (by decide)
def nJ{nums:List Int}{kind:Str}(hk:kind="order" \/ kind="any")(h2:nums≠[])(hl:nums.length<=10):aP.G [liV nums,.str kind]=.ok (.new (.lst ((aX kind nums).map cuV))) []:=by
 have ln:=ee (kind:=kind) hl;obtain⟨s,lc⟩:=l0 (nums:=nums) (by omega);have rg:=ma (n:=nums.length) (by omega);have ll:((aA "order" nums).map liV).length<=16777216:=by
  have:=ee (kind:="order") hl
  rw[e_];omega
 have lm:((nums.map Val.int).length:Nat)=nums.length:=e_ ..;unfold aX;rcases hk with rfl |rfl
 .obtain⟨s5,s6,dc⟩:=jL (kv:=.str "order") (lv:=.lst ((aA "order" nums).map liV)) (s3:=.no) (nums:=nums) (by omega) (aA "order" nums) [] .no .no rfl rfl (by rw[AR];omega);rw[AU,AZ] at dc;show aP.G [.lst (nums.map .int),.str "order"]=_;unfold aP;rw[bP];unfold eU;rw[show liV nums=.lst (nums.map .int) from rfl] at dc;generalize nums.map Val.int=nv at *;have k1:lock [.sh (.lst nv),.sh (.str "order"),.ow (.lst ((aA "order" nums).map liV)),.no,.ow (.lst []),.no,.no] 2=[.sh (.lst nv),.sh (.str "order"),.lo (.lst ((aA "order" nums).map liV)),.no,.ow (.lst []),.no,.no]:=rfl;have k2:unlock [.sh (.lst nv),.sh (.str "order"),.lo (.lst ((aA "order" nums).map liV)),.no,.ow (.lst (((aA "order" nums).flatMap (bp nums)).map cuV)),s5,s6] 2=[.sh (.lst nv),.sh (.str "order"),.ow (.lst ((aA "order" nums).map liV)),.no,.ow (.lst (((aA "order" nums).flatMap (bp nums)).map cuV)),s5,s6]:=rfl;simp![lm,rg,bu,lc,ll,xB,k1,dc,k2]
 .have pl:=jz hl;have p1:1<=2^nums.length:=BU;obtain⟨s3,h3,dl⟩:=qP (kv:=.str "any") hl (m:=2^nums.length-1) (by omega);rw[vb h2] at dl;have sh:=sY (i:=1) (j:=(nums.length:Nat)) ⟨by omega,by omega,by decide⟩;rw[show ((nums.length:Nat):Int).toNat=nums.length from rfl] at sh;have e2:(1:Int)*2^nums.length-1=((2^nums.length-1:Nat):Int):=by
   have e:(1:Int)*2^nums.length=((2^nums.length:Nat):Int):=by rw[Int.one_mul];norm_cast
   omega
  have rg1:cL [.int (1*2^nums.length-1)]=some (rgV (2^nums.length-1)):=by rw[e2];exact dY (by omega)
  obtain⟨s5,s6,dc⟩:=jL (kv:=.str "any") (lv:=.lst ((aA "any" nums).map liV)) (s3:=s3) (nums:=nums) (by omega) (aA "any" nums) [] .no .no rfl rfl (by rw[AR];omega);rw[AU,AZ] at dc;show aP.G [.lst (nums.map .int),.str "any"]=_;unfold aP;rw[bP];unfold eU;rw[show liV nums=.lst (nums.map .int) from rfl] at dc;generalize nums.map Val.int=nv at *;have k1:lock [.sh (.lst nv),.sh (.str "any"),.ow (.lst ((aA "any" nums).map liV)),s3,.ow (.lst []),.no,.no] 2=[.sh (.lst nv),.sh (.str "any"),.lo (.lst ((aA "any" nums).map liV)),s3,.ow (.lst []),.no,.no]:=rfl;have k2:unlock [.sh (.lst nv),.sh (.str "any"),.lo (.lst ((aA "any" nums).map liV)),s3,.ow (.lst (((aA "any" nums).flatMap (bp nums)).map cuV)),s5,s6] 2=[.sh (.lst nv),.sh (.str "any"),.ow (.lst ((aA "any" nums).map liV)),s3,.ow (.lst (((aA "any" nums).flatMap (bp nums)).map cuV)),s5,s6]:=rfl;simp![lm,rg,bu,lc,ll,wX,sh,rg1,dl,k1,dc,k2]
def zM:cL [.int 5]=some [.int 0,.int 1,.int 2,.int 3,.int 4]:=lA (i:=5) (by decide) (by decide)
def yF{n:Nat}{v:Val}(f:Fd n v)(hn:n<=900000000):∃r v',aY.G [v,.int 5]=.ok (.val (.int r)) [v']/\Fd (n+5) v'/\0<=r:=by have s:Sm 8000 100000:=sm8 (by decide);obtain⟨r1,v1,e1,f1,a1,_⟩:=aM (m:=100000) f (by omega) (by decide) s;obtain⟨r2,v2,e2,f2,a2,_⟩:=aM (m:=100000) f1 (by omega) (by decide) s;obtain⟨r3,v3,e3,f3,a3,_⟩:=aM (m:=100000) f2 (by omega) (by decide) s;obtain⟨r4,v4,e4,f4,a4,_⟩:=aM (m:=100000) f3 (by omega) (by decide) s;obtain⟨r5,v5,e5,f5,a5,_⟩:=aM (m:=100000) f4 (by omega) (by decide) s;have c6:∀x:Int,bC.G (.int x) (.int 100000)=.val (.int (x*100000)):=λx=>cP (CMulA.right (by decide) (by decide));refine⟨(((((0*100000+r1)*100000+r2)*100000+r3)*100000+r4)*100000+r5),v5,?_,f5.mono (by omega),by omega⟩;unfold aY;rw[bP];unfold dJ cW;simp![zM,bB,c6,e1,e2,e3,e4,e5]
def gg(l:List Int)(k:Nat):wfV (k+1) (liV l)=true:=by show bF k (l.map .int)=true;rw[fM,List.all_map,AK];intro _ _;cases k <;> rfl
def yo(l:List Int):aW (liV l) (liV l)=some true:=by rw[tW (gg l 59) (gg l 59),gZ 60 _ (gg l 59)]
def mm{nums:List Int}{kind:Str}(nd:nums.Nodup):aW (.lst ((aX kind nums).map cuV)) (.lst ((aX kind nums).map cuV))=some true:=by
 have w:wfV 60 (.lst ((aX kind nums).map cuV))=true:=by
  show bF 59 _=true;rw[fM,List.all_map,AK];intro c hc;have hs:PyData.strOk c.1=true:=by rcases (ml nd hc).way with e |e <;> (rw[e];decide +kernel)
  show bF 58 [.str c.1,liV c.2.1,liV c.2.2]=true;simp only[bF,wfV,gg,hs,Bool.and_self]
 rw[tW w w,gZ 60 _ w]
def vm{nums:List Int}{kind:Str}(h:nums.length<=6):(aA kind nums).length<=64:=by
 unfold aA;split
 .rw[e_,List.length_range'];omega
 .split
  .simp
  .rename_i x ah;rw[p_] at h;rw[List.length_dropLast,eK];have:2^ah.length<=2^5:=Bn (by decide) (by omega);simp;omega
structure NumOk(ns:List Int):Prop where
 nd:ns.Nodup
 two:2<=ns.length
 six:ns.length<=6
def vn{x0 x1 x2 x4 x7 x8:Sl}{nums:List Int}{kind:Str}(hk:kind="order" \/ kind="any")(N:NumOk nums)(h7:x7.pl=true)(h8:x8.pl=true):(fo 7 8 6 5 aJ (qO (qNo (qOf (pFn (ak aw) (aa (af 7) (aa (pTy "list") ag))))) (qO (qOf (pOp bNe (af 7) (aF aP (aa (af 3) (aa (af 5) ag))))) (qOf (pOp bNe (af 6) (af 3)))))).G [x0,x1,x2,.sh (liV nums),x4,.sh (.str kind),.sh (liV nums),x7,x8]=.nx [x0,x1,x2,.sh (liV nums),x4,.sh (.str kind),.sh (liV nums),.ow (.lst []),.no]:=by
 have ne:nums≠[]:=λz=>by have:=N.two;rw[z] at this;exact absurd this (by decide)
 have fe:=ko hk ne (AJ N.six (by decide));have de:=nJ hk ne (AJ N.six (by decide));have ec:=mm (kind:=kind) N.nd;have el:=yo nums;have cl:((aX kind nums).map cuV).length<=1000:=by
  rw[e_];unfold aX;have h1:∀ls:List (List Int),(ls.flatMap (bp nums)).length=2*ls.length:=λls=>by
   induction ls with
   |nil=>rfl
   |cons l ls ih=>rw[BE,k_,ih,p_];show 2+_=_;omega
  rw[h1]
  have:=vm (kind:=kind) N.six
  omega
 have al:((aX kind nums).map cuV).all (eE (nums.map Val.int).length)=true:=by rw[List.all_map,AK];intro c hc;have co:=ml N.nd hc;have l1:=co.one.lt;have l2:=co.two.lt;have h6:=N.six;show eE _ (.tup [.str c.1,.lst (c.2.1.map .int),.lst (c.2.2.map .int)])=true;unfold eE;simp only[bK,Option.isSome_some,Bool.true_and,i_,BZ,e_];omega
 have i1:(ak aw).G [.lst ((aX kind nums).map cuV),.ty "list"]=.val (.bl true):=rfl;have cd:(qO (qNo (qOf (pFn (ak aw) (aa (af 7) (aa (pTy "list") ag))))) (qO (qOf (pOp bNe (af 7) (aF aP (aa (af 3) (aa (af 5) ag))))) (qOf (pOp bNe (af 6) (af 3))))).G [aG x0,aG x1,aG x2,.sh (liV nums),aG x4,.sh (.str kind),.sh (liV nums),.lo (.lst ((aX kind nums).map cuV)),aG x8]=.ok false [aG x0,aG x1,aG x2,.sh (liV nums),aG x4,.sh (.str kind),.sh (liV nums),.lo (.lst ((aX kind nums).map cuV)),aG x8]:=by generalize aG x0=y0;generalize aG x1=y1;generalize aG x2=y2;generalize aG x4=y4;generalize aG x8=y8;generalize hL:liV nums=nv at *;generalize hC:(aX kind nums).map cuV=cv at *;simp![i1,de,ec,el]
 rw[xF];show (if _ then _ else _)=_;rw[if_pos ⟨h7,h8,by rw[bK];rfl⟩];rw[show (Val.lst (nums.map .int))=liV nums from rfl,fe];show (if _ then _ else _)=_;rw[if_pos ⟨al,cl⟩];rw[show lockA (List.set [x0,x1,x2,.sh (liV nums),x4,.sh (.str kind),.sh (liV nums),x7,x8] 7 (.ow (.lst ((aX kind nums).map cuV))))=[aG x0,aG x1,aG x2,.sh (liV nums),aG x4,.sh (.str kind),.sh (liV nums),.lo (.lst ((aX kind nums).map cuV)),aG x8] from rfl,cd];rfl
def lJ{x0 x1 x2 x3 x4 x6 x7 x8:Sl}{nums:List Int}{kind:Str}(hk:kind="order" \/ kind="any")(N:NumOk nums)(h3:x3=.ow (liV nums)\/x3=.sh (liV nums))(h6:x6.pl=true)(h7:x7.pl=true)(h8:x8.pl=true):jF.G [x0,x1,x2,x3,x4,.sh (.str kind),x6,x7,x8]=.nx [x0,x1,x2,.sh (liV nums),x4,.sh (.str kind),.sh (liV nums),.ow (.lst []),.no]:=by
 have ne:nums≠[]:=λz=>by have:=N.two;rw[z] at this;exact absurd this (by decide)
 have fe:=ko hk ne (AJ N.six (by decide));have de:=nJ hk ne (AJ N.six (by decide));have ec:=mm (kind:=kind) N.nd;have ru:=vn (x0:=x0) (x1:=x1) (x2:=x2) (x4:=x4) hk N h7 h8;have it:(liV nums).items=some (nums.map .int):=rfl;have lv:Val.lst (nums.map .int)=liV nums:=rfl;have dm:(fN 3).G [x0,x1,x2,x3,x4,.sh (.str kind),.sh (liV nums),x7,x8]=.nx [x0,x1,x2,.sh (liV nums),x4,.sh (.str kind),.sh (liV nums),x7,x8]:=by
  rcases h3 with rfl |rfl
  .rw[oa rfl];rfl
  .rw[ou rfl]
 have ll:(nums.map Val.int).length<=16777216:=by have:=N.six;rw[e_];omega
 have q1:(aN false 6 (pFn dW (aa (af 3) ag))).G [x0,x1,x2,x3,x4,.sh (.str kind),x6,x7,x8]=.nx [x0,x1,x2,x3,x4,.sh (.str kind),.sh (liV nums),x7,x8]:=by
  rcases h3 with rfl |rfl
  .generalize liV nums=nv at *;generalize nums.map Val.int=ni at *;simp![it,ll,lv,h6]
  .generalize liV nums=nv at *;generalize nums.map Val.int=ni at *;simp![it,ll,lv,h6]
 unfold jF;generalize hX:fo 7 8 6 5 aJ (qO (qNo (qOf (pFn (ak aw) (aa (af 7) (aa (pTy "list") ag))))) (qO (qOf (pOp bNe (af 7) (aF aP (aa (af 3) (aa (af 5) ag))))) (qOf (pOp bNe (af 6) (af 3)))))=xr at *;rw[eC,q1,gi,eC,dm,gi,eC,ru,gi];generalize liV nums=nv at *;generalize (aX kind nums).map cuV=cv at *;simp![fe,de,ec]
def vV(L:List Int)(x:Int):atI ((L++[x]).map Val.int) (-1)=some (.int x):=by unfold atI ixN;rw[if_neg (by decide),e_,k_,Bm,if_pos (by omega),show (-1+((L.length+1:Nat):Int)).toNat=L.length by omega];simp
def v9{n:Nat}{v:Val}{init:List Int}{last:Int}{x0 x2 x4 x5 x6 x7 x8:Sl}(f:Fd n v)(hn:n<=800000000)(hi:init.length<=100):∃(v':Val) (d:Int),Fd (n+7) v'/\1<=d/\d6.G [x0,.ow v,x2,.ow (liV (init++[last])),x4,x5,x6,x7,x8]=.nx [x0,.ow v',x2,.ow (liV ((init++[last])++[last+d])),x4,x5,x6,x7,x8]:=by
 obtain⟨a,v1,e1,f1,a0,a1⟩:=aM (m:=9) f (by omega) (by decide) (sm8 (by decide));obtain⟨g,v2,e2,f2,g0⟩:=yF f1 (by omega);obtain⟨c,v3,e3,f3,c0,c1⟩:=aM (m:=3) f2 (by omega) (by decide) (sm8 (by decide));have al:=vV init last;have ll:((init++[last]).map Val.int).length<16777216:=by rw[e_,k_,Bm];omega
 have key:∀x:Int,0<=x->atI [Val.int 0,.int a,.int g] c=some (.int x)->∃(v':Val) (d:Int),Fd (n+7) v'/\1<=d/\d6.G [x0,.ow v,x2,.ow (liV (init++[last])),x4,x5,x6,x7,x8]=.nx [x0,.ow v',x2,.ow (liV ((init++[last])++[last+d])),x4,x5,x6,x7,x8]:=λx h0 hx=>by
  refine⟨v3,1+x,f3.mono (by omega),by omega,?_⟩;have e:liV ((init++[last])++[last+(1+x)])=.lst ((init++[last]).map .int++[.int (last+1+x)]):=by unfold liV;rw[AX,Int.add_assoc];rfl
  rw[e];unfold d6 liV;generalize (init++[last]).map Val.int=lv at *;simp![e1,e2,e3,al,hx,ll]
 obtain rfl |rfl |rfl:c=0\/c=1\/c=2:=by omega
 .exact key 0 (by omega) rfl
 .exact key a a0 rfl
 .exact key g g0 rfl
structure DrawOk(n:Nat)(ns:List Int):Prop where
 nd:ns.Nodup
 len:ns.length=n+1
 fin:∃init last,ns=init++[last]/\∀x∈ns,x<=last
def DrawOk.more{n:Nat}{init:List Int}{last d:Int}(D:DrawOk n (init++[last]))(hd:1<=d)(hm:∀x∈init++[last],x<=last):DrawOk (n+1) ((init++[last])++[last+d]):=by
 refine⟨List.nodup_append.mpr ⟨D.nd,(by simp),λx hx y hy=>?_⟩,by rw[k_,D.len];rfl,_,_,rfl,λx hx=>?_⟩
 .rw[Ba] at hy
  have:=hm x hx
  omega
 .rcases Bz.mp hx with hx |hx
  .have:=hm x hx;omega
  .rw[Ba] at hx;omega
def yR(n:Nat)(x0 x2 x5 x6 x7 x8:Sl)(r:SR3):Prop:=∃(v:Val) (ns:List Int) (x4:Sl),Fd (n+200) v/\NumOk ns/\x4.pl=true/\r=.nx [x0,.ow v,x2,.ow (liV ns),x4,x5,x6,x7,x8]
def vo{n:Nat}{v:Val}{x:Int}{x0 x2 x4 x5 x6 x7 x8:Sl}(f:Fd n v)(hn:n<=700000000)(h4:x4.pl=true):yR n x0 x2 x5 x6 x7 x8 ((cw (du (aa (pOp aU (aj 1) (aF aK (aa (af 1) (aa (aj 5) ag)))) ag)) (gtN 4) (d6)).G [x0,.ow v,x2,.ow (liV [x]),x4,x5,x6,x7,x8]):=by
 obtain⟨c,v1,e1,f1,c0,c1⟩:=aM (m:=5) f (by omega) (by decide) (sm8 (by decide));obtain⟨m,hm⟩:∃m:Nat,1+c=(m:Nat):=⟨(1+c).toNat,by omega⟩;have rg:cL [.int (1+c)]=some (rgV m):=by rw[hm];exact dY (by omega)
 obtain⟨e',⟨v2,ns,t4,f2,D,p4,rfl⟩,lo⟩:=gd (g:=(gtN 4).G) (B:=d6.G) (λi e=>∃(v:Val) (ns:List Int) (t4:Sl),Fd (n+1+7*i) v/\DrawOk i ns/\t4.pl=true/\e=[x0,.ow v,x2,.ow (liV ns),t4,x5,x6,x7,x8]) m (e:=[x0,.ow v1,x2,.ow (liV [x]),x4,x5,x6,x7,x8]) ⟨v1,[x],x4,f1,⟨(by simp),rfl,[],x,rfl,λy hy=>by rw[Ba] at hy;omega⟩,h4,rfl⟩ (by rintro i hi _ ⟨v,ns,t4,f,D,p4,rfl⟩;obtain⟨init,last,rfl,hx⟩:=D.fin;have l1:=D.len;rw[k_,Bm] at l1;obtain⟨v',d,f',hd,b⟩:=v9 (x0:=x0) (x2:=x2) (x4:=.sh (.int (i:Nat))) (x5:=x5) (x6:=x6) (x7:=x7) (x8:=x8) (init:=init) (last:=last) f (by omega) (by omega);refine⟨_,_,?_,.inl b,v',_,.sh (.int (i:Nat)),f'.mono (by omega),D.more hd hx,rfl,rfl⟩;generalize liV (init++[last])=lv at *;simp![p4]);refine⟨v2,ns,t4,f2.mono (by omega),⟨D.nd,by rw[D.len];omega,by rw[D.len];omega⟩,p4,?_⟩;generalize liV ns=nv at *;generalize liV [x]=lv at *;simp![e1,rg,lo]
def uR{c:Int}(h0:0<=c)(h1:c<6):∃k:Str,atI [Val.str "",.str "Any",.str "order ",.str "down",.str "lots",.str "anyorder"] c=some (.str k)/\(lkS aR k).isSome=false:=by
 obtain rfl |rfl |rfl |rfl |rfl |rfl:c=0\/c=1\/c=2\/c=3\/c=4\/c=5:=by omega
 .exact⟨_,rfl,by decide⟩
 .exact⟨_,rfl,by decide⟩
 .exact⟨_,rfl,by decide⟩
 .exact⟨_,rfl,by decide⟩
 .exact⟨_,rfl,by decide⟩
 .exact⟨_,rfl,by decide⟩
def Aa(n:Nat)(s0:Sl)(r:SR3):Prop:=∃(v:Val) (t2 t3 t4 t5 t6 t7 t8:Sl),Fd (n+400) v/\t2.pl=true/\t3.pl=true/\t4.pl=true/\t5.pl=true/\t6.pl=true/\t7.pl=true/\t8.pl=true/\r=.nx [s0,.ow v,t2,t3,t4,t5,t6,t7,t8]
def uH{n:Nat}{v:Val}{x0 x3 x4 x5 x6 x7 x8:Sl}{i:Val}(f:Fd n v)(hn:n<=500000000)(h3:x3.pl=true)(h4:x4.pl=true)(h5:x5.pl=true)(h6:x6.pl=true)(h7:x7.pl=true)(h8:x8.pl=true):Aa n x0 (gp.G [x0,.ow v,.sh i,x3,x4,x5,x6,x7,x8]):=by
 obtain⟨a,v1,e1,f1,a0,a1⟩:=aM (m:=40) f (by omega) (by decide) (sm8 (by decide));obtain⟨g,v2,e2,f2,g0⟩:=xg f1 (by omega);obtain⟨c,v3,e3,f3,c0,c1⟩:=aM (m:=3) f2 (by omega) (by decide) (sm8 (by decide));obtain⟨x,hx⟩:∃x,atI [Val.int 0,.int a,.int (g.fdiv 2)] c=some (.int x):=by
  obtain rfl |rfl |rfl:c=0\/c=1\/c=2:=by omega
  .exact⟨_,rfl⟩
  .exact⟨_,rfl⟩
  .exact⟨_,rfl⟩
 have dv:cK.G (.int g) (.int 2)=.val (.int (g.fdiv 2)):=jl (CDivB.of (by decide) (sm8 (by decide)));unfold gp;refine eR (λe=>e=[x0,.ow v3,.sh i,.ow (liV [x]),x4,x5,x6,x7,x8]) ⟨_,by show _=SR3.nx [x0,.ow v3,.sh i,.ow (.lst [.int x]),x4,x5,x6,x7,x8];simp![e1,e2,e3,dv,hx,h3],rfl⟩ ?_;rintro _ rfl;obtain⟨v4,ns,t4,f4,N,p4,eg⟩:=vo (x:=x) (x0:=x0) (x2:=.sh i) (x5:=x5) (x6:=x6) (x7:=x7) (x8:=x8) f3 (by omega) h4;refine eR (λe=>e=[x0,.ow v4,.sh i,.ow (liV ns),t4,x5,x6,x7,x8]) ⟨_,eg,rfl⟩ ?_;rintro _ rfl;have k1:=lJ (x0:=x0) (x1:=.ow v4) (x2:=.sh i) (x3:=.ow (liV ns)) (x4:=t4) (kind:="order") (.inl rfl) N (.inl rfl) h6 h7 h8;have k2:=lJ (x0:=x0) (x1:=.ow v4) (x2:=.sh i) (x3:=.sh (liV ns)) (x4:=t4) (x6:=.sh (liV ns)) (x7:=.ow (.lst [])) (x8:=.no) (kind:="any") (.inr rfl) N (.inr rfl) rfl rfl rfl;refine eR (λe=>e=[x0,.ow v4,.sh i,.sh (liV ns),t4,.sh (.str "any"),.sh (liV ns),.ow (.lst []),.no]) ⟨_,by generalize liV ns=nv at *;simp![bB,h5,k1,k2],rfl⟩ ?_;rintro _ rfl;obtain⟨d,v5,e5,f5,d0,d1⟩:=aM (m:=6) f4 (by omega) (by decide) (sm8 (by decide));obtain⟨k,ek,nk⟩:=uR d0 d1;have rf:=mD (nums:=ns) nk;refine⟨v5,.sh i,.sh (liV ns),t4,.sh (.str "any"),.sh (liV ns),.ow (.lst []),.no,f5.mono (by omega),rfl,rfl,p4,rfl,rfl,rfl,rfl,?_⟩;generalize liV ns=nv at *;simp![e5,ek,rf]
def lawQ(r:SR3):Prop:=rM [false] r=.ok (.val (.bl true)) []
def wz(ns:List Int)(hl:ns.length<=63):jn.G [.kl (ns.map .int)]=.ok (.val (.bl true)) []:=by
 unfold jn;rw[zq rfl];show lawQ (mV.G [.sh (.kl (ns.map .int)),.no,.no,.no,.no,.no,.no,.no,.no]);unfold mV;obtain⟨v,e1,f⟩:=vy hl;refine eR (λe=>e=[.sh (.kl (ns.map .int)),.ow v,.no,.no,.no,.no,.no,.no,.no]) ⟨_,by simp![e1],rfl⟩ ?_;rintro _ rfl;have ll:((ns.map Val.int).length:Nat)=ns.length:=e_ ..;have it:(Val.kl (ns.map .int)).items=some (ns.map .int):=rfl;obtain⟨m,hm,em⟩:∃m:Nat,m<=8/\(2+(if ((ns.length:Nat):Int)<6 then ((ns.length:Nat):Int) else 6))=(m:Nat):=by
  by_cases h:((ns.length:Nat):Int)<6
  .exact⟨2+ns.length,by omega,by rw[if_pos h];omega⟩
  .exact⟨8,by omega,by rw[if_neg h];rfl⟩
 obtain⟨e4,⟨v4,t2,t3,t4,t5,t6,t7,t8,f4,p2,p3,p4,p5,p6,p7,p8,rfl⟩,lo⟩:=gd (g:=(gtN 2).G) (B:=gp.G) (λi e=>∃(v:Val) (t2 t3 t4 t5 t6 t7 t8:Sl),Fd (400*i) v/\t2.pl=true/\t3.pl=true/\t4.pl=true/\t5.pl=true/\t6.pl=true/\t7.pl=true/\t8.pl=true/\e=[.sh (.kl (ns.map .int)),.ow v,t2,t3,t4,t5,t6,t7,t8]) m (e:=[.sh (.kl (ns.map .int)),.ow v,.no,.no,.no,.no,.no,.no,.no]) ⟨v,.no,.no,.no,.no,.no,.no,.no,f,rfl,rfl,rfl,rfl,rfl,rfl,rfl,rfl⟩ (by rintro i hi _ ⟨v,t2,t3,t4,t5,t6,t7,t8,f,p2,p3,p4,p5,p6,p7,p8,rfl⟩;obtain⟨v',u2,u3,u4,u5,u6,u7,u8,f',q2,q3,q4,q5,q6,q7,q8,e⟩:=uH (x0:=.sh (.kl (ns.map .int))) (i:=.int (i:Nat)) f (by omega) p3 p4 p5 p6 p7 p8;refine⟨_,_,?_,.inl e,v',u2,u3,u4,u5,u6,u7,u8,f'.mono (by omega),q2,q3,q4,q5,q6,q7,q8,rfl⟩;generalize ns.map Val.int=nv at *;simp![p2]);have rg:cL [.int (m:Nat)]=some (rgV m):=dY (k:=m) (by omega);rw[<- em] at rg;refine eR (λe=>e=[.sh (.kl (ns.map .int)),.ow v4,t2,t3,t4,t5,t6,t7,t8]) ⟨_,by generalize hN:ns.map Val.int=nv at *;simp![it,ll,rg,lo],rfl⟩ ?_;rintro _ rfl;unfold lawQ;simp![Ak]
end KK
namespace PySem.W.Fast
def q__:=trivial
def tw10026372582057675952:=q__
def tw10090765244360119022:=q__
def tw10107651535431985875:=q__
def tw10126356200621950074:=q__
def tw10188998433456642895:=q__
def tw10196402548836811466:=q__
def tw10256774283016138812:=q__
def tw10260407138790933549:=q__
def tw10263554068002020779:=q__
def tw10371804312498903264:=q__
def tw10382637317331981023:=q__
def tw10385713141072470207:=q__
def tw10387676395851627217:=q__
def tw10420264283934306811:=q__
def tw10564426112531757290:=q__
def tw10570249122589203661:=q__
def tw10631941956599178003:=q__
def tw10635908353422304718:=q__
def tw10649332186552262096:=q__
def tw10650568881070845755:=q__
def tw10698786201955518882:=q__
def tw1072600965154111326:=q__
def tw10758051150490191483:=q__
def tw10793580929953601117:=q__
def tw1084467427267825690:=q__
def tw1100201560948130626:=q__
def tw1100950167419730145:=q__
def tw1112974941645943135:=q__
def tw11210449183472641760:=q__
def tw11310421815237311016:=q__
def tw11314604009750116227:=q__
def tw11320573666997579834:=q__
def tw11347738080161833634:=q__
def tw11359398084886065605:=q__
def tw11384432497719419511:=q__
def tw11401344173443384555:=q__
def tw11489800942685135534:=q__
def tw11492398262933147008:=q__
def tw11596690472585941045:=q__
def tw11690003284207266309:=q__
def tw11724725103035083656:=q__
def tw11759644726624995466:=q__
def tw11809999557708341239:=q__
def tw11829581318315792999:=q__
def tw11831829707107999571:=q__
def tw11859184992897322972:=q__
def tw11894679075519058006:=q__
def tw11962187045962874507:=q__
def tw12008183335211669952:=q__
def tw12035735860054264524:=q__
def tw12046151845416927602:=q__
def tw12048168136929239718:=q__
def tw1213849334304686820:=q__
def tw12217551126891377925:=q__
def tw12249989314377297055:=q__
def tw12267585255372617033:=q__
def tw12363772395970701660:=q__
def tw12493019356799024981:=q__
def tw12527135070138967793:=q__
def tw12570807454236745573:=q__
def tw12607410545429096084:=q__
def tw12612356432652342608:=q__
def tw12627211230870738891:=q__
def tw12630861388727094288:=q__
def tw1265071761988285571:=q__
def tw12698187082201166017:=q__
def tw12889545402340045992:=q__
def tw13136145496612223464:=q__
def tw13192225722466008844:=q__
def tw13251313141023712989:=q__
def tw13272223434759695648:=q__
def tw13381382653996319739:=q__
def tw13419495678980067940:=q__
def tw13421050637677171345:=q__
def tw13642110629587717674:=q__
def tw13727919259948034524:=q__
def tw13742722241640255271:=q__
def tw13744919784097885585:=q__
def tw13787466070470118797:=q__
def tw13793012756474234734:=q__
def tw13928247747579851646:=q__
def tw1401564775213057273:=q__
def tw14140368500177993625:=q__
def tw14161488161513260022:=q__
def tw14169065222601875828:=q__
def tw14171274908622726561:=q__
def tw14181954203494108492:=q__
def tw14209599805088583546:=q__
def tw14235797829988511158:=q__
def tw14444570836536236455:=q__
def tw1450555355325998951:=q__
def tw14519036015520053298:=q__
def tw14544828653641437642:=q__
def tw14575168906017626793:=q__
def tw14640215105725821523:=q__
def tw14674602688151252134:=q__
def tw14713385799275209427:=q__
def tw14745596394480520569:=q__
def tw14759130967037680441:=q__
def tw14790129592325769499:=q__
def tw1484128142658783614:=q__
def tw14905324574283823032:=q__
def tw15007560515023878323:=q__
def tw15040995698993485304:=q__
def tw15050340848861664476:=q__
def tw15077674468285404061:=q__
def tw15102743267965526656:=q__
def tw15190950131555988846:=q__
def tw15398409529852493324:=q__
def tw15439686235078019296:=q__
def tw15518420249509150105:=q__
def tw15607063942573773080:=q__
def tw15652436196114736528:=q__
def tw15745380856577462592:=q__
def tw15760956549290497683:=q__
def tw15789449684212127949:=q__
def tw15819910556303510333:=q__
def tw15874844861358708343:=q__
def tw15893194407843495191:=q__
def tw16124559271680108947:=q__
def tw1622371127342735259:=q__
def tw16253152953820570308:=q__
def tw16253584895324407209:=q__
def tw16289829028873730767:=q__
def tw16396961042110146213:=q__
def tw16485122562041707747:=q__
def tw16539747780872405974:=q__
def tw16559186522160179084:=q__
def tw16579813783538315114:=q__
def tw16629676584590728012:=q__
def tw16673560703724816317:=q__
def tw16754143221469459489:=q__
def tw16759968997943750304:=q__
def tw1679013217882851995:=q__
def tw16970874067246357636:=q__
def tw17046636702266200108:=q__
def tw17126321587643663127:=q__
def tw17224253737609984444:=q__
def tw17283332231511505827:=q__
def tw17309482844108638676:=q__
def tw17366318374171646804:=q__
def tw17394265238328859207:=q__
def tw17481491225782681018:=q__
def tw17535062046215876901:=q__
def tw17655975694392233605:=q__
def tw17691859891076919196:=q__
def tw17700224253356467245:=q__
def tw17709309909395434937:=q__
def tw1773200025500852802:=q__
def tw17732723929145485170:=q__
def tw17759138157479558654:=q__
def tw17940076393234267482:=q__
def tw1813424115785511574:=q__
def tw18195111213434649156:=q__
def tw18213057297338957353:=q__
def tw18233705581718936797:=q__
def tw18235904048842100568:=q__
def tw18283431507919169518:=q__
def tw18339476525956215903:=q__
def tw18363750420640032920:=q__
def tw1913422750646388235:=q__
def tw1928547727490027971:=q__
def tw1951985938290228371:=q__
def tw1991561278411358324:=q__
def tw208163003091968773:=q__
def tw2139545084474583275:=q__
def tw216217311815530201:=q__
def tw2179143899713331385:=q__
def tw2257357862862686428:=q__
def tw226364550911137262:=q__
def tw2270430001598107389:=q__
def tw2278122911734972742:=q__
def tw2294295771736735117:=q__
def tw2396813522065350122:=q__
def tw2497787841189225901:=q__
def tw2527580427406218577:=q__
def tw2546243048886409491:=q__
def tw2599066221298327365:=q__
def tw268748497932458640:=q__
def tw2710892955469375994:=q__
def tw2827589389507836406:=q__
def tw2849557670254596844:=q__
def tw2900697135224891557:=q__
def tw2959926805378755302:=q__
def tw2960823790907025563:=q__
def tw2973011326705225229:=q__
def tw3014645955771636051:=q__
def tw3107493119881408940:=q__
def tw3184557723323461719:=q__
def tw3251778769759410851:=q__
def tw3349127684146427218:=q__
def tw3362992219075293107:=q__
def tw3385499328233648428:=q__
def tw3432732273953548411:=q__
def tw3541772610215282055:=q__
def tw3574635649239658471:=q__
def tw3576395403583668786:=q__
def tw3588145706390963795:=q__
def tw3617849098208645311:=q__
def tw3665771035961281051:=q__
def tw3679976703153156420:=q__
def tw3689031785942596537:=q__
def tw3715883770616899613:=q__
def tw3826654975761561816:=q__
def tw390471663331310841:=q__
def tw4001068646847422405:=q__
def tw4037661311866105027:=q__
def tw4054559608974329044:=q__
def tw4061633600870541814:=q__
def tw406631985085986464:=q__
def tw4167591494917767602:=q__
def tw4230425869931628083:=q__
def tw427163768630935070:=q__
def tw4389312024217010597:=q__
def tw4437712560497536388:=q__
def tw4535327932176019015:=q__
def tw4555104607555279289:=q__
def tw459679625826112127:=q__
def tw4600571002735567627:=q__
def tw4606464923187670306:=q__
def tw4721396377321067008:=q__
def tw4728035675684077758:=q__
def tw4769884953123921909:=q__
def tw47812202344687407:=q__
def tw4794780882659782342:=q__
def tw4795811048506977239:=q__
def tw4818018643434866695:=q__
def tw5126808760994595650:=q__
def tw5208924881613278148:=q__
def tw5226058225881429387:=q__
def tw5247790971366195225:=q__
def tw5258935126190385760:=q__
def tw532254883954760773:=q__
def tw5419810100515734739:=q__
def tw5480244484041503830:=q__
def tw5504308371390195278:=q__
def tw554707540064737018:=q__
def tw5706442423669745044:=q__
def tw5747812553173038167:=q__
def tw5792106865581016708:=q__
def tw5806298120175559157:=q__
def tw5852384381625525261:=q__
def tw5883407675001215208:=q__
def tw5916853470099382713:=q__
def tw593976394479013395:=q__
def tw5982701871227774766:=q__
def tw5985369586729805392:=q__
def tw6014398683802048085:=q__
def tw6045842609815581936:=q__
def tw6064955606752057467:=q__
def tw6098800197559157209:=q__
def tw6117851856813325269:=q__
def tw6144804667440498295:=q__
def tw6220148353169187448:=q__
def tw6342168282428454381:=q__
def tw6348206795132151758:=q__
def tw6383074752325875248:=q__
def tw6415703144305110174:=q__
def tw6425635941528261430:=q__
def tw6494314317041482212:=q__
def tw65111600277544157:=q__
def tw6582947397705235957:=q__
def tw6584237889304331967:=q__
def tw6822202042393568253:=q__
def tw6878439464119732019:=q__
def tw688796858086056797:=q__
def tw6930074384364755078:=q__
def tw7010278252804245674:=q__
def tw7017730117995940270:=q__
def tw7129722721307772866:=q__
def tw7295201417472640697:=q__
def tw7384543770021829955:=q__
def tw7406101634617515421:=q__
def tw7446113417544594853:=q__
def tw7551138892815184532:=q__
def tw7619038416578809142:=q__
def tw7631636664557242231:=q__
def tw7715098856858743260:=q__
def tw776263800915579678:=q__
def tw7780892154896704271:=q__
def tw7916982818225942067:=q__
def tw7929747659587270064:=q__
def tw7930725421996139890:=q__
def tw8121622486031963226:=q__
def tw8206213706437889455:=q__
def tw8294448685247044901:=q__
def tw8321442537981639610:=q__
def tw8329751945123229125:=q__
def tw8391241476503317295:=q__
def tw8414326941891070368:=q__
def tw8478272041183094852:=q__
def tw8507948744227494836:=q__
def tw8597572515212399603:=q__
def tw8613026835525853718:=q__
def tw8631325920553904892:=q__
def tw8726319519774092371:=q__
def tw8851089050814941076:=q__
def tw8899628377817021731:=q__
def tw892969564225907268:=q__
def tw8948554354719432847:=q__
def tw8988072992046995871:=q__
def tw9058799640011431824:=q__
def tw9125480135879089292:=q__
def tw9171576210181610342:=q__
def tw9287536026654207832:=q__
def tw9319167765415579397:=q__
def tw9573526105755644834:=q__
def tw9584782039523943081:=q__
def tw9588530328359985127:=q__
def tw9612114948543552261:=q__
def tw9620260491585169603:=q__
def tw9620630554615178577:=q__
def tw9649591828490907086:=q__
def tw9661706181572138512:=q__
def tw970695138327372878:=q__
def tw9723216501991978493:=q__
def tw975652324077965621:=q__
def tw9770732932240656657:=q__
def tw9818638701360038568:=q__
def tw9954483627064239549:=q__
def tw9991055230102118715:=q__
def tw999655105935091264:=q__
end PySem.W.Fast
open PySem PySem.W PyProof.Rows L2 L3 KK
set_option maxRecDepth 100000 in
set_option maxHeartbeats 0 in
theorem PySem.Challenge.cw_weightrooms_k56_first_cuts_holds : PySem.Challenge.rw_weightrooms_k56_first_cuts.Holds := by
 w_on;o_law;k_head;(case hw=>w_witness2)
 k_fill
 refine L2.walk_lawD (l:=PySem.Challenge.rw_weightrooms_k56_first_cuts) (x:="_law_script") (k:=5) rfl rfl ⟨rfl,by decide,by decide⟩ (λw h Y=>W.kIn_of Y) ?F ?D
 case F=>
  intro w mg h KX G base kb nb;refine law3 jn (vU ⟨⟨AA KX G (by kernel_rfl),?_⟩,(by refine' rS (kvs:=aR) KX G ?a9 ?b9 ?c9 ?d9 ?e9;(case a9=>exact rfl);(case b9=>exact rfl);(case c9=>exact rfl);(case d9=>exact (.cons rfl rfl rfl (.cons rfl rfl rfl .nil)));(case e9=>decide))⟩) (wL KX G (by kernel_rfl)) rfl wz;repeat first
   |exact trivial
   |refine⟨by refine' oK KX G ?a ?l ?c ?k;(case a=>k_is);(case l=>k_is);(case c=>k_is);(case k=>k_is),?_⟩
 case D=>
  intro w mg h KX G;refine⟨top 32,?_,(λ_ _ _ _ _ _=>ar1 λ_=>rfl)⟩;refine' oK KX G ?a ?l ?c ?k;case a|l|c|k=>k_is
