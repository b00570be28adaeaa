import PyProof.Rows.All
import Wide.All
import OpenK.AllK
import Wide.FinOn
import Lean
import PyProof.EqAt
import PyProof.EqKinds
import PyProof.TupleCall
import PyProof.Rows.SumAny
import PyProof.EnumMake
import PyProof.Draws
import PyProof.ZipIter
import KE.KNestM
import PyProof.StrBlockH
import KE.KUnpack
import KE.KxIndex
import PyProof.SetRoads
import PyProof.SetNew
import PyProof.AutoSeq1
import KE.KRevSl
import PyProof.SeqI3
import PyProof.Rows.SortWalk
import PyProof.Rows.Range3
import KE.KSortTup
import KE.KLam
import PyProof.Rows.SetFrom
import PyProof.FactsAll.list_2
import PyProof.Rows.SortStr
import PyProof.Rows.StrRules
import PyProof.StrOps
import KE.KIntText
import PyProof.CallStr
import PyProof.StrWalks
import PyProof.Rows.StrNews2
import PyProof.StrLawsTight
import PyProof.Rows.StrItems
import PyProof.Rows.CatFin
import PySem.Challenge.RW_weightrooms_k84_fractions_and_boxes_writ
local macro_rules|`(tactic|trivial)=>`(tactic|first|exact Or.inl rfl|exact Or.inr rfl)
local macro_rules|`(tactic|decide)=>`(tactic|decide +kernel)
set_option genSizeOf false
set_option genInjectivity false
set_option bootstrap.genMatcherCode false
noncomputable section
set_option Elab.async false
set_option linter.all false
def k_:=@PySem.wpAny_bind
def l_:=@List.getElem?_eq_some_iff
def m_:=@PySem.Heap.get?_push_of_some
def n_:=@PySem.Heap.lt_size
def o_:=@Bool.false_ne_true
def p_:=@Bool.and_eq_true
def q_:=@List.mem_cons_of_mem
def r_:=@List.mem_cons_self
def s_:=@PySem.wpAny_pure
def t_:=@Nat.lt_of_lt_of_le
def u_:=@List.length_map
def v_:=@Nat.le_refl
def w_:=@List.size_toArray
def x_:=@Option.some.inj
def y_:=@List.mem_append_right
def z_:=@PySem.wpAny_mono
def A_:=@List.getElem?_eq_getElem
def B_:=@Option.map_eq_some_iff
def Co:=@decide_eq_true
def Cp:=@decide_eq_false
def Cq:=@beq_eq_false_iff_ne
def Cr:=@List.map_cons
def Cs:=@List.getElem?_map
def Ct:=@Nat.ne_of_lt
def Cu:=@List.mem_cons
def Cv:=@List.all_eq_true
def Cw:=@Nat.le_trans
def Cy:=@Int.natAbs_natCast
def Cz:=@List.length_append
def CA:=@Nat.lt_irrefl
def CB:=@PySem.Heap.get?_push_size
def CC:=@List.getElem?_append_left
def CD:=@List.length_set
def CF:=@List.length_cons
def CG:=@beq_iff_eq
def CH:=@PySem.mem_of_lookup
def CI:=@Option.bind_eq_some_iff
def CJ:=@List.lookup_cons
def CK:=@Nat.pow_le_pow_right
def CL:=@PySem.wpAny_holding
def CM:=@congrArg
def CN:=@List.contains_iff_mem
def CO:=@List.getElem?_replicate
def CP:=@Nat.zero_le
def CQ:=@Bool.false_eq_true
def CS:=@List.drop_eq_getElem_cons
def CT:=@List.mem_of_getElem?
def CU:=@List.nil_append
def CV:=@Option.isSome_iff_exists
def CW:=@PySem.wpAny_newObj_type
def CY:=@Int.mul_assoc
def CZ:=@List.filterMap_cons
def C0:=@PySem.Heap.get?_update_other
def C1:=@List.take_of_length_le
def C2:=@List.mem_map
def C3:=@List.find?_cons
def C4:=@List.length_nil
def C5:=@List.length_replicate
def C6:=@PySem.wpAny_passesOwn
def C7:=@List.getElem?_append_right
def C8:=@PySem.Heap.get?_none_of_le
def C9:=@List.length_zipWith
def C_:=@PySem.wpAny_getItem_str_slice
def Dc:=@PySem.wpAny_standAt
def Df:=@Nat.not_lt_zero
def Dg:=@PySem.call_meets
def Dh:=@List.getElem?_set_self
def Di:=@Int.mul_left_comm
def Dj:=@List.append_assoc
def Dk:=@PySem.wpAny_truthy_bool
def Dl:=@List.getElem?_zipWith
def Dm:=@List.getElem?_set_ne
def Dn:=@if_false
def Dp:=@PySem.Calls.Name_function_global
def Dq:=@Int.eq_of_mul_eq_mul_right
def Dr:=@List.getD_eq_getElem?_getD
def Ds:=@if_true
def Dt:=@Array.length_toList
def Du:=@List.append_nil
def Dv:=@List.mem_append
def Dw:=@List.mem_or_eq_of_mem_set
def Dx:=@PySem.wpAny_execs_nil
def Dy:=@Int.mul_comm
def Dz:=@Int.mul_right_comm
def DB:=@List.mem_filterMap
def DC:=@List.mem_singleton
def DD:=@Nat.lt_of_le_of_lt
def DF:=@PySem.F.args_str_split_2
def DH:=@PySem.F.args_tuple_add_2
def DJ:=@PySem.wpAny_Call_Name_kw
def DK:=@Int.natAbs_mul
def DL:=@PySem.typeIs_str
def DM:=@Int.eq_ofNat_of_zero_le
def DN:=@PySem.F.entry_str_split
def DP:=@PySem.F.entry_tuple_add
def DQ:=@List.reverse_cons
def DR:=@decide_eq_true_eq
def DU:=@PySem.F.slot_str_split
def DV:=@PySem.F.slot_tuple_add
def DX:=@List.any_cons
def DY:=@List.cons.inj
def DZ:=@Array.all_toList
def D1:=@PySem.StrLaws.glued_eq_join
def D2:=@PySem.F.args_list_append_2
def D3:=@List.getElem?_append
def D4:=@List.map_nil
def D5:=@List.mem_append_left
def D6:=@List.nodup_cons
def D7:=@List.of_mem_zip
def D8:=@Nat.lt_trans
def D9:=@Nat.ne_of_gt
def D_:=@PySem.codeAny_mono
def Ea:=@PySem.post_val_or_str
def Eb:=@PySem.F.entry_list_append
def Ec:=@ne_true_of_eq_false
def Ed:=@PySem.wpAny_field
def Ee:=@List.drop_nil
def Ef:=@List.take_nil
def Eg:=@PySem.W.hideAll_get
set_option maxRecDepth 100000
namespace L2
open PySem PySem.Spec PyProof.Rows
abbrev _root_.Eh:=Str->Option Value
abbrev _root_.Ei:=List (Addr×Obj)
abbrev _root_.Ej:=Value->Shared->Prop
abbrev _root_.Ek:=List (Option Nat)
abbrev Key:=Sum Int Str
noncomputable def fO:Key->Value->Bool
 |.inl k,v=>Value.isInt k v
 |.inr x,v=>Value.isStrOf x v
noncomputable def keyH (w:World):Key->Int
 |.inl k=>hashInt k
 |.inr x=>hashStr w x
theorem bc:∀{k:Key}{v:Value},fO k v=true->(∃i t,k=Sum.inl i/\v=Value.int i t)\/(∃x t,k=Sum.inr x/\v=Value.str x t)
 |
  .inl i,v,h=>by
  obtain⟨t,e⟩:=Value.isInt_shape (k:=i) (v:=v) h;exact .inl ⟨i,t,rfl,e⟩
 |
  .inr x,v,h=>by
  obtain⟨t,e⟩:=Value.isStrOf_shape (x:=x) (v:=v) h;exact .inr ⟨x,t,rfl,e⟩
def qE(i:Int)(t:Tok):fO (.inl i) (.int i t)=true:=by simp [fO,Value.isInt]
def pZ(x:Str)(t:Tok):fO (.inr x) (.str x t)=true:=by simp [fO,Value.isStrOf]
def zx(a b:Int):decide ((Sum.inl a:Key)=Sum.inl b)=(a==b):=by
 by_cases e:a=b
 .subst e;simp
 .have h:¬ (Sum.inl a:Key)=Sum.inl b:=λq=>e (Sum.inl.inj q);rw[Cp h];exact (Cq.mpr e).symm
def Aa(a b:Str):decide ((Sum.inr a:Key)=Sum.inr b)=decide (a=b):=by
 by_cases e:a=b
 .subst e;simp
 .have h:¬ (Sum.inr a:Key)=Sum.inr b:=λq=>e (Sum.inr.inj q);rw[Cp h,Cp e]
def zf(a:Int)(b:Str):decide ((Sum.inl a:Key)=Sum.inr b)=false:=Cp (λq=>nomatch q)
def xN(a:Str)(b:Int):decide ((Sum.inr a:Key)=Sum.inl b)=false:=Cp (λq=>nomatch q)
noncomputable def a9 (prog:Program) (w:World):PySem.KeyKind prog w Key where
 is:=fO
 hash:=keyH w
 inj
  := λv a b ha hb=>by
  rcases bc ha with ⟨i,t,rfl,rfl⟩ |⟨x,t,rfl,rfl⟩
  .rcases bc hb with ⟨j,u,rfl,e⟩ |⟨y,u,rfl,e⟩
   .injection e with e1 _;rw[e1]
   .exact nomatch e
  .rcases bc hb with ⟨j,u,rfl,e⟩ |⟨y,u,rfl,e⟩
   .exact nomatch e
   .injection e with e1 _;rw[e1]
 byValue:=λk v h=>by rcases bc h with ⟨i,t,rfl,rfl⟩ |⟨x,t,rfl,rfl⟩ <;> rfl
 pyHash:=λhv h=>by
  rcases bc hv with ⟨i,t,rfl,rfl⟩ |⟨x,t,rfl,rfl⟩
  .exact wpAny_pyHash_int h
  .exact wpAny_pyHash_str h
 eqBool:=λhu hv h=>by
  rcases bc hu with ⟨i,t,rfl,rfl⟩ |⟨x,t,rfl,rfl⟩
  .rcases bc hv with ⟨j,u,rfl,rfl⟩ |⟨y,u,rfl,rfl⟩
   .rw[zx] at h;exact wpAny_eqBool_int h
   .rw[zf] at h;exact SeqAt.EqAt.int_str i t y u _ _ _ _ h
  .rcases bc hv with ⟨j,u,rfl,rfl⟩ |⟨y,u,rfl,rfl⟩
   .rw[xN] at h;exact SeqAt.EqAt.str_int x t j u _ _ _ _ h
   .rw[Aa] at h;exact wpAny_eqBool_str h
 «strs»:=λk x t v h=>by
  rcases bc h with ⟨i,u,rfl,e⟩ |⟨y,u,rfl,e⟩
  .exact nomatch e
  .injection e with e1 _;subst e1;cases v <;> rfl
def mK(prog:Program)(w:World)(i:Int)(t:Tok):(a9 prog w).is (.inl i) (.int i t)=true:=qE i t
def mH(prog:Program)(w:World)(x:Str)(t:Tok):(a9 prog w).is (.inr x) (.str x t)=true:=pZ x t
inductive V where
 |non |bl (b:Bool) |int (i:Int) |str (x:Str) |byt (b:Array UInt8) |flt (b:UInt64) |ref (a:Addr) |ty (n:String)
 deriving DecidableEq
def RelV:V->Value->Prop
 |.non,u=>u=Value.none
 |.bl b,u=>u=Value.bool b
 |.int i,u=>∃t,u=Value.int i t
 |.str x,u=>∃t,u=Value.str x t
 |.byt b,u=>∃t,u=Value.bytes b t
 |.flt b,u=>∃t,u=Value.float b t
 |.ref a,u=>u=Value.ref a
 |.ty n,u=>u=Value.type n
abbrev Vals:List V->List Value->Prop:=Paired RelV
def Vals.length(r:Vals xs us):xs.length=us.length:=Paired.length r
def Vals.get{xs:List V}{us:List Value}{i:Nat}{x:V}(r:Vals xs us)(e:xs[i]?=some x):∃u,us[i]?=some u/\RelV x u:=by
 induction r generalizing i with
 |nil=>rw[List.getElem?_nil] at e;cases e
 |
  cons r t ih=>
  cases i with
  |zero=>cases e;exact⟨_,rfl,r⟩
  |succ i=>exact ih (i:=i) e
def Vals.set(r:RelV x u)(i:Nat)(q:Vals xs us):Vals (xs.set i x) (us.set i u):=by
 induction q generalizing i with
 |nil=>exact .nil
 |
  cons q t ih=>
  cases i with
  |zero=>exact .cons r t
  |succ i=>exact .cons q (ih i)
def Vals.append(r:Vals xs us)(s:Vals ys ws):Vals (xs++ys) (us++ws):=by
 induction r with
 |nil=>exact s
 |cons r t ih=>exact .cons r ih
def Vals.take(n:Nat)(r:Vals xs us):Vals (xs.take n) (us.take n):=by
 induction r generalizing n with
 |nil=>rw[Ef,Ef];exact .nil
 |
  cons r t ih=>
  cases n with
  |zero=>exact .nil
  |succ n=>exact .cons r (ih n)
def Vals.drop(n:Nat)(r:Vals xs us):Vals (xs.drop n) (us.drop n):=by
 induction r generalizing n with
 |nil=>rw[Ee,Ee];exact .nil
 |
  cons r t ih=>
  cases n with
  |zero=>exact .cons r t
  |succ n=>exact ih n
def RelO:Option V->Option Value->Prop
 |some v,some u=>RelV v u
 |none,none=>True
 |_,_=>False
def KV{κ:Type}:List (κ×V)->List (κ×Value)->Prop:=Paired λ(p:κ×V) (q:κ×Value)=>p.1=q.1/\RelV p.2 q.2
noncomputable def kV:Key->V
 |.inl i=>.int i
 |.inr x=>.str x
inductive HO where
 |lst (xs:List V)
 |tup (xs:List V)
 |dK (kvs:List (Key×V)) |dT (kvs:List (List Key×V))
 |set (S:Int->Bool) (n:Nat)
 |ins (C dx:Addr) (fs:List (Str×V))
 |own (x:Addr)
 |xd (fs:List (Str×V))
 |met (f x:Addr)
 |rng (lo hi:Int)
 |frz (o:Obj) (u:HO)
 |tbl (ps:Array Value)
 |ext (φ:Heap->Prop)
abbrev Hp:=Addr->Option HO
noncomputable def upd (H:Hp) (a:Addr) (o:HO):Hp:=λb=>if b=a then some o else H b
def aM:upd H a o a=some o:=by unfold upd;rw[if_pos rfl]
def ax(h:b≠a):upd H a o b=H b:=by unfold upd;rw[if_neg h]
def AA{H:Hp}{a b:Addr}{o u:HO}(h:H a=some o)(h':H b=some u)(d:o≠u):a≠b:=by intro e;subst e;rw[h] at h';exact d (x_ h')
def bY{H:Hp}{a b:Addr}{o:HO}(h:H a=some o)(h':H b=none):a≠b:=by intro e;subst e;rw[h] at h';cases h'
section
variable(P:Program)(w:World)
def ObjOk(H:Hp)(h:Heap)(a:Addr):HO->Prop
 |.lst xs=>xs.length<=sizeLine/\∃(its:List Value) (n:Nat),Vals xs its/\h.get? a=some { cls:=.type "list",data:=.seq its.toArray n }
 |.tup xs=>xs.length<=sizeLine/\∃its:List Value,Vals xs its/\IsTup h a its.toArray
 |.dK kvs=>kvs.length<=sizeLine/\(a==sysModules)=false/\∃vs,KV kvs vs/\h.DictOf (a9 P w) a vs
 |.dT kvs=>kvs.length<=sizeLine/\(a==sysModules)=false/\∃xs:List (List Key×Addr×Value),
  Paired (λ(p:List Key×V) (q:List Key×Addr×Value)=>p.1=q.1/\H q.2.1=some (.tup (p.1.map kV))/\RelV p.2 q.2.2) kvs xs/\
  ∃o es ep,h.get? a=some o/\o.ExactDict/\o.data=.dict es ep/\es.toList=xs.map (entryOfKey (tupleKind (a9 P w)))/\(xs.map (·.1)).Nodup
 |.set S n=>h.SetOf (intKind P w) a S n
 |.ins C dx fs=>H dx=some (.own a)/\fs.length<=1000/\dx≠a/\h.get? a=some (W.instObj C dx)/\
  ∃mA,h.Ns1 dx mA/\(∀f,RelO (fs.lookup f) (mA f))/\PySem.Within mA (fs.map (·.1))
 |.own _=>∃o,h.get? a=some o
 |.xd fs=>∃mA,h.Ns1 a mA/\∀f,RelO (fs.lookup f) (mA f)
 |.rng lo hi=>∃t u v,h.get? a=some { cls:=.type "range",data:=.fields #[.int lo t,.int hi u,.int 1 v] }
 |.frz o u=>h.get? a=some o/\ObjOk H h a u
 |.tbl ps=>h.get? a=some { cls:=.none,data:=.fields ps }
 |.met f x=>h.get? a=some (W.methodObj (.ref f) (.ref x))
 |.ext φ=>φ h/\(∃o,h.get? a=some o)/\∀h1 h2:Heap,φ h1->(∀o,h1.get? a=some o->h2.get? a=some o)->φ h2
def HOk(H:Hp)(h:Heap):Prop:=∀a o,H a=some o->ObjOk P w H h a o
end
section
variable{P:Program}{w:World}{H H':Hp}{h h':Heap}{a:Addr}{o:HO}
def ObjOk.lt(x:ObjOk P w H h a o):a<h.objs.size:=by
 cases o with
 |lst xs=>obtain⟨_,_,_,_,e⟩:=x;exact n_ e
 |tup xs=>obtain⟨_,_,_,p⟩:=x;exact p.lt
 |dK kvs=>obtain⟨_,_,_,_,o,_,_,e,_⟩:=x;exact n_ e
 |dT kvs=>obtain⟨_,_,_,_,o,_,_,e,_⟩:=x;exact n_ e
 |set S n=>obtain⟨o,_,_,_,e,_⟩:=x;exact n_ e
 |ins C dx fs=>obtain⟨_,_,_,e,_⟩:=x;exact n_ e
 |own y=>obtain⟨_,e⟩:=x;exact n_ e
 |xd fs=>obtain⟨_,⟨_,_,_,e,_⟩,_⟩:=x;exact n_ e
 |rng lo hi=>obtain⟨_,_,_,e⟩:=x;exact n_ e
 |frz ob u=>obtain⟨e,_⟩:=x;exact n_ e
 |tbl ps=>exact n_ (show h.get? a=some _ from x)
 |met f y=>exact n_ (show h.get? a=some _ from x)
 |ext φ=>obtain⟨_,⟨_,e⟩,_⟩:=x;exact n_ e
def Paired.mapP(r:Paired F l₁ l₂)(f:∀a b,F a b->G a b):Paired G l₁ l₂:=by
 induction r with
 |nil=>exact .nil
 |cons r t ih=>exact .cons (f _ _ r) ih
def ObjOk.stay(x:ObjOk P w H h a o)(k:∀b u,(b=a\/H b=some (.own a))->h.get? b=some u->h'.get? b=some u)
 (ho:∀b,H b=some (.own a)->H' b=some (.own a)) (ht:∀b xs,H b=some (.tup xs)->H' b=some (.tup xs)):ObjOk P w H' h' a o:=by
 induction o with
 |lst xs=>obtain⟨z,its,n,r,e⟩:=x;exact⟨z,its,n,r,k _ _ (.inl rfl) e⟩
 |tup xs=>obtain⟨z,its,r,ob,e,c⟩:=x;exact⟨z,its,r,ob,k _ _ (.inl rfl) e,c⟩
 |dK kvs=>obtain⟨z,y,vs,r,ob,es,ep,e,c⟩:=x;exact⟨z,y,vs,r,ob,es,ep,k _ _ (.inl rfl) e,c⟩
 |dT kvs=>obtain⟨z,y,xs,r,ob,es,ep,e,c⟩:=x;exact⟨z,y,xs,Paired.mapP r λp q z=>⟨z.1,ht _ _ z.2.1,z.2.2⟩,ob,es,ep,k _ _ (.inl rfl) e,c⟩
 |set S n=>obtain⟨ob,es,ep,t,e,c⟩:=x;exact⟨ob,es,ep,t,k _ _ (.inl rfl) e,c⟩
 |ins C dx fs=>obtain⟨d,z,ne,e,mA,⟨od,es,ep,e2,c⟩,r⟩:=x;exact⟨ho _ d,z,ne,k _ _ (.inl rfl) e,mA,⟨od,es,ep,k _ _ (.inr d) e2,c⟩,r⟩
 |own y=>obtain⟨ob,e⟩:=x;exact⟨ob,k _ _ (.inl rfl) e⟩
 |xd fs=>obtain⟨mA,⟨od,es,ep,e,c⟩,r⟩:=x;exact⟨mA,⟨od,es,ep,k _ _ (.inl rfl) e,c⟩,r⟩
 |rng lo hi=>obtain⟨t,u,v,e⟩:=x;exact⟨t,u,v,k _ _ (.inl rfl) e⟩
 |frz ob u ih=>obtain⟨e,q⟩:=x;exact⟨k _ _ (.inl rfl) e,ih q⟩
 |tbl ps=>have e:h.get? a=some { cls:=.none,data:=.fields ps }:=x;show h'.get? a=some { cls:=.none,data:=.fields ps };exact k a _ (.inl rfl) e
 |met f y=>have e:h.get? a=some (W.methodObj (.ref f) (.ref y)):=x;show h'.get? a=some (W.methodObj (.ref f) (.ref y));exact k a _ (.inl rfl) e
 |ext φ=>obtain⟨p,⟨o,e⟩,st⟩:=x;exact⟨st _ _ p λo q=>k _ _ (.inl rfl) q,⟨o,k _ _ (.inl rfl) e⟩,st⟩
def HOk.lt(x:HOk P w H h)(e:H a=some o):a<h.objs.size:=(x a o e).lt
def HOk.fresh(x:HOk P w H h)(e:h.objs.size<=a):H a=none:=by
 cases q:H a with
 |none=>rfl
 |some u=>exact absurd (t_ (x.lt q) e) (CA _)
def HOk.kept(x:HOk P w H h)(k:∀b u,h.get? b=some u->h'.get? b=some u):HOk P w H h':=λa o e=>
 (x a o e).stay (λb u _ q=>k b u q) (λ_ q=>q) λ_ _ q=>q
def HOk.laid(x:HOk P w H h)(k:∀b u,h.get? b=some u->h'.get? b=some u)(hp:h.objs.size<=a)(new:ObjOk P w (upd H a o) h' a o):HOk P w (upd H a o) h':=λb u e=>by
 have hn:=x.fresh hp;by_cases hb:b=a
 .subst hb;rw[aM] at e;cases e;exact new
 .rw[ax hb] at e;exact (x b u e).stay (λc v _ q=>k c v q) (λc q=>by rw[ax (bY q hn)];exact q) λc xs q=>by rw[ax (bY q hn)];exact q
end
def Rd(H:Hp)(a:Addr)(u:HO):Prop:=H a=some u\/∃o,H a=some (.frz o u)
def Rd.ok(r:Rd H a u)(x:HOk P w H h):ObjOk P w H h a u:=by
 rcases r with r |⟨o,r⟩
 .exact x a u r
 .obtain⟨_,q⟩:=x a _ r;exact q
def Mut:Option HO->Prop
 |some (.lst _)=>True
 |some (.dK _)=>True
 |some (.dT _)=>True
 |some (.set _ _)=>True
 |some (.ins _ _ _)=>True
 |some (.ext _)=>True
 |_=>False
section
variable{P:Program}{w:World}{H:Hp}{h h':Heap}{x e:Addr}{o':HO}
def HOk.write(ok:HOk P w H h)(mu:Mut (H x))(he:e=x\/H e=some (.own x))(k:∀b u,b≠e->h.get? b=some u->h'.get? b=some u)(heo:∃u,h'.get? e=some u)
 (new:ObjOk P w (upd H x o') h' x o'):HOk P w (upd H x o') h':=λb u q=>by
 have nown:∀c y,H c=some (.own y)->c≠x:=λc y r z=>by subst z;rw[r] at mu;exact mu
 have ntup:∀c xs,H c=some (.tup xs)->c≠x:=λc xs r z=>by subst z;rw[r] at mu;exact mu
 by_cases hb:b=x
 .subst hb;rw[aM] at q;cases q;exact new
 .rw[ax hb] at q;by_cases hbe:b=e
  .have q':H b=some (.own x):=by
    rcases he with z |z
    .exact absurd (hbe.trans z) hb
    .rw[hbe];exact z
   rw[q] at q';cases q';obtain⟨v,hv⟩:=heo;exact⟨v,by rw[hbe];exact hv⟩
  .refine (ok b u q).stay (λc v hc r=>k c v ?_ r) (λc r=>by rw[ax (nown c b r)];exact r) λc xs r=>by rw[ax (ntup c xs r)];exact r
   rcases hc with rfl |hc
   .exact hbe
   .rintro rfl;rcases he with z |z
    .exact nown c b hc z
    .rw[hc] at z;cases z;exact hb rfl
end
structure Un(fs ex:List Addr)(H H':Hp)(h h':Heap):Prop where
 keep:∀b o,h.get? b=some o->H b=none->b∉fs->b∉ex->h'.get? b=some o
 slot:∀b o,h.get? b=some o->H b=none->b∈fs->b∉ex->∃sl,h'.get? b=some { o with slots:=sl }
 free:∀b o,h.get? b=some o->H b=none->b∉ex->H' b=none
 there:∀b o,h.get? b=some o->b∉ex->∃o',h'.get? b=some o'
 tups:∀b xs,H b=some (.tup xs)->H' b=some (.tup xs)
 frzs:∀b o u,H b=some (.frz o u)->H' b=some (.frz o u)
 tbls:∀b ps,H b=some (.tbl ps)->∃more,H' b=some (.tbl (ps++more))
section
variable{fs ex:List Addr}{H H1:Hp}{h h1 h':Heap}{a x e:Addr}{o:HO}
def Un.any(u:Un fs ex H H1 h h1)(q:h.get? b=some ob)(n:H b=none)(hx:b∉ex):∃sl,h1.get? b=some { ob with slots:=sl }:=by
 by_cases hb:b∈fs
 .exact u.slot b ob q n hb hx
 .exact⟨ob.slots,u.keep b ob q n hb hx⟩
def Un.kept(k:∀b u,h.get? b=some u->h'.get? b=some u):Un fs ex H H h h':=
 ⟨λb ob q _ _ _=>k b ob q,λb ob q _ _ _=>⟨ob.slots,k b ob q⟩,λ_ _ _ n _=>n,λb ob q _=>⟨ob,k b ob q⟩,λ_ _ q=>q,λ_ _ _ q=>q,λ_ ps q=>⟨#[],by rw[q];simp⟩⟩
def Un.refl:Un fs ex H H h h:=Un.kept λ_ _ q=>q
def Un.laid(k:∀b u,h.get? b=some u->h'.get? b=some u)(hp:h.objs.size<=a)(hn:H a=none):Un fs ex H (upd H a o) h h' where
 keep:=λb u q _ _ _=>k b u q
 slot:=λb u q _ _ _=>⟨u.slots,k b u q⟩
 free:=λb u q n _=>by rw[ax (Ct (t_ (n_ q) hp))];exact n
 there:=λb u q _=>⟨u,k b u q⟩
 tups:=λb xs q=>by rw[ax (bY q hn)];exact q
 frzs:=λb u xs q=>by rw[ax (bY q hn)];exact q
 tbls:=λb ps q=>⟨#[],by rw[ax (bY q hn),q];simp⟩
def Un.write(mu:Mut (H x))(he:e=x\/H e=some (.own x))(k:∀b u,b≠e->h.get? b=some u->h'.get? b=some u)(heo:∃u,h'.get? e=some u):Un fs ex H (upd H x o) h h':=by
 have hx:∀b,H b=none->b≠x:=λb n z=>by subst z;rw[n] at mu;exact mu
 have hb:∀b,H b=none->b≠e:=λb n z=>by
  subst z;rcases he with r |r
  .exact hx b n r
  .rw[n] at r;cases r
 have hm:∀b u,H b=some u->¬ Mut (some u)->b≠x:=λb u q nm z=>by subst z;rw[q] at mu;exact nm mu
 refine⟨λb u q n _ _=>k b u (hb b n) q,λb u q n _ _=>⟨u.slots,k b u (hb b n) q⟩,λb u q n _=>by rw[ax (hx b n)];exact n,λb u q _=>?_,
  λb xs q=>by rw[ax (hm b _ q λz=>z)];exact q,λb u xs q=>by rw[ax (hm b _ q λz=>z)];exact q,λb ps q=>⟨#[],by rw[ax (hm b _ q λz=>z),q];simp⟩⟩
 by_cases hbe:b=e
 .subst hbe;exact heo
 .exact⟨u,k b u hbe q⟩
end
noncomputable def trk (h:Heap) (H:Hp):List Addr:=(List.range h.objs.size).filter λa=>(H a).isSome
noncomputable def eQ (h:Heap) (H:Hp):Heap:=W.hideAll h (trk h H)
def pf(h:Heap)(H:Hp):(eQ h H).objs.size=h.objs.size:=W.hideAll_size _ _
def tH(e:h.get? b=some o)(n:H b=none):(eQ h H).get? b=some o:=
 Eg _ e λhm=>by have q:(H b).isSome=true:=(List.mem_filter.mp hm).2;rw[n] at q;simp at q
def v8(e:(eQ h H).get? b=some o):h.get? b=some o/\H b=none:=by
 have e':h.get? b=some o:=W.of_hideAll (trk h H) e;refine⟨e',?_⟩;cases q:H b with
 |none=>rfl
 |some x=>have hm:b∈trk h H:=List.mem_filter.mpr ⟨List.mem_range.mpr (n_ e'),by simp [q]⟩;have z:(eQ h H).get? b=none:=W.hideAll_none (trk h H) hm;rw[z] at e;cases e
noncomputable def vP (g h:Heap) (L:Addr):List (Addr×Obj):=(List.range h.objs.size).filterMap λa=>if a=L\/(g.get? a).isSome=true then none else (h.get? a).map λo=>(a,o)
noncomputable def dC (g h:Heap) (L d:Addr):List (Addr×Obj):=(vP g h L).filter λp=>decide (p.1≠d)
structure Mod(K:W.Frag)(mg:Eh)(base:Heap):Prop where
 kin:K.In base
 glob:base.Ns mainGlobals mg
 blt:∃mb,base.Ns builtinsNs mb/\∀x:Str,x ≠ "__name__"->mb x=bootBuiltins x
 nolimit:base.NoLimit
structure Cx where
 prog:Program
 w:World
 K:W.Frag
 mg:Str->Option Value
 base:Heap
 A:Around
 N:List Str
 s₀:Shared
 H₀:Hp
 env:Env
 outer:List Env
 stack:List Env
 ex:List Addr
 fn:Str->Bool
 calm:Bool
 pn:List (Addr×Obj)
 xe:Value->Shared->Prop
noncomputable def frs (l:List Env):List Addr:=l.filterMap (·.frame)
abbrev Cx.fs(X:Cx):List Addr:=frs X.outer
def Vis(sc:Scope)(x:Str):Prop:=sc.names.lookup x=some .local\/sc.names.lookup x=some .cell\/sc.names.lookup x=some .free
def Loc(sc:Scope)(x:Str):Prop:=sc.names.lookup x=some .local\/sc.names.lookup x=some .cell
def n0(env:Env)(h:Heap)(m:Eh)(x:Str)(u:Value):Prop:=
 (env.kindOf x=some .local/\m x=some u)\/((env.kindOf x=some .cell\/env.kindOf x=some .free)/\∃c,env.cells.lookup x=some c/\h.IsCell c (some u))
structure Cx.Ok(X:Cx):Prop where
 mod:Mod X.K X.mg X.base
 kind:X.env.scope.kind=.function
 glob:X.env.globals=mainGlobals
 blt:X.env.builtins=builtinsNs
 above:X.s₀.heap.objs.size<=X.env.locals
 inj:∀x y c,X.env.cells.lookup x=some c->X.env.cells.lookup y=some c->x=y
 has:∀x,(X.env.kindOf x=some .cell\/X.env.kindOf x=some .free)->∃c,X.env.cells.lookup x=some c
 cab:∀x c,X.fn x=true->X.env.cells.lookup x=some c->X.s₀.heap.objs.size<=c
 hd:X.calm=true->X.A.handled=none
 frames:X.A.frames=some X.stack
 stk:X.stack=X.outer\/(X.stack=X.env::X.outer/\X.env.frame=some X.env.locals)
 exf:∀b∈X.ex,b≠X.env.locals/\∀x c,X.env.cells.lookup x=some c->c≠b
 bs:∀b o,X.base.get? b=some o->X.s₀.heap.get? b=some o/\X.H₀ b=none
 bsz:X.base.objs.size<=X.s₀.heap.objs.size
 noex:∀b o,X.base.get? b=some o->b∉X.ex
 exfs:∀b∈X.ex,b∉X.fs
 funs:X.s₀.heap.FunFrames X.base X.outer
 frf:∀b∈X.fs,X.H₀ b=none
structure Inv(X:Cx)(pins:Ei)(σ:List (Option V))(H:Hp)(s:Shared):Prop where
 ok:X.Ok
 os:s.os=X.s₀.os
 bare:AllBare s.gens
 base:Un X.fs X.ex X.H₀ H X.s₀.heap s.heap
 loc:∃m,s.heap.Ns X.env.locals m/\∀(i:Nat) (x:Str) (v:V),X.N[i]?=some x->σ[i]?=some (some v)->Vis X.env.scope x->∃u,RelV v u/\n0 X.env s.heap m x u
 cell:∀x c,X.env.cells.lookup x=some c->∃v,s.heap.IsCell c v
 free:H X.env.locals=none
 freeC:∀x c,X.env.cells.lookup x=some c->H c=none
 pin:∀p∈X.pn++pins,s.heap.get? p.1=some p.2/\H p.1=none/\p.1≠X.env.locals/\p.1∉X.fs/\∀v,p.2.data ≠ .cell v
 hok:HOk X.prog X.w H s.heap
 len:σ.length=X.N.length
section
variable{X:Cx}{pins:Ei}{σ:List (Option V)}{H H':Hp}{s:Shared}{h':Heap}
def Cx.Ok.nofr(ok:X.Ok)(e:X.base.get? b=some o):b∉X.fs:=λhb=>by
 have:=(ok.funs.mem hb).1
 rw[e] at this;cases this
def Inv.bs(I:Inv X pins σ H s):∀b o,X.base.get? b=some o->s.heap.get? b=some o/\H b=none:=λb o e=>
 ⟨I.base.keep b o (I.ok.bs b o e).1 (I.ok.bs b o e).2 (I.ok.nofr e) (I.ok.noex b o e),I.base.free b o (I.ok.bs b o e).1 (I.ok.bs b o e).2 (I.ok.noex b o e)⟩
def Inv.bk(I:Inv X pins σ H s):∀b o,X.base.get? b=some o->s.heap.get? b=some o:=λb o e=>(I.bs b o e).1
def Inv.mod(I:Inv X pins σ H s):Mod X.K X.mg X.base:=I.ok.mod
def Inv.kIn(I:Inv X pins σ H s):X.K.In s.heap:=I.ok.mod.kin.keeps I.bk
def Inv.lt(I:Inv X pins σ H s):X.env.locals<s.heap.objs.size:=let ⟨_,hn,_⟩:=I.loc;hn.lt
def Inv.sz(I:Inv X pins σ H s):X.s₀.heap.objs.size<=s.heap.objs.size:=Cw I.ok.above (Nat.le_of_lt I.lt)
def Inv.nofs(I:Inv X pins σ H s)(h:s.heap.objs.size<=a):a∉X.fs:=λhb=>by obtain⟨_,o,ho,_⟩:=I.ok.funs.mem hb;exact absurd (t_ (n_ ho) (Cw I.sz h)) (CA _)
def Inv.cne(I:Inv X pins σ H s):∀x c,X.env.cells.lookup x=some c->c≠X.env.locals:=λx c e z=>by obtain⟨v,o,ho,hd⟩:=I.cell x c e;obtain⟨m,⟨o',es,ep,ho',hd',_⟩,_⟩:=I.loc;rw[z,ho'] at ho;cases ho;rw[hd'] at hd;cases hd
def Inv.funs(I:Inv X pins σ H s):s.heap.FunFrames X.base X.outer:=by
 have all:∀(l:List Env),(∀b∈frs l,b∈X.fs)->X.s₀.heap.FunFrames X.base l->s.heap.FunFrames X.base l:=by
  intro l;induction l with
  |nil=>intro _ _;trivial
  |cons env r ih=>intro hs hl;obtain⟨hk,⟨L,o,hf,hn,ho,hd⟩,hr⟩:=hl;have hL:L∈X.fs:=hs L (by unfold frs;rw[CZ,hf];exact r_);obtain⟨sl,e⟩:=I.base.slot L o ho (I.ok.frf L hL) hL λz=>I.ok.exfs L z hL;exact⟨hk,⟨L,_,hf,hn,e,hd⟩,ih (λb hb=>hs b (by unfold frs;rw[CZ,hf];exact q_ _ hb)) hr⟩
 exact all X.outer (λ_ hb=>hb) I.ok.funs
def Inv.stack(I:Inv X pins σ H s):s.heap.FunFrames X.base X.stack:=by
 rcases I.ok.stk with e |⟨e,hf⟩
 .rw[e];exact I.funs
 .rw[e];obtain⟨m,hn,_⟩:=I.loc;refine .cons (by rw[I.ok.kind];decide) hf hn ?_ I.funs;exact C8 (Cw I.ok.bsz I.ok.above)
def Inv.stkSub(I:Inv X pins σ H s):∀b∈frs X.stack,b∈X.env.locals::X.fs:=λb hb=>by
 rcases I.ok.stk with e |⟨e,hf⟩
 .rw[e] at hb;exact q_ _ hb
 .rw[e] at hb;unfold frs at hb;rw[CZ,hf] at hb;exact hb
def Inv.stkFree(I:Inv X pins σ H s):∀b∈frs X.stack,H b=none:=λb hb=>by
 rcases Cu.mp (I.stkSub b hb) with e |hb
 .rw[e];exact I.free
 .obtain⟨_,o,ho,_⟩:=I.ok.funs.mem hb;exact I.base.free b o ho (I.ok.frf b hb) λz=>I.ok.exfs b z hb
def Inv.step{g':Array GenState}{t':Nat}{d':Drawn}{ch:List Addr}(I:Inv X pins σ H s)
 (hch:∀b∈ch,(b∈X.ex\/X.s₀.heap.objs.size<=b)/\b≠X.env.locals/\(∀x c,X.env.cells.lookup x=some c->c≠b)/\∀p∈X.pn++pins,p.1≠b)
 (keep:∀b o,b≠X.env.locals->b∉X.fs->b∉ch->s.heap.get? b=some o->H b=none->h'.get? b=some o)
 (slot:∀b o,b≠X.env.locals->b∈X.fs->b∉ch->s.heap.get? b=some o->H b=none->∃sl,h'.get? b=some { o with slots:=sl }) (free:∀b o,b∉ch->s.heap.get? b=some o->H b=none->H' b=none)
 (there:∀b o,b∉ch->s.heap.get? b=some o->∃o',h'.get? b=some o')
 (tups:∀b xs,H b=some (.tup xs)->H' b=some (.tup xs)) (frzs:∀b o u,H b=some (.frz o u)->H' b=some (.frz o u)) (tbls:∀b ps,H b=some (.tbl ps)->∃more,H' b=some (.tbl (ps++more)))
 (ns:∀m,s.heap.Ns X.env.locals m->h'.Ns X.env.locals m) (hok:HOk X.prog X.w H' h') (hg:AllBare g'):
 Inv X pins σ H' { s with heap:=h',gens:=g',drawn:=d',toks:=t' }:=by
 have neL:∀b o,X.s₀.heap.get? b=some o->b≠X.env.locals:=λb o e=>Ct (t_ (n_ e) I.ok.above);have neC:∀b o,X.s₀.heap.get? b=some o->b∉X.ex->b∉ch:=λb o e hx hb=>by
  rcases (hch b hb).1 with z |z
  .exact hx z
  .exact absurd (t_ (n_ e) z) (CA _)
 have cellK:∀x c,X.env.cells.lookup x=some c->∀v,s.heap.IsCell c v->h'.IsCell c v:=λx c e v ⟨o,ho,hd⟩=>by
  have nch:c∉ch:=λz=>(hch c z).2.2.1 x c e rfl;by_cases hc:c∈X.fs
  .obtain⟨sl,q⟩:=slot c o (I.cne x c e) hc nch ho (I.freeC x c e);exact⟨_,q,hd⟩
  .exact⟨o,keep c o (I.cne x c e) hc nch ho (I.freeC x c e),hd⟩
 refine⟨I.ok,I.os,hg,⟨λb o e n hb hx=>?_,λb o e n hb hx=>?_,λb o e n hx=>?_,λb o e hx=>?_,λb xs e=>tups b xs (I.base.tups b xs e),λb o xs e=>frzs b o xs (I.base.frzs b o xs e),λb ps e=>?_⟩,?_,λx c e=>?_,?_,λx c e=>?_,λp hp=>?_,hok,I.len⟩
 .exact keep b o (neL b o e) hb (neC b o e hx) (I.base.keep b o e n hb hx) (I.base.free b o e n hx)
 .obtain⟨sl,e1⟩:=I.base.slot b o e n hb hx;obtain⟨sl',e2⟩:=slot b _ (neL b o e) hb (neC b o e hx) e1 (I.base.free b o e n hx);exact⟨sl',e2⟩
 .obtain⟨o',e1⟩:=I.base.there b o e hx;exact free b o' (neC b o e hx) e1 (I.base.free b o e n hx)
 .obtain⟨o',e1⟩:=I.base.there b o e hx;exact there b o' (neC b o e hx) e1
 .obtain⟨m1,e1⟩:=I.base.tbls b ps e;obtain⟨m2,e2⟩:=tbls b _ e1;exact⟨m1++m2,by rw[e2,Array.append_assoc]⟩
 .obtain⟨m,hn,hl⟩:=I.loc;refine⟨m,ns m hn,λi x v e1 e2 e3=>?_⟩;obtain⟨u,r,l⟩:=hl i x v e1 e2 e3;refine⟨u,r,?_⟩;rcases l with l |⟨k,c,e,z⟩
  .exact .inl l
  .exact .inr ⟨k,c,e,cellK x c e _ z⟩
 .obtain⟨v,z⟩:=I.cell x c e;exact⟨v,cellK x c e v z⟩
 .obtain⟨m,⟨o,_,_,ho,_⟩,_⟩:=I.loc;exact free _ o (λz=>(hch _ z).2.1 rfl) ho I.free
 .obtain⟨v,o,ho,hd⟩:=I.cell x c e;exact free c o (λz=>(hch c z).2.2.1 x c e rfl) ho (I.freeC x c e)
 .obtain⟨e,n,ne,nf,d⟩:=I.pin p hp;have nch:p.1∉ch:=λz=>(hch p.1 z).2.2.2 p hp rfl;exact⟨keep p.1 p.2 ne nf nch e n,free p.1 p.2 nch e n,ne,nf,d⟩
def Inv.un{t':Nat}(I:Inv X pins σ H s)(u:Un X.fs [] H H' s.heap h')(hok:HOk X.prog X.w H' h'):Inv X pins σ H' { s with heap:=h',toks:=t' }:=by obtain⟨m,⟨o,es,ep,ho,r⟩,_⟩:=id I.loc;obtain⟨sl,hL⟩:=u.any ho I.free (by simp);exact I.step (g':=s.gens) (d':=s.drawn) (ch:=[]) (λ_ z=>nomatch z) (λb o _ hb _ e n=>u.keep b o e n hb (by simp)) (λb o _ hb _ e n=>u.slot b o e n hb (by simp)) (λb o _ e n=>u.free b o e n (by simp)) (λb o _ e=>u.there b o e (by simp)) u.tups u.frzs u.tbls (λm' hm=>by obtain⟨o',es',ep',ho',r'⟩:=hm;rw[ho] at ho';cases ho';exact⟨_,es',ep',hL,r'⟩) hok I.bare
def Inv.call{g':Array GenState}{t':Nat}{d':Drawn}{ch:List Addr}(I:Inv X pins σ H s)(u:Un (frs X.stack) ch H H' s.heap h')(hok:HOk X.prog X.w H' h')(hg:AllBare g')
 (hch:∀b∈ch,(b∈X.ex\/X.s₀.heap.objs.size<=b)/\b≠X.env.locals/\(∀x c,X.env.cells.lookup x=some c->c≠b)/\∀p∈X.pn++pins,p.1≠b):
 Inv X pins σ H' { s with heap:=h',gens:=g',drawn:=d',toks:=t' }:=by
 obtain⟨m,⟨o,es,ep,ho,r⟩,_⟩:=id I.loc;obtain⟨sl,hL⟩:=u.any ho I.free λz=>(hch _ z).2.1 rfl;exact I.step (ch:=ch) hch (λb o hL hb hc e n=>u.keep b o e n (λz=>(Cu.mp (I.stkSub b z)).elim hL hb) hc) (λb o _ _ hc e n=>u.any e n hc) (λb o hc e n=>u.free b o e n hc) (λb o hc e=>u.there b o e hc) u.tups u.frzs u.tbls (λm' hm=>by obtain⟨o',es',ep',ho',r'⟩:=hm;rw[ho] at ho';cases ho';exact⟨_,es',ep',hL,r'⟩) hok hg
def Inv.turned{t':Nat}{it:Addr}(I:Inv X pins σ H s)(k:∀b o,b≠it->s.heap.get? b=some o->h'.get? b=some o)(hn:H it=none)(hL:it≠X.env.locals)
 (h1:it∈X.ex\/X.s₀.heap.objs.size<=it) (h2:∀x c,X.env.cells.lookup x=some c->c≠it) (h3:∀p∈X.pn++pins,p.1≠it):Inv X pins σ H { s with heap:=h',toks:=t' }:=by
 have nit:∀b u,H b=some u->b≠it:=λb u e z=>by rw[z,hn] at e;cases e
 refine I.step (g':=s.gens) (d':=s.drawn) (ch:=[it]) (λb hb=>?_) (λb o _ _ hc e _=>k b o (λz=>hc (by simp [z])) e) (λb o _ _ hc e _=>⟨o.slots,k b o (λz=>hc (by simp [z])) e⟩) (λ_ _ _ _ n=>n)
  (λb o hc e=>⟨o,k b o (λz=>hc (by simp [z])) e⟩) (λ_ _ e=>e) (λ_ _ _ e=>e) (λb ps e=>⟨#[],by rw[e];simp⟩) (λm hm=>?_) (λb u e=>?_) I.bare
 .have e:b=it:=by simpa using hb
  subst e;exact⟨h1,hL,h2,h3⟩
 .obtain⟨o,es,ep,ho,r⟩:=hm;exact⟨o,es,ep,k _ o (Ne.symm hL) ho,r⟩
 .refine (I.hok b u e).stay (λc v hc q=>k c v ?_ q) (λ_ q=>q) λ_ _ q=>q;rcases hc with z |z
  .rw[z];exact nit b u e
  .exact nit c _ z
def Inv.tok(I:Inv X pins σ H s)(t:Nat):Inv X pins σ H { s with toks:=t }:=I.un (h':=s.heap) (t':=t) Un.refl I.hok
def Inv.kept(I:Inv X pins σ H s)(k:∀b u,s.heap.get? b=some u->h'.get? b=some u):Inv X pins σ H { s with heap:=h',toks:=t' }:=I.un (Un.kept k) (I.hok.kept k)
def Inv.laid(I:Inv X pins σ H s)(k:∀b u,s.heap.get? b=some u->h'.get? b=some u)(hp:s.heap.objs.size<=a)(new:ObjOk X.prog X.w (upd H a o) h' a o):
 Inv X pins σ (upd H a o) { s with heap:=h',toks:=t' }:=I.un (Un.laid k hp (I.hok.fresh hp)) (I.hok.laid k hp new)
def Inv.write(I:Inv X pins σ H s)(mu:Mut (H x))(he:e=x\/H e=some (.own x))(k:∀b u,b≠e->s.heap.get? b=some u->h'.get? b=some u)(heo:∃u,h'.get? e=some u)
 (new:ObjOk X.prog X.w (upd H x o) h' x o):Inv X pins σ (upd H x o) { s with heap:=h',toks:=t' }:=I.un (Un.write mu he k heo) (I.hok.write mu he k heo new)
def Inv.pins_of(I:Inv X pins σ H s)(h:∀p∈pins',s.heap.get? p.1=some p.2/\H p.1=none/\p.1≠X.env.locals/\p.1∉X.fs/\∀v,p.2.data ≠ .cell v):Inv X pins' σ H s:=
 ⟨I.ok,I.os,I.bare,I.base,I.loc,I.cell,I.free,I.freeC,λp hp=>(Dv.mp hp).elim (λz=>I.pin p (D5 _ z)) (h p),I.hok,I.len⟩
def gy{N:List Str}(hN:N.Nodup){i j:Nat}{x:Str}(a:N[i]?=some x)(b:N[j]?=some x):i=j:=by obtain⟨h1,e1⟩:=l_.mp a;obtain⟨h2,e2⟩:=l_.mp b;exact (List.getElem_inj hN).mp (e1.trans e2.symm)
def jS(I:Inv X pins σ H s)(hN:X.N.Nodup)(hi:X.N[i]?=some x)(hx:Loc X.env.scope x)(r:RelV v u)
 (h:∀s',Inv X pins (σ.set i (some v)) H s'->(∃a,Heap.SameBut a s.heap s'.heap/\(a=X.env.locals\/X.env.cells.lookup x=some a))->Q () s') (hf:X.fn x=true\/X.env.scope.names.lookup x=some .local):wpAny M A (storeName X.env x u) Q E s:=by
 obtain⟨m,hn,hl⟩:=id I.loc;have hcls:(X.env.scope.kind == .class || (X.env.scope.kind == .module&&X.env.locals != X.env.globals))=false:=by rw[I.ok.kind];rfl
 have hiσ:i<σ.length:=by rw[I.len];exact (l_.mp hi).1
 have cne:=I.cne;have tracked:∀{a:Addr}{h':Heap},(∃o,s.heap.get? a=some o/\H a=none)->Heap.SameBut a s.heap h'->HOk X.prog X.w H h':=λ{a h'} ha hs b ob e=>by
  obtain⟨_,_,hfree⟩:=ha;refine (I.hok b ob e).stay (λc w' hc q=>(hs.2 c ?_).trans q) (λ_ q=>q) λ_ _ q=>q;rintro rfl;rcases hc with rfl |hc
  .rw[hfree] at e;cases e
  .rw[hfree] at hc;cases hc
 rcases hx with hk |hk
 .refine wpAny_storeName_local hk hn (λh' hn' hs=>?_) hcls;obtain⟨oL,_,_,hoL,_⟩:=id hn;refine h _ ⟨I.ok,I.os,I.bare,⟨λb o e n hb hx=>?_,λb o e n hb hx=>?_,I.base.free,λb o e hx=>?_,I.base.tups,I.base.frzs,I.base.tbls⟩,⟨_,hn',λj y v' e1 e2 e3=>?_⟩,λy c e=>?_,I.free,I.freeC,λp hp=>?_,tracked ⟨oL,hoL,I.free⟩ hs,by simpa using I.len⟩ ⟨_,hs,.inl rfl⟩
  .exact (hs.2 b (Ct (t_ (n_ e) I.ok.above))).trans (I.base.keep b o e n hb hx)
  .obtain⟨sl,e1⟩:=I.base.slot b o e n hb hx;exact⟨sl,(hs.2 b (Ct (t_ (n_ e) I.ok.above))).trans e1⟩
  .obtain⟨o',e1⟩:=I.base.there b o e hx;exact⟨o',(hs.2 b (Ct (t_ (n_ e) I.ok.above))).trans e1⟩
  .by_cases hj:j=i
   .subst hj;rw[hi] at e1;cases e1;rw[Dh hiσ] at e2;cases e2;exact⟨u,r,.inl ⟨hk,by simp⟩⟩
   .rw[Dm (Ne.symm hj)] at e2;obtain⟨u',r',q⟩:=hl j y v' e1 e2 e3;refine⟨u',r',?_⟩;rcases q with ⟨k,e⟩ |⟨k,c,e,z⟩
    .refine .inl ⟨k,?_⟩;have:y≠x:=λe=>hj (gy hN e1 (e ▸ hi));simp [this,e]
    .exact .inr ⟨k,c,e,z.sameBut hs (cne y c e)⟩
  .obtain⟨w',z⟩:=I.cell y c e;exact⟨w',z.sameBut hs (cne y c e)⟩
  .obtain⟨e,n,ne,nf,d⟩:=I.pin p hp;exact⟨(hs.2 p.1 ne).trans e,n,ne,nf,d⟩
 .have hfn:X.fn x=true:=by
   rcases hf with z |z
   .exact z
   .rw[z] at hk;cases hk
  obtain⟨c,hc⟩:=I.ok.has x (.inl hk);obtain⟨w',z⟩:=I.cell x c hc;refine wpAny_storeName_cell I.ok.kind hk hc z (λh' hc' hs=>?_);obtain⟨oc,hoc,hocd⟩:=id z;refine h { s with heap:=h' } ⟨I.ok,I.os,I.bare,⟨λb o e n hb hx=>?_,λb o e n hb hx=>?_,I.base.free,λb o e hx=>?_,I.base.tups,I.base.frzs,I.base.tbls⟩,⟨m,hn.sameBut hs (Ne.symm (cne x c hc)),λj y v' e1 e2 e3=>?_⟩,λy c' e=>?_,I.free,I.freeC,λp hp=>?_,tracked ⟨oc,hoc,I.freeC x c hc⟩ hs,by simpa using I.len⟩ ⟨c,hs,.inr hc⟩
  .exact (hs.2 b (Ct (t_ (n_ e) (I.ok.cab x c hfn hc)))).trans (I.base.keep b o e n hb hx)
  .obtain⟨sl,e1⟩:=I.base.slot b o e n hb hx;exact⟨sl,(hs.2 b (Ct (t_ (n_ e) (I.ok.cab x c hfn hc)))).trans e1⟩
  .obtain⟨o',e1⟩:=I.base.there b o e hx;exact⟨o',(hs.2 b (Ct (t_ (n_ e) (I.ok.cab x c hfn hc)))).trans e1⟩
  .by_cases hj:j=i
   .subst hj;rw[hi] at e1;cases e1;rw[Dh hiσ] at e2;cases e2;exact⟨u,r,.inr ⟨.inl hk,c,hc,hc'⟩⟩
   .rw[Dm (Ne.symm hj)] at e2;obtain⟨u',r',q⟩:=hl j y v' e1 e2 e3;refine⟨u',r',?_⟩;rcases q with q |⟨k,c',e,z'⟩
    .exact .inl q
    .refine .inr ⟨k,c',e,z'.sameBut hs ?_⟩;rintro rfl;exact hj (gy hN e1 (I.ok.inj _ _ _ e hc ▸ hi))
  .by_cases hcc:c'=c
   .subst hcc;exact⟨_,hc'⟩
   .obtain⟨w2,z2⟩:=I.cell y c' e;exact⟨w2,z2.sameBut hs hcc⟩
  .obtain⟨e,n,ne,nf,d⟩:=I.pin p hp;refine⟨(hs.2 p.1 ?_).trans e,n,ne,nf,d⟩;intro q;rw[q,hoc] at e;have q':oc=p.2:=x_ e;exact d w' (by rw[<- q'];exact hocd)
def dE(I:Inv X pins σ H s)(hN:X.N.Nodup)(hi:X.N[i]?=some x)(hx:Loc X.env.scope x)(r:RelV v u)
 (h:∀s',Inv X pins (σ.set i (some v)) H s'->Q () s') (hf:X.fn x=true\/X.env.scope.names.lookup x=some .local):wpAny M A (storeName X.env x u) Q E s:=
 jS I hN hi hx r (λs' I' _=>h s' I') hf
def Inv.call'(I:Inv X pins σ H s)(ho:s'.os=s.os)(u:Un (frs X.stack) ch H H' s.heap s'.heap)(hok:HOk X.prog X.w H' s'.heap)(hg:AllBare s'.gens)
 (hch:∀b∈ch,(b∈X.ex\/X.s₀.heap.objs.size<=b)/\b≠X.env.locals/\(∀x c,X.env.cells.lookup x=some c->c≠b)/\∀p∈X.pn++pins,p.1≠b):Inv X pins σ H' s':=by
 obtain⟨h',g',d',t',o'⟩:=s';have e:o'=s.os:=ho;subst e;exact I.call (g':=g') (t':=t') (d':=d') u hok hg hch
end
abbrev XK:=Value->Option Addr->Hp->Prop
abbrev St:=List (Option V)
abbrev VK:=V->Hp->Prop
abbrev TE:=St->Hp->VK->Prop
abbrev TT:=St->Hp->(Bool->Hp->Prop)->Prop
abbrev TA:=St->Hp->(List V->Hp->Prop)->Prop
structure Ends where
 nx:St->Hp->Prop
 rt:VK
 bk:St->Hp->Prop:=λ_ _=>False
 ct:St->Hp->Prop:=λ_ _=>False
abbrev TS:=Ends->St->Hp->Prop
def EP(X:Cx)(pins:Ei)(σ:St)(Q:VK)(u:Value)(s':Shared):Prop:=∃v H',Inv X pins σ H' s'/\RelV v u/\Q v H'
def TP(X:Cx)(pins:Ei)(σ:St)(Q:Bool->Hp->Prop)(b:Bool)(s':Shared):Prop:=∃H',Inv X pins σ H' s'/\Q b H'
def AP(X:Cx)(pins:Ei)(σ:St)(Q:List V->Hp->Prop)(us:List Value)(s':Shared):Prop:=∃vs H',Inv X pins σ H' s'/\Vals vs us/\Q vs H'
def SP(X:Cx)(pins:Ei)(D:Ends)(f:Flow)(s':Shared):Prop:=
 match f with
 |.next=>∃σ' H',Inv X pins σ' H' s'/\D.nx σ' H'
 |.brk=>∃σ' H',Inv X pins σ' H' s'/\D.bk σ' H'
 |.cont=>∃σ' H',Inv X pins σ' H' s'/\D.ct σ' H'
 |.ret u=>∃v σ' H',Inv X pins σ' H' s'/\RelV v u/\D.rt v H'
def exA{α:Type}{A B C:α->Hp->Prop}{Z:Prop}(h:∃v H',A v H'/\B v H'/\C v H')(k:∀v H',A v H'->B v H'->C v H'->Z):Z:=by obtain⟨v,H',a,b,c⟩:=h;exact k v H' a b c
def PE(X:Cx)(e:Expr)(t:TE):Prop:=
 ∀(pins:Ei) (s:Shared) (σ:St) (H:Hp) (Q:VK),Inv X pins σ H s->t σ H Q->wpAny (model X.prog X.w) X.A (eval e X.env) (EP X pins σ Q) X.xe s
def PT(X:Cx)(e:Expr)(t:TT):Prop:=
 ∀(pins:Ei) (s:Shared) (σ:St) (H:Hp) (Q:Bool->Hp->Prop),Inv X pins σ H s->t σ H Q->wpAny (model X.prog X.w) X.A (isTrue e X.env (eval e X.env)) (TP X pins σ Q) X.xe s
def PW(X:Cx)(e:Expr)(t:TT):Prop:=
 ∀(whole:Sem Value) (pins:Ei) (s:Shared) (σ:St) (H:Hp) (Q:Bool->Hp->Prop),Inv X pins σ H s->t σ H Q->wpAny (model X.prog X.w) X.A (isTrue e X.env whole) (TP X pins σ Q) X.xe s
def PW.pt(h:PW X e t):PT X e t:=h _
def PA(X:Cx)(es:List Expr)(t:TA):Prop:=
 ∀(pos:Pos) (pins:Ei) (s:Shared) (σ:St) (H:Hp) (Q:List V->Hp->Prop),Inv X pins σ H s->t σ H Q->wpAny (model X.prog X.w) X.A (spliced (backTo pos (starEach es X.env))) (AP X pins σ Q) X.xe s
def PS(X:Cx)(st:Stmt)(t:TS):Prop:=
 ∀(pins:Ei) (s:Shared) (σ:St) (H:Hp) (D:Ends),Inv X pins σ H s->t D σ H->wpAny (model X.prog X.w) X.A (exec st X.env) (SP X pins D) X.xe s
def PSs(X:Cx)(st:List Stmt)(t:TS):Prop:=
 ∀(pins:Ei) (s:Shared) (σ:St) (H:Hp) (D:Ends),Inv X pins σ H s->t D σ H->wpAny (model X.prog X.w) X.A (execs st X.env) (SP X pins D) X.xe s
def thn(h:wpAny M A t Q E s)(hQ:∀a s,Q a s->Q' a s):wpAny M A t Q' E s:=z_ h hQ λ_ _ x=>x
section
variable{X:Cx}
def tVar(i:Nat):TE:=λσ H Q=>∃v,σ[i]?=some (some v)/\Q v H
def tC(v:V):TE:=λ_ H Q=>Q v H
def yZ(hN:X.N[i]?=some x)(hv:Vis X.env.scope x)(hd:(x==("__debug__" : Str))=false)(hcd:(x==("__classdict__" : Str))=false):PE X (.Name x pos) (tVar i):=by
 intro pins s σ H Q I h;obtain⟨v,e,h⟩:=h;obtain⟨m,hn,hl⟩:=I.loc;obtain⟨u,r,l⟩:=hl i x v hN e hv;have c_:EP X pins σ Q u s:=⟨v,H,I,r,h⟩;rcases l with ⟨hk,hm⟩ |⟨hk,c,hc,hcell⟩
 .exact wpAny_Name (wpAny_loadName_local I.ok.kind hk hn hm c_) hd
 .rcases hk with hk |hk
  .exact wpAny_Name (wpAny_loadName_cell I.ok.kind hk hc hcell c_) hd
  .exact wpAny_Name (wpAny_loadName_free I.ok.kind hk hc hcell c_ hcd) hd
def zD{i j pos}:PE X (.Constant (.int i) j pos) (tC (.int i)):=λ_ _ _ H _ I h=>wpAny_Constant_int ⟨.int i,H,I.tok _,⟨_,rfl⟩,h⟩
def Cc{b j pos}:PE X (.Constant (.bool b) j pos) (tC (.bl b)):=λ_ _ _ H _ I h=>Constant_bool ⟨.bl b,H,I,rfl,h⟩
def qa{x j pos}:PE X (.Constant (.str x) j pos) (tC (.str x)):=λ_ _ _ H _ I h=>Calls.Constant_str ⟨.str x,H,I.tok _,⟨_,rfl⟩,h⟩
def Gl(X:Cx)(x:Str):Prop:=X.env.kindOf x=some .globalImplicit
def fW(I:Inv X pins σ H s)(hg:Gl X x)(hm:X.mg x=some u)(h:Q u s)
 (hd:(x==("__debug__" : Str))=false):wpAny (model X.prog X.w) X.A (eval (.Name x pos) X.env) Q E s:=
 Dp I.ok.kind hg (Calls.loadGlobal_global (by rw[I.ok.glob];exact I.mod.glob.keeps I.bk) hm h) hd
def gL(I:Inv X pins σ H s)(hg:Gl X x)(hm:X.mg x=none)(hv:bootBuiltins x=some u)(h:Q u s)
 (hn:x ≠ "__name__":=by decide) (hd:(x==("__debug__" : Str))=false:=by decide):wpAny (model X.prog X.w) X.A (eval (.Name x pos) X.env) Q E s:=by
 obtain⟨mb,h1,h2⟩:=I.mod.blt;exact Dp I.ok.kind hg (Calls.loadGlobal_builtin (by rw[I.ok.glob];exact I.mod.glob.keeps I.bk) hm (by rw[I.ok.blt];exact h1.keeps I.bk) ((h2 x hn).trans hv) h) hd
def m9(hg:Gl X x)(hm:X.mg x=some u)(r:RelV v u)(hd:(x==("__debug__" : Str))=false):PE X (.Name x pos) (tC v):=
 λ_ _ _ H _ I h=>fW I hg hm ⟨v,H,I,r,h⟩ hd
def wK(hg:Gl X x)(hm:X.mg x=none)(hv:bootBuiltins x=some u)(r:RelV v u)(hn:x ≠ "__name__")(hd:(x==("__debug__" : Str))=false):PE X (.Name x pos) (tC v):=
 λ_ _ _ H _ I h=>gL I hg hm hv ⟨v,H,I,r,h⟩ hn hd
variable{a b:Expr}{ta tb:TE}{pos:Pos}
def tB(t:TE):TT:=λσ H Q=>t σ H λx H1=>∃c,x=.bl c/\Q c H1
def zM(h:PE X e t)(he:∀whole,isTrue e X.env whole=(do let v <- whole;standAt e.pos;holding [v] (truthy v))):PT X e (tB t):=by intro pins s σ H Q I hw;refine isTrue_plain (thn (h pins s σ H _ I hw) λv s1 zz=>exA zz λx H1 I1 r1 q1=>?_) (he _);obtain⟨d,rfl,q⟩:=q1;cases r1;exact Dk ⟨H1,I1,q⟩
variable{tA tB':TT}{dC:List Expr}
def tAnd(t u:TT):TT:=λσ H Q=>t σ H λc H1=>if c=true then u σ H1 Q else Q false H1
def tOr(t u:TT):TT:=λσ H Q=>t σ H λc H1=>if c=true then Q true H1 else u σ H1 Q
def tNot(t:TT):TT:=λσ H Q=>t σ H λc H1=>Q (!c) H1
def vF(ha:PT X a tA):PW X (.BoolOp .And [a] pos) tA:=by
 intro wh pins s σ H Q I h;refine isTrue_and (thn (ha pins s σ H Q I h) λc s1 e=>?_);cases c with
 |true=>exact isTrue_and_nil e
 |false=>exact e
def yL(ha:PT X a tA):PW X (.BoolOp .Or [a] pos) tA:=by
 intro wh pins s σ H Q I h;refine isTrue_or (thn (ha pins s σ H Q I h) λc s1 e=>?_);cases c with
 |false=>exact isTrue_or_nil e
 |true=>exact e
def zX(ha:PT X a tA)(hb:PW X (.BoolOp .And (b::dC) pos) tB'):PW X (.BoolOp .And (a::b::dC) pos) (tAnd tA tB'):=by
 intro wh pins s σ H Q I h;refine isTrue_and (thn (ha pins s σ H _ I h) λc s1 ⟨H1,I1,q1⟩=>?_);cases c with
 |true=>exact hb wh pins s1 σ H1 Q I1 q1
 |false=>exact⟨H1,I1,q1⟩
def B4(ha:PT X a tA)(hb:PW X (.BoolOp .Or (b::dC) pos) tB'):PW X (.BoolOp .Or (a::b::dC) pos) (tOr tA tB'):=by
 intro wh pins s σ H Q I h;refine isTrue_or (thn (ha pins s σ H _ I h) λc s1 ⟨H1,I1,q1⟩=>?_);cases c with
 |true=>exact⟨H1,I1,q1⟩
 |false=>exact hb wh pins s1 σ H1 Q I1 q1
def xi(ha:PT X a tA):PT X (.UnaryOp .Not a pos) (tNot tA):=by intro pins s σ H Q I h;exact isTrue_not (ha pins s σ H (λc H1=>Q (!c) H1) I h)
def Bt(ta tb:TE):TE:=λσ H Q=>ta σ H λx H1=>∃c,x=.bl c/\if c=true then tb σ H1 Q else Q (.bl false) H1
def BK(ta:TE):TE:=λσ H Q=>ta σ H λx H1=>∃c,x=.bl c/\Q (.bl (!c)) H1
def zI{op}(h:PE X a t):PE X (.BoolOp op [a] pos) t:=λpins s σ H Q I hw=>BoolOp_one (h pins s σ H Q I hw)
def yp(ha:PE X a ta)(hb:PE X (.BoolOp .And (b::dC) pos) tb):PE X (.BoolOp .And (a::b::dC) pos) (Bt ta tb):=by
 intro pins s σ H Q I h;refine BoolOp_and (thn (ha pins s σ H _ I h) λv s1 zz=>exA zz λx H1 I1 r1 q1=>?_);obtain⟨c,rfl,q1⟩:=q1;cases r1;refine Dk ?_;cases c with
 |true=>exact hb pins s1 σ H1 Q I1 q1
 |false=>exact⟨.bl false,H1,I1,rfl,q1⟩
def xu(ha:PE X a ta):PE X (.UnaryOp .Not a pos) (BK ta):=by intro pins s σ H Q I h;refine UnaryOp_ (thn (ha pins s σ H _ I h) λv s1 zz=>exA zz λx H1 I1 r1 q1=>?_);obtain⟨c,rfl,q1⟩:=q1;cases r1;exact not_of (Dk ⟨.bl (!c),H1,I1,rfl,q1⟩)
def tIf(t:TT)(ta tb:TE):TE:=λσ H Q=>t σ H λc H1=>if c=true then ta σ H1 Q else tb σ H1 Q
def tT(hc:PT X c tA)(ha:PE X a ta)(hb:PE X b tb):PE X (.IfExp c a b pos) (tIf tA ta tb):=by
 intro pins s σ H Q I h;refine wpAny_IfExp (thn (hc pins s σ H _ I h) λd s1 ⟨H1,I1,q1⟩=>?_);cases d with
 |true=>exact ha pins s1 σ H1 Q I1 q1
 |false=>exact hb pins s1 σ H1 Q I1 q1
end
def SqL(K:W.Frag)(H:Hp)(a:Addr)(xs:List V):Prop:=
 Rd H a (.lst xs)\/
  ∃(o:Obj) (its:Array Value) (n:Nat),K.lookup a=some o/\o.cls=.type "list" /\ o.dict=none/\o.data=.seq its n/\its.size<=sizeLine/\Vals xs its.toList
def SqT(K:W.Frag)(H:Hp)(a:Addr)(xs:List V):Prop:=
 Rd H a (.tup xs)\/
  ∃(o:Obj) (its:Array Value) (n:Nat),K.lookup a=some o/\o.cls=.type "tuple" /\ o.data=.seq its n/\its.size<=sizeLine/\Vals xs its.toList
noncomputable def absV:Value->Option V
 |.none=>some .non
 |.bool b=>some (.bl b)
 |.int i _=>some (.int i)
 |.str x _=>some (.str x)
 |.bytes b _=>some (.byt b)
 |.float b _=>some (.flt b)
 |.ref a=>some (.ref a)
 |.type n=>some (.ty n)
 |_=>none
def RelV.abs(r:RelV x u):absV u=some x:=by
 cases x with
 |non=>cases r;rfl
 |bl _=>cases r;rfl
 |int _=>obtain⟨t,rfl⟩:=r;rfl
 |str _=>obtain⟨t,rfl⟩:=r;rfl
 |byt _=>obtain⟨t,rfl⟩:=r;rfl
 |flt _=>obtain⟨t,rfl⟩:=r;rfl
 |ref _=>cases r;rfl
 |ty _=>cases r;rfl
def RelV.inj(r:RelV x u)(q:RelV y u):x=y:=x_ (r.abs.symm.trans q.abs)
def Vals.inj(r:Vals xs us)(q:Vals ys us):xs=ys:=by
 induction r generalizing ys with
 |nil=>cases q;rfl
 |
  cons r t ih=>
  cases q with
  |cons q t'=>rw[r.inj q,ih t']
section
variable{X:Cx}{pins:Ei}{σ:St}{H:Hp}{s:Shared}{a:Addr}{xs ys:List V}
def SqL.of{K:W.Frag}(h:H a=some (.lst xs)):SqL K H a xs:=.inl (.inl h)
def SqT.of{K:W.Frag}(h:H a=some (.tup xs)):SqT K H a xs:=.inl (.inl h)
def Inv.list(I:Inv X pins σ H s)(h:SqL X.K H a xs):∃its:List Value,Vals xs its/\PlainL s.heap a its.toArray/\xs.length<=sizeLine:=by
 rcases h with h |⟨o,its,n,hk,hc,hd,hs,hz,r⟩
 .obtain⟨z,its,n,r,e⟩:=h.ok I.hok;exact⟨its,r,⟨_,n,e,rfl,rfl,rfl⟩,z⟩
 .refine⟨its.toList,r,⟨o,n,I.kIn a o hk,hc,hd,by simpa using hs⟩,?_⟩;have e:=r.length;simp only[Dt] at e;omega
def Inv.tuple(I:Inv X pins σ H s)(h:SqT X.K H a xs):∃its:List Value,Vals xs its/\IsTup s.heap a its.toArray/\xs.length<=sizeLine:=by
 rcases h with h |⟨o,its,n,hk,hc,hs,hz,r⟩
 .obtain⟨z,its,r,p⟩:=h.ok I.hok;exact⟨its,r,p,z⟩
 .refine⟨its.toList,r,⟨o,I.kIn a o hk,hc,n,by simpa using hs⟩,?_⟩;have e:=r.length;simp only[Dt] at e;omega
def Inv.list_inj(I:Inv X pins σ H s)(h:SqL X.K H a xs)(h':SqL X.K H a ys):xs=ys:=by
 obtain⟨its,r,⟨o,n,e,_,_,d⟩,_⟩:=I.list h;obtain⟨its',r',⟨o',n',e',_,_,d'⟩,_⟩:=I.list h';rw[e] at e';cases e';rw[d] at d';injection d' with d1 _;have:its=its':=by simpa using CM Array.toList d1
 subst this;exact r.inj r'
def Inv.tuple_inj(I:Inv X pins σ H s)(h:SqT X.K H a xs)(h':SqT X.K H a ys):xs=ys:=by
 obtain⟨its,r,⟨o,e,_,n,d⟩,_⟩:=I.tuple h;obtain⟨its',r',⟨o',e',_,n',d'⟩,_⟩:=I.tuple h';rw[e] at e';cases e';rw[d] at d';injection d' with d1 _;have:its=its':=by simpa using CM Array.toList d1
 subst this;exact r.inj r'
end
abbrev Cx.wish(X:Cx)(E:Ej):Cx:={ X with xe:=E }
def Cx.Ok.wish{X:Cx}(ok:X.Ok)(E:Ej):(X.wish E).Ok:=
 ⟨ok.mod,ok.kind,ok.glob,ok.blt,ok.above,ok.inj,ok.has,ok.cab,ok.hd,ok.frames,ok.stk,ok.exf,ok.bs,ok.bsz,ok.noex,ok.exfs,ok.funs,ok.frf⟩
def Cx.Ok.unwish{X:Cx}{E:Ej}(ok:(X.wish E).Ok):X.Ok:=
 ⟨ok.mod,ok.kind,ok.glob,ok.blt,ok.above,ok.inj,ok.has,ok.cab,ok.hd,ok.frames,ok.stk,ok.exf,ok.bs,ok.bsz,ok.noex,ok.exfs,ok.funs,ok.frf⟩
section
variable{X:Cx}{pins:Ei}{σ:St}{H:Hp}{s:Shared}{E:Ej}
def Inv.wish(I:Inv X pins σ H s)(E:Ej):Inv (X.wish E) pins σ H s:=⟨I.ok.wish E,I.os,I.bare,I.base,I.loc,I.cell,I.free,I.freeC,I.pin,I.hok,I.len⟩
def Inv.unwish(I:Inv (X.wish E) pins σ H s):Inv X pins σ H s:=⟨I.ok.unwish,I.os,I.bare,I.base,I.loc,I.cell,I.free,I.freeC,I.pin,I.hok,I.len⟩
end
section
variable{X:Cx}{st:Stmt}{dC:List Stmt}{t u:TS}{e:Expr}{te:TE}{pos:Pos}
def As:TS:=λD σ H=>D.nx σ H
def tSeq(t u:TS):TS:=λD σ H=>t { D with nx:=u D } σ H
def v9:PSs X [] As:=λ_ _ σ H _ I h=>Dx ⟨σ,H,I,h⟩
def rp(h1:PS X st t)(h2:PSs X dC u):PSs X (st::dC) (tSeq t u):=by
 intro pins s σ H D I h;refine wpAny_execs_cons (thn (h1 pins s σ H { D with nx:=u D } I h) λf s1 q=>?_);cases f with
 |next=>obtain⟨σ',H',I',q⟩:=q;exact h2 pins s1 σ' H' D I' q
 |ret v=>exact q
 |brk=>exact q
 |cont=>exact q
def vW(h1:PS X st t):PSs X [st] t:=by
 intro pins s σ H D I h;refine wpAny_execs_cons (thn (h1 pins s σ H D I h) λf s1 q=>?_);cases f with
 |next=>exact Dx q
 |ret v=>exact q
 |brk=>exact q
 |cont=>exact q
def Inv.quiet(I:Inv X pins σ H s):interactive X.env=false:=by simp [interactive,I.ok.kind]
def Av(te:TE):TS:=λD σ H=>te σ H λ_ H1=>D.nx σ H1
def wu(he:PE X e te)(hs:swapsWith e none pos.line X.env=pure false):PS X (.Expr e pos) (Av te):=by intro pins s σ H D I h;exact wpAny_Expr_any (thn (he pins s σ H _ I h) λv s1 zz=>exA zz λx H1 I1 r1 q1=>⟨σ,H1,I1,q1⟩) I.quiet hs
def tRet(te:TE):TS:=λD σ H=>te σ H D.rt
def xj(he:PE X e te):PS X (.Return (some e) pos) (tRet te):=by intro pins s σ H D I h;exact wpAny_Return_some (thn (he pins s σ H _ I h) λv s1 zz=>exA zz λx H1 I1 r1 q1=>⟨x,σ,H1,I1,r1,q1⟩)
def tIfS(c:TT)(t u:TS):TS:=λD σ H=>c σ H λb H1=>if b=true then t D σ H1 else u D σ H1
def Bd(hc:PT X c tc)(ha:PSs X a t)(hb:PSs X b u):PS X (.If c a b pos) (tIfS tc t u):=by
 intro pins s σ H D I h;refine wpAny_If (thn (hc pins s σ H _ I h) λd s1 ⟨H1,I1,q1⟩=>?_);cases d with
 |true=>exact ha pins s1 σ H1 D I1 q1
 |false=>exact hb pins s1 σ H1 D I1 q1
end
abbrev TG:=V->St->Hp->(St->Hp->Prop)->Prop
abbrev TGs:=List V->St->Hp->(St->Hp->Prop)->Prop
def PG(X:Cx)(f_:Expr)(t:TG):Prop:=
 ∀
  (pins:Ei) (s:Shared) (σ:St) (H:Hp) (v:V) (u:Value) (Q:St->Hp->Prop),Inv X pins σ H s->RelV v u->t v σ H Q->
  wpAny (model X.prog X.w) X.A (assign f_ X.env u) (λ_ s'=>∃σ' H',Inv X pins σ' H' s'/\Q σ' H') X.xe s
def PGs(X:Cx)(ts:List Expr)(t:TGs):Prop:=
 ∀
  (pins:Ei) (s:Shared) (σ:St) (H:Hp) (vs:List V) (us:List Value) (Q:St->Hp->Prop),Inv X pins σ H s->Vals vs us->t vs σ H Q->
  wpAny (model X.prog X.w) X.A (assignInOrder ((assignEach ts X.env).map (·.2)) us) (λ_ s'=>∃σ' H',Inv X pins σ' H' s'/\Q σ' H') X.xe s
abbrev lr:=V->V->V->Hp->(Hp->Prop)->Prop
def oo(X:Cx)(t:lr):Prop:=
 ∀
  (pins:Ei) (s:Shared) (σ:St) (H:Hp) (o i v:V) (ov iv u:Value) (Q:Hp->Prop),Inv X pins σ H s->RelV o ov->RelV i iv->RelV v u->t o i v H Q->
  wpAny (model X.prog X.w) X.A (setItem ov iv u) (λ_ s'=>∃H',Inv X pins σ H' s'/\Q H') X.xe s
section
variable{X:Cx}{pos:Pos}
def j9(i:Nat):TG:=λv σ H Q=>Q (σ.set i (some v)) H
def vf(hN:X.N.Nodup)(hi:X.N[i]?=some x)(hx:Loc X.env.scope x)(hf:X.fn x=true\/X.env.scope.names.lookup x=some .local):PG X (.Name x pos) (j9 i):=by intro pins s σ H v u Q I r h;exact wpAny_assign_Name (dE I hN hi hx r (λs' I'=>⟨_,H,I',h⟩) hf)
def gNil:TGs:=λvs σ H Q=>vs=[]/\Q σ H
def Ai(t:TG)(u:TGs):TGs:=λvs σ H Q=>∃v r,vs=v::r/\t v σ H λσ' H'=>u r σ' H' Q
def vZ:PGs X [] gNil:=by intro pins s σ H vs us Q I r h;obtain⟨e,h⟩:=h;subst e;cases r;exact assignInOrder_nil ⟨σ,H,I,h⟩
def sG(h1:PG X e t)(h2:PGs X es u)
 (hs:(assignEach (e::es) X.env).map (·.2)=assign e X.env::(assignEach es X.env).map (·.2)):PGs X (e::es) (Ai t u):=by
 intro pins s σ H vs us Q I r h;obtain⟨v,vr,e1,h⟩:=h;subst e1;cases r with
 |cons r rr=>rw[hs];refine assignInOrder_cons (thn (h1 pins s σ H _ _ _ I r h) λ_ s1 ⟨σ1,H1,I1,q1⟩=>?_);exact h2 pins s1 σ1 H1 _ _ Q I1 rr q1
def gTup(K:W.Frag)(n:Nat)(t:TGs):TG:=λv σ H Q=>∃a xs,v=.ref a/\SqT K H a xs/\xs.length=n/\t xs σ H Q
def oZ(hc:X.calm=true)(h:PGs X es t)
 (hn:(assignEach es X.env).length=n) (hst:(assignEach es X.env).findIdx? (·.1)=none):PG X (.Tuple es k pos) (gTup X.K n t):=by
 intro pins s σ H v u Q I r hw;obtain⟨a,xs,e1,hq,hl,hw⟩:=hw;subst e1;cases r;obtain⟨its,rv,ht,hz⟩:=I.tuple hq;refine assign_Tuple_tuple (I.ok.hd hc) ht (by simp [hn,<- hl,rv.length]) hst λh' hx=>?_;have I1:Inv X pins σ H { s with heap:=h' }:=I.kept (t':=s.toks) λb o e=>hx b o (Ct (n_ e)) e;exact h pins _ σ H xs _ Q I1 (by simpa using rv) hw
def gSub(to ti:TE)(t:lr):TG:=λv σ H Q=>to σ H λo H1=>ti σ H1 λi H2=>t o i v H2 λH3=>Q σ H3
def yH(ho:PE X o to)(hi:PE X i ti)(hs:oo X t)
 (ha:∀v,assign (.Subscript o i pos) X.env v=(do
  let ov <- holding [v] (eval o X.env)
  let iv <- holding [v,ov] (eval i X.env)
  standAt pos
  holding [v,ov,iv] (setItem ov iv v)
  release [v,ov,iv] [])):PG X (.Subscript o i pos) (gSub to ti t):=by
 intro pins s σ H v u Q I r h;rw[ha];refine k_ (CL (thn (ho pins s σ H _ I h) λov s1 zz=>exA zz λx H1 I1 r1 q1=>?_));refine k_ (CL (thn (hi pins s1 σ H1 _ I1 q1) λiv s2 zz=>exA zz λy H2 I2 r2 q2=>?_));refine k_ (Dc (k_ (CL (thn (hs pins s2 σ H2 x y v ov iv u _ I2 r1 r2 r q2) λ_ s3 ⟨H3,I3,q3⟩=>?_))));exact wpAny_release ⟨σ,H3,I3,q3⟩
def nV(te:TE)(g:TG):TS:=λD σ H=>te σ H λx H1=>g x σ H1 D.nx
def qz(he:PE X e te)(hg:PG X tg g)(hs:swapsWithSole [tg] e pos.line X.env=pure false)(hw:swappedStores [tg] e X.env=pure none)
 (h1:(assignEach [tg] X.env).map (·.2)=[assign tg X.env]):PS X (.Assign [tg] e pos) (nV te g):=by
 intro pins s σ H D I h;refine wpAny_Assign_stores (thn (he pins s σ H _ I h) λv s1 zz=>exA zz λx H1 I1 r1 q1=>?_) hs hw;rw[h1];exact thn (hg pins s1 σ H1 x v _ I1 r1 q1) λ_ s2 q=>q
def xf(hN:X.N.Nodup)(hi:X.N[i]?=some x)(hx:Loc X.env.scope x)(he:PE X e te)(hs:swapsWith e (some (.Name x pos')) pos.line X.env=pure false)(hf:X.fn x=true\/X.env.scope.names.lookup x=some .local):
 PS X (.Assign [.Name x pos'] e pos) (nV te (j9 i)):=by
 intro pins s σ H D I h;refine wpAny_Assign_Name (thn (he pins s σ H _ I h) λv s1 zz=>exA zz λy H1 I1 r1 q1=>?_) hs;exact dE I1 hN hi hx r1 (λs2 I2=>⟨_,H1,I2,q1⟩) hf
def tPar(i j:Nat)(ta:TA):TS:=λD σ H=>ta σ H λvs H1=>∃v w,vs=[v,w]/\D.nx ((σ.set i (some v)).set j (some w)) H1
def zW{kt k2 pt2}(hc:X.calm=true)(hN:X.N.Nodup)(hi:X.N[i]?=some x)(hj:X.N[j]?=some y)(hij:i≠j)
 (hx:X.env.scope.names.lookup x=some .local) (hy:X.env.scope.names.lookup y=some .local) (ha:PA X [a,b] ta)
 (hw:swappedStores [.Tuple [.Name x px,.Name y py] kt pt] (.Tuple [a,b] k2 pt2) X.env=pure (some [x,y]))
 (hs:swapsWithSole [.Tuple [.Name x px,.Name y py] kt pt] (.Tuple [a,b] k2 pt2) pos.line X.env=pure false):
 PS X (.Assign [.Tuple [.Name x px,.Name y py] kt pt] (.Tuple [a,b] k2 pt2) pos) (tPar i j ta):=by
 intro pins s σ H D I h;rw[exec_Assign_arm];refine k_ (Dc ?_);rw[hs];refine k_ (s_ ?_);rw[if_neg (by decide)];refine k_ (Tuple_ (thn (ha _ pins s σ H _ I h) λus s1 zz=>exA zz λvs H1 I1 r1 q1=>?_));obtain⟨v,w,e1,q1⟩:=q1;subst e1;obtain⟨u1,u2,rfl,rv,rw'⟩:∃u1 u2,us=[u1,u2]/\RelV v u1/\RelV w u2:=by
  cases r1 with
  |
   cons p q=>
   cases q with
   |cons p' q'=>cases q';exact⟨_,_,rfl,p,p'⟩
 refine CW ?_ (by show 2<=sizeLine;decide);have I2:Inv X pins σ H1 { s1 with heap:=s1.heap.push { cls:=.type "tuple",data:=.seq [u1,u2].toArray } }:=I1.kept (t':=s1.toks) λb o e=>m_ _ e;rw[hw];refine k_ (s_ ?_);show wpAny (model X.prog X.w) X.A (do rule "assign.swapped-stores";let items <- unpackItems (.ref s1.heap.objs.size) 2 none;assignInOrder [λv=>bindName X.env y v,λv=>bindName X.env x v] items.reverse;pure Flow.next) _ _ _;refine k_ (wpAny_rule (k_ (unpackItems_tuple (items:=#[u1,u2]) (I.ok.hd hc) (IsTup.new s1.heap _) λh' hx'=>?_)));have I3:=I2.kept (h':=h') (t':=s1.toks) λb o e=>hx' b o (Ct (n_ e)) e;show wpAny _ _ (assignInOrder [λv=>bindName X.env y v,λv=>bindName X.env x v] [u2,u1] >>= λ_=>pure Flow.next) _ _ _;refine k_ (assignInOrder_cons (wpAny_bindName (dE I3 hN hj (.inl hy) rw' (λs2 I4=>?_) (.inr hy))));refine assignInOrder_cons (wpAny_bindName (dE I4 hN hi (.inl hx) rv (λs3 I5=>assignInOrder_nil (s_ ?_)) (.inr hx)));rw[List.set_comm _ _ (Ne.symm hij)] at I5;exact⟨_,H1,I5,q1⟩
def yi(c:TT)(tb:TS):TS:=λD σ H=>∃W:Nat->St->Hp->Prop,(∃m,W m σ H)/\∀m σ H,W m σ H->
 c σ H λb H1=>if b=true then ∃N:St->Hp->Prop,(∀σ' H',N σ' H'->∃m',m'<m/\W m' σ' H')/\tb { D with nx:=N,ct:=N,bk:=D.nx } σ H1 else D.nx σ H1
def sy(hp:PassesOwn (model X.prog X.w) X.A X.env X.xe)(hc:PT X c tc)(hb:PSs X body tb):PS X (.While c body [] pos) (yi tc tb):=by
 intro pins s σ H D I h;obtain⟨W,⟨m0,w0⟩,turn⟩:=h;refine wpAny_While (codeAny_whileLoop (λn s'=>∃σ' H',Inv X pins σ' H' s'/\W n σ' H') ?_ m0 ⟨σ,H,I,w0⟩);rintro n s1 ⟨σ1,H1,I1,w1⟩;refine C6 hp (thn (hc pins s1 σ1 H1 _ I1 (turn n σ1 H1 w1)) λb s2 ⟨H2,I2,q2⟩=>?_);cases b with
 |
  true=>
  obtain⟨N,hN,q2⟩:=q2;rw[if_pos rfl];refine C6 hp (thn (hb pins s2 σ1 H2 _ I2 q2) λf s3 q3=>?_);cases f with
  |next=>obtain⟨σ3,H3,I3,n3⟩:=q3;obtain⟨m',hm,w3⟩:=hN σ3 H3 n3;exact⟨m',hm,σ3,H3,I3,w3⟩
  |cont=>obtain⟨σ3,H3,I3,n3⟩:=q3;obtain⟨m',hm,w3⟩:=hN σ3 H3 n3;exact⟨m',hm,σ3,H3,I3,w3⟩
  |brk=>exact q3
  |ret v=>exact q3
 |false=>rw[if_neg o_];exact Dx ⟨σ1,H2,I2,q2⟩
end
structure It where
 go:Nat->Hp->Prop
 yld:Nat->Hp->V->Hp->Prop
 stop:Nat->Hp->Prop
def ft(X:Cx)(pins:Ei)(H:Hp)(b:Addr):Prop:=
 H b=none/\b≠X.env.locals/\b∉X.fs/\(b∈X.ex\/X.s₀.heap.objs.size<=b)/\(∀x c,X.env.cells.lookup x=some c->c≠b)/\∀p∈X.pn++pins,p.1≠b
def Inv.fpOk(I:Inv X pins σ H s)(hb:s.heap.objs.size<=b)(hn:H' b=none):ft X pins H' b:=by
 refine⟨hn,D9 (t_ I.lt hb),I.nofs hb,.inr (Cw I.sz hb),λx c e z=>?_,λp hp z=>?_⟩
 .obtain⟨v,q⟩:=I.cell x c e;exact absurd (t_ q.lt (by rw[z];exact hb)) (CA _)
 .exact absurd (t_ (n_ (I.pin p hp).1) (by rw[z];exact hb)) (CA _)
structure Turn(P:Program)(w:World)(K:W.Frag)(tg:Expr)(J:It)(fp:List Addr)(it:Addr)(tn:Nat->Heap->Prop):Prop where
 mem:it∈fp
 obj:∀i h,tn i h->∀b∈fp,∃o,h.get? b=some o/\∀v,o.data ≠ .cell v
 keep:∀i h h',tn i h->(∀b∈fp,∀o,h.get? b=some o->h'.get? b=some o)->tn i h'
 item:∀(X:Cx),X.prog=P->X.w=w->X.K=K->X.calm=true->∀(i:Nat) (pins:Ei) (s:Shared) (σ:St) (H:Hp) (E:Ej),Inv X pins σ H s->(∀b∈fp,ft X pins H b)->tn i s.heap->J.go i H->
  wpAny (model P w) X.A (pyNext (.ref it)) (λr s1=>∃u,r=some u/\
   wpAny (model P w) X.A (letOwnedTupleGo tg (.ref it) u) (λ_ s2=>∃x H',Inv X pins σ H' s2/\RelV x u/\J.yld i H x H'/\tn (i+1) s2.heap/\∀b∈fp,H' b=none) E s1) E s
 done:∀(X:Cx),X.prog=P->X.w=w->X.K=K->X.calm=true->∀(i:Nat) (pins:Ei) (s:Shared) (σ:St) (H:Hp) (E:Ej),Inv X pins σ H s->(∀b∈fp,ft X pins H b)->tn i s.heap->J.stop i H->
  wpAny (model P w) X.A (pyNext (.ref it)) (λr s1=>r=none/\Inv X pins σ H s1) E s
 self:∀(A:Around) (i:Nat) (s:Shared) (Q:Ej) (E:Ej),tn i s.heap->Q (.ref it) s->wpAny (model P w) A (pyIter (.ref it)) Q E s
abbrev TI:=St->Hp->(It->Hp->Prop)->Prop
def PIE(X:Cx)(pins:Ei)(σ:St)(tg:Expr)(R:It->Hp->Prop)(itv:Value)(s2:Shared):Prop:=
 ∃(it:Addr) (fp:List Addr) (tn:Nat->Heap->Prop) (J:It) (H':Hp),itv=.ref it/\Inv X pins σ H' s2/\Turn X.prog X.w X.K tg J fp it tn/\tn 0 s2.heap/\(∀b∈fp,ft X pins H' b)/\R J H'
def PI(X:Cx)(tg iter:Expr)(wi:TI):Prop:=
 ∀
  (pins:Ei) (s:Shared) (σ:St) (H:Hp) (R:It->Hp->Prop),Inv X pins σ H s->wi σ H R->
  wpAny (model X.prog X.w) X.A (eval iter X.env) (λv s1=>wpAny (model X.prog X.w) X.A (pyIter v) (PIE X pins σ tg R) X.xe s1) X.xe s
def kC(ho:s.heap.get? it=some o)(hc:o.cls=.type n)(hd:o.data=.fields vs)
 (hn:["enumerate", "zip", "dict_itemiterator", "dict_reverseitemiterator", "odict_iterator", "itertools.zip_longest", "itertools.pairwise"].contains n=false) (hQ:Q () s):wpAny M A (letOwnedTupleGo tg (.ref it) u) Q E s:=by
 unfold letOwnedTupleGo;cases tg
  <;> first
  |exact s_ hQ
  |(cases u <;> first
   |exact s_ hQ
   |(
    refine k_ (wpAny_load ho ?_);rw[hc,hd];show wpAny M A (if (["enumerate", "zip", "dict_itemiterator", "dict_reverseitemiterator", "odict_iterator", "itertools.zip_longest", "itertools.pairwise"].contains n&&vs[0]?==some (rawInt _))=true then _ else _) Q E s;rw[if_neg (by intro h;rw[hn,Bool.false_and] at h;cases h)];exact s_ hQ))
noncomputable def Itl (K:W.Frag) (a:Addr):It:=
 ⟨λi H=>∃xs x,SqL K H a xs/\xs[i]?=some x,λi H x H'=>H'=H/\∀xs,SqL K H a xs->xs[i]?=some x,λi H=>∃xs,SqL K H a xs/\xs.length<=i⟩
noncomputable def Itt (K:W.Frag) (a:Addr):It:=
 ⟨λi H=>∃xs x,SqT K H a xs/\xs[i]?=some x,λi H x H'=>H'=H/\∀xs,SqT K H a xs->xs[i]?=some x,λi H=>∃xs,SqT K H a xs/\xs.length<=i⟩
noncomputable def Itr (lo:Int) (n:Nat):It:=⟨λi _=>i<n,λi H x H'=>H'=H/\x=.int (lo+i),λi _=>n<=i⟩
def pL{P:Program}{w:World}{K:W.Frag}{tg:Expr}(a it:Addr):Turn P w K tg (Itl K a) [it] it (λi h=>h.IsListIter it a i) where
 mem:=by simp
 obj:=λi h st b hb=>by
  have e:b=it:=by simpa using hb
  subst e;obtain⟨o,e,c,d⟩:=st;exact⟨o,e,λv z=>by rw[d] at z;cases z⟩
 keep:=λi h h' st k=>st.at λo e=>k it (by simp) o e
 item:=by intro X hP hw hK hc i pins s σ H E I hf st hg;subst hP hw hK;obtain⟨xs,x,hq,hx⟩:=hg;obtain⟨its,rv,p,hz⟩:=I.list hq;obtain⟨u,hu,ru⟩:=rv.get hx;obtain⟨f0,f1,f2,f3,f4,f5⟩:=hf it (by simp);refine wpAny_pyNext_list_item st p.isList (x:=u) (by simpa using hu) λh' st' sb=>?_;have I1:Inv X pins σ H { s with heap:=h' }:=I.turned (t':=s.toks) (λb o hb e=>(sb.2 b hb).trans e) f0 f1 f3 f4 f5;obtain⟨o,e,c,d⟩:=id st';exact⟨u,rfl,kC (s:={ s with heap:=h' }) e c d (by decide) ⟨x,H,I1,ru,⟨rfl,λys hy=>by rw[I.list_inj hy hq];exact hx⟩,st',λb hb=>(hf b hb).1⟩⟩
 done:=by intro X hP hw hK hc i pins s σ H E I hf st hg;subst hP hw hK;obtain⟨xs,hq,hx⟩:=hg;obtain⟨its,rv,p,hz⟩:=I.list hq;obtain⟨f0,f1,f2,f3,f4,f5⟩:=hf it (by simp);have hl:=rv.length;exact wpAny_pyNext_list_end (I.ok.hd hc) st p.isList (by simp;omega) λh' eb=>⟨rfl,I.turned (t':=s.toks) (λb o hb e=>eb b o hb e) f0 f1 f3 f4 f5⟩
 self:=λ_ _ _ _ _ st h=>wpAny_pyIter_listiter st h
def og{P:Program}{w:World}{K:W.Frag}{tg:Expr}(a it:Addr):Turn P w K tg (Itt K a) [it] it (λi h=>h.IsTupleIter it a i) where
 mem:=by simp
 obj:=λi h st b hb=>by
  have e:b=it:=by simpa using hb
  subst e;obtain⟨o,e,c,d⟩:=st;exact⟨o,e,λv z=>by rw[d] at z;cases z⟩
 keep:=λi h h' st k=>st.at λo e=>k it (by simp) o e
 item:=by intro X hP hw hK hc i pins s σ H E I hf st hg;subst hP hw hK;obtain⟨xs,x,hq,hx⟩:=hg;obtain⟨its,rv,p,hz⟩:=I.tuple hq;obtain⟨u,hu,ru⟩:=rv.get hx;obtain⟨f0,f1,f2,f3,f4,f5⟩:=hf it (by simp);refine wpAny_pyNext_tuple_item st (show s.heap.IsTuple a its.toArray from p) (x:=u) (by simpa using hu) λh' st' sb=>?_;have I1:Inv X pins σ H { s with heap:=h' }:=I.turned (t':=s.toks) (λb o hb e=>(sb.2 b hb).trans e) f0 f1 f3 f4 f5;obtain⟨o,e,c,d⟩:=id st';exact⟨u,rfl,kC (s:={ s with heap:=h' }) e c d (by decide) ⟨x,H,I1,ru,⟨rfl,λys hy=>by rw[I.tuple_inj hy hq];exact hx⟩,st',λb hb=>(hf b hb).1⟩⟩
 done:=by intro X hP hw hK hc i pins s σ H E I hf st hg;subst hP hw hK;obtain⟨xs,hq,hx⟩:=hg;obtain⟨its,rv,p,hz⟩:=I.tuple hq;obtain⟨f0,f1,f2,f3,f4,f5⟩:=hf it (by simp);have hl:=rv.length;exact wpAny_pyNext_tuple_end (I.ok.hd hc) st (show s.heap.IsTuple a its.toArray from p) (by simp;omega) λh' eb=>⟨rfl,I.turned (t':=s.toks) (λb o hb e=>eb b o hb e) f0 f1 f3 f4 f5⟩
 self:=λ_ _ _ _ _ st h=>wpAny_pyIter_tupleiter st h
def nU{P:Program}{w:World}{K:W.Frag}{tg:Expr}(it:Addr)(lo:Int)(n:Nat):Turn P w K tg (Itr lo n) [it] it (λi h=>IsRangeIter h it (lo+(i:Nat)*1) ((n:Int)-(i:Nat)) 1) where
 mem:=by simp
 obj
  := λi h st b hb=>by
  have e:b=it:=by simpa using hb
  subst e;exact⟨_,st,λv z=>by have z':Data.fields _=Data.cell v:=z;cases z'⟩
 keep:=λi h h' st k=>k it (by simp) _ st
 item:=by intro X hP hw hK hc i pins s σ H E I hf st hg;subst hP hw hK;obtain⟨f0,f1,f2,f3,f4,f5⟩:=hf it (by simp);have W:=Walks.range (prog:=X.prog) (w:=X.w) (I.ok.hd hc) it lo 1 n;refine W.item i s _ _ hg st λv h' tk hv st' kk=>?_;obtain⟨t,rfl⟩:=hv;have I1:Inv X pins σ H { s with heap:=h',toks:=tk }:=I.turned (λb o hb e=>kk b o (by simpa using hb) e) f0 f1 f3 f4 f5;refine⟨_,rfl,kC (s:={ s with heap:=h',toks:=tk }) (n:="range_iterator") st' rfl rfl (by decide) ⟨.int (lo+i),H,I1,⟨t,?_⟩,⟨rfl,rfl⟩,st',λb hb=>(hf b hb).1⟩⟩;rw[Int.mul_one]
 done:=by intro X hP hw hK hc i pins s σ H E I hf st hg;subst hP hw hK;obtain⟨f0,f1,f2,f3,f4,f5⟩:=hf it (by simp);exact wpAny_pyNext_range_end (I.ok.hd hc) st (by have:n<=i:=hg;omega) λh' eb=>⟨rfl,I.turned (t':=s.toks) (λb o hb e=>eb b o hb e) f0 f1 f3 f4 f5⟩
 self:=λ_ _ _ _ _ st h=>wpAny_pyIter_rangeiter st h
section
variable{X:Cx}{tg:Expr}
def sj{pins:Ei}{σ:St}{H:Hp}{s:Shared}{R:It->Hp->Prop}{E:Ej}{lo hi:Int}{t u v:Tok}{tk:Nat}(I:Inv X pins σ H s)(h1:-(2^62)<=lo)(h2:lo<2^62)(h3:-(2^62)<=hi)(h4:hi<2^62)
 (q:R (Itr lo (hi-lo).toNat) H):wpAny (model X.prog X.w) X.A (pyIter (.ref s.heap.objs.size)) (PIE X pins σ tg R) E { s with heap:=s.heap.push { cls:=.type "range",data:=.fields #[.int lo t,.int hi u,.int 1 v] },toks:=tk }:=by
 refine wpAny_pyIter_range (IsRange.new ..) (small_one h1 h2 h3 h4) ?_;have I1:Inv X pins σ H { s with heap:=s.heap.push { cls:=.type "range",data:=.fields #[.int lo t,.int hi u,.int 1 v] },toks:=tk }:=I.kept λb o e=>m_ _ e;refine⟨(s.heap.push { cls:=.type "range",data:=.fields #[.int lo t,.int hi u,.int 1 v] }).objs.size,[(s.heap.push { cls:=.type "range",data:=.fields #[.int lo t,.int hi u,.int 1 v] }).objs.size],_,_,H,rfl,
  I1.kept (t':=tk) λb o e=>m_ _ e,nU _ lo (hi-lo).toNat,?_,λb hb=>?_,q⟩
 .have e1:lo+((0:Nat):Int)*1=lo:=by simp
  have e2:(((hi-lo).toNat:Nat):Int)-((0:Nat):Int)=Builtin.Range.rangeSize lo hi 1:=by rw[rangeSize_one];split <;> omega
  show IsRangeIter _ _ (lo+((0:Nat):Int)*1) ((((hi-lo).toNat:Nat):Int)-((0:Nat):Int)) 1;rw[e1,e2];exact CB _ rfl
 .have e:b=(s.heap.push { cls:=.type "range",data:=.fields #[.int lo t,.int hi u,.int 1 v] }).objs.size:=by simpa using hb
  subst e;exact I1.fpOk (v_ _) (I1.hok.fresh (v_ _))
def BF(ta:TA):TI:=λσ H R=>ta σ H λvs H1=>∃j:Int,vs=[.int j]/\-(2^62)<=j/\j<2^62/\R (Itr 0 j.toNat) H1
def pP(hg:Gl X "range")(hm:X.mg "range"=none)(ha:PA X [a] ta)(hs:starEach [a] X.env=[(false,eval a X.env)]):PI X tg (.Call (.Name "range" p) [a] [] pos) (BF ta):=by
 intro pins s σ H R I h;refine Call_ (gL I hg hm boot_range (PyProof.Rows.callWith_type1 (thn (ha pos pins s σ H _ I h) λus s1 zz=>exA zz λvs H1 I1 r1 q1=>?_) hs rfl));obtain⟨j,e,q1,q2,q⟩:=q1;subst e;cases r1 with
 |cons r rr=>cases rr;obtain⟨t,rfl⟩:=r;exact call_range_1 (sj I1 (by omega) (by omega) q1 q2 (by simpa using q))
def tFor(wi:TI)(g:TG)(tb:TS):TS:=λD σ H=>wi σ H λJ H1=>∃W:Nat->Nat->St->Hp->Prop,(∃m,W 0 m σ H1)/\∀i m σ H,W i m σ H->
 (J.stop i H/\D.nx σ H)\/(J.go i H/\∃N:St->Hp->Prop,(∀σ' H',N σ' H'->∃m',m'<m/\W (i+1) m' σ' H')/\∀x H',J.yld i H x H'->g x σ H' λσ2 H2=>tb { D with nx:=N,ct:=N,bk:=D.nx } σ2 H2)
noncomputable def d9 (fp:List Addr) (h:Heap):List (Addr×Obj):=fp.filterMap λb=>(h.get? b).map λo=>(b,o)
def bZ(hb:b∈fp)(e:h.get? b=some o):(b,o)∈d9 fp h:=DB.mpr ⟨b,hb,by rw[e];rfl⟩
def qu(hp:p∈d9 fp h):p.1∈fp/\h.get? p.1=some p.2:=by
 obtain⟨b,hb,e⟩:=DB.mp hp;cases q:h.get? b with
 |none=>rw[q] at e;cases e
 |some o=>rw[q] at e;have e':(b,o)=p:=x_ e;subst e';exact⟨hb,q⟩
def Inv.pinned(I:Inv X pins σ H s)(hf:∀b∈fp,ft X pins H b)(ho:∀b∈fp,∃o,s.heap.get? b=some o/\∀v,o.data ≠ .cell v):Inv X (pins++d9 fp s.heap) σ H s:=
 I.pins_of λp hp=>(Dv.mp hp).elim (λz=>I.pin p (y_ _ z)) λz=>by obtain⟨hb,e⟩:=qu z;obtain⟨f0,f1,f2,_⟩:=hf p.1 hb;obtain⟨o,e',d⟩:=ho p.1 hb;rw[e] at e';cases e';exact⟨e,f0,f1,f2,d⟩
def Inv.unpinned(I:Inv X (pins++pl) σ H s):Inv X pins σ H s:=I.pins_of λp hp=>I.pin p (y_ _ (D5 _ hp))
def xn(hp:PassesOwn (model X.prog X.w) X.A X.env X.xe)(hc:X.calm=true)(hi:PI X tg iter wi)(hg:PG X tg g)(hb:PSs X body tb)
 (hs:∀x,foldedSetIterable iter X.env x=pure x):PS X (.For tg iter body [] pos) (tFor wi g tb):=by
 intro pins s σ H D I h;refine wpAny_For (thn (hi pins s σ H _ I h) λv s1 h1=>thn h1 λitv s2 h2=>?_) hs;obtain⟨it,fp,tn,J,H2,e,I2,T,st2,f2,W,⟨m0,w0⟩,turn⟩:=h2;subst e;have stat:∀{H':Hp},(∀b∈fp,H' b=none)->∀b∈fp,ft X pins H' b:=λhn b hb=>⟨hn b hb,(f2 b hb).2⟩;refine codeAny_forLoop_any (λn s'=>∃i σ' H',Inv X pins σ' H' s'/\tn i s'.heap/\(∀b∈fp,H' b=none)/\W i n σ' H') ?_ m0 ⟨0,σ,H2,I2,st2,λb hb=>(f2 b hb).1,w0⟩;rintro n s3 ⟨i,σ3,H3,I3,st3,fr3,w3⟩;rcases turn i n σ3 H3 w3 with ⟨stop,qn⟩ |⟨go,N,hN,step⟩
 .refine C6 hp (thn (T.done X rfl rfl rfl hc i pins s3 σ3 H3 X.xe I3 (stat fr3) st3 stop) λr s4 ⟨hr,I4⟩=>?_);subst hr;exact Dx ⟨σ3,H3,I4,qn⟩
 .refine C6 hp (thn (T.item X rfl rfl rfl hc i pins s3 σ3 H3 X.xe I3 (stat fr3) st3 go) λr s4 ⟨u,hr,h4⟩=>?_);subst hr;refine C6 hp (thn h4 λ_ s5 ⟨x,H5,I5,r5,y5,st5,fr5⟩=>?_);have I5':=I5.pinned (stat fr5) (T.obj _ _ st5);refine C6 hp (thn (hg _ s5 σ3 H5 x u _ I5' r5 (step x H5 y5)) λ_ s6 ⟨σ6,H6,I6,q6⟩=>?_);refine C6 hp (thn (hb _ s6 σ6 H6 _ I6 q6) λf s7 q7=>?_);have again:∀{σ7:St}{H7:Hp},Inv X (pins++d9 fp s5.heap) σ7 H7 s7->N σ7 H7->∃m,m<n/\∃i σ' H',Inv X pins σ' H' s7/\tn i s7.heap/\(∀b∈fp,H' b=none)/\W i m σ' H':=λ{σ7 H7} I7 n7=>by obtain⟨m',hm,w7⟩:=hN σ7 H7 n7;refine⟨m',hm,i+1,σ7,H7,I7.unpinned,T.keep _ _ _ st5 λb hb o e=>(I7.pin (b,o) (y_ _ (y_ _ (bZ hb e)))).1,λb hb=>?_,w7⟩;obtain⟨o,e,d⟩:=T.obj _ _ st5 b hb;exact (I7.pin (b,o) (y_ _ (y_ _ (bZ hb e)))).2.1
  cases f with
  |next=>obtain⟨σ7,H7,I7,n7⟩:=q7;exact again I7 n7
  |cont=>obtain⟨σ7,H7,I7,n7⟩:=q7;exact again I7 n7
  |brk=>obtain⟨σ7,H7,I7,q7⟩:=q7;exact⟨σ7,H7,I7.unpinned,q7⟩
  |ret v=>obtain⟨x7,σ7,H7,I7,r7,q7⟩:=q7;exact⟨x7,σ7,H7,I7.unpinned,r7,q7⟩
end
abbrev R2:=V->V->Hp->VK->Prop
def OpR(X:Cx)(f:Value->Value->Sem Value)(r:R2):Prop:=
 ∀
  (pins:Ei) (s:Shared) (σ:St) (H:Hp) (x y:V) (v u:Value) (Q:VK),Inv X pins σ H s->RelV x v->RelV y u->r x y H Q->
  wpAny (model X.prog X.w) X.A (f v u) (EP X pins σ Q) X.xe s
def UnR(X:Cx)(f:Value->Sem Value)(r:V->Hp->VK->Prop):Prop:=
 ∀
  (pins:Ei) (s:Shared) (σ:St) (H:Hp) (x:V) (v:Value) (Q:VK),Inv X pins σ H s->RelV x v->r x H Q->
  wpAny (model X.prog X.w) X.A (f v) (EP X pins σ Q) X.xe s
def CallR(X:Cx)(f:Value)(r:List V->Hp->VK->Prop):Prop:=
 ∀
  (pins:Ei) (s:Shared) (σ:St) (H:Hp) (xs:List V) (us:List Value) (Q:VK),Inv X pins σ H s->Vals xs us->r xs H Q->
  wpAny (model X.prog X.w) X.A (call f us) (EP X pins σ Q) X.xe s
def tOp(r:R2)(ta tb:TE):TE:=λσ H Q=>ta σ H λx H1=>tb σ H1 λy H2=>r x y H2 Q
def tUn(r:V->Hp->VK->Prop)(ta:TE):TE:=λσ H Q=>ta σ H λx H1=>r x H1 Q
def rI(C:Int->Int->Prop)(g:Int->Int->V):R2:=λx y H Q=>∃i j,x=.int i/\y=.int j/\C i j/\Q (g i j) H
def rI0(g:Int->Int->V):R2:=λx y H Q=>∃i j,x=.int i/\y=.int j/\Q (g i j) H
def rU(g:Int->V):V->Hp->VK->Prop:=λx H Q=>∃i,x=.int i/\Q (g i) H
section
variable{X:Cx}{a b:Expr}{ta tb:TE}{pos:Pos}
def rR(ha:PE X a ta)(hb:PE X b tb){pins:Ei}{s:Shared}{σ:St}{H:Hp}{R:V->V->Hp->Prop}(I:Inv X pins σ H s)
 (h:ta σ H λx H1=>tb σ H1 λy H2=>R x y H2) {Q:Ej}{f:Value->Value->Sem Value}
 (hf:∀v u s2 x y H2,Inv X pins σ H2 s2->RelV x v->RelV y u->R x y H2->wpAny (model X.prog X.w) X.A (f v u) Q X.xe s2):
 wpAny (model X.prog X.w) X.A (eval a X.env) (λv s₁=>wpAny (model X.prog X.w) X.A (eval b X.env) (λu s₂=>wpAny (model X.prog X.w) X.A (f v u) Q X.xe s₂) X.xe s₁) X.xe s:=by
 refine thn (ha pins s σ H _ I h) λv s1 zz=>exA zz λx H1 I1 r1 q1=>?_;refine thn (hb pins s1 σ H1 _ I1 q1) λu s2 zz=>exA zz λy H2 I2 r2 q2=>?_;exact hf v u s2 x y H2 I2 r1 r2 q2
def AK(ho:OpR X (binaryOp op) r)(ha:PE X a ta)(hb:PE X b tb):PE X (.BinOp a op b pos) (tOp r ta tb):=by intro pins s σ H Q I h;exact wpAny_BinOp (rR ha hb I h λv u s2 x y H2 I2 rx ry q=>ho pins s2 σ H2 x y v u Q I2 rx ry q)
def AJ(ho:UnR X (unaryOp op) r)(ha:PE X a ta):PE X (.UnaryOp op a pos) (tUn r ta):=by intro pins s σ H Q I h;exact UnaryOp_ (thn (ha pins s σ H _ I h) λv s1 zz=>exA zz λx H1 I1 r1 q1=>ho pins s1 σ H1 x v Q I1 r1 q1)
def opI{f:Value->Value->Sem Value}{C:Int->Int->Prop}{g:Int->Int->Int}
 (rule:∀(i j:Int) (t u:Tok) (s:Shared) (Q:Ej) (E:Ej),C i j->Q (.int (g i j) s.toks) { s with toks:=s.toks+1 }->wpAny (model X.prog X.w) X.A (f (.int i t) (.int j u)) Q E s):
 OpR X f (rI C λi j=>.int (g i j)):=by
 intro pins s σ H x y v u Q I rx ry h;obtain⟨i,j,rfl,rfl,hc,q⟩:=h;obtain⟨t,rfl⟩:=rx;obtain⟨t',rfl⟩:=ry;exact rule i j t t' s _ _ hc ⟨.int (g i j),H,I.tok _,⟨_,rfl⟩,q⟩
def opI0{f:Value->Value->Sem Value}{g:Int->Int->Int}
 (rule:∀(i j:Int) (t u:Tok) (s:Shared) (Q:Ej) (E:Ej),Q (.int (g i j) s.toks) { s with toks:=s.toks+1 }->wpAny (model X.prog X.w) X.A (f (.int i t) (.int j u)) Q E s):
 OpR X f (rI0 λi j=>.int (g i j)):=by
 intro pins s σ H x y v u Q I rx ry h;obtain⟨i,j,rfl,rfl,q⟩:=h;obtain⟨t,rfl⟩:=rx;obtain⟨t',rfl⟩:=ry;exact rule i j t t' s _ _ ⟨.int (g i j),H,I.tok _,⟨_,rfl⟩,q⟩
def sH{f:Value->Value->Sem Value}{g:Int->Int->Bool}
 (rule:∀(i j:Int) (t u:Tok) (s:Shared) (Q:Ej) (E:Ej),Q (.bool (g i j)) s->wpAny (model X.prog X.w) X.A (f (.int i t) (.int j u)) Q E s):
 OpR X f (rI0 λi j=>.bl (g i j)):=by
 intro pins s σ H x y v u Q I rx ry h;obtain⟨i,j,rfl,rfl,q⟩:=h;obtain⟨t,rfl⟩:=rx;obtain⟨t',rfl⟩:=ry;exact rule i j t t' s _ _ ⟨.bl (g i j),H,I,rfl,q⟩
def oM(i j:Int):Prop:=0<=j/\j<=1000000/\i.natAbs<2^64
def CMul(i j:Int):Prop:=(-(2^64)<i/\i<2^64)\/(-(2^64)<j/\j<2^64)
def CMul.ok(h:CMul i j):IntMulOk i j:=by
 rcases h with ⟨h1,h2⟩ |⟨h1,h2⟩
 .exact .of_left (intBits_le_64 h1 h2)
 .exact .of_right (intBits_le_64 h1 h2)
def xY:OpR X (binaryOp .Add) (rI0 λi j=>.int (i+j)):=opI0 λ_ _ _ _ _ _ _ q=>add_int q
def xP:OpR X (binaryOp .Sub) (rI0 λi j=>.int (i-j)):=opI0 λ_ _ _ _ _ _ _ q=>sub_int q
def xo:OpR X (binaryOp .Mult) (rI CMul λi j=>.int (i*j)):=opI λ_ _ _ _ _ _ _ hc q=>mul_int q hc.ok
def vn:OpR X (binaryOp .Mod) (rI (λ_ j=>j≠0) λi j=>.int (i.fmod j)):=opI λ_ _ _ _ _ _ _ hc q=>mod_int' hc q
def xG:OpR X (binaryOp .Pow) (rI oM λi j=>.int (i^j.toNat)):=opI λ_ _ _ _ _ _ _ hc q=>pow_int_small hc.1 hc.2.1 hc.2.2 q
def unI{f:Value->Sem Value}{g:Int->Int}
 (rule:∀(i:Int) (t:Tok) (s:Shared) (Q:Ej) (E:Ej),Q (.int (g i) s.toks) { s with toks:=s.toks+1 }->wpAny (model X.prog X.w) X.A (f (.int i t)) Q E s):
 UnR X f (rU λi=>.int (g i)):=by
 intro pins s σ H x v Q I rx h;obtain⟨i,rfl,q⟩:=h;obtain⟨t,rfl⟩:=rx;exact rule i t s _ _ ⟨.int (g i),H,I.tok _,⟨_,rfl⟩,q⟩
def xH:UnR X (unaryOp .USub) (rU λi=>.int (-i)):=unI λ_ _ _ _ _ q=>neg_int q
end
section
variable{X:Cx}{a b c:Expr}{ta tb:TE}{pos:Pos}
def lx(I:Inv X pins σ H s)(q:Q (.bl k) H)(e:k=k'):EP X pins σ Q (.bool k') s:=by subst e;exact⟨.bl k,H,I,rfl,q⟩
def A7:OpR X (compareOp .Lt) (rI0 λi j=>.bl (decide (i<j))):=sH λ_ _ _ _ _ _ _ q=>lt_int q
def uk:OpR X (compareOp .Gt) (rI0 λi j=>.bl (decide (j<i))):=sH λ_ _ _ _ _ _ _ q=>gt_int q
def uD:OpR X (compareOp .GtE) (rI0 λi j=>.bl (decide (j<=i))):=sH λ_ _ _ _ _ _ _ q=>ge_int q
def ph:OpR X (compareOp .In) (λx y H Q=>∃i j,x=.str i/\y=.str j/\Q (.bl (!(Builtin.Str.occurrences j i 0 j.length 1).isEmpty)) H):=by intro pins s σ H x y v u Q I rx ry h;obtain⟨i,j,rfl,rfl,q⟩:=h;obtain⟨t,rfl⟩:=rx;obtain⟨t',rfl⟩:=ry;exact in_str (lx I q rfl)
def OpR.or(h:OpR X f r)(h':OpR X f r'):OpR X f (λx y H Q=>r x y H Q\/r' x y H Q):=by
 intro pins s σ H x y v u Q I rx ry q;rcases q with q |q
 .exact h pins s σ H x y v u Q I rx ry q
 .exact h' pins s σ H x y v u Q I rx ry q
def l6(b:Expr)(h:op ≠ .In:=by decide)(h2:op ≠ .NotIn:=by decide):behindInMarks op b=false:=by
 have e1:(op==CmpOp.In)=false:=by cases op <;> first |rfl |exact absurd rfl h
 have e2:(op==CmpOp.NotIn)=false:=by cases op <;> first |rfl |exact absurd rfl h2
 cases b <;> simp [behindInMarks,e1,e2]
def vV(ho:OpR X (compareOp op) r)(ha:PE X a ta)(hb:PE X b tb)(hm:behindInMarks op b=false):PE X (.Compare a [op] [b] pos) (tOp r ta tb):=by intro pins s σ H Q I h;exact wpAny_Compare1 (rR ha hb I h λv u s2 x y H2 I2 rx ry q=>ho pins s2 σ H2 x y v u Q I2 rx ry q) hm
def Ax(t:TE):TT:=λσ H Q=>t σ H λx H'=>∃k,x=.bl k/\Q k H'
def vb(ho:OpR X (compareOp op) r)(ha:PE X a ta)(hb:PE X b tb)(hm:behindInMarks op b=false):PT X (.Compare a [op] [b] pos) (Ax (tOp r ta tb)):=by
 intro pins s σ H Q I h;refine wpAny_isTrue_Compare1 (thn (ha pins s σ H _ I h) λv s1 zz=>exA zz λx H1 I1 r1 q1=>thn (hb pins s1 σ H1 _ I1 q1) λu s2 zz=>exA zz λy H2 I2 r2 q2=>
  thn (ho pins s2 σ H2 x y v u _ I2 r1 r2 q2) λc s3 ⟨z,H3,I3,r3,k,e,q3⟩=>?_) hm
 subst e;cases r3;exact Dk ⟨H3,I3,q3⟩
def eI:(sizeLine:Nat)<2^63:=by rw[sizeLine_eq];decide
def ck(r:Vals [x] us):∃u,us=[u]/\RelV x u:=by
 cases r with
 |cons r1 r2=>cases r2;exact⟨_,rfl,r1⟩
def om(r:Vals [x,y] us):∃u w',us=[u,w']/\RelV x u/\RelV y w':=by
 cases r with
 |
  cons r1 r2=>
  cases r2 with
  |cons r3 r4=>cases r4;exact⟨_,_,rfl,r1,r3⟩
def sx:CallR X (.builtin "abs") (λxs H Q=>∃i,xs=[.int i]/\Q (.int (if i<0 then -i else i)) H):=by intro pins s σ H xs us Q I r h;obtain⟨i,rfl,q⟩:=h;obtain⟨u,rfl,t,rfl⟩:=ck r;exact call_abs_int λu tk=>⟨.int (if i<0 then -i else i),H,I.tok _,⟨_,rfl⟩,q⟩
def qf(hc:X.calm=true):CallR X (.builtin "min") (λxs H Q=>∃i j,xs=[.int i,.int j]/\Q (.int (if j<i then j else i)) H):=by
 intro pins s σ H xs us Q I r h;obtain⟨i,j,rfl,q⟩:=h;obtain⟨u,w',rfl,⟨t,rfl⟩,⟨t',rfl⟩⟩:=om r;refine min_two_ints (I.ok.hd hc) λh' tk k=>⟨_,H,I.kept k,?_,q⟩;by_cases hj:j<i
 .rw[if_pos hj,if_pos hj];exact⟨_,rfl⟩
 .rw[if_neg hj,if_neg hj];exact⟨_,rfl⟩
end
structure ObjM(h:Heap)(x dx C:Addr)(mA:Eh):Prop where
 obj:h.get? x=some (W.instObj C dx)
 ns:h.Ns1 dx mA
 ne:dx≠x
def pV{h:Heap}{dx:Addr}{mA:Eh}(n:h.Ns1 dx mA):∃od,h.get? dx=some od/\∀name,W.lookIn name od=some (mA name):=by
 obtain⟨o,es,ep,ho,hd,hk,_,hm⟩:=n;refine⟨o,ho,λname=>?_⟩;have e:=hm name;unfold nsFind findBy at e;rw[<- Array.find?_toList] at e;unfold W.lookIn;rw[hd];dsimp only;split
 .rename_i y q;rw[q] at e;exact CM some e
 .rename_i q;rw[q] at e;have a:es.toList.any (·.refKey)=false:=by rw[List.any_eq_false];intro y hy;obtain⟨z,t,hkey⟩:=hk y (Array.mem_toList_iff.mp hy);simp [DictEntry.refKey,hkey]
  have a':¬ es.toList.any (·.refKey)=true:=by rw[a];exact o_
  rw[if_neg a'];exact CM some e
def ObjM.look(I:ObjM h x dx C mA):∃od,W.InstAt h x (W.instObj C dx) C (some od)/\∀name,W.lookIn name od=some (mA name):=
 let ⟨od,ho,hl⟩:=pV I.ns
 ⟨od,⟨I.obj,rfl,rfl,ho⟩,hl⟩
def RelO.some_of(r:RelO (some v) o):∃u,o=some u/\RelV v u:=by
 cases o with
 |none=>exact (show False from r).elim
 |some u=>exact⟨u,rfl,r⟩
section
variable{P:Program}{w:World}{H:Hp}{h:Heap}{a C dx:Addr}{fs:List (Str×V)}
def vT(hok:HOk P w H h)(e:H a=some (.ins C dx fs)):∃mA,ObjM h a dx C mA/\(∀f,RelO (fs.lookup f) (mA f))/\PySem.Within mA (fs.map (·.1))/\fs.length<=1000/\H dx=some (.own a):=by obtain⟨d,z,ne,ob,mA,n,r,q⟩:=(show ObjOk P w H h a (.ins C dx fs) from hok a _ e);exact⟨mA,⟨ob,n,ne⟩,r,q,z,d⟩
end
structure Cls(K:W.Frag)(C:Addr):Prop where
 pg:W.plainGet K C Str.empty=true
 hd:W.hasDictIn K C=true
 po:W.plainOver K C=true
 sa:W.findIn K (.ref C) "__setattr__"=some (some (.builtin "object.__setattr__"))
def Cls.get{K:W.Frag}{C:Addr}(c:Cls K C)(f:Str):W.plainGet K C f=true:=c.pg
section
variable{H:Hp}
inductive TyOf(K:W.Frag)(H:Hp):V->Value->Prop where
 |non:TyOf K H .non (.type "NoneType")
 |bl (x:Bool):TyOf K H (.bl x) (.type "bool")
 |int (i:Int):TyOf K H (.int i) (.type "int")
 |str (x:Str):TyOf K H (.str x) (.type "str")
 |flt (x:UInt64):TyOf K H (.flt x) (.type "float")
 |lst {a:Addr}{xs:List V} (e:H a=some (.lst xs)):TyOf K H (.ref a) (.type "list")
 |frz {a:Addr}{o:Obj}{xs:List V} (e:H a=some (.frz o (.lst xs))):TyOf K H (.ref a) (.type "list")
 |tup {a:Addr}{xs:List V} (e:H a=some (.tup xs)):TyOf K H (.ref a) (.type "tuple")
 |dK {a:Addr}{kvs:List (Key×V)} (e:H a=some (.dK kvs)):TyOf K H (.ref a) (.type "dict")
 |dT {a:Addr}{kvs:List (List Key×V)} (e:H a=some (.dT kvs)):TyOf K H (.ref a) (.type "dict")
 |ins {a C dx:Addr}{fs:List (Str×V)} (e:H a=some (.ins C dx fs)) (cl:Cls K C) (ha:W.findIn K (.ref C) "__class__"=some (some (.builtin "object.__class__")))
  (hn:W.specialIn K (.builtin "object.__class__") "__get__"=some (some (.builtin "getset_descriptor.__get__"))) (htk:W.takesIn K (.builtin "object.__class__")=some true)
  (hm:W.mroIn K C (.type "object")=some true):TyOf K H (.ref a) (.ref C)
end
structure Room(k:Nat)(A:Around):Prop where
 hd:A.handled=none
 dp:A.depth+3*k+5<recursionLimit
 un:A.units+16*k+200<cLine
def Room.mono(r:Room k A)(h:j<=k):Room j A:=⟨r.hd,by have:=r.dp;omega,by have:=r.un;omega⟩
def Room.deeper(r:Room (k+1) A)(env:Env):Room k (A.deeper env):=
 ⟨r.hd,by have:=r.dp;show A.depth+1+3*k+5<_;omega,by have:=r.un;show A.units+3+16*k+200<_;omega⟩
def Room.depth(r:Room k A):A.depth<recursionLimit:=by have:=r.dp;omega
def Room.units(r:Room k A):A.units+64<cLine:=by have:=r.un;omega
def tNil:TA:=λ_ H Q=>Q [] H
def Bj(ta:TE)(tr:TA):TA:=λσ H Q=>ta σ H λx H1=>tr σ H1 λxs H2=>Q (x::xs) H2
section
variable{X:Cx}{e:Expr}{es:List Expr}{te:TE}{t:TA}{pos:Pos}
def zS:PA X [] tNil:=λ_ _ _ _ H Q I h=>Calls.spliced_nil ⟨[],H,I,.nil,h⟩
def vg(ha:PE X e te)(hr:PA X es t)(hs:starEach (e::es) X.env=(false,eval e X.env)::starEach es X.env):PA X (e::es) (Bj te t):=by intro pos pins s σ H Q I h;rw[hs];show wpAny _ _ (spliced ((false,eval e X.env)::backTo pos (starEach es X.env))) _ _ s;refine Calls.spliced_cons (thn (ha pins s σ H _ I h) λu s1 zz=>exA zz λx H1 I1 r1 q1=>?_);exact thn (hr pos pins s1 σ H1 _ I1 q1) λus s2 zz=>exA zz λxs H2 I2 r2 q2=>⟨x::xs,H2,I2,.cons r1 r2,q2⟩
def tTup(t:TA):TE:=λσ H Q=>t σ H λxs H1=>xs.length<=sizeLine/\∀p,H1 p=none->Q (.ref p) (upd H1 p (.tup xs))
def tLst(t:TA):TE:=λσ H Q=>t σ H λxs H1=>xs.length<=sizeLine/\∀p,H1 p=none->Q (.ref p) (upd H1 p (.lst xs))
def yo{x1}(h:PA X es t):PE X (.Tuple es x1 pos) (tTup t):=by intro pins s σ H Q I hq;refine wpAny_Tuple_spliced (thn (h pos pins s σ H _ I hq) λus s1 ⟨xs,H1,I1,r,z,q⟩=>⟨by rw[<- r.length];exact z,?_⟩);have hf:H1 s1.heap.objs.size=none:=I1.hok.fresh (v_ _);refine⟨.ref s1.heap.objs.size,upd H1 s1.heap.objs.size (.tup xs),I1.laid (t':=s1.toks) (λb u e=>m_ _ e) (v_ _) ?_,rfl,q _ hf⟩;exact⟨z,us,r,⟨_,CB _ rfl,rfl,_,rfl⟩⟩
def xy(h:PA X es t):PE X (.List es pos) (tLst t):=by intro pins s σ H Q I hq;refine wpAny_List_spliced (thn (h pos pins s σ H _ I hq) λus s1 ⟨xs,H1,I1,r,z,q⟩=>⟨by rw[<- r.length];exact z,?_⟩);have hf:H1 s1.heap.objs.size=none:=I1.hok.fresh (v_ _);refine⟨.ref s1.heap.objs.size,upd H1 s1.heap.objs.size (.lst xs),I1.laid (t':=s1.toks) (λb u e=>m_ _ e) (v_ _) ?_,rfl,q _ hf⟩;exact⟨z,us,0,r,CB _ rfl⟩
end
abbrev Sp:=List V->Hp->VK->XK->Prop
abbrev CXT:=List Env->Hp->Shared->XK->Value->Shared->Prop
structure Env0(P:Program)(w:World)(K:W.Frag)(mg:Eh)(base:Heap)(A:Around)(outer:List Env)(s:Shared)(H:Hp):Prop where
 frames:A.frames=some outer
 mod:Mod K mg base
 bs:∀b o,base.get? b=some o->s.heap.get? b=some o/\H b=none
 bsz:base.objs.size<=s.heap.objs.size
 funs:s.heap.FunFrames base outer
 frf:∀b∈frs outer,H b=none
 hok:HOk P w H s.heap
 bare:AllBare s.gens
def CE(outer:List Env)(P:Program)(w:World)(H:Hp)(s:Shared)(Q:VK)(u:Value)(s':Shared):Prop:=
 ∃v H',s'.os=s.os/\AllBare s'.gens/\Un (frs outer) [] H H' s.heap s'.heap/\HOk P w H' s'.heap/\RelV v u/\Q v H'
def CR(CX:CXT)(outer:List Env)(P:Program)(w:World)(H:Hp)(s:Shared)(Q:VK)(E:XK)(r:Result)(s':Shared):Prop:=
 match r with
 |.ok (.ret u)=>CE outer P w H s Q u s'
 |.ok _=>False
 |.error e=>CX outer H s E e s'
structure FnOk(P:Program)(w:World)(K:W.Frag)(mg:Eh)(base:Heap)(CX:CXT)(k:Nat)(f:Addr)(fd:FuncData)(ps:List Str)(sp:Sp):Prop where
 len:∀vs H Q E,sp vs H Q E->vs.length=ps.length
 run:∀(A:Around) (outer:List Env) (s:Shared) (H:Hp) (args:Args) (us:List Value) (vs:List V) (Q:VK) (E:XK),Room k A->Env0 P w K mg base A outer s H->BindsTo s fd args (ps.zip us)->Vals vs us->sp vs H Q E->
  codeAny (model P w) A (.call (.ref f) args) (CR CX outer P w H s Q E) s
def FnOk.imp{P:Program}{w:World}{K:W.Frag}{mg:Eh}{base:Heap}{CX:CXT}{k:Nat}{f:Addr}{fd:FuncData}{ps:List Str}{sp sp':Sp}(F:FnOk P w K mg base CX k f fd ps sp)
 (h:∀vs H Q E,sp' vs H Q E->sp vs H Q E):FnOk P w K mg base CX k f fd ps sp':=
 ⟨λvs H Q E q=>F.len vs H Q E (h _ _ _ _ q),λA outer s H args us vs Q E hr he hb hv hs=>F.run A outer s H args us vs Q E hr he hb hv (h _ _ _ _ hs)⟩
section
variable{X:Cx}{pins:Ei}{σ:St}{H:Hp}{s s':Shared}
def Inv.env0(I:Inv X pins σ H s):Env0 X.prog X.w X.K X.mg X.base X.A X.stack s H:=
 ⟨I.ok.frames,I.ok.mod,I.bs,Cw I.ok.bsz I.sz,I.stack,I.stkFree,I.hok,I.bare⟩
def Inv.after(I:Inv X pins σ H s)(h:CE X.stack X.prog X.w H s Q u s'):EP X pins σ Q u s':=by obtain⟨v,H',os,bare,un,hok,r,q⟩:=h;obtain⟨hh,g,d,t,os'⟩:=s';obtain rfl:os'=s.os:=os;exact⟨v,H',I.call (h':=hh) (g':=g) (d':=d) (t':=t) (ch:=[]) un hok bare (λb z=>absurd z (by simp)),r,q⟩
end
def Binds(K:W.Frag)(fd:FuncData)(ps:List Str)(ds:List Value):Prop:=
 ∀(s:Shared) (us:List Value),K.In s.heap->(us++ds).length=ps.length->BindsTo s fd ⟨us,[]⟩ (ps.zip (us++ds))
def Binds.all{K:W.Frag}{fd:FuncData}{ps:List Str}(h:∀us:List Value,us.length=ps.length->bindArgs fd ⟨us,[]⟩=pure (ps.zip us)):Binds K fd ps []:=λs us _ hl=>by rw[Du] at hl ⊢;exact .of_eq (h us hl)
def iA(CX:CXT)(X:Cx)(E:XK):Prop:=∀(pins:Ei) (σ:St) (H:Hp) (s:Shared) (e:Value) (s':Shared),Inv X pins σ H s->CX X.stack H s E e s'->X.xe e s'
structure FnScope(N P:List Str)(sc:Scope):Prop where
 kind:sc.kind=.function
 co:sc.isCoroutine=false
 gen:sc.isGenerator=false
 nd:N.Nodup
 pre:N.take P.length=P
 par:∀x∈P,sc.names.lookup x=some .local\/sc.names.lookup x=some .cell
 nofree:∀y∈sc.names,y.2 ≠ .free
theorem jP{kindOf:Str->Option NameKind}{x:Str}:∀{binds:List (Str×Value)}{m:Eh},(∀v,(x,v)∉binds)->bindL kindOf binds m x=m x
 | [],_,_=>rfl
 |
  (n,v)::r,m,h=>by
  unfold bindL;rw[jP λw hw=>h w (q_ _ hw)];split
  .have:x≠n:=by rintro rfl;exact h v r_
   simp [this]
  .rfl
theorem jO{kindOf:Str->Option NameKind}{x:Str}:∀{binds:List (Str×Value)}{m:Eh},(∀v,(x,v)∉binds)->bindC kindOf binds m x=m x
 | [],_,_=>rfl
 |
  (n,v)::r,m,h=>by
  unfold bindC;rw[jO λw hw=>h w (q_ _ hw)];split
  .rfl
  .have:x≠n:=by rintro rfl;exact h v r_
   simp [this]
theorem jA{kindOf:Str->Option NameKind}{x:Str}{v:Value}:∀{P:List Str}{vs:List Value}{i:Nat}{m:Eh},P.Nodup->P[i]?=some x->vs[i]?=some v->kindOf x=some .local->
 bindL kindOf (P.zip vs) m x=some v
 | [],_,_,_,_,h,_,_=>by simp at h
 |_::_,[],_,_,_,_,h,_=>by simp at h
 |
  p::P,w::vs,0,m,nd,h1,h2,hk=>by
  simp at h1 h2;subst h1;subst h2;show bindL kindOf ((p,w)::P.zip vs) m p=_;unfold bindL;rw[jP λv hv=>(D6.mp nd).1 (D7 hv).1,if_pos hk];simp
 |
  p::P,w::vs,i+1,m,nd,h1,h2,hk=>by
  show bindL kindOf ((p,w)::P.zip vs) m x=_;unfold bindL;exact jA (i:=i) (D6.mp nd).2 (by simpa using h1) (by simpa using h2) hk
theorem jy{kindOf:Str->Option NameKind}{x:Str}{v:Value}:∀{P:List Str}{vs:List Value}{i:Nat}{m:Eh},P.Nodup->P[i]?=some x->vs[i]?=some v->kindOf x≠some .local->
 bindC kindOf (P.zip vs) m x=some v
 | [],_,_,_,_,h,_,_=>by simp at h
 |_::_,[],_,_,_,_,h,_=>by simp at h
 |
  p::P,w::vs,0,m,nd,h1,h2,hk=>by
  simp at h1 h2;subst h1;subst h2;show bindC kindOf ((p,w)::P.zip vs) m p=_;unfold bindC;rw[jO λv hv=>(D6.mp nd).1 (D7 hv).1,if_neg hk];simp
 |
  p::P,w::vs,i+1,m,nd,h1,h2,hk=>by
  show bindC kindOf ((p,w)::P.zip vs) m x=_;unfold bindC;exact jy (i:=i) (D6.mp nd).2 (by simpa using h1) (by simpa using h2) hk
noncomputable def bK (N:List Str) (vs:List V):St:=vs.map some++List.replicate (N.length-vs.length) none
noncomputable def bR (CX:CXT) (P:Program) (w:World) (K:W.Frag) (mg:Eh) (base:Heap) (N:List Str) (qual:Str) (scope:Scope) (f:Addr) (cd:Value) (A:Around) (outer:List Env) (s:Shared) (H:Hp) (E:XK):Cx where
 prog:=P
 w:=w
 K:=K
 mg:=mg
 base:=base
 A:=A.deeper (envOfC qual scope s.heap.objs.size f cd)
 N:=N
 s₀:=s
 H₀:=H
 env:=envOfC qual scope s.heap.objs.size f cd
 outer:=outer
 stack:=envOfC qual scope s.heap.objs.size f cd::outer
 ex:=[]
 calm:=true
 fn:=λ_=>true
 pn:=[]
 xe:=λe s'=>wpAny (model P w) (A.deeper (envOfC qual scope s.heap.objs.size f cd)) (leaving (envOfC qual scope s.heap.objs.size f cd) e) (λ_ s''=>CX outer H s E e s'') (λe' s''=>CX outer H s E e' s'') s'
def ma{sc:Scope}{n:Nat}{x:Str}(h:sc.names.lookup x=some .cell):∃c,(cellsFrom n sc.names []).lookup x=some c:=by have q:=W.cellsFrom_some sc.names n [] (.inl h);exact CV.mp q
def jR{CX:CXT}{P:Program}{w:World}{K:W.Frag}{mg:Eh}{base:Heap}{N ps:List Str}{qual:Str}{scope:Scope}{f:Addr}{cd:Value}{A:Around}{outer:List Env}{s s1:Shared}{H:Hp}{E:XK}{us:List Value}{vs:List V}
 (S:FnScope N ps scope) (hd:A.handled=none) (e0:Env0 P w K mg base A outer s H) (hl:vs.length=ps.length) (r:Vals vs us)
 (x:InCallC s s.heap.objs.size (bindL (envOfC qual scope s.heap.objs.size f cd).kindOf (ps.zip us) λ_=>none) (cellsFrom (s.heap.objs.size+1) scope.names []) (bindC (envOfC qual scope s.heap.objs.size f cd).kindOf (ps.zip us) λ_=>none) s1):
 Inv (bR CX P w K mg base N qual scope f cd A outer s H E) [] (bK N vs) H s1:=by
 have hpl:ps.length<=N.length:=by have:=CM List.length S.pre;rw[List.length_take] at this;omega
 obtain⟨h1,tk,rfl,hk⟩:=x.done;have noA:∀b:Addr,b∉(bR CX P w K mg base N qual scope f cd A outer s H E).ex:=λb z=>absurd (show b∈([]:List Addr) from z) (by simp);refine⟨⟨e0.mod,S.kind,rfl,rfl,v_ _,λy z c h1 h2=>?_,λy hy=>?_,λy c _ h=>?_,λ_=>hd,Around.frames_deeper e0.frames,.inr ⟨rfl,rfl⟩,λb z=>absurd z (noA b),e0.bs,e0.bsz,λb _ _=>noA b,λb z=>absurd z (noA b),e0.funs,e0.frf⟩,
  rfl,e0.bare,Un.kept hk,⟨_,x.toInCall.ns,λi y v h1 h2 h3=>?_⟩,λy c h=>⟨_,x.cell y c h⟩,e0.hok.fresh (v_ _),λy c h=>?_,λp hp=>absurd (show p∈([]:Ei) from hp) (by simp),e0.hok.kept hk,?_⟩
 .exact name_of_addr x.apart (CH h1) (CH h2)
 .have hy:scope.names.lookup y=some .cell\/scope.names.lookup y=some .free:=hy;rcases hy with hy |hy
  .exact ma hy
  .exact absurd rfl (S.nofree _ (CH hy))
 .exact Nat.le_of_lt (x.above y c (CH h))
 .have hi:i<vs.length:=by
   unfold bK at h2;by_cases hi:i<vs.length
   .exact hi
   .rw[C7 (by simpa using hi)] at h2;rw[CO] at h2;split at h2 <;> cases h2
  have ha:vs[i]?=some v:=by
   unfold bK at h2;rw[CC (by simpa using hi),Cs] at h2;cases e:vs[i]? with
   |none=>rw[e] at h2;cases h2
   |some a=>rw[e] at h2;cases h2;rfl
  obtain⟨u,hu,rv⟩:=r.get ha;have hp:ps[i]?=some y:=by rw[<- S.pre,List.getElem?_take_of_lt (by omega)];exact h1
  have ndP:ps.Nodup:=by rw[<- S.pre];exact S.nd.sublist (List.take_sublist _ _)
  refine⟨u,rv,?_⟩;rcases S.par y (CT hp) with k |k
  .exact .inl ⟨k,jA ndP hp hu k⟩
  .obtain⟨c,e⟩:=ma (n:=s.heap.objs.size+1) k;refine .inr ⟨.inl k,c,e,?_⟩;have q:=x.cell y c e;rw[jy ndP hp hu (by show scope.names.lookup y≠_;rw[k];decide)] at q;exact q
 .exact e0.hok.fresh (Nat.le_of_lt (x.above y c (CH h)))
 .unfold bK;show _=N.length;rw[Cz,u_,C5];omega
def A8{CX:CXT}{P:Program}{w:World}{K:W.Frag}{mg:Eh}{base:Heap}{k:Nat}{f:Addr}{name qual:Str}{params:Arguments}{body:List Stmt}{scope:Scope}{dV kV doc pm cdv ct oc:Value}{an od:Option Addr}
 {osl:Array (Option Value)}{N ps:List Str}{sp:Sp} (lk:K.lookup f=some ⟨oc,od,.func (W.fnOf name qual params body scope dV kV doc pm an cdv ct),osl⟩) (hcd:W.codeIn K cdv qual=true) (S:FnScope N ps scope)
 (len:∀vs H Q E,sp vs H Q E->vs.length=ps.length)
 (d_:∀(A:Around) (outer:List Env) (s:Shared) (H:Hp) (vs:List V) (Q:VK) (E:XK),Room k (A.deeper (envOfC qual scope s.heap.objs.size f cdv))->sp vs H Q E->
  ∃t,PSs (bR CX P w K mg base N qual scope f cdv A outer s H E) body t/\t { nx:=λ_ H'=>Q .non H',rt:=Q } (bK N vs) H):
 FnOk P w K mg base CX (k+1) f (W.fnOf name qual params body scope dV kV doc pm an cdv ct) ps sp:=by
 refine⟨len,λA outer s H args us vs Q E hr e0 hb r hsp=>?_⟩;have hl:=len _ _ _ _ hsp;have KX:K.In s.heap:=e0.mod.kin.keeps λb o e=>(e0.bs b o e).1;have lim:s.heap.NoLimit:=e0.mod.nolimit.keeps λb o e=>(e0.bs b o e).1;have hkind:∀y∈ps.zip us,scope.names.lookup y.1=some .local\/(scope.names.lookup y.1=some .cell/\((cellsFrom (s.heap.objs.size+1) scope.names []).lookup y.1).isSome=true):=λ⟨n,v⟩ hy=>by
  rcases S.par n (D7 hy).1 with q |q
  .exact .inl q
  .exact .inr ⟨q,W.cellsFrom_some _ _ _ (.inl q)⟩
 refine codeAny_call_function hr.depth (KX _ _ lk) rfl S.co S.gen rfl (W.codeRec_of KX hcd) (hb _ _ _ _ ?_);refine wpAny_newFunctionEnv_cells S.kind hkind λenv he s1 x=>?_;subst he;refine⟨lim.keeps x.toInCall.keep,codeAny_func ?_⟩;obtain⟨t,ht,hq⟩:=d_ A outer s H vs Q E (hr.deeper _) hsp;have I:Inv (bR CX P w K mg base N qual scope f cdv A outer s H E) [] (bK N vs) H s1:=jR S hr.hd e0 hl r x;refine z_ (ht [] s1 (bK N vs) H _ I hq) (λfl s' hs=>?_) λe s' hs=>hs;have c_:∀{σ':St}{H':Hp}{v:V}{u:Value},Inv (bR CX P w K mg base N qual scope f cdv A outer s H E) [] σ' H' s'->RelV v u->Q v H'->CE outer P w H s Q u s':=
  λ{σ' H' v u} J rv q=>⟨v,H',J.os,J.bare,J.base,J.hok,rv,q⟩
 cases fl with
 |ret u=>obtain⟨v,σ',H',J,rv,q⟩:=hs;exact c_ J rv q
 |next=>obtain⟨σ',H',J,q⟩:=hs;exact c_ (v:=V.non) (u:=Value.none) J rfl q
 |brk=>obtain⟨_,_,_,q⟩:=hs;exact False.elim q
 |cont=>obtain⟨_,_,_,q⟩:=hs;exact False.elim q
section
variable{X:Cx}{x:Str}{p pos:Pos}{e:Expr}{es:List Expr}{t:TA}{id T:String}{r:List V->Hp->VK->Prop}
def tCB(r:List V->Hp->VK->Prop)(t:TA):TE:=λσ H Q=>t σ H λvs H1=>r vs H1 Q
def sU(hc:CallR X (.builtin id) r)(hg:Gl X x)(hm:X.mg x=none)(hv:bootBuiltins x=some (.builtin id))(ha:PA X (e::es) t)(hn:x ≠ "__name__")(hdb:(x==("__debug__" : Str))=false)
 (he:starEach (e::es) X.env=(false,eval e X.env)::starEach es X.env) (hpl:(backTo pos (starEach es X.env)).any (·.1)=false):PE X (.Call (.Name x p) (e::es) [] pos) (tCB r t):=by
 intro pins s σ H Q I h;refine DJ (gL I hg hm hv ?_ hn hdb);exact PyProof.Rows.callWith_builtin1 (thn (ha pos pins s σ H _ I h) λus s1 zz=>exA zz λvs H1 I1 r1 q1=>hc pins s1 σ H1 vs us Q I1 r1 q1) he hpl
def o7(hc:CallR X (.type T) r)(hg:Gl X x)(hm:X.mg x=none)(hv:bootBuiltins x=some (.type T))(ha:PA X (e::es) t)(hn:x ≠ "__name__")(hdb:(x==("__debug__" : Str))=false)
 (he:starEach (e::es) X.env=(false,eval e X.env)::starEach es X.env) (hpl:(backTo pos (starEach es X.env)).any (·.1)=false):PE X (.Call (.Name x p) (e::es) [] pos) (tCB r t):=by
 intro pins s σ H Q I h;refine DJ (gL I hg hm hv ?_ hn hdb);exact PyProof.Rows.callWith_type1 (thn (ha pos pins s σ H _ I h) λus s1 zz=>exA zz λvs H1 I1 r1 q1=>hc pins s1 σ H1 vs us Q I1 r1 q1) he hpl
end
end L2
namespace HT
open PySem PyProof.Rows
section
variable{prog:Program}{w:World}{A:Around}{E:Ej}{s:Shared}
def cat_tup(ht:IsTup s.heap t vs.toArray)(hb:IsTup s.heap b ws.toArray)(hv:vs≠[])
 (h1:ws=[]->Q (.ref t) s) (h2:ws≠[]->Q (.ref s.heap.objs.size) { s with heap:=s.heap.push { cls:=.type "tuple",data:=.seq (vs++ws).toArray } })
 (hsz:vs.length+ws.length<=sizeLine):wpAny (model prog w) A (binaryOp .Add (.ref t) (.ref b)) Q E s:=by
 obtain⟨⟨cls,dd,data,sl⟩,ho,hc,n,hd⟩:=id ht;obtain⟨⟨cls2,dd2,data2,sl2⟩,ho2,hc2,n2,hd2⟩:=id hb;simp only at hc hd hc2 hd2;subst hc hd hc2 hd2;have e:vs.toArray++ws.toArray=(vs++ws).toArray:=by simp
 by_cases hw:ws=[]
 .exact concat_meets ⟨_,ho,rfl⟩ ⟨_,ho2,rfl⟩ noFill_tuple_add seq_tuple_add DV DP (DH _ _)
   (tuple_addW1 t b vs.toArray ws.toArray n n2 dd dd2 sl sl2 (by simpa using hv) (by simp [hw])) ⟨ho,ho2,h1 hw⟩
 .refine concat_meets ⟨_,ho,rfl⟩ ⟨_,ho2,rfl⟩ noFill_tuple_add seq_tuple_add DV DP (DH _ _)
   (tuple_addW2 t b vs.toArray ws.toArray n n2 dd dd2 sl sl2 (by simpa using hv) (by simpa using hw) (by rw[w_,w_];exact hsz)) ⟨ho,ho2,?_⟩
  rw[e];exact h2 hw
noncomputable def sIx (n d:Nat):Option Int->Nat
 |none=>d
 |some v=>if v<0 then (v+(n:Int)).toNat else min v.toNat n
def sIx_none(n d:Nat):sIx n d none=d:=rfl
def sIx_nat(n d k:Nat):sIx n d (some (k:Int))=min k n:=by show (if (k:Int)<0 then ((k:Int)+(n:Int)).toNat else min (k:Int).toNat n)=min k n;rw[if_neg (by omega),Int.toNat_natCast]
def ya(n d:Nat)(hd:d<=n)(o:Option Int):sIx n d o<=n:=by
 cases o with
 |none=>exact hd
 |
  some v=>
  show (if v<0 then (v+(n:Int)).toNat else min v.toNat n)<=n;by_cases hv:v<0
  .rw[if_pos hv];omega
  .rw[if_neg hv];exact Nat.min_le_right _ _
def nI(v:Int)(n d:Nat):(if v<0 then max (v+(n:Int)) 0 else min v (n:Int))=((sIx n d (some v):Nat):Int):=by
 show (if v<0 then max (v+(n:Int)) 0 else min v (n:Int))=(((if v<0 then (v+(n:Int)).toNat else min v.toNat n):Nat):Int);by_cases hv:v<0
 .simp only[if_pos hv];omega
 .simp only[if_neg hv];omega
def n9(lo hi:Option Int)(n:Nat):Builtin.Slice.sliceAdjust lo hi 1 (n:Int)=(((sIx n 0 lo:Nat):Int),((sIx n n hi:Nat):Int)):=by
 have h1:¬ ((1:Int)<0):=by omega
 unfold Builtin.Slice.sliceAdjust;simp only[h1,Dn];refine Prod.ext ?_ ?_
 .cases lo with
  |none=>rfl
  |some v=>exact nI v n 0
 .cases hi with
  |none=>rfl
  |some v=>exact nI v n n
def oH(i j:Nat):Builtin.Slice.slicePlaces (i:Int) (j:Int) 1=j-i:=by
 unfold Builtin.Slice.slicePlaces;have h1:(1:Int)>0:=by omega
 simp only[h1,Ds,Int.ediv_one];split <;> omega
def hJ(p:IsPart v o)(h:Q o s):wpAny (model prog w) A (Builtin.Slice.slicePartIndex v) Q E s:=by
 cases p with
 |none=>exact slicePart_none h
 |int i t=>exact slicePart_int h
def gI{sl:Addr}{vl vu:Value}{lo hi:Option Int}{n:Nat}{Q:Int×Int×Nat->Shared->Prop}(hs:s.heap.IsSliceOf sl vl vu .none)(pl:IsPart vl lo)(pu:IsPart vu hi)
 (h:Q (((sIx n 0 lo:Nat):Int),1,sIx n n hi-sIx n 0 lo) s):wpAny (model prog w) A (Builtin.Slice.sliceApplied (.ref sl) (pure (n:Int))) Q E s:=by
 obtain⟨os,hos,hcs,hds⟩:=id hs;unfold Builtin.Slice.sliceApplied Builtin.Slice.sliceFields;refine k_ (k_ (Ed hos hds (x:=vl) rfl (k_ (Ed hos hds (x:=vu) rfl (k_ (Ed hos hds (x:=.none) rfl (s_ ?_)))))));refine k_ (slicePart_none ?_);show wpAny _ _ (if ((1:Int)==0)=true then _ else _) _ _ s;rw[if_neg (by decide)];refine k_ (hJ pl (k_ (hJ pu (k_ (s_ ?_)))));show wpAny _ _ (match Builtin.Slice.sliceAdjust lo hi 1 (n:Int) with |(lo,hi)=>pure (lo,(1:Int),Builtin.Slice.slicePlaces lo hi 1)) _ _ s;rw[n9 lo hi n];show wpAny _ _ (pure (((sIx n 0 lo:Nat):Int),(1:Int),Builtin.Slice.slicePlaces ((sIx n 0 lo:Nat):Int) ((sIx n n hi:Nat):Int) 1)) _ _ s;rw[oH];exact s_ h
def sN(xs:Array Value)(i k:Nat):((List.range k).filterMap λ(m:Nat)=>xs[((i:Int)+(m:Int)*1).toNat]?).toArray=((xs.toList.drop i).take k).toArray:=by
 have e:(λ(m:Nat)=>xs[((i:Int)+(m:Int)*1).toNat]?)=λm=>xs[i+m]?:=by
  funext m;have:((i:Int)+(m:Int)*1).toNat=i+m:=by omega
  rw[this]
 rw[e]
 have:=pick_run xs i k
 rw[List.filterMap_map] at this;have e2:((λx=>xs[x]?) ∘ λx=>i+x)=λm=>xs[i+m]?:=rfl;rw[e2] at this;rw[this]
def getItem_tuple_cut{t sl:Addr}{items:Array Value}{vl vu:Value}{lo hi:Option Int}{Q:Ej}(ht:IsTup s.heap t items)(hs:s.heap.IsSliceOf sl vl vu .none)(pl:IsPart vl lo)(pu:IsPart vu hi)
 (hw:¬ (sIx items.size 0 lo=0/\sIx items.size items.size hi=items.size))
 (h:Q (.ref s.heap.objs.size) { s with heap:=s.heap.push { cls:=.type "tuple",data:=.seq ((items.toList.drop (sIx items.size 0 lo)).take (sIx items.size items.size hi-sIx items.size 0 lo)).toArray } })
 (hsz:items.size<=sizeLine):wpAny (model prog w) A (getItem (.ref t) (.ref sl)) Q E s:=by
 have htake:sizeOk (.seq ((items.toList.drop (sIx items.size 0 lo)).take (sIx items.size items.size hi-sIx items.size 0 lo)).toArray):=by show ((items.toList.drop (sIx items.size 0 lo)).take (sIx items.size items.size hi-sIx items.size 0 lo)).toArray.size<=sizeLine;rw[w_,List.length_take,List.length_drop,Dt];omega
 have hj:sIx items.size items.size hi<=items.size:=ya _ _ (v_ _) hi;obtain⟨os,hos,hcs,hds⟩:=id hs;have hTs:s.TypeIs (.ref sl) "slice":=⟨os,hos,hcs⟩;unfold getItem;try with_reducible refine CL ?_
 first |refine k_ (s_ ?_) |skip
 refine k_ (wpAny_sequenceKey ht.typeIs (by decide) ?_);refine k_ (wpAny_callSpecial?_slot (name:=Str.ofString "__getitem__") ht.typeIs PyProof.Rows.slot_tuple_getitem
  (wpAny_call_entry PyProof.Rows.slot_tuple_getitem ht.typeIs entry_tuple_getitem ?_ (args_tuple_getitem _ _)))
 show wpAny _ _ (Builtin.Tuple.tupleItemsOf (.ref t) >>= _) _ _ s;refine k_ (tupleItemsOf_ ht ?_);refine k_ (wpAny_typeOf hTs ?_);rw[if_pos (by decide)];refine k_ (gI hs pl pu ?_);have hno:¬ ((((sIx items.size 0 lo:Nat):Int)==0&&(1:Int)==1&&(sIx items.size items.size hi-sIx items.size 0 lo)==items.size)=true):=by intro q;rw[p_,p_] at q;have q1:((sIx items.size 0 lo:Nat):Int)=0:=eq_of_beq q.1.1;have q2:sIx items.size items.size hi-sIx items.size 0 lo=items.size:=eq_of_beq q.2;exact hw ⟨by omega,by omega⟩
 show wpAny _ _ (if (((sIx items.size 0 lo:Nat):Int)==0&&(1:Int)==1&&(sIx items.size items.size hi-sIx items.size 0 lo)==items.size)=true then _ else _) _ _ s;rw[if_neg hno,sN];first
  |exact k_ (m:=Builtin.Tuple.tupleExact _) (CW (s_ ⟨_,rfl,s_ h⟩) htake)
  |exact k_ (m:=Builtin.Tuple.tupleExact _) (CW (k_ (s_ (s_ ⟨_,rfl,s_ h⟩))) htake)
  |exact k_ (k_ (m:=Builtin.Tuple.tupleExact _) (CW (s_ (s_ ⟨_,rfl,s_ h⟩)) htake))
  |exact k_ (k_ (m:=Builtin.Tuple.tupleExact _) (CW (s_ ⟨_,rfl,s_ h⟩) htake))
end
end HT
namespace L2
open PySem PySem.Spec PyProof.Rows
abbrev TO:=St->Hp->(Option Int->Hp->Prop)->Prop
def PO(X:Cx)(e:Option Expr)(t:TO):Prop:=
 ∀
  (pins:Ei) (s:Shared) (σ:St) (H:Hp) (Q:Option Int->Hp->Prop),Inv X pins σ H s->t σ H Q->
  wpAny (model X.prog X.w) X.A (evalPart e X.env) (λu s'=>∃o H',Inv X pins σ H' s'/\IsPart u o/\Q o H') X.xe s
def vz:TO:=λ_ H Q=>Q none H
def Ak(t:TE):TO:=λσ H Q=>t σ H λx H1=>∃i,x=.int i/\Q (some i) H1
section
variable{X:Cx}{e:Expr}{te:TE}{lo hi:Option Expr}{tl th:TO}{pos p2:Pos}
def wN:PO X none vz:=by intro pins s σ H Q I h;rw[evalPart_none];exact s_ ⟨none,H,I,.none,h⟩
def wA(h:PE X e te):PO X (some e) (Ak te):=by intro pins s σ H Q I hw;rw[evalPart_some];refine thn (h pins s σ H _ I hw) λu s1 zz=>exA zz λx H1 I1 r1 q1=>?_;obtain⟨i,rfl,q⟩:=q1;obtain⟨t,rfl⟩:=r1;exact⟨some i,H1,I1,.int i t,q⟩
def SlR(X:Cx)(r:V->Option Int->Option Int->Hp->VK->Prop):Prop:=
 ∀
  (pins:Ei) (s:Shared) (σ:St) (H:Hp) (x:V) (v vl vu:Value) (lo hi:Option Int) (sl:Addr) (Q:VK),Inv X pins σ H s->RelV x v->s.heap.IsSliceOf sl vl vu .none->IsPart vl lo->IsPart vu hi->r x lo hi H Q->
  ∃T id,typeLookup (.type T) "__getitem__"=pure (some (.builtin id))/\s.TypeIs v T/\wpAny (model X.prog X.w) X.A (getItem v (.ref sl)) (EP X pins σ Q) X.xe s
def SlR.or(h:SlR X r)(h':SlR X r'):SlR X (λx lo hi H Q=>r x lo hi H Q\/r' x lo hi H Q):=by
 intro pins s σ H x v vl vu lo hi sl Q I rx hs pl pu q;rcases q with q |q
 .exact h pins s σ H x v vl vu lo hi sl Q I rx hs pl pu q
 .exact h' pins s σ H x v vl vu lo hi sl Q I rx hs pl pu q
def tSl(r:V->Option Int->Option Int->Hp->VK->Prop)(te:TE)(tl th:TO):TE:=λσ H Q=>te σ H λx H1=>tl σ H1 λl H2=>th σ H2 λu H3=>r x l u H3 Q
def tZ(hr:SlR X r)(he:PE X e te)(hl:PO X lo tl)(hu:PO X hi th):PE X (.Subscript e (.Slice lo hi none p2) pos) (tSl r te tl th):=by intro pins s σ H Q I h;refine Subscript_ (thn (he pins s σ H _ I h) λv s1 zz=>exA zz λx H1 I1 r1 q1=>?_);refine wpAny_Slice (thn (hl pins s1 σ H1 _ I1 q1) λvl s2 ⟨l,H2,I2,pl,q2⟩=>thn (hu pins s2 σ H2 _ I2 q2) λvu s3 ⟨u,H3,I3,pu,q3⟩=>?_);rw[evalPart_none];refine s_ ?_;have I4:Inv X pins σ H3 { s3 with heap:=s3.heap.push { cls:=.type "slice",data:=.fields #[vl,vu,.none] } }:=I3.kept (t':=s3.toks) λb ob q=>m_ _ q;obtain⟨T,id,hT,ht,hg⟩:=hr pins { s3 with heap:=s3.heap.push { cls:=.type "slice",data:=.fields #[vl,vu,.none] } } σ H3 x v vl vu l u s3.heap.objs.size Q I4 r1 (Heap.IsSliceOf.new ..) pl pu q3;show wpAny (model X.prog X.w) X.A (subscriptTail e (.Slice lo hi none p2) v (.ref s3.heap.objs.size)) (EP X pins σ Q) X.xe { s3 with heap:=s3.heap.push { cls:=.type "slice",data:=.fields #[vl,vu,.none] } };exact tail_any (ops:=[.ref s3.heap.objs.size,v]) ht hT hg (by with_unfolding_all rfl)
noncomputable def fq (xs:List V) (lo hi:Option Int):List V:=(xs.drop (HT.sIx xs.length 0 lo)).take (HT.sIx xs.length xs.length hi-HT.sIx xs.length 0 lo)
def gd(xs:List V)(lo hi:Option Int):(fq xs lo hi).length<=xs.length:=by unfold fq;rw[List.length_take,List.length_drop];omega
def qV(K:W.Frag):V->Option Int->Option Int->Hp->VK->Prop:=λx lo hi H Q=>∃a xs,x=.ref a/\SqT K H a xs/\
 ¬ (HT.sIx xs.length 0 lo=0/\HT.sIx xs.length xs.length hi=xs.length)/\∀p,H p=none->Q (.ref p) (upd H p (.tup (fq xs lo hi)))
def xZ:SlR X (qV X.K):=by
 intro pins s σ H x v vl vu lo hi sl Q I rx hs pl pu h;obtain⟨a,xs,rfl,hx,hw,q⟩:=h;cases rx;obtain⟨its,r,ht,hz⟩:=I.tuple hx;have hlen:its.toArray.size=xs.length:=by rw[w_];exact r.length.symm
 refine⟨"tuple",_,PyProof.Rows.slot_tuple_getitem.lookup,ht.typeIs,?_⟩;refine HT.getItem_tuple_cut ht hs pl pu (by rw[hlen];exact hw) ?_ (by rw[hlen];exact hz);rw[hlen];refine⟨.ref s.heap.objs.size,_,I.laid (t':=s.toks) (o:=.tup (fq xs lo hi)) (λb ob q=>m_ _ q) (v_ _) ?_,rfl,q _ (I.hok.fresh (v_ _))⟩;exact⟨Cw (gd xs lo hi) hz,_,(r.drop (HT.sIx xs.length 0 lo)).take (HT.sIx xs.length xs.length hi-HT.sIx xs.length 0 lo),IsTup.new _ _⟩
def kf(K:W.Frag):R2:=λx y H Q=>∃a b xs ys,x=.ref a/\y=.ref b/\SqT K H a xs/\SqT K H b ys/\xs≠[]/\xs.length+ys.length<=sizeLine/\
 (ys=[]->Q (.ref a) H)/\(ys≠[]->∀p,H p=none->Q (.ref p) (upd H p (.tup (xs++ys))))
def Vals.nil_iff(r:Vals xs us):us=[] ↔ xs=[]:=by
 cases r with
 |nil=>simp
 |cons _ _=>simp
def vw:OpR X (binaryOp .Add) (kf X.K):=by intro pins s σ H x y v u Q I rx ry h;obtain⟨a,b,xs,ys,rfl,rfl,ha,hb,hx,hz,q1,q2⟩:=h;cases rx;cases ry;obtain⟨its,r1,p1,_⟩:=I.tuple ha;obtain⟨its2,r2,p2,_⟩:=I.tuple hb;refine HT.cat_tup p1 p2 (λz=>hx (r1.nil_iff.mp z)) (λz=>⟨.ref a,H,I,rfl,q1 (r2.nil_iff.mp z)⟩) (λz=>?_) (by rw[<- r1.length,<- r2.length];exact hz);refine⟨.ref s.heap.objs.size,_,I.laid (t':=s.toks) (o:=.tup (xs++ys)) (λb ob q=>m_ _ q) (v_ _) ?_,rfl,q2 (λw=>z (r2.nil_iff.mpr w)) _ (I.hok.fresh (v_ _))⟩;exact⟨by rw[Cz];exact hz,_,r1.append r2,IsTup.new _ _⟩
end
noncomputable def ixN (n:Nat) (i:Int):Option Nat:=if 0<=i then (if i<n then some i.toNat else none) else if -(n:Int)<=i then some (i+n).toNat else none
noncomputable def atI {α:Type} (xs:List α) (i:Int):Option α:=(ixN xs.length i).bind λj=>xs[j]?
def mW(h:ixN n i=some j):seqIndex? i n=some j/\j<n/\-(n:Int)<=i/\i<n:=by
 unfold ixN at h;by_cases h0:0<=i
 .rw[if_pos h0] at h;by_cases h1:i<n
  .rw[if_pos h1] at h;have e:i.toNat=j:=x_ h;exact⟨by rw[seqIndex_of h0 h1,e],by omega,by omega,h1⟩
  .rw[if_neg h1] at h;cases h
 .rw[if_neg h0] at h;by_cases h1:-(n:Int)<=i
  .rw[if_pos h1] at h;have e:(i+n).toNat=j:=x_ h;exact⟨by rw[seqIndex_neg (by omega) h1,e],by omega,h1,by omega⟩
  .rw[if_neg h1] at h;cases h
def mT(h:atI xs i=some v):∃j,seqIndex? i xs.length=some j/\xs[j]?=some v/\j<xs.length/\-(xs.length:Int)<=i/\i<xs.length:=by
 unfold atI at h;cases e:ixN xs.length i with
 |none=>rw[e] at h;cases h
 |some j=>rw[e] at h;obtain⟨h1,h2,h3,h4⟩:=mW e;exact⟨j,h1,h,h2,h3,h4⟩
def nA(b:Expr):Prop:=∀o i,subscripted b false o i=operate [o,i] (getItem o i)
def IxR(X:Cx)(r:R2):Prop:=
 ∀
  (value slice:Expr) (pins:Ei) (s:Shared) (σ:St) (H:Hp) (x y:V) (v u:Value) (Q:VK),Inv X pins σ H s->RelV x v->RelV y u->r x y H Q->
  subscripted slice false v u=operate [v,u] (getItem v u)->wpAny (model X.prog X.w) X.A (subscriptTail value slice v u) (EP X pins σ Q) X.xe s
def MtR(X:Cx)(id:String)(r:V->List V->Hp->VK->Prop):Prop:=
 ∀
  (pins:Ei) (s:Shared) (σ:St) (H:Hp) (x:V) (xs:List V) (v:Value) (us:List Value) (Q:VK),Inv X pins σ H s->RelV x v->Vals xs us->r x xs H Q->
  wpAny (model X.prog X.w) X.A (call (.builtin id) (v::us)) (EP X pins σ Q) X.xe s
section
variable{X:Cx}{a b:Expr}{ta tb:TE}{pos:Pos}
def IxR.or(h:IxR X r)(h':IxR X r'):IxR X (λx y H Q=>r x y H Q\/r' x y H Q):=by
 intro value slice pins s σ H x y v u Q I rx ry q hs;rcases q with q |q
 .exact h value slice pins s σ H x y v u Q I rx ry q hs
 .exact h' value slice pins s σ H x y v u Q I rx ry q hs
def Ba(hr:IxR X r)(ha:PE X a ta)(hb:PE X b tb)(hs:nA b):PE X (.Subscript a b pos) (tOp r ta tb):=by intro pins s σ H Q I h;exact Subscript_ (rR ha hb I h λv u s2 x y H2 I2 rx ry q=>hr a b pins s2 σ H2 x y v u Q I2 rx ry q (hs _ _))
def ud(K:W.Frag):R2:=λx y H Q=>∃p xs i v,x=.ref p/\y=.int i/\SqL K H p xs/\atI xs i=some v/\Q v H
def uc(K:W.Frag):R2:=λx y H Q=>∃p xs i v,x=.ref p/\y=.int i/\SqT K H p xs/\atI xs i=some v/\Q v H
def w6:IxR X (ud X.K):=by
 intro value slice pins s σ H x y v u Q I rx ry h hs;obtain⟨p,xs,i,z,rfl,rfl,hq,he,q⟩:=h;cases rx;obtain⟨t,rfl⟩:=ry;obtain⟨its,r,pl,hz⟩:=I.list hq;obtain⟨j,h1,h2,h3,h4,h5⟩:=mT he;obtain⟨w,ew,rw'⟩:=r.get h2;have hl:=r.length;have hn:=eI;have c_:EP X pins σ Q w s:=⟨z,H,I,rw',q⟩;by_cases h0:0<=i
 .have hj:i.toNat=j:=by rw[seqIndex_of h0 h5] at h1;exact x_ h1
  exact item_listR pl.isList h0 (by omega) (by rw[hj];simpa using ew) c_ hs
 .have hj:(i+(its.toArray.size:Int)).toNat=j:=by rw[seqIndex_neg (by omega) h4] at h1;rw[w_,<- hl];exact x_ h1
  exact subscriptTail_builtinR (x:=w) pl.isList.typeIs slot_list_getitem.lookup
   (wpAny_getItem_list_neg (Q:=λr s'=>r=w/\EP X pins σ Q r s') pl.isList (by omega) (by rw[w_] <;> omega) (by omega) (by rw[hj];simpa using ew) ⟨rfl,c_⟩) hs
def yu:IxR X (uc X.K):=by
 intro value slice pins s σ H x y v u Q I rx ry h hs;obtain⟨p,xs,i,z,rfl,rfl,hq,he,q⟩:=h;cases rx;obtain⟨t,rfl⟩:=ry;obtain⟨its,r,pl,hz⟩:=I.tuple hq;obtain⟨j,h1,h2,h3,h4,h5⟩:=mT he;obtain⟨w,ew,rw'⟩:=r.get h2;have hl:=r.length;have hn:=eI;have c_:EP X pins σ Q w s:=⟨z,H,I,rw',q⟩;exact subscriptTail_builtinR (x:=w) pl.typeIs slot_tuple_getitem.lookup
  (getItem_tuple (j:=j) (Q:=λr s'=>r=w/\EP X pins σ Q r s') pl (by omega) (by omega) (by rw[w_,<- hl];exact h1) (by simpa using ew) ⟨rfl,c_⟩) hs
def ox(its:List Value)(n j:Nat)(u:Value):Obj.mapSeq (·.setIfInBounds j u) { cls:=.type "list",data:=.seq its.toArray n }={ cls:=.type "list",data:=.seq (its.set j u).toArray n }:=by simp [Obj.mapSeq]
def Inv.lst(I:Inv X pins σ H s)(h:H p=some (.lst xs)):
 ∃(its:List Value) (n:Nat),Vals xs its/\s.heap.get? p=some { cls:=.type "list",data:=.seq its.toArray n }/\xs.length<=sizeLine:=by
 obtain⟨z,its,n,r,e⟩:=I.hok p _ h;exact⟨its,n,r,e,z⟩
def Inv.lstUpd{pins:Ei}{σ:St}{H:Hp}{s:Shared}{p:Addr}{xs ys:List V}{its its':List Value}{n n':Nat}{f:Obj->Obj}(I:Inv X pins σ H s)(h:H p=some (.lst xs))
 (ho:s.heap.get? p=some { cls:=.type "list",data:=.seq its.toArray n }) (hf:f { cls:=.type "list",data:=.seq its.toArray n }={ cls:=.type "list",data:=.seq its'.toArray n' }) (r:Vals ys its') (hz:ys.length<=sizeLine) (t:Nat):
 Inv X pins σ (upd H p (.lst ys)) { s with heap:=s.heap.update p f,toks:=t }:=by
 have e:(s.heap.update p f).get? p=some { cls:=.type "list",data:=.seq its'.toArray n' }:=by rw[Heap.get?_update_self f ho (by rw[hf] <;> rfl),hf]
 refine I.write (x:=p) (e:=p) (by rw[h];trivial) (.inl rfl) (λb u hb q=>(C0 _ _ (Ne.symm hb)).trans q) ⟨_,e⟩ ?_;exact⟨hz,its',n',r,e⟩
def uz:V->V->V->Hp->(Hp->Prop)->Prop:=λo i v H Q=>∃p xs k j,o=.ref p/\i=.int k/\H p=some (.lst xs)/\ixN xs.length k=some j/\Q (upd H p (.lst (xs.set j v)))
def rK:oo X uz:=by
 intro pins s σ H o i v ov iv u Q I ro ri rv h;obtain⟨p,xs,k,j,rfl,rfl,hp,hj,q⟩:=h;cases ro;obtain⟨t,rfl⟩:=ri;obtain⟨its,n,r,ho,hz⟩:=I.lst hp;obtain⟨h1,h2,h3,h4⟩:=mW hj;have hl:=r.length;have hn:=eI;have I':Inv X pins σ (upd H p (.lst (xs.set j v))) { s with heap:=s.heap.update p (Obj.mapSeq (·.setIfInBounds j u)) }:=
  I.lstUpd hp ho (ox its n j u) (r.set rv j) (by rw[CD];exact hz) s.toks
 by_cases h0:0<=k
 .have hk:k.toNat=j:=by rw[seqIndex_of h0 h4] at h1;exact x_ h1
  exact W.ki_setAt ho h0 (by omega) (by rw[w_,<- hl];exact h4) (by rw[hk];exact⟨_,I',q⟩)
 .have hk:(k+(its.toArray.size:Int)).toNat=j:=by rw[seqIndex_neg (by omega) h3] at h1;rw[w_,<- hl];exact x_ h1
  exact W.ki_setBack ho (by omega) (by rw[w_,<- hl];exact h3) (by omega) (by rw[hk];exact⟨_,I',q⟩)
def kT(lo hi:Option Int)(n:Nat):(sliceBounds lo hi none n).1=((HT.sIx n 0 lo:Nat):Int)/\(sliceBounds lo hi none n).2.1=((HT.sIx n n hi:Nat):Int)/\(sliceBounds lo hi none n).2.2=1:=by
 refine⟨?_,?_,rfl⟩
 .cases lo with
  |none=>simp [sliceBounds,HT.sIx]
  |
   some i=>
   simp only[sliceBounds,HT.sIx,Option.getD_none,show (1:Int)>0 by decide,Ds];by_cases h:i<0
   .simp only[h,Ds] <;> omega
   .simp only[h,Dn] <;> omega
 .cases hi with
  |none=>simp [sliceBounds,HT.sIx]
  |
   some i=>
   simp only[sliceBounds,HT.sIx,Option.getD_none,show (1:Int)>0 by decide,Ds];by_cases h:i<0
   .simp only[h,Ds] <;> omega
   .simp only[h,Dn] <;> omega
def j3(its:List Value)(lo hi:Option Int):slicePick its.toArray lo hi none=((its.drop (HT.sIx its.length 0 lo)).take (HT.sIx its.length its.length hi-HT.sIx its.length 0 lo)).toArray:=by obtain⟨h1,h2,h3⟩:=kT lo hi its.toArray.size;unfold slicePick;rw[h1,h2,h3];simp only[sliceRange_one,pick_run,w_] <;> rfl
def tO(K:W.Frag):V->Option Int->Option Int->Hp->VK->Prop:=λx lo hi H Q=>∃a xs,x=.ref a/\SqL K H a xs/\∀p,H p=none->Q (.ref p) (upd H p (.lst (fq xs lo hi)))
def vA:SlR X (tO X.K):=by intro pins s σ H x v vl vu lo hi sl Q I rx hs pl pu h;obtain⟨a,xs,rfl,hx,q⟩:=h;cases rx;obtain⟨its,r,ht,hz⟩:=I.list hx;have hlen:=r.length;refine⟨"list",_,slot_list_getitem.lookup,ht.isList.typeIs,?_⟩;refine wpAny_getItem_list_slice ht.isList hs pl pu .none (by simp) ?_ (by rw[w_] <;> omega);rw[j3,<- hlen];refine⟨.ref s.heap.objs.size,_,I.laid (t':=s.toks) (o:=.lst (fq xs lo hi)) (λb ob q=>m_ _ q) (v_ _) ?_,rfl,q _ (I.hok.fresh (v_ _))⟩;exact⟨Cw (gd xs lo hi) hz,_,0,(r.drop (HT.sIx xs.length 0 lo)).take (HT.sIx xs.length xs.length hi-HT.sIx xs.length 0 lo),CB _ rfl⟩
def lN:CallR X (.builtin "len") (λxs H Q=>∃p ys,xs=[.ref p]/\(SqL X.K H p ys\/SqT X.K H p ys)/\Q (.int ys.length) H):=by
 intro pins s σ H xs us Q I r h;obtain⟨p,ys,rfl,hq,q⟩:=h;obtain⟨u,rfl,rx⟩:=ck r;cases rx;have hn:=eI;rcases hq with hq |hq
 .obtain⟨its,r',pl,hz⟩:=I.list hq;have hlen:=r'.length;exact Calls.call_len_list pl.isList (by simp only[w_] <;> omega) ⟨.int ys.length,H,I.tok _,⟨s.toks+1,by rw[w_,hlen]⟩,q⟩
 .obtain⟨its,r',pl,hz⟩:=I.tuple hq;have hlen:=r'.length;exact len_tuple pl (by simp only[w_] <;> omega) ⟨.int ys.length,H,I.tok _,⟨s.toks+1,by rw[w_,hlen]⟩,q⟩
def k8:CallR X (.builtin "len") (λxs H Q=>∃z,xs=[.str z]/\z.length<=sizeLine/\Q (.int z.length) H):=by intro pins s σ H xs us Q I r h;obtain⟨z,rfl,hz,q⟩:=h;obtain⟨u,rfl,t,rfl⟩:=ck r;have hn:=eI;exact len_str (by omega) ⟨.int z.length,H,I.tok _,⟨_,rfl⟩,q⟩
def CallR.or(h:CallR X f r)(h':CallR X f r'):CallR X f (λxs H Q=>r xs H Q\/r' xs H Q):=by
 intro pins s σ H xs us Q I rs q;rcases q with q |q
 .exact h pins s σ H xs us Q I rs q
 .exact h' pins s σ H xs us Q I rs q
def mr:CallR X (.type "list") (λxs H Q=>∃p ys,xs=[.ref p]/\(SqL X.K H p ys\/SqT X.K H p ys)/\∀l,H l=none->Q (.ref l) (upd H l (.lst ys))):=by
 intro pins s σ H xs us Q I r h;obtain⟨p,ys,rfl,hq,q⟩:=h;obtain⟨u,rfl,rx⟩:=ck r;cases rx;have c_:∀(its:List Value),Vals ys its->ys.length<=sizeLine->∀(h':Heap) (c':Nat),(∀b o',s.heap.get? b=some o'->h'.get? b=some o')->
  h'.get? s.heap.objs.size=some { cls:=.type "list",dict:=none,data:=.seq its.toArray c',slots:=#[] }->EP X pins σ Q (.ref s.heap.objs.size) { s with heap:=h' }:=λits r' hz h' c' kp e=>
  ⟨.ref s.heap.objs.size,_,I.laid (t':=s.toks) kp (v_ _) (show ObjOk X.prog X.w _ h' _ (.lst ys) from ⟨hz,its,c',r',e⟩),rfl,q _ (I.hok.fresh (v_ _))⟩
 rcases hq with hq |hq
 .obtain⟨its,r',pl,hz⟩:=I.list hq;have hlen:=r'.length;obtain⟨o,ho,hc,n,hd⟩:=pl.isList;exact call_list_seq p (.inl rfl) ho hc hd (λh' c' kp e=>c_ its r' hz h' c' kp e) (by simp only[w_] <;> omega)
 .obtain⟨its,r',pl,hz⟩:=I.tuple hq;have hlen:=r'.length;obtain⟨o,ho,hc,n,hd⟩:=pl;exact call_list_seq p (.inr rfl) ho hc hd (λh' c' kp e=>c_ its r' hz h' c' kp e) (by simp only[w_] <;> omega)
def jZ:CallR X (.type "tuple") (λxs H Q=>∃p ys,xs=[.ref p]/\((SqL X.K H p ys/\∀l,H l=none->Q (.ref l) (upd H l (.tup ys)))\/(SqT X.K H p ys/\Q (.ref p) H))):=by
 intro pins s σ H xs us Q I r h;obtain⟨p,ys,rfl,h⟩:=h;obtain⟨u,rfl,rx⟩:=ck r;cases rx;rcases h with ⟨hq,q⟩ |⟨hq,q⟩
 .obtain⟨its,r',pl,hz⟩:=I.list hq;have hlen:=r'.length;refine call_tuple_list pl.isList (λh' kp=>?_) (by simp only[w_] <;> omega);have I1:Inv X pins σ H { s with heap:=h' }:=I.kept (t':=s.toks) kp;have I2:Inv X pins σ (upd H h'.objs.size (.tup ys)) { s with heap:=h'.push { cls:=.type "tuple",data:=.seq its.toArray } }:=
   I1.laid (t':=s.toks) (λb o e=>m_ _ e) (v_ _) (show ObjOk X.prog X.w _ _ _ (.tup ys) from ⟨hz,its,r',IsTup.new _ _⟩)
  exact⟨.ref h'.objs.size,_,I2,rfl,q _ (I1.hok.fresh (v_ _))⟩
 .obtain⟨its,r',pl,hz⟩:=I.tuple hq;exact call_tuple_same pl ⟨.ref p,H,I,rfl,q⟩
def tyV(K:W.Frag)(T:String)(x:V)(H:Hp):Prop:=match x with
 |.str _=>T="str"
 |.int _=>T="int"
 |.ref p=>(T="list" /\ ∃xs,SqL K H p xs)\/(T="tuple" /\ ∃o,K.lookup p=some o/\o.cls=.type "tuple" /\ o.dict=none)\/
  (T="dict" /\ ((∃kvs,H p=some (.dK kvs))\/∃kvs,H p=some (.dT kvs)))\/(T="set" /\ ∃S n,H p=some (.set S n))
 |_=>False
def Ad(I:Inv X pins σ H s)(r:RelV x v)(ty:tyV X.K T x H):
 s.TypeIs v T/\∀a,v=.ref a->∃ob,s.heap.get? a=some ob/\ob.dict=none:=by
 cases x with
 |str z=>obtain⟨t,rfl⟩:=r;cases (show T="str" from ty);exact⟨DL s z t,λ_ e=>nomatch e⟩
 |int i=>obtain⟨t,rfl⟩:=r;cases (show T="int" from ty);exact⟨typeIs_int s i t,λ_ e=>nomatch e⟩
 |
  ref p=>
  cases r;rcases ty with ⟨rfl,xs,hq⟩ |⟨rfl,o,hk,hc,hd⟩ |⟨rfl,hk⟩ |⟨rfl,S,n,hk⟩
  .obtain⟨its,_,pl,_⟩:=I.list hq;refine⟨pl.isList.typeIs,λa e=>?_⟩;cases e;obtain⟨o,n,e,c,hd,_⟩:=pl;exact⟨o,e,hd⟩
  .refine⟨⟨o,I.kIn p o hk,hc⟩,λa e=>?_⟩;cases e;exact⟨o,I.kIn _ o hk,hd⟩
  .have z:∃o,s.heap.get? p=some o/\o.ExactDict:=by
    rcases hk with ⟨kvs,hk⟩ |⟨kvs,hk⟩
    .obtain⟨_,_,_,_,o,_,_,e,ex,_⟩:=I.hok p _ hk;exact⟨o,e,ex⟩
    .obtain⟨_,_,_,_,o,_,_,e,ex,_⟩:=I.hok p _ hk;exact⟨o,e,ex⟩
   obtain⟨o,e,ex⟩:=z;refine⟨⟨o,e,ex.1⟩,λa e2=>?_⟩;cases e2;exact⟨o,e,ex.2.1⟩
  .obtain⟨o,_,_,_,e,ex,_⟩:=I.hok p _ hk;refine⟨⟨o,e,ex.1⟩,λa e2=>?_⟩;cases e2;exact⟨o,e,ex.2.1⟩
 |_=>exact False.elim ty
def tBM(K:W.Frag)(T:String)(r:V->List V->Hp->VK->Prop)(to:TE)(t:TA):TE:=λσ H Q=>to σ H λx H1=>tyV K T x H1/\t σ H1 λxs H2=>r x xs H2 Q
variable{o e:Expr}{es:List Expr}{to:TE}{t:TA}{name:Str}{apos cpos:Pos}{T id:String}{r:V->List V->Hp->VK->Prop}
def oV(pa:PlainAttrs T)(slot:Slot T name id)(hty:typeOf (.builtin id)=pure (.type "method_descriptor"))(hm:MtR X id r)(ho:PE X o to)(ha:PA X (e::es) t)
 (hbase:attributeBase o name X.env (eval o X.env)=eval o X.env)
 (hfew:((backTo cpos (starEach (e::es) X.env)).all (λx=>!x.1)&&(backToKw cpos (keywordEach [] X.env)).all (λx=>x.1.isSome)
  && decide ((e::es).length+([]:List Keyword).length+(if ([]:List Keyword).isEmpty then 0 else 1)<30))=true)
 (hline:(apos.endLine==cpos.line)=true) (hs:starEach (e::es) X.env=(false,eval e X.env)::starEach es X.env) (e_:(backTo cpos (starEach es X.env)).any (·.1)=false):
 PE X (.Call (.Attribute o name apos) (e::es) [] cpos) (tBM X.K T r to t):=by
 intro pins s σ H Q I h;refine wpAny_Call_method_late hbase hfew hline rfl (thn (ho pins s σ H _ I h) λv s1 ⟨x,H1,I1,r1,ty,q1⟩=>?_);obtain⟨h1,h2⟩:=Ad I1 r1 ty;refine⟨T,id,pa,slot,hty,h1,h2,?_⟩;have hA:=ha cpos pins s1 σ H1 _ I1 q1;rw[hs] at hA ⊢;refine Calls.callWith_builtin (by show (false || (backTo cpos (starEach es X.env)).any (·.1))=false;rw[e_] <;> rfl) (Calls.evalArgs_plain ?_);exact thn hA λus s2 zz=>exA zz λvs H2 I2 r2 q2=>hm pins s2 σ H2 x vs v us Q I2 r1 r2 q2
end
def MtM(X:Cx)(id:String)(r:V->List V->Hp->VK->Prop):Prop:=
 ∀
  (pins:Ei) (s:Shared) (σ:St) (H:Hp) (x:V) (xs:List V) (v:Value) (us:List Value) (Q:VK),Inv X pins σ H s->RelV x v->Vals xs us->r x xs H Q->
  wpAny (model X.prog X.w) X.A (call (.builtin id) (v::us)) (EP X pins σ Q) X.xe s
def Vals.one(r:Vals [x] us):∃u,us=[u]/\RelV x u:=by
 cases r with
 |cons r t=>cases t;exact⟨_,rfl,r⟩
def Vals.reverse(h:Vals xs us):Vals xs.reverse us.reverse:=by
 induction h with
 |nil=>exact .nil
 |cons r t ih=>rw[DQ,DQ];exact Vals.append ih (.cons r .nil)
section
variable{X:Cx}{pins:Ei}{σ:St}{H:Hp}{s:Shared}{l:Addr}{xs ys:List V}
def Inv.lset{its its':List Value}{n:Nat}{f:Array Value->Array Value}{t':Nat}(I:Inv X pins σ H s)(hH:H l=some (.lst xs))
 (e:s.heap.get? l=some { cls:=.type "list",data:=.seq its.toArray n }) (hf:f its.toArray=its'.toArray) (hv:Vals ys its') (hz:ys.length<=sizeLine):
 Inv X pins σ (upd H l (.lst ys)) { s with heap:=s.heap.update l (Obj.mapSeq f),toks:=t' }:=by
 have q:=PySem.IsL.update e f;rw[hf] at q;refine I.write (x:=l) (e:=l) (by rw[hH];exact trivial) (.inl rfl) (λb' u hb hu=>(C0 s.heap (Obj.mapSeq f) (Ne.symm hb)).trans hu) ⟨_,q⟩ ?_;exact⟨hz,its',_,hv,q⟩
def Inv.lnew(I:Inv X pins σ H s)(hv:Vals ys its)(hz:ys.length<=sizeLine):
 Inv X pins σ (upd H s.heap.objs.size (.lst ys)) { s with heap:=s.heap.push { cls:=.type "list",data:=.seq its.toArray },toks:=t' }:=
 I.laid (λ_ _ q=>m_ _ q) (v_ _) ⟨hz,its,0,hv,CB _ rfl⟩
def Inv.fresh(I:Inv X pins σ H s):H s.heap.objs.size=none:=I.hok.fresh (v_ _)
def Inv.lstM(I:Inv X pins σ H s)(hH:H l=some (.lst xs)):xs.length<=sizeLine/\∃(its:List Value) (n:Nat),Vals xs its/\xs.length=its.length/\s.heap.get? l=some { cls:=.type "list",data:=.seq its.toArray n }:=by obtain⟨z,its,n,r,e⟩:=I.hok l _ hH;exact⟨z,its,n,r,r.length,e⟩
end
section
variable{X:Cx}
def m8:V->List V->Hp->VK->Prop:=λx vs H Q=>∃l xs y,x=.ref l/\vs=[y]/\H l=some (.lst xs)/\xs.length<sizeLine/\Q .non (upd H l (.lst (xs++[y])))
def o8:MtM X "list.append" m8:=by intro pins s σ H x vs v us Q I rx rv h;obtain⟨l,xs,y,rfl,rfl,hH,hz,q⟩:=h;cases rx;obtain⟨u,rfl,ru⟩:=rv.one;obtain⟨z,its,n,r,hl,e⟩:=I.lstM hH;refine Dg F.slot_list_append ⟨_,e,rfl⟩ Eb (D2 _ _) (PySem.list_append l its.toArray n u (by rw[w_];omega)) ⟨e,?_⟩;refine⟨.non,_,I.lset (its':=its++[u]) hH e (by simp) (r.append (.cons ru .nil)) ?_,rfl,q⟩;rw[Cz,List.length_singleton];omega
def nQ:R2:=λx y H Q=>∃l b xs zs,x=.ref l/\y=.ref b/\H l=some (.lst xs)/\H b=some (.lst zs)/\xs.length+zs.length<=sizeLine/\∀p,H p=none->Q (.ref p) (upd H p (.lst (xs++zs)))
def y9:OpR X (binaryOp .Add) nQ:=by
 intro pins s σ H x y v u Q I rx ry h;obtain⟨l,b,xs,zs,rfl,rfl,hH,hB,hz,q⟩:=h;cases rx;cases ry;obtain⟨z,its,n,r,hl,e⟩:=I.lstM hH;obtain⟨z2,its2,n2,r2,hl2,e2⟩:=I.lstM hB;refine PySem.P.add_list e e2 ?_ (by rw[w_,w_];omega);have ea:its.toArray++its2.toArray=(its++its2).toArray:=by simp
 rw[ea];exact⟨.ref _,_,I.lnew (t':=s.toks) (r.append r2) (by rw[Cz];omega),rfl,q _ I.fresh⟩
end
section
set_option maxRecDepth 100000 in
end
end L2
namespace Att
open PySem PySem.W PySem.Calls PyProof.Rows
def iq:∀(ns:List Int) (vs:List Value),WellAll P h vs (ns.map WData.int)->IntsAre vs ns:=by
 intro ns;induction ns with
 |nil=>intro vs w;rw[D4] at w;cases w;exact .nil
 |
  cons n ns ih=>
  intro vs w;rw[Cr] at w;cases w with
  |cons a b=>cases a;exact .cons _ _ (ih _ b)
def qH{l:OpenLaw}{n:Nat}(hn:l.most=some n){P:Params}{h:Heap}{args:List WData}{vals:List Value}
 (hpre:l.row.toRowW.claim.pre args=true) (hwl:WellAll P h vals args):
 ∃a vs ns,vals=[Value.ref a]/\args=[WData.list (ns.map WData.int)]/\h.get? a=some { cls:=.type "list",data:=.seq vs.toArray }/\IntsAre vs ns/\ns.length<=n:=by
 have hsh:WShape.hasAll [] args [.list .int]=true:=(pre_splitW hpre).1;have hc:l.pre.holds [] { args:=args }=true:=(pre_splitW hpre).2;obtain⟨d,r,rfl,h1,h2⟩:=hasAllW_cons hsh;obtain rfl:=hasAllW_nil h2;obtain⟨xs,rfl,h3⟩:=hasW_list h1;obtain⟨ns,rfl⟩:=items_int h3;have hlen:ns.length<=n:=by
  unfold OpenLaw.pre at hc;have h4:(WTm.not (.lt (.lit (.int (n:Int))) (.len (.arg 0)))).holds [] { args:=[.list (ns.map .int)] }=true:=by have h4:=(holds_andW hc).1;rw[hn] at h4;exact h4
  have h5:=condW_of h4 (w_not (w_lt w_lit (w_len_list (w_arg rfl))));rw[u_] at h5;refine Nat.le_of_not_lt λq=>?_;have q':(n:Int)<((ns.length:Nat):Int):=by omega
  first
   |(rw[Co q'] at h5;exact absurd h5 (by decide))
   |(simp at h5;omega)
 cases hwl with
 |
  cons w1 w2=>
  cases w2;cases w1 with
  |list ho hall=>exact⟨_,_,ns,rfl,rfl,ho,iq ns _ hall,hlen⟩
def qR(l:OpenLaw)(args:List WData):l.row.toRowW.claim.post args (.bool true) args=true:=
 postW_of (r:=l.row.toRowW) (X:=(true==true))
  (show WShape.has [] (.bool true) .bool=true by first |rfl |decide |simp [WShape.has,WShape.arms,WShape.armsAll])
  (show (WTm.eq .res (.lit (.bool true))).value [] { args:=args,res:=some (.bool true),after:=args }=some (.bool (true==true)) from w_eq_bool (w_res rfl) w_lit) rfl
def attach_call{l:OpenLaw}{n:Nat}{q:Program}{loose:List Str}{XP:(Str->Option Value)->Heap->Prop}{YP:World->Heap->Prop}{d:DefRec}
 (hn:l.most=some n) (hdf:d.params.defaults=[])
 (call:∀(w:World) (s₀ s₁:Shared) (mg mb:Eh) (fa:Addr) (o:Obj) (pm cd doc:Value) (a:Addr) (vs:List Value) (ns:List Int),
  Ground q loose [] XP w s₀ mg mb s₁.heap->YP w s₁.heap->
  s₁.heap.get? fa=some o->o.data=.func (docDef d.name d.params d.body d.scope pm cd doc)->s₁.heap.CodeRec cd d.name->mg d.name=some (.ref fa)->
  s₁.heap.get? a=some { cls:=.type "list",data:=.seq vs.toArray }->IntsAre vs ns->ns.length<=n->s₁.gens=#[]->
  codeAny (model l.prog w) callerA (.call (.ref fa) ⟨[.ref a],[]⟩) (λr s'=>r=.ok (.ret (.bool true))/\OldK s₁.heap s'.heap/\s'.os=s₁.os/\AllBare s'.gens) s₁):
 WalkO q loose XP YP l.row.toRowW d [] (λf vs=>PySem.call f vs):=by
 intro w s₀ s₁ mg mb G Y fa o pm cd doc dV kV ho hd hcd hD hmg hg args vals as hpre hlay hrd hwl hlo;obtain rfl:dV=.none:=Dflts.none hD hdf;obtain rfl:kV=.none:=Dflts.noKw hD;obtain⟨a,vs,ns,rfl,rfl,hobj,hints,hlen⟩:=qH hn hpre hwl;refine enter_call (D_ (call w s₀ s₁ mg mb fa o pm cd doc a vs ns G Y ho (fd_plain hd) hcd hmg hobj hints hlen hg) λr s' hq=>?_);obtain⟨rfl,h2,h3,h4⟩:=hq;exact⟨.inl ⟨.bool true,.bool true,[],rfl,λ_=>rfl,.bool true,qR l _,λ_=>⟨List.Pairwise.nil,λ_ hm=>(nomatch hm)⟩⟩,h2,h3,h4⟩
section
def ledger(h:Heap)(L d:Addr):List (Addr×Obj):=(List.range h.objs.size).filterMap λa=>if a=L\/a=d then none else (h.get? a).map λo=>(a,o)
end
end Att
namespace L2
open PySem PySem.Spec PyProof.Rows
theorem jx:∀{vs:List Value}{ns:List Int},IntsAre vs ns->Vals (ns.map V.int) vs
 |_,_,.nil=>.nil
 |_,_,.cons n t h=>.cons ⟨t,rfl⟩ (jx h)
def iL(H:Hp):Prop:=∀b,H b=none\/∃o xs,H b=some (.frz o (.lst xs))
def rl{P:Program}{w:World}{K:W.Frag}{mg mb:Eh}{CX:CXT}{k:Nat}{fa a:Addr}{fd:FuncData}{x:Str}{sp:Sp}{s₁:Shared}{vs:List Value}{ns:List Int}
 (KX:K.In s₁.heap) (hns:s₁.heap.Ns mainGlobals mg) (hb:s₁.heap.Ns builtinsNs mb) (hbb:∀x:Str,x ≠ "__name__"->mb x=bootBuiltins x) (hlim:s₁.heap.NoLimit) (hg:s₁.gens=#[])
 (ha:s₁.heap.get? a=some { cls:=.type "list",data:=.seq vs.toArray }) (hi:IntsAre vs ns) (hl:ns.length<=sizeLine) (hr:Room k callerA)
 (F:∀base:Heap,K.In base->base.Ns mainGlobals mg->FnOk P w K mg base CX k fa fd [x] sp) (hbind:∀(s:Shared) (u:Value),BindsTo s fd ⟨[u],[]⟩ [(x,u)])
 (hsp:∀H:Hp,iL H->SqL K H a (ns.map V.int)->sp [.ref a] H (λv _=>v=.bl true) λ_ _ _=>False)
 (hCX:∀H e s',CX [] H s₁ (λ_ _ _=>False) e s'->False):
 codeAny (model P w) callerA (.call (.ref fa) ⟨[.ref a],[]⟩) (λr s'=>r=.ok (.ret (.bool true))/\OldK s₁.heap s'.heap/\s'.os=s₁.os/\AllBare s'.gens) s₁:=by
 have rv:=jx hi;have lenV:=hi.length;have core
  : ∀H:Hp,iL H->SqL K H a (ns.map V.int)->HOk P w H s₁.heap->(∀b,H b≠none->b=a)->(H a≠none->K.lookup a=none)->
  codeAny (model P w) callerA (.call (.ref fa) ⟨[.ref a],[]⟩) (λr s'=>r=.ok (.ret (.bool true))/\OldK s₁.heap s'.heap/\s'.os=s₁.os/\AllBare s'.gens) s₁:=by
  intro H hO hS hok hA hK;have base_of:∀{b:Addr}{o:Obj},s₁.heap.get? b=some o->H b=none->(eQ s₁.heap H).get? b=some o:=λe n=>tH e n;have noA:∀{b:Addr}{o:Obj}{es:Array DictEntry}{ep:Nat},s₁.heap.get? b=some o->o.data=.dict es ep->H b=none:=λ{b o es ep} e d=>by
   cases q:H b with
   |none=>rfl
   |some u=>have e':b=a:=hA b (by rw[q];simp);subst e';rw[ha] at e;cases e;have d':Data.seq vs.toArray _=Data.dict es ep:=d;cases d'
  have nsK:∀{b:Addr}{m:Eh},s₁.heap.Ns b m->(eQ s₁.heap H).Ns b m:=λ{b m} ⟨o,es,ep,e,d,r⟩=>⟨o,es,ep,base_of e (noA e d),d,r⟩;have hKb:K.In (eQ s₁.heap H):=λb o e=>base_of (KX b o e) (by
   cases q:H b with
   |none=>rfl
   |some u=>have e':b=a:=hA b (by rw[q];simp);subst e';rw[hK (by rw[q];simp)] at e;cases e)
  have hM:Mod K mg (eQ s₁.heap H):=⟨hKb,nsK hns,⟨mb,nsK hb,hbb⟩,let ⟨mc,h1,h2⟩:=hlim;⟨mc,nsK h1,h2⟩⟩;have e0:Env0 P w K mg (eQ s₁.heap H) callerA [] s₁ H:=⟨rfl,hM,λb o e=>v8 e,Nat.le_of_eq (pf _ _),trivial,λb hb=>absurd (show b∈([]:List Addr) from hb) (by simp),hok,.of_eq hg⟩;refine D_ ((F _ hKb (nsK hns)).run callerA [] s₁ H ⟨[.ref a],[]⟩ [.ref a] [.ref a] _ _ hr e0 (hbind s₁ (.ref a)) (.cons rfl .nil) (hsp H hO hS)) λr s' h=>?_;cases r with
  |error e=>exact (hCX H e s' h).elim
  |
   ok fl=>
   cases fl with
   |next=>exact False.elim h
   |brk=>exact False.elim h
   |cont=>exact False.elim h
   |
    ret u=>
    obtain⟨v,H',os,bare,un,hok',r',q⟩:=h;have q':v=.bl true:=q;subst q';obtain rfl:u=Value.bool true:=r';refine⟨rfl,OldK.of_keep λb o e=>?_,os,bare⟩;cases q:H b with
    |none=>exact un.keep b o e q (by intro z;exact absurd (show b∈([]:List Addr) from z) (by simp)) (by simp)
    |
     some u=>
     rcases hO b with z |⟨ob,xs,z⟩
     .rw[q] at z;cases z
     .have z2:=un.frzs b ob _ z;obtain⟨e1,_⟩:=hok b _ z;obtain⟨e2,_⟩:=hok' b _ z2;rw[e] at e1;cases e1;exact e2
 cases hk:K.lookup a with
 |some o=>have e:=KX a o hk;rw[ha] at e;cases e;refine core (λ_=>none) (λ_=>.inl rfl) (.inr ⟨_,vs.toArray,_,hk,rfl,rfl,rfl,by rw[w_,lenV];exact hl,by simpa using rv⟩) (λb u z=>by have z':(none:Option HO)=some u:=z;cases z') (λb z=>absurd rfl z) λz=>absurd rfl z
 |
  none=>
  refine core (λb=>if b=a then some (.frz { cls:=.type "list",data:=.seq vs.toArray } (.lst (ns.map V.int))) else none) (λb=>?_) (.inl (.inr ⟨{ cls:=.type "list",data:=.seq vs.toArray },if_pos rfl⟩)) (λb u z=>?_) (λb z=>?_) λ_=>hk
  .by_cases hb:b=a
   .exact .inr ⟨_,_,if_pos hb⟩
   .exact .inl (if_neg hb)
  .by_cases hb:b=a
   .have z':=(if_pos hb).symm.trans z;cases z';subst hb;exact⟨ha,by rw[u_];exact hl,vs,_,rv,ha⟩
   .have z':=(if_neg hb).symm.trans z;cases z'
  .by_cases hb:b=a
   .exact hb
   .exact absurd (if_neg hb) z
abbrev KOf{K:W.Frag}{h:Heap}(_:K.In h):W.Frag:=K
def walk_of{l:W.OpenLaw}{n k:Nat}{q:Program}{loose:List Str}{XP:(Str->Option Value)->Heap->Prop}{YP:World->Heap->Prop}{d:DefRec}{K:Params->W.Frag}{CX:World->CXT}{sp:World->Sp}{x:Str}
 (hn:l.most=some n) (hn2:n<=sizeLine) (hdf:d.params.defaults=[]) (hr:Room k callerA)
 (hY:∀(w:World) (h:Heap),YP w h->(K w.params).In h)
 (F:∀(w:World) (mg:Eh) (fa:Addr) (h:Heap),(K w.params).In h->h.Ns mainGlobals mg->mg d.name=some (.ref fa)->
  ∃
   fd:FuncData,(∀(s:Shared) (u:Value),BindsTo s fd ⟨[u],[]⟩ [(x,u)])/\
   ∀base:Heap,(K w.params).In base->base.Ns mainGlobals mg->FnOk l.prog w (K w.params) mg base (CX w) k fa fd [x] (sp w))
 (hsp:∀(w:World) (H:Hp) (a:Addr) (ns:List Int),ns.length<=n->iL H->SqL (K w.params) H a (ns.map V.int)->sp w [.ref a] H (λv _=>v=.bl true) λ_ _ _=>False)
 (hCX:∀(w:World) (H:Hp) (s:Shared) (e:Value) (s':Shared),CX w [] H s (λ_ _ _=>False) e s'->False):
 W.WalkO q loose XP YP l.row.toRowW d [] (λf vs=>PySem.call f vs):=by
 refine Att.attach_call hn hdf λw s₀ s₁ mg mb fa o pm cd doc a vs ns G Y ho hd hcd hmg hobj hints hlen hg=>?_;have KX:=hY w _ Y;obtain⟨fd,hb,hF⟩:=F w mg fa _ KX G.T.g hmg;exact rl KX G.T.g G.T.b G.T.builtins G.T.nolimit hg hobj hints (Cw hlen hn2) hr hF hb (λH hO hS=>hsp w H a ns hlen hO hS) λH e s'=>hCX w H s₁ e s'
noncomputable def bC (s:Stmt):Arguments:=match s with
 |.FunctionDef _ a _ _ _ _ _ _ _ _=>a
 |_=>{ posonlyargs:=[],args:=[],vararg:=none,kwonlyargs:=[],kw_defaults:=[],kwarg:=none,defaults:=[] }
noncomputable def aN (s:Stmt):List Stmt:=match s with
 |.FunctionDef _ _ b _ _ _ _ _ _ _=>b
 |_=>[]
noncomputable def aj (s:Stmt):Scope:=match s with
 |.FunctionDef _ _ _ _ _ _ sc _ _ _=>sc
 |_=>{ kind:=.function,names:=[],isGenerator:=false,isCoroutine:=false }
abbrev E0:XK:=λ_ _ _=>False
structure Fun(K:W.Frag)(x qual:Str)(st:Stmt)(f:Addr)(fd:FuncData):Prop where
 ex:∃(oc:Value) (od:Option Addr) (kV doc pm:Value) (an:Option Addr) (cdv ct:Value) (osl:Array (Option Value)),
  fd=W.fnOf x qual (bC st) (aN st) (aj st) .none kV doc pm an cdv ct/\K.lookup f=some ⟨oc,od,.func fd,osl⟩/\W.codeIn K cdv qual=true
 kp:W.keepIn K (.ref f)=true
section
variable{K:W.Frag}
def Fun.binds{x qual:Str}{st:Stmt}{f:Addr}{fd:FuncData}{ps:List Str}(F:Fun K x qual st f fd)
 (h:∀(kV doc pm:Value) (an:Option Addr) (cdv ct:Value) (us:List Value),us.length=ps.length->bindArgs (W.fnOf x qual (bC st) (aN st) (aj st) .none kV doc pm an cdv ct) ⟨us,[]⟩=pure (ps.zip us)):Binds K fd ps []:=by
 obtain⟨oc,od,kV,doc,pm,an,cdv,ct,osl,rfl,lk,hcd⟩:=F.ex;exact .all (h kV doc pm an cdv ct)
def zL{x qual:Str}{st:Stmt}{f:Addr}{oc:Value}{od an:Option Addr}{osl:Array (Option Value)}{kV doc pm cdv ct:Value}(l:K.lookup f=some ⟨oc,od,.func (W.fnOf x qual (bC st) (aN st) (aj st) .none kV doc pm an cdv ct),osl⟩)
 (c:W.codeIn K cdv qual=true) (k:W.keepIn K (.ref f)=true):Fun K x qual st f (W.fnOf x qual (bC st) (aN st) (aj st) .none kV doc pm an cdv ct):=⟨⟨oc,od,kV,doc,pm,an,cdv,ct,osl,rfl,l,c⟩,k⟩
end
def Ca(hr:Room k A):A.units+1<cLine:=DD (Nat.add_le_add_left (by decide:1<=64) _) hr.units
section
variable{X:Cx}{pins:Ei}{σ:St}{H:Hp}{s:Shared}
def Inv.track{a:Addr}{o:HO}(I:Inv X pins σ H s)(hn:H a=none)(h0:X.s₀.heap.get? a=none)(hL:a≠X.env.locals)(hc:∀x c,X.env.cells.lookup x=some c->c≠a)
 (hp:∀p∈X.pn++pins,p.1≠a) (new:ObjOk X.prog X.w (upd H a o) s.heap a o):Inv X pins σ (upd H a o) s:=by
 have ne:∀b u,H b=some u->b≠a:=λb u e z=>by rw[z,hn] at e;cases e
 have ne0:∀b u,X.s₀.heap.get? b=some u->b≠a:=λb u e z=>by rw[z,h0] at e;cases e
 refine⟨I.ok,I.os,I.bare,⟨I.base.keep,I.base.slot,λb u e n hx=>?_,I.base.there,λb xs e=>?_,λb u xs e=>?_,λb ps e=>?_⟩,I.loc,I.cell,?_,λx c e=>?_,λp hp'=>?_,λb u e=>?_,I.len⟩
 .rw[ax (ne0 b u e)];exact I.base.free b u e n hx
 .have q:=I.base.tups b xs e;rw[ax (ne _ _ q)];exact q
 .have q:=I.base.frzs b u xs e;rw[ax (ne _ _ q)];exact q
 .obtain⟨m,q⟩:=I.base.tbls b ps e;exact⟨m,by rw[ax (ne _ _ q)];exact q⟩
 .rw[ax (Ne.symm hL)];exact I.free
 .rw[ax (hc x c e)];exact I.freeC x c e
 .obtain⟨e,n,r⟩:=I.pin p hp';exact⟨e,by rw[ax (hp p hp')];exact n,r⟩
 .by_cases hb:b=a
  .subst hb;rw[aM] at e;cases e;exact new
  .rw[ax hb] at e;exact (I.hok b u e).stay (λc v _ q=>q) (λc q=>by rw[ax (ne _ _ q)];exact q) λc xs q=>by rw[ax (ne _ _ q)];exact q
end
theorem ff{env:Env}:∀{names:List (Str×NameKind)} (cs:List (Str×Addr)),(∀x∈names,x.2=.free->∃c,env.cells.lookup x.1=some c)->(∀x c,cs.lookup x=some c->env.cells.lookup x=some c)->
 ∃
  cl,(forIn names cs λ(x:Str×NameKind) (r:List (Str×Addr))=>if (x.2==NameKind.free)=true then do let a <- cellOf env x.1;pure (ForInStep.yield ((x.1,a)::r)) else pure (ForInStep.yield r):Sem (List (Str×Addr)))=pure cl/\
  (∀x c,cl.lookup x=some c->env.cells.lookup x=some c)/\(∀x c,cs.lookup x=some c->∃c',cl.lookup x=some c')/\∀x∈names,x.2=.free->∃c,cl.lookup x.1=some c
 | [],cs,_,h=>⟨cs,by simp,h,λx c e=>⟨c,e⟩,λ_ hx=>nomatch hx⟩
 |
  (n,k)::r,cs,hf,h=>by
  rw[List.forIn_cons];by_cases hk:k=.free
  .subst hk;obtain⟨c,hc⟩:=hf (n,.free) r_ rfl;have hcell:cellOf env n=pure c:=by unfold cellOf;rw[hc]
   have h':∀x d,((n,c)::cs).lookup x=some d->env.cells.lookup x=some d:=λx d e=>by
    rw[CJ] at e;cases q:x==n with
    |true=>rw[q] at e;cases e;rw[CG.mp q];exact hc
    |false=>rw[q] at e;exact h x d e
   obtain⟨cl,e1,e2,e3,e4⟩:=ff (env:=env) (names:=r) ((n,c)::cs) (λx hx=>hf x (q_ _ hx)) h';have top:∃c',cl.lookup n=some c':=e3 n c (by rw[CJ];simp);refine⟨cl,?_,e2,λx d e=>?_,λx hx hfr=>?_⟩
   .simp only[beq_self_eq_true,Ds,hcell];exact e1
   .by_cases q:x=n
    .rw[q];exact top
    .exact e3 x d (by rw[CJ,(Cq.mpr q:(x==n)=false)];exact e)
   .rcases Cu.mp hx with rfl |hx
    .exact top
    .exact e4 x hx hfr
  .have hb:(k==NameKind.free)=false:=by simpa using hk
   obtain⟨cl,e1,e2,e3,e4⟩:=ff (env:=env) (names:=r) cs (λx hx=>hf x (q_ _ hx)) h;refine⟨cl,?_,e2,e3,λx hx hfr=>?_⟩
   .simp only[hb,CQ,Dn];exact e1
   .rcases Cu.mp hx with rfl |hx
    .exact absurd hfr hk
    .exact e4 x hx hfr
def fk{env:Env}{scope:Scope}(hf:∀x∈scope.names,x.2=.free->∃c,env.cells.lookup x.1=some c):
 ∃cl,closureFor scope env=pure cl/\(∀x c,cl.lookup x=some c->env.cells.lookup x=some c)/\∀x∈scope.names,x.2=.free->∃c,cl.lookup x.1=some c:=by
 obtain⟨cl,e1,e2,_,e4⟩:=ff (env:=env) (names:=scope.names) [] hf (λx c e=>by simp at e);refine⟨cl,?_,e2,e4⟩;unfold closureFor;simp only[e1];rfl
noncomputable def aC (X:Cx) (N:List Str) (scope:Scope) (cl:List (Str×Addr)) (C:Addr) (s₂:Shared) (H:Hp) (fp:List Addr):Cx:=
 { X with N:=N,s₀:=s₂,H₀:=H,env:=compEnvC scope cl C X.env,outer:=X.stack,stack:=X.stack,ex:=fp,fn:=λ_=>false,pn:=[],xe:=λ_ _=>False }
noncomputable def br (sub:Ek) (σ:St):St:=sub.map λo=>o.bind λi=>(σ[i]?).bind id
def LcW(J:It)(sub:Ek)(g:TG)(tc:TT)(te:TE)(σ:St)(H1:Hp)(Q:VK):Prop:=∃W:Nat->Nat->List V->St->Hp->Prop,(∃m,W 0 m [] (br sub σ) H1)/\∀i m ys σ H,W i m ys σ H->
 (J.stop i H/\ys.length<=sizeLine/\∀D,H D=none->Q (.ref D) (upd H D (.lst ys)))\/
 (J.go i H/\ys.length<sizeLine/\∃Nx:List V->St->Hp->Prop,(∀ys' σ' H',Nx ys' σ' H'->∃m',m'<m/\W (i+1) m' ys' σ' H')/\
  ∀x H',J.yld i H x H'->g x σ H' λσ2 H2=>tc σ2 H2 λb H3=>if b=true then te σ2 H3 λy H4=>Nx (ys++[y]) σ2 H4 else Nx ys σ2 H3)
def eX(wi:TI)(sub:Ek)(g:TG)(tc:TT)(te:TE):TE:=λσ H Q=>wi σ H λJ H1=>LcW J sub g tc te σ H1 Q
section
variable{prog:Program}{w:World}{A:Around}{R:Result->Shared->Prop}{s:Shared}
def lq{h_ f_ iter:Expr}{j_:List Expr}{scope:Scope}{pos:Pos}{it acc:Value}{env:Env}(I:Nat->Shared->Prop)
 (turn
  : ∀n s,I n s->wpAny (model prog w) A (pyNext it) (λr s₁=>match r with
  |none=>R (.ok .next) s₁
  |some v=>wpAny (model prog w) A (letOwnedTupleGo f_ it v) (λ_ s₁'=>wpAny (model prog w) A (assign f_ env v) (λ_ s₂=>
   wpAny (model prog w) A (forIn j_ true λc r=>if r=true then do let ok <- isTrue c env (eval c env);pure (ForInStep.yield ok) else pure (ForInStep.yield r))
    (λok s₃=>if ok=true then wpAny (model prog w) A (eval h_ env) (λx s₄=>wpAny (model prog w) A (call (.builtin "list.append") [acc,x]) (λ_ s₅=>∃m,m<n/\I m s₅) (λ_ _=>False) s₄) (λ_ _=>False) s₃
     else ∃m,m<n/\I m s₃) (λ_ _=>False) s₂) (λ_ _=>False) s₁') (λ_ _=>False) s₁) (λ_ _=>False) s)
 (n:Nat) (h:I n s):
 codeAny (model prog w) A (.compLoop (.ListComp h_ [⟨f_,iter,j_,0⟩] scope pos) 0 it acc env) R s:=by
 refine codeAny_loop rfl I (λn s hI=>?_) n h;show wpAny _ _ ((compTurn (.ListComp h_ [⟨f_,iter,j_,0⟩] scope pos) 0 it acc env).onRaise (λx=>do noteFrame x env;theTreesLotGoes x)) _ _ s;refine wpAny_noted ?_;rw[compTurn_list];refine z_ (E:=λ_ _=>False) ?_ (λ_ _ q=>q) λ_ _ q=>q.elim;refine k_ (Dc (k_ (z_ (turn n s hI) (λr s₁ h₁=>?_) λ_ _ h'=>h')));cases r with
 |none=>exact s_ h₁
 |
  some v=>
  refine k_ (z_ h₁ (λ_ s₁' h₁'=>?_) λ_ _ h'=>h');refine k_ (z_ h₁' (λ_ s₂ h₂=>?_) λ_ _ h'=>h');refine k_ (z_ h₂ (λok s₃ h₃=>?_) λ_ _ h'=>h');cases ok with
  |true=>simp only[Ds] at h₃ ⊢;refine k_ (k_ (z_ h₃ (λx s₄ h₄=>?_) λ_ _ h'=>h'));refine k_ (z_ h₄ (λ_ s₅ h₅=>?_) λ_ _ h'=>h');exact s_ (s_ ⟨rfl,h₅⟩)
  |
   false=>
   simp only[CQ,Dn] at h₃ ⊢;first
    |exact k_ (s_ (s_ ⟨rfl,h₃⟩))
    |exact s_ ⟨rfl,h₃⟩
end
section
variable{X:Cx}
def PTs(X:Cx)(j_:List Expr)(t:TT):Prop:=
 ∀
  (pins:Ei) (s:Shared) (σ:St) (H:Hp) (Q:Bool->Hp->Prop),Inv X pins σ H s->t σ H Q->
  wpAny (model X.prog X.w) X.A (forIn j_ true λc r=>if r=true then do let ok <- isTrue c X.env (eval c X.env);pure (ForInStep.yield ok) else pure (ForInStep.yield r)) (TP X pins σ Q) X.xe s
def wF:PTs X [] (λ_ H Q=>Q true H):=λpins s σ H Q I h=>by rw[List.forIn_nil];exact s_ ⟨H,I,h⟩
structure LcEnd(X:Cx)(pins:Ei)(σ:St)(Q:VK)(D C:Addr)(s4:Shared):Prop where
 ns:∃m,s4.heap.Ns C m
 dc:D<C
 fr:X.env.locals<D
 cell:∀x c,X.env.cells.lookup x=some c->c<D
 pin:∀p∈X.pn++pins,p.1<D
 sz:X.s₀.heap.objs.size<=D
 inv:∃H',H' C=none/\Q (.ref D) H'/\∀h',Heap.SameBut C s4.heap h'->Inv X pins σ H' { s4 with heap:=h' }
def mS{h_ iter tg:Expr}{j_:List Expr}{scope:Scope}{pos:Pos}{wi:TI}{g:TG}{tc:TT}{te:TE}{N:List Str}{sub:Ek}{use:Option (Value->Sem Unit)}{R:Ej}{pins:Ei}{s:Shared}{σ:St}{H:Hp}{Q:VK}{fpos:Pos}
 (hc:X.calm=true) (hi:PI X tg iter wi)
 (hk:scope.kind=.function) (hnc:∀x∈scope.names,x.2 ≠ .cell) (b_:∀x∈scope.names,x.2=.local->scope.names.lookup x.1=some .local)
 (hfr:∀x∈scope.names,x.2=.free->X.env.kindOf x.1=some .cell\/X.env.kindOf x.1=some .free)
 (hsl:sub.length=N.length) (i_:∀(j i:Nat) (x:Str),sub[j]?=some (some i)->N[j]?=some x->X.N[i]?=some x/\scope.names.lookup x=some .free)
 (hg:∀cl C s₂ H fp,PG (aC X N scope cl C s₂ H fp) tg g) (ht:∀cl C s₂ H fp,PTs (aC X N scope cl C s₂ H fp) j_ tc) (he:∀cl C s₂ H fp,PE (aC X N scope cl C s₂ H fp) h_ te)
 (hs:∀x,foldedSetIterable iter X.env x=pure x) (I:Inv X pins σ H s) (h:eX wi sub g tc te σ H Q)
 (c_:∀D C s4,LcEnd X pins σ Q D C s4->compPost (model X.prog X.w) X.A X.xe use R (.ref D) C (.ok .next) s4):
 wpAny (model X.prog X.w) X.A (comprehension (.ListComp h_ [⟨tg,iter,j_,0⟩] scope pos) scope X.env fpos (newList []) false (eval iter X.env) use) R X.xe s:=by
 obtain⟨cl,hclos,hcl,hclf⟩:=fk (env:=X.env) (scope:=scope) λx hx hf=>I.ok.has x.1 (hfr x hx hf);refine wpAny_comprehension_free rfl hs hclos hk b_ ?_;show wpAny _ _ (eval iter X.env) _ _ _;refine thn (hi pins s σ H _ I h) λv s1 h1=>thn h1 λitv s2 h2=>?_;obtain⟨it,fp,tn,J,H2,e,I2,T,st2,f2,W,⟨m0,w0⟩,turn⟩:=h2;subst e;refine CW (wpAny_newFunctionEnv hnc (by intro y hy;simp at hy) (λh₁ hns₁ hsb₁=>?_) hk);dsimp only at hns₁ hsb₁ ⊢;generalize hH2:s2.heap.push { cls:=.type "list",dict:=none,data:=.seq ([]:List Value).toArray }=G2 at hns₁ hsb₁ ⊢;have hC:G2.objs.size=s2.heap.objs.size+1:=by rw[<- hH2,Heap.size_push]
 have hDC:s2.heap.objs.size≠G2.objs.size:=by omega
 have below:∀b,b<s2.heap.objs.size->b≠G2.objs.size/\b≠s2.heap.objs.size:=λb hb=>⟨by omega,by omega⟩;have old:∀b o,s2.heap.get? b=some o->h₁.get? b=some o:=λb o e=>hsb₁.extBut b o (below b (n_ e)).1 (m_ _ (hH2 ▸ m_ _ e));have hD₁:h₁.get? s2.heap.objs.size=some { cls:=.type "list",dict:=none,data:=.seq ([]:List Value).toArray }:=hsb₁.extBut _ _ hDC (m_ _ (hH2 ▸ CB _ rfl));have fresh:∀a,s2.heap.objs.size<=a->s2.heap.get? a=none:=λa ha=>C8 ha;have cellOld:∀x c,cl.lookup x=some c->c<s2.heap.objs.size:=λx c e=>by obtain⟨v,z⟩:=I2.cell x c (hcl x c e);exact z.lt
 have fpOld:∀b∈fp,b<s2.heap.objs.size:=λb hb=>by obtain⟨o,e,_⟩:=T.obj _ _ st2 b hb;exact n_ e
 let Y:Cx:=aC X N scope cl G2.objs.size s2 H2 fp
 have okY:Y.Ok
  := by
  refine⟨I2.ok.mod,?_,I2.ok.glob,I2.ok.blt,?_,λx y c e1 e2=>I2.ok.inj x y c (hcl x c e1) (hcl y c e2),λx hx=>?_,λx c hfn _=>absurd hfn o_,I2.ok.hd,I2.ok.frames,.inl rfl,
   λb hb=>⟨?_,λx c e z=>?_⟩,I2.bs,Cw I2.ok.bsz I2.sz,λb o e hb=>?_,λb hb hf=>?_,I2.stack,I2.stkFree⟩
  .show (relabel scope X.env).kind=.function;exact hk
  .show s2.heap.objs.size<=G2.objs.size;omega
  .have hx':(
    relabel scope X.env).names.lookup x=some .cell\/(relabel scope X.env).names.lookup x=some .free:=hx
   have:∃k,
    (x,k)∈scope.names/\k=.free:=by
    have gen:∀(names:List (Str×NameKind)),(∀y∈names,y.2 ≠ .cell)->∀kk,(kk=NameKind.cell\/kk=NameKind.free)->(names.map λ(n,k)=>if (k==NameKind.free&&X.env.scope.kind == .function&&X.env.kindOf n==some .cell) then (n,NameKind.cell) else (n,k)).lookup x=some kk->∃k,(x,k)∈names/\k=.free:=by
     intro names;induction names with
     |nil=>intro _ kk _ e;simp at e
     |
      cons y r ih=>
      intro hn kk hkk e;obtain⟨n,k⟩:=y;rw[Cr,CJ] at e;by_cases hkf:k=.free
      .subst hkf;by_cases hxn:x=n
       .exact⟨.free,by rw[hxn];exact r_,rfl⟩
       .have hb:(x==(if (NameKind.free==NameKind.free&&X.env.scope.kind == .function&&X.env.kindOf n==some .cell)=true then (n,NameKind.cell) else (n,NameKind.free)).1)=false:=by split <;> exact Cq.mpr hxn
        rw[hb] at e;obtain⟨k',m,q⟩:=ih (λz hz=>hn z (q_ _ hz)) kk hkk e;exact⟨k',q_ _ m,q⟩
      .have hb0:(k==NameKind.free&&X.env.scope.kind == .function&&X.env.kindOf n==some .cell)=false:=by
        have:(k==NameKind.free)=false:=by simpa using hkf
        rw[this];rfl
       rw[hb0] at e;simp only[CQ,Dn] at e;cases q:x==n with
       |
        true=>
        rw[q] at e;have e':k=kk:=x_ e;subst e';rcases hkk with z |z
        .exact absurd z (hn (n,k) r_)
        .exact absurd z hkf
       |false=>rw[q] at e;obtain⟨k',m,q⟩:=ih (λz hz=>hn z (q_ _ hz)) kk hkk e;exact⟨k',q_ _ m,q⟩
    rcases hx' with z |z
    .exact gen scope.names hnc _ (.inl rfl) z
    .exact gen scope.names hnc _ (.inr rfl) z
   obtain⟨k,m,q⟩:=this;exact hclf (x,k) m q
  .show b≠G2.objs.size;exact (below b (fpOld b hb)).1
  .exact (f2 b hb).2.2.2.2.1 x c (hcl x c e) z
  .rcases (f2 b hb).2.2.2.1 with z |z
   .exact I2.ok.noex b o e z
   .exact absurd (t_ (n_ e) (Cw I2.ok.bsz z)) (CA _)
  .have hf':b∈frs X.stack:=hf;rcases Cu.mp (I2.stkSub b hf') with z |z
   .exact (f2 b hb).2.1 z
   .exact (f2 b hb).2.2.1 z
 have startLoc
  : ∃m,h₁.Ns G2.objs.size m/\∀(i:Nat) (x:Str) (v:V),N[i]?=some x->(br sub σ)[i]?=some (some v)->Vis (relabel scope X.env) x->∃u,RelV v u/\n0 Y.env h₁ m x u:=by
  refine⟨_,hns₁,λj x v e1 e2 e3=>?_⟩;unfold br at e2;rw[Cs] at e2;cases q:sub[j]? with
  |none=>rw[q] at e2;cases e2
  |
   some o=>
   rw[q] at e2;cases o with
   |none=>cases e2
   |
    some i=>
    obtain⟨hNi,hfree⟩:=i_ j i x q e1;have e2':(σ[i]?).bind id=some v:=x_ e2;have e2'':σ[i]?=some (some v):=by
     cases z:σ[i]? with
     |none=>rw[z] at e2';cases e2'
     |some y=>rw[z] at e2';rw[show y=some v from e2']
    obtain⟨m2,hn2,hl2⟩:=I2.loc;have hkx:=hfr (x,.free) (CH hfree) rfl;obtain⟨u,r,l⟩:=hl2 i x v hNi e2'' (by rcases hkx with z |z;exact .inr (.inl z);exact .inr (.inr z));refine⟨u,r,.inr ⟨?_,?_⟩⟩
    .rcases e3
      with z |z |z
     .exfalso;have gen:∀(names:List (Str×NameKind)),names.lookup x=some .free->(names.map λ(n,k)=>if (k==NameKind.free&&X.env.scope.kind == .function&&X.env.kindOf n==some .cell) then (n,NameKind.cell) else (n,k)).lookup x=some .local->False:=by
       intro names;induction names with
       |nil=>intro e _;simp at e
       |
        cons y r ih=>
        intro e1 e2;obtain⟨n,k⟩:=y;rw[CJ] at e1;rw[Cr,CJ] at e2;by_cases hxn:x=n
        .have hb1:(x==n)=true:=CG.mpr hxn;rw[hb1] at e1;have:k=.free:=x_ e1;subst this;split at e2
         .rename_i hq;split at e2 <;> cases e2
         .rename_i hq;split at hq <;> (rw[hb1] at hq;cases hq)
        .have hb1:(x==n)=false:=Cq.mpr hxn;rw[hb1] at e1;refine ih e1 ?_;split at e2
         .rename_i hq;split at hq <;> (rw[hb1] at hq;cases hq)
         .exact e2
      exact gen scope.names hfree z
     .exact .inl z
     .exact .inr z
    .obtain⟨c,hc'⟩:=hclf (x,.free) (CH hfree) rfl;refine⟨c,hc',?_⟩;rcases l with ⟨k,_⟩ |⟨_,c2,ec2,z⟩
     .rcases hkx with z |z <;> (rw[k] at z;cases z)
     .have:=hcl x c hc'
      rw[ec2] at this;cases this;obtain⟨oc,hoc,hd⟩:=z;exact⟨oc,old _ _ hoc,hd⟩
 have pinD:∀{σ':St}{H':Hp}{s':Shared}{pl:Ei}{o:Obj},Inv Y pl σ' H' s'->s'.heap.get? s2.heap.objs.size=some o->(∀v,o.data ≠ .cell v)->H' s2.heap.objs.size=none->Inv Y [(s2.heap.objs.size,o)] σ' H' s':=λ{σ' H' s' pl o} IY e d n=>
  IY.pins_of λp hp=>by
   have e':p=(s2.heap.objs.size,o):=by simpa using hp
   subst e';refine⟨e,n,?_,?_,d⟩
   .show s2.heap.objs.size≠G2.objs.size;omega
   .intro hf;have hf':s2.heap.objs.size∈frs X.stack:=hf;obtain⟨_,o',ho',_⟩:=I2.stack.mem hf';exact absurd (n_ ho') (CA _)
 have fpY:∀{H':Hp}{pl:Ei},(∀b∈fp,H' b=none)->(∀p∈pl,p.1∉fp)->∀b∈fp,ft Y pl H' b:=λ{H' pl} hn hp b hb=>by
  refine⟨hn b hb,?_,?_,.inl hb,λx c e=>?_,λp hp'=>?_⟩
  .exact (okY.exf b hb).1
  .exact okY.exfs b hb
  .exact (okY.exf b hb).2 x c e
  .intro z;have hp'':p∈pl:=by simpa [Y,aC] using hp'
   exact hp p hp'' (by rw[z];exact hb)
 have hDfp:s2.heap.objs.size∉fp:=λz=>CA _ (fpOld _ z);have loop
  : ∀s₃:Shared,s₃={ s2 with heap:=h₁,toks:=s2.toks+([]:List (Str×Value)).length }->
  codeAny (model X.prog X.w) X.A (.compLoop (.ListComp h_ [⟨tg,iter,j_,0⟩] scope pos) 0 (.ref it) (.ref s2.heap.objs.size) (compEnvC scope cl G2.objs.size X.env))
   (compPost (model X.prog X.w) X.A X.xe use R (.ref s2.heap.objs.size) G2.objs.size) s₃:=by
  rintro s₃ rfl;have IY0:Inv Y [(s2.heap.objs.size,{ cls:=.type "list",dict:=none,data:=.seq ([]:List Value).toArray })] (br sub σ) H2 { s2 with heap:=h₁,toks:=s2.toks+([]:List (Str×Value)).length }:=by
   have J0:Inv Y [] (br sub σ) H2 { s2 with heap:=h₁,toks:=s2.toks+([]:List (Str×Value)).length }:=by
    refine⟨okY,rfl,I2.bare,Un.kept old,startLoc,λx c e=>?_,I2.hok.fresh (by show s2.heap.objs.size<=G2.objs.size;omega),λx c e=>I2.freeC x c (hcl x c e),λp hp=>absurd (show p∈([]:Ei) from hp) (by simp),I2.hok.kept old,?_⟩
    .obtain⟨v,oc,hoc,hd⟩:=I2.cell x c (hcl x c e);exact⟨v,oc,old _ _ hoc,hd⟩
    .show (br sub σ).length=N.length;unfold br;rw[u_];exact hsl
   exact pinD J0 hD₁ (λv z=>by cases z) I2.fresh
  refine lq (λn s'=>∃(i:Nat) (ys:List V) (its:List Value) (k:Nat) (σ':St) (H':Hp),Inv Y [(s2.heap.objs.size,{ cls:=.type "list",dict:=none,data:=.seq its.toArray k })] σ' H' s'/\Vals ys its/\tn i s'.heap/\(∀b∈fp,H' b=none)/\W i n ys σ' H') ?_ m0
   ⟨0,[],[],0,br sub σ,H2,IY0,.nil,T.keep _ _ _ st2 (λb hb o e=>old b o e),λb hb=>(f2 b hb).1,w0⟩
  rintro n s3 ⟨i,ys,its,k,σ3,H3,I3,rv,st3,fr3,w3⟩;have npl:∀(o:Obj),∀p∈[(s2.heap.objs.size,o)],p.1∉fp:=λo p hp=>by
   have e':p=(s2.heap.objs.size,o):=by simpa using hp
   subst e';exact hDfp
  rcases turn i n ys σ3 H3 w3 with ⟨stop,hz,qn⟩ |⟨go,hz,Nx,hNx,step⟩
  .refine z_ (T.done Y rfl rfl rfl hc i _ s3 σ3 H3 (λ_ _=>False) I3 (fpY fr3 (npl _)) st3 stop) (λr s4 ⟨hr,I4⟩=>?_) λ_ _ z=>z;subst hr;obtain⟨m4,hn4,_⟩:=I4.loc;have hCfree:H3 G2.objs.size=none:=I4.free;have hD4:=I4.pin (s2.heap.objs.size,{ cls:=.type "list",dict:=none,data:=.seq its.toArray k }) (y_ _ r_);have un4:Un (frs X.stack) fp H2 H3 s2.heap s4.heap:=I4.base;have ne2:∀b o,s2.heap.get? b=some o->b≠G2.objs.size:=λb o e=>(below b (n_ e)).1;have hDfree:H3 s2.heap.objs.size=none:=hD4.2.1;have sz0:X.s₀.heap.objs.size<=s2.heap.objs.size:=I2.sz;refine c_ s2.heap.objs.size G2.objs.size s4 ⟨⟨m4,hn4⟩,by rw[hC];exact Nat.lt_succ_self _,I2.lt,λx c e=>?_,λp hp=>n_ (I2.pin p hp).1,sz0,upd H3 s2.heap.objs.size (.lst ys),by rw[ax (Ne.symm hDC)];exact hCfree,qn _ hDfree,λh' hs'=>?_⟩
   .obtain⟨v,q⟩:=I2.cell x c e;exact q.lt
   have up:∀b o,b≠G2.objs.size->s4.heap.get? b=some o->h'.get? b=some o:=λb o hb e=>hs'.extBut b o hb e;have un5:Un (frs X.stack) fp H2 H3 s2.heap h':=by
    refine⟨λb o e n hb hx=>up b o (ne2 b o e) (un4.keep b o e n hb hx),λb o e n hb hx=>?_,un4.free,λb o e hx=>?_,un4.tups,un4.frzs,un4.tbls⟩
    .obtain⟨sl,q⟩:=un4.slot b o e n hb hx;exact⟨sl,up b _ (ne2 b o e) q⟩
    .obtain⟨o',q⟩:=un4.there b o e hx;exact⟨o',up b _ (ne2 b o e) q⟩
   have hok5:HOk X.prog X.w H3 h':=λb u e=>(I4.hok b u e).stay (λc v hcc q=>up c v (λz=>by
    rcases hcc with zz |zz
    .rw[zz] at z;rw[z,hCfree] at e;cases e
    .rw[z,hCfree] at zz;cases zz) q) (λ_ q=>q) λ_ _ q=>q
   have I5:Inv X pins σ H3 { s4 with heap:=h' }:=I2.call' (s':={ s4 with heap:=h' }) (ch:=fp) I4.os un5 hok5 I4.bare λb hb=>by obtain⟨_,g1,_,g3,g4,g5⟩:=f2 b hb;exact⟨g3,g1,g4,g5⟩
   refine I5.track (o:=.lst ys) hDfree (C8 sz0) (D9 I2.lt) (λx c e z=>?_) (λp hp z=>?_) ?_
   .obtain⟨v,q⟩:=I2.cell x c e;exact absurd q.lt (by rw[z];exact CA _)
   .exact absurd (n_ (I2.pin p hp).1) (by rw[z];exact CA _)
   .exact⟨hz,its,k,rv,up _ _ hDC hD4.1⟩
  .refine z_ (T.item Y rfl rfl rfl hc i _ s3 σ3 H3 (λ_ _=>False) I3 (fpY fr3 (npl _)) st3 go) (λr s4 ⟨u,hr,h4⟩=>?_) λ_ _ z=>z;subst hr;refine z_ h4 (λ_ s5 ⟨x,H5,I5,r5,y5,st5,fr5⟩=>?_) λ_ _ z=>z;have I5':=I5.pinned (fpY fr5 (npl _)) (T.obj _ _ st5);refine z_ (hg cl G2.objs.size s2 H2 fp _ s5 σ3 H5 x u _ I5' r5 (step x H5 y5)) (λ_ s6 ⟨σ6,H6,I6,q6⟩=>?_) λ_ _ z=>z;refine z_ (ht cl G2.objs.size s2 H2 fp _ s6 σ6 H6 _ I6 q6) (λok s7 ⟨H7,I7,q7⟩=>?_) λ_ _ z=>z;have back:∀{σ':St}{H':Hp}{s':Shared},Inv Y ([(s2.heap.objs.size,{ cls:=.type "list",dict:=none,data:=.seq its.toArray k })]++d9 fp s5.heap) σ' H' s'->tn (i+1) s'.heap/\∀b∈fp,H' b=none:=λ{σ' H' s'} IB=>by refine⟨T.keep _ _ _ st5 λb hb o e=>(IB.pin (b,o) (y_ _ (y_ _ (bZ hb e)))).1,λb hb=>?_⟩;obtain⟨o,e,d⟩:=T.obj _ _ st5 b hb;exact (IB.pin (b,o) (y_ _ (y_ _ (bZ hb e)))).2.1
   cases ok with
   |false=>rw[if_neg o_] at q7;obtain⟨m',hm,w7⟩:=hNx _ _ _ q7;rw[if_neg o_];obtain⟨t7,f7⟩:=back I7;exact⟨m',hm,i+1,ys,its,k,σ6,H7,I7.unpinned,rv,t7,f7,w7⟩
   |
    true=>
    rw[if_pos rfl] at q7;rw[if_pos rfl];refine z_ (he cl G2.objs.size s2 H2 fp _ s7 σ6 H7 _ I7 q7) (λy s8 zz=>exA zz λyv H8 I8 r8 q8=>?_) λ_ _ z=>z;obtain⟨m',hm,w8⟩:=hNx _ _ _ q8;obtain⟨t8,f8⟩:=back I8;have I9:=I8.unpinned;have hD9:=I9.pin (s2.heap.objs.size,{ cls:=.type "list",dict:=none,data:=.seq its.toArray k }) (y_ _ r_);have e9:s8.heap.get? s2.heap.objs.size=some { cls:=.type "list",dict:=none,data:=.seq its.toArray k }:=hD9.1;have hlen:=rv.length;refine Dg F.slot_list_append ⟨_,e9,rfl⟩ Eb (D2 _ _) (PySem.list_append _ its.toArray k y (by rw[w_];omega)) ⟨e9,?_⟩;have q9:=PySem.IsL.update e9 (λxs=>xs.push y);have ea:its.toArray.push y=(its++[y]).toArray:=by simp
    rw[ea] at q9;have k9:∀b o,b≠s2.heap.objs.size->s8.heap.get? b=some o->(s8.heap.update s2.heap.objs.size (Obj.mapSeq λxs=>xs.push y)).get? b=some o:=λb o hb e=>(C0 _ _ (Ne.symm hb)).trans e;have I10:Inv Y [] σ6 H8 { s8 with heap:=s8.heap.update s2.heap.objs.size (Obj.mapSeq λxs=>xs.push y) }:=
     (I9.pins_of (pins':=[]) (λp hp=>nomatch hp)).turned (t':=s8.toks) k9 hD9.2.1 hD9.2.2.1 (.inr (v_ _)) (λx c e z=>absurd (cellOld x c e) (by rw[z];exact CA _))
      (λp hp=>absurd (show p∈([]:Ei) from hp) (by simp))
    refine⟨m',hm,i+1,ys++[yv],its++[y],_,σ6,H8,pinD I10 q9 (λv z=>by cases z) hD9.2.1,rv.append (.cons r8 .nil),?_,f8,w8⟩;exact T.keep _ _ _ t8 λb hb o e=>k9 b o (λz=>hDfp (by rw[<- z];exact hb)) e
 exact codeAny_compStart_list (loop _ rfl) (T.self _ 0 _ _ _ (T.keep _ _ _ st2 λb hb o e=>old b o e) (loop _ rfl))
def yN{h_ iter tg:Expr}{j_:List Expr}{scope:Scope}{pos:Pos}{wi:TI}{g:TG}{tc:TT}{te:TE}{N:List Str}{sub:Ek}
 (hc:X.calm=true) (hi:PI X tg iter wi)
 (hk:scope.kind=.function) (hnc:∀x∈scope.names,x.2 ≠ .cell) (b_:∀x∈scope.names,x.2=.local->scope.names.lookup x.1=some .local)
 (hfr:∀x∈scope.names,x.2=.free->X.env.kindOf x.1=some .cell\/X.env.kindOf x.1=some .free)
 (hsl:sub.length=N.length) (i_:∀(j i:Nat) (x:Str),sub[j]?=some (some i)->N[j]?=some x->X.N[i]?=some x/\scope.names.lookup x=some .free)
 (hg:∀cl C s₂ H fp,PG (aC X N scope cl C s₂ H fp) tg g) (ht:∀cl C s₂ H fp,PTs (aC X N scope cl C s₂ H fp) j_ tc) (he:∀cl C s₂ H fp,PE (aC X N scope cl C s₂ H fp) h_ te)
 (hs:∀x,foldedSetIterable iter X.env x=pure x):
 PE X (.ListComp h_ [⟨tg,iter,j_,0⟩] scope pos) (eX wi sub g tc te):=by
 intro pins s σ H Q I h;rw[eval_ListComp];refine mS hc hi hk hnc b_ hfr hsl i_ hg ht he hs I h λD C s4 e=>?_;obtain⟨m,hm⟩:=e.ns;obtain⟨H',_,q,i⟩:=e.inv;exact⟨m,hm,λh' hs'=>⟨.ref D,H',i h' hs',rfl,q⟩⟩
noncomputable def gW (M:List Str) (names:List (Str×NameKind)) (sub:Ek) (N:List Str):Bool:=(sub.zip N).all λp=>match p.1 with
 |none=>true
 |some i=>M[i]?==some p.2&&names.lookup p.2==some .free
def gu{M:List Str}{names:List (Str×NameKind)}{sub:Ek}{N:List Str}(h:gW M names sub N=true)(j i:Nat)(x:Str)(h1:sub[j]?=some (some i))(h2:N[j]?=some x):
 M[i]?=some x/\names.lookup x=some .free:=by
 unfold gW at h;rw[Cv] at h;have hm:(some i,x)∈sub.zip N:=by refine CT (i:=j) ?_;rw[List.getElem?_zip_eq_some];exact⟨h1,h2⟩
 have q:=h _ hm;simp only[p_,CG] at q;exact q
noncomputable def mm (kn names:List (Str×NameKind)):Bool:=names.all λx=>x.2 != .free || kn.lookup x.1==some .cell || kn.lookup x.1==some .free
def iD{kn names:List (Str×NameKind)}(h:mm kn names=true):∀x∈names,x.2=.free->kn.lookup x.1=some .cell\/kn.lookup x.1=some .free:=λx hx hf=>by unfold mm at h;rw[Cv] at h;have q:=h x hx;rw[hf] at q;simpa using q
end
open PySem PySem.Spec PyProof.Rows PySem.W PySem.Builtin PySem.Builtin.ObjectAttr PySem.Builtin.Getset_descriptor
structure XCls(K:W.Frag)(C:Addr):Prop where
 cls:(clsIn K C).isSome=true
 ga:findIn K (.ref C) "__getattribute__"=some (some (.builtin "BaseException.__getattribute__"))
 gt:findIn K (.ref C) "__getattr__"=some none
 at_:findIn K (.ref C) "__class__"=some (some (.builtin "object.__class__"))
 gs:specialIn K (.builtin "object.__class__") "__get__"=some (some (.builtin "getset_descriptor.__get__"))
 tk:takesIn K (.builtin "object.__class__")=some true
 mo:mroIn K C (.type "object")=some true
 mb:mroIn K C (.type "BaseException")=some true
section
variable{prog:Program}{w:World}{A:Around}{E:Ej}{K:W.Frag}{x C:Addr}{o:Obj}
def dD(hx:h.get? x=some o)(hc:o.cls=.ref C):Looks M h (typeOf (.ref x)) (.ref C):=hc ▸ (Looks.ld hx).andThen .now
def rn(X:K.In h)(T:XCls K C):Looks M h (find (.ref x) (.ref C) "__class__") (.bind (.builtin "getset_descriptor.__get__") (.builtin "object.__class__")):=by have L1:=looks_findIn (M:=M) X T.at_;have L2:Looks M h (getOf (some (.builtin "object.__class__"))) (some (.builtin "getset_descriptor.__get__")):=looks_specialIn X T.gs;have L3:=looks_takesIn (M:=M) X T.tk;refine L1.andThen (L2.andThen ?_);exact (show Looks M h (dataDescriptor? (some (.builtin "object.__class__")) (some (.builtin "getset_descriptor.__get__"))) (some (.builtin "getset_descriptor.__get__",.builtin "object.__class__")) from L3.andThen .now).andThen (Looks.tag .now)
def jW(X:K.In s.heap)(hx:s.heap.get? x=some o)(hc:o.cls=.ref C)(T:XCls K C)
 (h:R (.ok (.ret (.ref C))) s):codeAny (model prog w) A (.call (.builtin "getset_descriptor.__get__") ⟨[.builtin "object.__class__",.ref x,tp],[]⟩) R s:=by
 obtain⟨hh,g,dr,t,os⟩:=s;have L0:=dD (M:=model prog w) hx hc;have L1:=looks_mroIn (M:=model prog w) X T.mo;refine codeAny_call_builtin KF.slot_gs.plain KF.entry_gs (KF.slot_gs.check _ _ _ _ _ _ _ _ KF.type_class (KF.args_gs _ _ _) ?_);unfold Builtin.«getset_descriptor.__get__» descrGet;rw[dga_obj];refine k_ (s_ ?_);unfold descrGetter descrCheckInstance descrNameAndClass isInstance;simp only[KF.owner_class];repeat lk
 refine⟨Code.quiet_builtin _ (by decide),codeAny_builtin KF.entry_class ?_⟩;unfold Builtin.«object.__class__» shownTypeOf;repeat lk
 exact h
def ql(X:K.In s.heap)(hx:s.heap.get? x=some o)(hc:o.cls=.ref C)(T:XCls K C)(hq:Q () s):
 wpAny M A (checkBuiltinCall "BaseException.__getattribute__" ⟨[.ref x,nameV],[]⟩) Q E s:=by
 obtain⟨h,g,dr,t,os⟩:=s;have hk:builtinKind "BaseException.__getattribute__"=some .slot:=by decide
 have hsplit:splitId "BaseException.__getattribute__"=some ("BaseException", "__getattribute__"):=by decide
 have ha:=PySem.F.args_bexc_ga (.ref x) nameV;have L0:=dD (M:=M) hx hc;have LM:=looks_mroIn (M:=M) X T.mb;have LI:Looks M h (isInstance (.ref x) (.type "BaseException")) true:=L0.andThen LM;simp only[checkBuiltinCall,hk,hsplit];refine k_ ?_;refine LI.at ?_;repeat (first |wp_step)
 all_goals exact hq
def xh(X:K.In s.heap)(hx:s.heap.get? x=some o)(hc:o.cls=.ref C)(T:XCls K C)(h:Q (some (.ref C)) { s with toks:=s.toks+1 }):
 wpAny (model prog w) A (getAttr? (.ref x) "__class__") Q E s:=by
 obtain⟨hh,g,d,t,os⟩:=s;have L0:=dD (M:=model prog w) hx hc;have L1:=looks_findIn (M:=model prog w) X T.ga;have L2:=looks_findIn (M:=model prog w) X T.gt;have LF:=rn (M:=model prog w) (x:=x) X T;have f3:=PySem.F.excAttr_ValueError.ga.bind (.ref x);have hx2:(Value.builtin "BaseException.__getattribute__" == Value.builtin "object.__getattribute__")=false:=by decide
 unfold getAttr? getAttrBy? getAttrBy;refine k_ (wpAny_mkText (k_ (wpAny_attempt (CL (k_ (L0.at (k_ (L1.at ?_))))))));dsimp only;rw[if_neg (by rw[hx2];simp)];unfold getAttrByItsOwn hookBefore;rw[if_pos (show onTheHeap (Value.ref C)=true from rfl)];refine k_ (L2.at ?_);unfold callGetattribute;refine k_ (wpAny_attempt (CL ?_));rw[if_neg (by simp)];unfold boundAndCalled;refine k_ (wpAny_of_eq f3 ?_);refine wpAny_call (codeAny_call_builtin PySem.F.excAttr_ValueError.ga.plain PySem.F.entry_bexc_ga (ql X hx hc T ?_));unfold Builtin.«object.__getattribute__»;repeat (first |(refine k_ (L0.at ?_)) |(refine k_ (LF.at ?_)) |wp_step)
 refine jW (s:=⟨hh,g,d,t+1,os⟩) X hx hc T ?_;repeat (first |exact h |wp_step)
def gi(x:Addr)(C:Addr)(h:Heap):Prop:=∃o vs,h.get? x=some o/\o.cls=.ref C/\o.data=.fields vs
def uf(T:XCls K C):KitX K (.ref x) (.ref C) (gi x C) where
 ty:=λM h _ ⟨o,_,hx,hc,_⟩=>dD hx hc
 it:=λM h X _=>by
  obtain⟨cd,hcd⟩:=CV.mp T.cls;unfold clsIn at hcd;split at hcd
  .rename_i c' d' cd' sl' ho;intro A' Q' E' s' k q;unfold isType loadHead;exact k_ (wpAny_loadPart (k _ _ (X _ _ ho)) (s_ q))
  .cases hcd
 ne:=λh tp dd its n sl X htp=>by
  obtain⟨cd,hcd⟩:=CV.mp T.cls;refine Bool.eq_false_iff.mpr λq=>?_;have e:C=tp:=Value.ref.inj (CG.mp q);subst e;unfold clsIn at hcd;split at hcd
  .rename_i c' d' cd' sl' ho;have z:=(X _ _ ho).symm.trans htp;cases z
  .cases hcd
 ca:=λX ⟨o,_,hx,hc,_⟩ k=>xh X hx hc T k
end
inductive TyX(K:W.Frag)(H:Hp):V->Value->Prop where
 |of {x:V}{t:Value} (h:TyOf K H x t):TyX K H x t
 |exc {a C:Addr} (e:H a=some (.ext (gi a C))) (T:XCls K C):TyX K H (.ref a) (.ref C)
 |sqT {a:Addr}{xs:List V} (h:SqT K H a xs):TyX K H (.ref a) (.type "tuple")
 |sqL {a:Addr}{xs:List V} (h:SqL K H a xs):TyX K H (.ref a) (.type "list")
section
variable{X:Cx}{pins:Ei}{σ:St}{H:Hp}{s:Shared}{c:Value}
def nj(I:Inv X pins σ H s)(rx:RelV x u)(ty:TyX X.K H x t):∃Hh:Heap->Prop,KitX X.K u t Hh/\Hh s.heap/\u ≠ .builtin "__main__.__loader__#opaque":=by
 cases ty with
 |exc ea T=>cases (show u=Value.ref _ from rx);exact⟨_,uf T,(I.hok _ _ ea).1,λz=>nomatch z⟩
 |sqT h=>cases (show u=Value.ref _ from rx);obtain⟨its,rv,⟨o,e,c,_⟩,_⟩:=I.tuple h;exact⟨_,kitx_tuple,⟨o,e,c⟩,λz=>nomatch z⟩
 |sqL h=>cases (show u=Value.ref _ from rx);obtain⟨its,rv,⟨o,n,e,c,_⟩,_⟩:=I.list h;exact⟨_,kitx_list,⟨o,e,c⟩,λz=>nomatch z⟩
 |
  of ty=>
  cases ty with
  |non=>cases (show u=Value.none from rx);exact⟨_,kitx_none,True.intro,λz=>nomatch z⟩
  |bl y=>cases (show u=Value.bool y from rx);exact⟨_,kitx_bool,True.intro,λz=>nomatch z⟩
  |int i=>obtain⟨t,q⟩:=(show ∃t,u=Value.int i t from rx);cases q;exact⟨_,kitx_int,True.intro,λz=>nomatch z⟩
  |str y=>obtain⟨t,q⟩:=(show ∃t,u=Value.str y t from rx);cases q;exact⟨_,kitx_str,True.intro,λz=>nomatch z⟩
  |flt y=>obtain⟨t,q⟩:=(show ∃t,u=Value.float y t from rx);cases q;exact⟨_,kitx_float,True.intro,λz=>nomatch z⟩
  |@lst a xs ea=>cases (show u=Value.ref a from rx);obtain⟨_,_,n,_,h1⟩:=(show ObjOk X.prog X.w H s.heap a (.lst xs) from I.hok a _ ea);exact⟨_,kitx_list,⟨_,h1,rfl⟩,λz=>nomatch z⟩
  |@frz a ob xs ea=>cases (show u=Value.ref a from rx);obtain⟨_,_,_,n,_,h1⟩:=(show ObjOk X.prog X.w H s.heap a (.frz ob (.lst xs)) from I.hok a _ ea);exact⟨_,kitx_list,⟨_,h1,rfl⟩,λz=>nomatch z⟩
  |@tup a xs ea=>cases (show u=Value.ref a from rx);obtain⟨_,_,_,p⟩:=(show ObjOk X.prog X.w H s.heap a (.tup xs) from I.hok a _ ea);obtain⟨o,h1,h2,_⟩:=p;exact⟨_,kitx_tuple,⟨o,h1,h2⟩,λz=>nomatch z⟩
  |@dK a kvs ea=>cases (show u=Value.ref a from rx);obtain⟨_,_,vs,_,p⟩:=(show ObjOk X.prog X.w H s.heap a (.dK kvs) from I.hok a _ ea);obtain⟨o,es,ep,h1,h2,_⟩:=p;exact⟨_,kitx_dict,⟨o,h1,h2.1⟩,λz=>nomatch z⟩
  |@dT a kvs ea=>cases (show u=Value.ref a from rx);obtain⟨_,_,xs,_,o,es,ep,h1,h2,_⟩:=(show ObjOk X.prog X.w H s.heap a (.dT kvs) from I.hok a _ ea);exact⟨_,kitx_dict,⟨o,h1,h2.1⟩,λz=>nomatch z⟩
  |@ins a C dx fs ea cl ha hn htk hm=>cases (show u=Value.ref a from rx);obtain⟨mA,O,_⟩:=vT I.hok ea;obtain⟨od,J,_⟩:=O.look;exact⟨_,kitx_own (cl.get _) cl.hd ha hn htk hm,J,λz=>nomatch z⟩
end
section
variable{X:Cx}
noncomputable def cR:V->Option Value
 |.ref C=>some (.ref C)
 |.ty T=>some (.type T)
 |_=>none
def lZ(h:cR c=some v)(r:RelV c u):u=v:=by
 cases c with
 |ref C=>cases r;exact x_ h
 |ty T=>cases r;exact x_ h
 |_=>cases h
theorem jN:∀{cs:List V}{us vs:List Value},cs.mapM cR=some vs->Vals cs us->us=vs
 |
  [],_,vs,h,.nil=>by
  have h':some ([]:List Value)=some vs:=h;exact x_ h'
 |
  c::cs,_,vs,h,.cons r rr=>by
  rw[List.mapM_cons] at h;cases q:cR c with
  |none=>rw[q] at h;cases h
  |
   some v=>
   rw[q] at h;cases q2:cs.mapM cR with
   |none=>rw[q2] at h;cases h
   |some vs'=>rw[q2] at h;have h':some (v::vs')=some vs:=h;cases h';rw[lZ q r,jN q2 rr]
def tj:CallR X (.builtin "isinstance") (λxs H Q=>∃x c t v b,xs=[x,c]/\TyX X.K H x t/\cR c=some v/\kitOne X.K t v=some b/\Q (.bl b) H):=by intro pins s σ H xs us Q I r h;obtain⟨x,c,t,v,b,rfl,ty,hc,hk,q⟩:=h;obtain⟨u,w',rfl,rx,rc⟩:=om r;obtain rfl:=lZ hc rc;obtain⟨Hh,Z,p,hne⟩:=nj I rx ty;exact kia_one Z I.kIn p hk hne λtk=>⟨.bl b,H,I.tok _,rfl,q⟩
end
def ObjOk.there(x:ObjOk P w H h a o):∃u,h.get? a=some u:=by
 cases o with
 |lst xs=>obtain⟨_,_,_,_,e⟩:=x;exact⟨_,e⟩
 |tup xs=>obtain⟨_,_,_,ob,e,_⟩:=x;exact⟨_,e⟩
 |dK kvs=>obtain⟨_,_,_,_,o,_,_,e,_⟩:=x;exact⟨_,e⟩
 |dT kvs=>obtain⟨_,_,_,_,o,_,_,e,_⟩:=x;exact⟨_,e⟩
 |set S n=>obtain⟨o,_,_,_,e,_⟩:=x;exact⟨_,e⟩
 |ins C dx fs=>obtain⟨_,_,_,e,_⟩:=x;exact⟨_,e⟩
 |own y=>exact x
 |xd fs=>obtain⟨_,⟨_,_,_,e,_⟩,_⟩:=x;exact⟨_,e⟩
 |rng lo hi=>obtain⟨_,_,_,e⟩:=x;exact⟨_,e⟩
 |frz ob u=>obtain⟨e,_⟩:=x;exact⟨_,e⟩
 |tbl ps=>exact⟨_,show h.get? a=some _ from x⟩
 |met f y=>exact⟨_,show h.get? a=some _ from x⟩
 |ext φ=>obtain⟨_,e,_⟩:=x;exact e
structure Fly(P:Program)(w:World)(outer:List Env)(H:Hp)(h₀:Heap)(H':Hp)(ea:Addr)(cls:Value)(h:Heap)(B:Heap)(t:Addr):Prop where
 un:Un (frs outer) [] H H' h₀ h
 hok:HOk P w H' h
 fl:Heap.FlyingW B outer ea cls (.ref t) h
 old:∀b o,h₀.get? b=some o->b∉frs outer->∃o',B.get? b=some o'
 trk:∀b o,H' b=some o->∃o',B.get? b=some o'
def CX1(P:Program)(w:World):CXT:=λouter H s E e s'=>∃(ea t:Addr) (cls:Value) (H':Hp) (B:Heap),e=.ref ea/\s'.os=s.os/\AllBare s'.gens/\Fly P w outer H s.heap H' ea cls s'.heap B t/\E cls none H'
def gq(h:env.frame=some L):frs (env::outer)=L::frs outer:=by unfold frs;rw[CZ,h]
section
variable{P:Program}{w:World}{outer:List Env}{H H':Hp}{h₀ h h' B:Heap}{ea t:Addr}{cls:Value}
def Fly.step(F:Fly P w outer H h₀ H' ea cls h B t)(fl':Heap.FlyingW B outer' ea cls (.ref t) h')(up:h.UpToSlots h'):
 Un (frs outer) [] H H' h₀ h'/\HOk P w H' h':=by
 have st:=F.fl.1;have fJ:∀b o,(∃o',B.get? b=some o')->h.get? b=some o->h'.get? b=some o:=λb o ⟨o',e⟩ q=>by have z:=st b o' e;rw[q] at z;cases z;exact fl'.1 b _ e
 have frame:∀b o,b∈frs outer->h.get? b=some o->∃sl,h'.get? b=some { o with slots:=sl }:=λb o hb q=>by obtain⟨_,o',ho',hd⟩:=F.fl.2.2.1.mem hb;rw[q] at ho';cases ho';exact up b o q hd
 refine⟨⟨λb o e n hb hx=>fJ b o (F.old b o e hb) (F.un.keep b o e n hb hx),λb o e n hb hx=>?_,F.un.free,λb o e hx=>?_,F.un.tups,F.un.frzs,F.un.tbls⟩,λa o e=>?_⟩
 .obtain⟨sl,q⟩:=F.un.slot b o e n hb hx;obtain⟨sl',q'⟩:=frame b _ hb q;exact⟨sl',q'⟩
 .obtain⟨o',q⟩:=F.un.there b o e hx;by_cases hb:b∈frs outer
  .obtain⟨sl,q'⟩:=frame b _ hb q;exact⟨_,q'⟩
  .exact⟨o',fJ b o' (F.old b o e hb) q⟩
 .refine (F.hok a o e).stay (λb u hb q=>fJ b u ?_ q) (λ_ q=>q) λ_ _ q=>q;rcases hb with z |z
  .rw[z];exact F.trk a o e
  .exact F.trk b _ z
end
structure Cx.Top(X:Cx):Prop where
 ex:X.ex=[]
 stk:X.stack=X.env::X.outer
 fr:X.env.frame=some X.env.locals
section
variable{X:Cx}{pins:Ei}{σ:St}{H:Hp}{s s':Shared}{E:XK}{e:Value}
def pQ(T:X.Top)(hA:A.frames=some X.stack)(I:Inv X pins σ H s)(h:CX1 X.prog X.w X.stack H s E e s'):
 wpAny (model X.prog X.w) A (leaving X.env e) (λ_ s''=>CX1 X.prog X.w X.outer X.H₀ X.s₀ E e s'') E' s':=by
 obtain⟨ea,t,cls,H',B,rfl,os,bare,F,q⟩:=h;have F0:=F;rw[T.stk] at F;have hf:=gq (outer:=X.outer) T.fr;refine wpAny_leaves_onW (by rw[hA,T.stk]) T.fr F.fl λh'' fl'' up=>?_;obtain⟨un2,hok2⟩:=F.step fl'' up;have exn:∀b,b∉X.ex:=λb z=>by rw[T.ex] at z;cases z
 have neL:∀b o,X.s₀.heap.get? b=some o->b≠X.env.locals:=λb o e=>Ct (t_ (n_ e) I.ok.above);have notin:∀b o,X.s₀.heap.get? b=some o->b∉frs X.outer->b∉frs (X.env::X.outer):=λb o e hb z=>by
  rw[hf] at z;rcases Cu.mp z with z |z
  .exact neL b o e z
  .exact hb z
 refine⟨ea,t,cls,H',B,rfl,os.trans I.os,bare,⟨⟨λb o e n hb hx=>?_,λb o e n hb hx=>?_,λb o e n hx=>?_,λb o e hx=>?_,λb xs e=>un2.tups b xs (I.base.tups b xs e),λb o xs e=>un2.frzs b o xs (I.base.frzs b o xs e),λb ps e=>?_⟩,hok2,fl'',λb o e hb=>?_,F.trk⟩,q⟩
 .exact un2.keep b o (I.base.keep b o e n hb (exn b)) (I.base.free b o e n (exn b)) (notin b o e hb) (by simp)
 .obtain⟨sl,e1⟩:=I.base.slot b o e n hb (exn b);obtain⟨sl',e2⟩:=un2.slot b _ e1 (I.base.free b o e n (exn b)) (by rw[hf];exact q_ _ hb) (by simp);exact⟨sl',e2⟩
 .obtain⟨o',e1⟩:=I.base.there b o e (exn b);exact un2.free b o' e1 (I.base.free b o e n (exn b)) (by simp)
 .obtain⟨o',e1⟩:=I.base.there b o e (exn b);exact un2.there b o' e1 (by simp)
 .obtain⟨m1,e1⟩:=I.base.tbls b ps e;obtain⟨m2,e2⟩:=un2.tbls b _ e1;exact⟨m1++m2,by rw[e2,Array.append_assoc]⟩
 .obtain⟨o',e1⟩:=I.base.there b o e (exn b);exact F.old b o' e1 (notin b o e hb)
def tJ(T:X.Top)(hA:A.frames=some X.stack)(I:Inv X pins σ H s)(hx:Heap.MadeExcOf s.heap h' ea cls args)(q:E cls none H):
 wpAny (model X.prog X.w) A (leaving X.env (.ref ea)) (λ_ s''=>CX1 X.prog X.w X.outer X.H₀ X.s₀ E (.ref ea) s'') E' { s with heap:=h' }:=by
 have hf:=gq (outer:=X.outer) T.fr;have stk:=I.stack;rw[T.stk] at stk;have hin:∀env∈(X.env::X.outer),∀b,env.frame=some b->b∈frs (X.env::X.outer):=λenv he b hb=>DB.mpr ⟨env,he,hb⟩;refine wpAny_leaves_madeW (base:=W.hideAll s.heap (frs (X.env::X.outer))) (h:=s.heap) (by rw[hA,T.stk]) T.fr (λb o q=>W.of_hideAll _ q) (W.funFrames_hide stk hin) hx λh'' t fl tup tn up=>?_;have inB:∀b o,s.heap.get? b=some o->b∉frs (X.env::X.outer)->(W.hideAll s.heap (frs (X.env::X.outer))).get? b=some o:=λb o e hb=>Eg _ e hb;have free:∀b∈frs (X.env::X.outer),H b=none:=λb hb=>I.stkFree b (by rw[T.stk];exact hb);have up2:s.heap.UpToSlots h'':=(Heap.UpToSlots.of_keeps hx.keeps).trans up;have exn:∀b,b∉X.ex:=λb z=>by rw[T.ex] at z;cases z
 have neL:∀b o,X.s₀.heap.get? b=some o->b≠X.env.locals:=λb o e=>Ct (t_ (n_ e) I.ok.above);have notin:∀b o,X.s₀.heap.get? b=some o->b∉frs X.outer->b∉frs (X.env::X.outer):=λb o e hb z=>by
  rw[hf] at z;rcases Cu.mp z with z |z
  .exact neL b o e z
  .exact hb z
 have trk:∀b o,H b=some o->∃o',(W.hideAll s.heap (frs (X.env::X.outer))).get? b=some o':=λb o e=>by obtain⟨u,hu⟩:=(I.hok b o e).there;exact⟨u,inB b u hu λz=>by rw[free b z] at e;cases e⟩
 refine⟨ea,t,cls,H,_,rfl,I.os,I.bare,⟨⟨λb o e n hb hx=>?_,λb o e n hb hx=>?_,λb o e n hx=>?_,λb o e hx=>?_,I.base.tups,I.base.frzs,I.base.tbls⟩,λa o e=>?_,fl,λb o e hb=>?_,trk⟩,q⟩
 .exact fl.1 b o (inB b o (I.base.keep b o e n hb (exn b)) (notin b o e hb))
 .obtain⟨sl,e1⟩:=I.base.slot b o e n hb (exn b);obtain⟨_,o',ho',hd⟩:=I.ok.funs.mem hb;rw[e] at ho';cases ho';obtain⟨sl',e2⟩:=up2 b _ e1 hd;exact⟨sl',e2⟩
 .exact I.base.free b o e n (exn b)
 .obtain⟨o',e1⟩:=I.base.there b o e (exn b);by_cases hb:b∈frs X.outer
  .obtain⟨_,o2,ho2,hd⟩:=I.funs.mem hb;rw[e1] at ho2;cases ho2;obtain⟨sl',e2⟩:=up2 b _ e1 hd;exact⟨_,e2⟩
  .exact⟨o',fl.1 b o' (inB b o' e1 (notin b o e hb))⟩
 .refine (I.hok a o e).stay (λb u hb q=>?_) (λ_ q=>q) λ_ _ q=>q;refine fl.1 b u (inB b u q λz=>?_);rcases hb with y |y
  .rw[y] at z;rw[free a z] at e;cases e
  .rw[free b z] at y;cases y
 .obtain⟨o',e1⟩:=I.base.there b o e (exn b);exact⟨o',inB b o' e1 (notin b o e hb)⟩
def me{h6:Heap}{ea t:Addr}{C:Addr}{H':Hp}{B:Heap}{g':Shared}(T:X.Top)(I:Inv X pins σ H s)(F:Fly X.prog X.w X.stack H s.heap H' ea (.ref C) s'.heap B t)(os:s'.os=s.os)(bare:AllBare s'.gens)
 (fl6:Heap.FlyingW B X.stack ea (.ref C) (.ref t) h6) (up:s'.heap.UpToSlots h6):
 H' ea=none/\Inv X pins σ (upd H' ea (.ext (gi ea C))) { s' with heap:=h6 }:=by
 obtain⟨un2,hok2⟩:=F.step fl6 up;obtain⟨oe,vs,he,hc,hd,_⟩:=fl6.first;have hB:B.get? ea=none:=fl6.2.1;have hn:H' ea=none:=by
  cases q:H' ea with
  |none=>rfl
  |some o=>obtain⟨o',z⟩:=F.trk ea o q;rw[hB] at z;cases z
 have hnf:ea∉frs X.stack:=λz=>by obtain⟨_,o,ho,hdd⟩:=fl6.2.2.1.mem z;rw[he] at ho;cases ho;exact hdd vs hd
 have hs:s.heap.get? ea=none:=by
  cases q:s.heap.get? ea with
  |none=>rfl
  |some o=>obtain⟨o',z⟩:=F.old ea o q hnf;rw[hB] at z;cases z
 have I5:Inv X pins σ H' { s' with heap:=h6 }:=I.call' (s':={ s' with heap:=h6 }) (ch:=[]) os un2 hok2 bare λb hb=>nomatch hb;refine⟨hn,I5.track hn ?_ ?_ (λx c e z=>?_) (λp hp z=>?_) ⟨⟨oe,vs,he,hc,hd⟩,⟨oe,he⟩,λh1 h2 ⟨o1,v1,e1,r⟩ k=>⟨o1,v1,k o1 e1,r⟩⟩⟩
 .cases q:X.s₀.heap.get? ea with
  |none=>rfl
  |some o=>obtain⟨o',z⟩:=I.base.there ea o q (by rw[T.ex];simp);rw[hs] at z;cases z
 .intro z;obtain⟨m,⟨o,es,ep,ho,hdd,_⟩,_⟩:=I.loc;rw[<- z,hs] at ho;cases ho
 .obtain⟨v,o,ho,_⟩:=I.cell x c e;rw[z,hs] at ho;cases ho
 .have:=(I.pin p hp).1
  rw[z,hs] at this;cases this
end
section
variable{P:Program}{w:World}{K:W.Frag}{mg:Eh}{base:Heap}{N:List Str}{qual:Str}{scope:Scope}{f:Addr}{cd:Value}{A:Around}{outer:List Env}{s:Shared}{H:Hp}{E:XK}
def nX:(bR (CX1 P w) P w K mg base N qual scope f cd A outer s H E).Top:=⟨rfl,rfl,rfl⟩
def Bw:iA (CX1 P w) (bR (CX1 P w) P w K mg base N qual scope f cd A outer s H E) E:=λpins σ H s e s' I h=>pQ nX I.ok.frames I h
def Bc:iA (CX1 P w) X E0:=λpins σ H s e s' I ⟨_,_,_,_,_,_,_,_,_,q⟩=>q.elim
def own1:PassesOwn (model P w) (bR (CX1 P w) P w K mg base N qual scope f cd A outer s H E).A (bR (CX1 P w) P w K mg base N qual scope f cd A outer s H E).env (bR (CX1 P w) P w K mg base N qual scope f cd A outer s H E).xe:=PassesOwn.leaving
def Rz(X:Cx)(E:XK):Prop:=∀(pins:Ei) (σ:St) (H:Hp) (s:Shared) (h':Heap) (ea:Addr) (cls:Value) (args:List Value),Inv X pins σ H s->Heap.MadeExcOf s.heap h' ea cls args->E cls none H->X.xe (.ref ea) { s with heap:=h' }
def rz1:Rz (bR (CX1 P w) P w K mg base N qual scope f cd A outer s H E) E:=λpins σ H s h' ea cls args I hx q=>tJ nX I.ok.frames I hx q
def Fun.okR{x qual:Str}{st:Stmt}{f:Addr}{fd:FuncData}{N ps:List Str}{k:Nat}{sp:Sp}(F:Fun K x qual st f fd)(S:FnScope N ps (aj st))(len:∀vs H Q E,sp vs H Q E->vs.length=ps.length)
 (d_:∀(cdv:Value) (A:Around) (outer:List Env) (s:Shared) (H:Hp) (vs:List V) (Q:VK) (E:XK),Room k (A.deeper (envOfC qual (aj st) s.heap.objs.size f cdv))->sp vs H Q E->
  ∃t,PSs (bR (CX1 P w) P w K mg base N qual (aj st) f cdv A outer s H E) (aN st) t/\t { nx:=λ_ H'=>Q .non H',rt:=Q } (bK N vs) H):FnOk P w K mg base (CX1 P w) (k+1) f fd ps sp:=by
 obtain⟨oc,od,kV,doc,pm,an,cdv,ct,osl,rfl,lk,hcd⟩:=F.ex;exact A8 lk hcd S len λA outer s H vs Q E hr hsp=>d_ cdv A outer s H vs Q E hr hsp
end
abbrev iB:List Value:=[.type "ValueError",.type "Exception",.type "BaseException",.type "object"]
def oY{K:W.Frag}{h:Heap}{C:Addr}(X:K.In h)(q:W.excIn K C iB "ValueError.__new__"=true):
 ∃bm N nm q' bs hdct sn sub ab col dd k0 k1 k2 k3 k5 mN,h.get? C=some (excClassObj nm q' C N bs bm hdct sn sub ab col dd k0 k1 k2 k3 k5 "ValueError.__new__")/\h.Ns N mN/\mN "__init__"=none/\OwnTail h iB bm:=by
 unfold W.excIn at q;split at q
 .rename_i dd cd sl ho;split at q
  .rename_i C' bm k0 k1 k2 k3 n k5 hm hs;simp only[p_,CG,Bool.not_eq_true'] at q;obtain⟨⟨⟨⟨⟨rfl,rfl⟩,hdel⟩,ht⟩,hok⟩,hni⟩:=q;obtain⟨nm,bs,mro,ns,qn,hd,sn,sub,ab,col,del⟩:=cd;dsimp only at hm hdel hok hni;subst hm hdel;have hsl:sl=#[k0,k1,k2,k3,some (.builtin "ValueError.__new__"),k5]:=by obtain⟨l⟩:=sl;simp only at hs;rw[hs]
   subst hsl;exact⟨bm,ns,nm,qn,bs,hd,sn,sub,ab,col,dd,k0,k1,k2,k3,k5,_,X _ _ ho,.of_isNs (W.isNs_of_in X hok),W.nsMap_none_of_in X hok hni,W.tail_of_in X ht⟩
  .cases q
 .cases q
section
variable{X:Cx}{x:Str}{C:Addr}{E:XK}{np cpos pos:Pos}{e₀:Expr}{es:List Expr}{ta:TA}
def zV(C:Addr)(E:XK)(ta:TA):TS:=λ_ σ H=>ta σ H λvs H1=>vs.length<=sizeLine/\E (.ref C) none H1
def sk(hc:X.calm=true)(hR:Rz X E)(hg:Gl X x)(hm:X.mg x=some (.ref C))(hq:W.excIn X.K C iB "ValueError.__new__"=true)(ha:PA X (e₀::es) ta)
 (he:starEach (e₀::es) X.env=(false,eval e₀ X.env)::starEach es X.env) (e_:(backTo cpos (starEach es X.env)).any (·.1)=false) (hd:(x==("__debug__" : Str))=false):
 PS X (.Raise (some (.Call (.Name x np) (e₀::es) [] cpos)) none pos) (zV C E ta):=by
 intro pins s σ H D I h;obtain⟨bm,N,nm,q',bs,hdct,sn,sub,ab,col,dd,k0,k1,k2,k3,k5,mN,hC,hN,hni,T⟩:=oY I.ok.mod.kin hq;refine wpAny_Raise_call_subT (C:=C) (nm:=nm) (q:=q') (N:=N) (bs:=bs) (bm:=bm) (hdct:=hdct) (sn:=sn) (sub:=sub) (ab:=ab) (col:=col) (dd:=dd) (k0:=k0) (k1:=k1) (k2:=k2) (k3:=k3) (k5:=k5)
  PySem.F.excBase_ValueError (mN:=mN) (T.hasType PySem.F.excBase_ValueError.hasBase) (I.ok.hd hc) (by rw[he];show (false || (backTo cpos (starEach es X.env)).any (·.1))=false;rw[e_];rfl) hni (fW I hg hm ⟨rfl,?_⟩ hd)
 have hA:=ha cpos pins s σ H _ I h;rw[he] at hA ⊢;refine Calls.evalArgs_plain (thn hA λus s2 ⟨vs,H2,I2,r2,hz,q2⟩=>⟨rfl,by rw[<- r2.length];exact hz,I2.bk _ _ hC,hN.keeps I2.bk,T.keeps I2.bk,λh' e hm'=>?_⟩);exact hR pins σ H2 s2 h' e _ _ I2 hm' q2
end
abbrev XS:=St->XK
abbrev TEx:=St->Hp->VK->XK->Prop
abbrev TSx:=Ends->XS->St->Hp->Prop
def XP(X:Cx)(pins:Ei)(E:XS)(e:Value)(s':Shared):Prop:=∃σ1 H1 s1,Inv X pins σ1 H1 s1/\CX1 X.prog X.w X.stack H1 s1 (E σ1) e s'
def PSsx(X:Cx)(st:List Stmt)(t:TSx):Prop:=
 ∀(pins:Ei) (s:Shared) (σ:St) (H:Hp) (D:Ends) (E:XS),Inv X pins σ H s->t D E σ H->wpAny (model X.prog X.w) X.A (execs st X.env) (SP X pins D) (XP X pins E) s
noncomputable def ed (X:Cx) (ea:Addr):Cx:={ X with A:=X.A.mark (some (.ref ea)),calm:=false,xe:=λ_ _=>False }
section
variable{X:Cx}{pins:Ei}{σ:St}{H:Hp}{s:Shared}{ea:Addr}
def Inv.suite(I:Inv X pins σ H s):Inv (ed X ea) pins σ H s:=
 ⟨⟨I.ok.mod,I.ok.kind,I.ok.glob,I.ok.blt,I.ok.above,I.ok.inj,I.ok.has,I.ok.cab,λz=>absurd z o_,I.ok.frames,I.ok.stk,I.ok.exf,I.ok.bs,I.ok.bsz,I.ok.noex,I.ok.exfs,I.ok.funs,I.ok.frf⟩,I.os,I.bare,I.base,I.loc,I.cell,I.free,I.freeC,I.pin,I.hok,I.len⟩
def Inv.unsuite(ok:X.Ok)(I:Inv (ed X ea) pins σ H s):Inv X pins σ H s:=
 ⟨ok,I.os,I.bare,I.base,I.loc,I.cell,I.free,I.freeC,I.pin,I.hok,I.len⟩
def pq{M:Model}{A:Around}{E:Ej}{K:W.Frag}{C Ce:Addr}{o:Obj}{Q:Bool->Shared->Prop}(KX:K.In s.heap)(he:s.heap.get? ea=some o)(hc:o.cls=.ref Ce)
 (hty:W.typeIn K (.ref C)=some (.type "type")) (hcl:(W.clsIn K C).isSome=true) (hb:W.mroIn K C (.type "BaseException")=some true) (hm:W.mroIn K Ce (.ref C)=some true) (q:Q true s):
 wpAny M A (excMatches (.ref ea) (.ref C)) Q E s:=by
 obtain⟨h,g,d,tk,os⟩:=s;have L0:=dD (M:=M) he hc;have L1:=W.looks_typeIn (M:=M) KX hty;have L2:=W.looks_mroIn (M:=M) KX hb;have L3:=W.looks_mroIn (M:=M) KX hm;have L4:W.Looks M h (isType (.ref C)) true:=by
  obtain⟨cd,hcd⟩:=CV.mp hcl;unfold W.clsIn at hcd;split at hcd
  .rename_i c' d' cd' sl' ho;intro A' Q' E' s' k q;unfold isType loadHead;exact k_ (wpAny_loadPart (k _ _ (KX _ _ ho)) (s_ q))
  .cases hcd
 have LT:W.Looks M h (isInstance (.ref C) (.type "tuple")) false:=L1.andThen (W.Looks.of_pure tc_notTuple);have LE:W.Looks M h (isExcClass (.ref C)) true:=by unfold isExcClass;exact L4.andThen L2
 unfold excMatches;refine k_ (LT.at ?_);rw[if_neg o_];refine k_ (s_ ?_);dsimp only;refine k_ ?_;rw[List.forIn_cons];refine k_ (k_ (LE.at ?_));simp only[Bool.not_true,CQ,Dn];refine s_ ?_;dsimp only;rw[List.forIn_nil];refine s_ ?_;refine k_ (L0.at (k_ ?_));rw[List.forIn_cons];refine k_ (k_ (L3.at ?_));simp only[Ds];exact s_ (s_ (s_ q))
def Inv.unbind(I:Inv X pins σ H s)(hN:X.N.Nodup)(hi:X.N[i]?=some n)(hl:X.env.kindOf n=some .local)
 (hm:∀(i:Nat) (x:Str) (v:V),X.N[i]?=some x->σ[i]?=some (some v)->Vis X.env.scope x->∃u,RelV v u/\n0 X.env s.heap m x u) (hn:s.heap.Ns X.env.locals m)
 (hn':h'.Ns X.env.locals (λx=>if x=n then v else m x)) (hs:Heap.SameBut X.env.locals s.heap h'):Inv X pins (σ.set i none) H { s with heap:=h',toks:=tk }:=by
 have cne:=I.cne;have neL:∀b o,X.s₀.heap.get? b=some o->b≠X.env.locals:=λb o e=>Ct (t_ (n_ e) I.ok.above);refine⟨I.ok,I.os,I.bare,⟨λb o e n hb hx=>?_,λb o e n hb hx=>?_,I.base.free,λb o e hx=>?_,I.base.tups,I.base.frzs,I.base.tbls⟩,⟨_,hn',λj y v' e1 e2 e3=>?_⟩,λy c e=>?_,I.free,I.freeC,λp hp=>?_,λb ob e=>?_,by simpa using I.len⟩
 .exact (hs.2 b (neL b o e)).trans (I.base.keep b o e n hb hx)
 .obtain⟨sl,e1⟩:=I.base.slot b o e n hb hx;exact⟨sl,(hs.2 b (neL b o e)).trans e1⟩
 .obtain⟨o',e1⟩:=I.base.there b o e hx;exact⟨o',(hs.2 b (neL b o e)).trans e1⟩
 .by_cases hj:j=i
  .subst hj;have hiσ:j<σ.length:=by rw[I.len];exact (l_.mp hi).1
   rw[Dh hiσ] at e2;cases e2
  .rw[Dm (Ne.symm hj)] at e2;obtain⟨u',r',q⟩:=hm j y v' e1 e2 e3;refine⟨u',r',?_⟩;rcases q with ⟨k,e⟩ |⟨k,c,e,z⟩
   .refine .inl ⟨k,?_⟩;have:y≠n:=λe=>hj (gy hN e1 (e ▸ hi));simp [this,e]
   .exact .inr ⟨k,c,e,z.sameBut hs (cne y c e)⟩
 .obtain⟨w',z⟩:=I.cell y c e;exact⟨w',z.sameBut hs (cne y c e)⟩
 .obtain⟨e,n,ne,nf,d⟩:=I.pin p hp;exact⟨(hs.2 p.1 ne).trans e,n,ne,nf,d⟩
 .refine (I.hok b ob e).stay (λc w' hc q=>(hs.2 c ?_).trans q) (λ_ q=>q) λ_ _ q=>q;rintro rfl;rcases hc with z |hc
  .rw[<- z,I.free] at e;cases e
  .rw[I.free] at hc;cases hc
def rA(I:Inv X pins σ H s)(hg:Gl X x)(hm:X.mg x=some u)(h:Q u s)
 (hd:(x==("__debug__" : Str))=false):wpAny (model X.prog X.w) A (eval (.Name x pos) X.env) Q E s:=
 Dp I.ok.kind hg (Calls.loadGlobal_global (by rw[I.ok.glob];exact I.mod.glob.keeps I.bk) hm h) hd
end
structure XHand(K:W.Frag)(C:Addr):Prop where
 ty:W.typeIn K (.ref C)=some (.type "type")
 cls:(W.clsIn K C).isSome=true
 mb:W.mroIn K C (.type "BaseException")=some true
noncomputable def uO (i:Nat) (D:Ends):Ends:={ nx:=λσ H=>D.nx (σ.set i none) H,rt:=D.rt,bk:=λσ H=>D.bk (σ.set i none) H,ct:=λσ H=>D.ct (σ.set i none) H }
def tTry(K:W.Frag)(C:Addr)(i:Nat)(tb:TSx)(ts:TS):TS:=λD σ H=>
 tb D (λσ1 cls _ H1=>∃Ce,cls=.ref Ce/\W.mroIn K Ce (.ref C)=some true/\∀ea,H1 ea=none->ts (uO i D) (σ1.set i (some (.ref ea))) (upd H1 ea (.ext (gi ea Ce)))) σ H
section
variable{X:Cx}{x n:Str}{C:Addr}{i:Nat}{body suite:List Stmt}{b₀:Stmt}{tb:TSx}{ts:TS}{np hpos pos:Pos}
def xJ(T:X.Top)(hN:X.N.Nodup)(hi:X.N[i]?=some n)(hl:X.env.kindOf n=some .local)(hg:Gl X x)(hm:X.mg x=some (.ref C))(hh:XHand X.K C)(hb:PSsx X body tb)(hs:∀ea,PSs (ed X ea) (b₀::suite) ts)
 (hd:(x==("__debug__" : Str))=false):PS X (.Try body [.ExceptHandler (some (.Name x np)) (some n) (b₀::suite) hpos] [] [] pos) (tTry X.K C i tb ts):=by
 intro pins s σ H D I h;refine wpAny_Try_except (z_ (hb pins s σ H D _ I h) (λf s1 q=>?_) λe s1 hx=>?_)
 .cases f with
  |next=>exact Dx q
  |ret v=>exact q
  |brk=>exact q
  |cont=>exact q
 .obtain⟨σ1,H1,s0,I1,ea,t,cls,H',B,rfl,os,bare,F,Ce,rfl,hme,q⟩:=hx;have F1:=F.fl;rw[T.stk] at F1;have hfr:X.A.frames=some (X.env::X.outer):=by rw[I1.ok.frames,T.stk]
  refine wpAny_looks_onW hfr T.fr F1 λh4 held4 up4=>?_;refine wpAny_landsW held4 λh5 fl5 up5=>?_;have fl5':=fl5;rw[<- T.stk] at fl5';obtain⟨hn5,I5⟩:=me (g':=s1) T I1 F os bare fl5' (up4.trans up5);obtain⟨o5,he5,hc5⟩:=fl5.there;refine wpAny_handleBy_cons (codeAny_handlers_test (rA I5 hg hm ?_ hd)) (by intro q;cases q);refine pq I5.kIn he5 hc5 hh.ty hh.cls hh.mb hme ?_;refine codeAny_handlers_suite_as ?_;refine lands_againW fl5 λh6 fl6 up6=>?_;have fl6':=fl6;rw[<- T.stk] at fl6';obtain⟨hn6,I6⟩:=me (g':=s1) T I1 F os bare fl6' ((up4.trans up5).trans up6);refine dE (v:=.ref ea) I6 hN hi (.inl hl) rfl (λs7 I7=>?_) (.inr hl);refine z_ (hs ea pins s7 _ _ (uO i D) I7.suite (q ea hn6)) (λf s8 h8=>?_) λ_ _ z=>False.elim z;have go:∀{σ8:St}{H8:Hp},Inv (ed X ea) pins σ8 H8 s8->(∀s9,Inv X pins (σ8.set i none) H8 s9->SP X pins D f s9)->
   wpAny (model X.prog X.w) X.A (do bindName X.env n .none;unbindBehindTheSuite X.env n hpos) (λ_ s9=>SP X pins D f s9) X.xe s8:=λ{σ8 H8} I8' k=>by
   have I8:=I8'.unsuite I.ok;obtain⟨m,hn,hm⟩:=I8.loc;exact wpAny_nameGoes_keeps hl hn (by rw[I8.ok.kind];rfl) λh' v hn' hs'=>k _ (I8.unbind hN hi hl hm hn hn' hs')
  cases f with
  |next=>obtain⟨σ8,H8,I8,q8⟩:=h8;exact go I8 λs9 I9=>⟨_,_,I9,q8⟩
  |brk=>obtain⟨σ8,H8,I8,q8⟩:=h8;exact go I8 λs9 I9=>⟨_,_,I9,q8⟩
  |cont=>obtain⟨σ8,H8,I8,q8⟩:=h8;exact go I8 λs9 I9=>⟨_,_,I9,q8⟩
  |ret u=>obtain⟨v,σ8,H8,I8,r8,q8⟩:=h8;exact go I8 λs9 I9=>⟨v,_,_,I9,r8,q8⟩
end
mutual
inductive Rep(K:W.Frag)(H:Hp):V->PyData->Prop where
 |non:Rep K H .non .none
 |bl (b:Bool):Rep K H (.bl b) (.bool b)
 |int (i:Int):Rep K H (.int i) (.int i)
 |str (x:Str):Rep K H (.str x) (.str x)
 |tup {a:Addr}{xs:List V}{ds:List PyData} (h:SqT K H a xs) (r:Reps K H xs ds):Rep K H (.ref a) (.tuple ds)
 |lst {a:Addr}{xs:List V}{ds:List PyData} (h:SqL K H a xs) (r:Reps K H xs ds):Rep K H (.ref a) (.list ds)
inductive Reps(K:W.Frag)(H:Hp):List V->List PyData->Prop where
 |nil:Reps K H [] []
 |cons {x:V}{d:PyData}{xs:List V}{ds:List PyData} (r:Rep K H x d) (rr:Reps K H xs ds):Reps K H (x::xs) (d::ds)
end
section
variable{X:Cx}{pins:Ei}{σ:St}{H:Hp}{s:Shared}{K:W.Frag}
def Rep.reads(I:Inv X pins σ H s)(r:Rep X.K H v d)(q:RelV v u):∃as,Reads s.heap u d as:=
 Rep.rec (motive_1:=λv d _=>∀u,RelV v u->∃as,Reads s.heap u d as) (motive_2:=λvs ds _=>∀us,Vals vs us->∃as,ReadsAll s.heap us ds as)
  (λu r=>by cases r;exact⟨_,.none⟩) (λb u r=>by cases r;exact⟨_,.bool b⟩) (λi u r=>by obtain⟨t,rfl⟩:=r;exact⟨_,.int i t⟩) (λx u r=>by obtain⟨t,rfl⟩:=r;exact⟨_,.str x t⟩)
  (λh _ ih u r=>by cases r;obtain⟨its,rv,⟨o,e,c,n,d⟩,_⟩:=I.tuple h;obtain⟨as,q⟩:=ih _ rv;exact⟨as,.tuple e c d (by simpa using q)⟩)
  (λh _ ih u r=>by cases r;obtain⟨its,rv,⟨o,n,e,c,_,d⟩,_⟩:=I.list h;obtain⟨as,q⟩:=ih _ rv;exact⟨_,.list e c d (by simpa using q)⟩)
  (λus r=>by cases r;exact⟨_,.nil⟩)
  (λ_ _ a b us q=>by
   cases q with
   |cons q1 q2=>obtain⟨as,h1⟩:=a _ q1;obtain⟨bs,h2⟩:=b _ q2;exact⟨_,.cons h1 h2⟩) r u q
end
section
variable{X:Cx}
noncomputable def shp (d:PyData):Bool:=d.canLay0&&decide (d.depth<=160)
def cN(h:shp d=true):d.canLay0=true:=(Bool.and_eq_true_iff.mp h).1
def gF{A:Around}{d e:PyData}(h:shp d=true)(hu:A.units+180<cLine):A.units+min d.depth e.depth<cLine:=by have h1:d.depth<=160:=of_decide_eq_true (Bool.and_eq_true_iff.mp h).2;have h2:min d.depth e.depth<=d.depth:=Nat.min_le_left _ _;omega
def tq(K:W.Frag):R2:=λx y H Q=>∃dx dy,Rep K H x dx/\Rep K H y dy/\shp dx=true/\shp dy=true/\Q (.bl (PyData.eqv dx dy)) H
def sS(K:W.Frag):R2:=λx y H Q=>∃dx dy,Rep K H x dx/\Rep K H y dy/\shp dx=true/\shp dy=true/\Q (.bl (!PyData.eqv dx dy)) H
def zE(hu:X.A.units+180<cLine):OpR X (compareOp .Eq) (tq X.K):=by intro pins s σ H x y v u Q I rx ry h;obtain⟨dx,dy,r1,r2,h1,h2,q⟩:=h;obtain⟨as,q1⟩:=r1.reads I rx;obtain⟨bs,q2⟩:=r2.reads I ry;exact SeqAt.compareEq_reads q1 q2 (cN h1) (cN h2) (gF h1 hu) (lx I q rfl)
def zU(hu:X.A.units+180<cLine):OpR X (compareOp .NotEq) (sS X.K):=by intro pins s σ H x y v u Q I rx ry h;obtain⟨dx,dy,r1,r2,h1,h2,q⟩:=h;obtain⟨as,q1⟩:=r1.reads I rx;obtain⟨bs,q2⟩:=r2.reads I ry;exact SeqAt.compareNe_reads q1 q2 (cN h1) (cN h2) (gF h1 hu) (lx I q rfl)
open PySem.Builtin.Int (intBits)
def CDivB(i j:Int):Prop:=j≠0/\intBits j<=8000
def uI(i j:Int):Prop:=intBits i<=100000/\intBits j<=100000
def rZ:OpR X (binaryOp .FloorDiv) (rI CDivB λi j=>.int (i.fdiv j)):=opI λi j _ _ _ _ _ hc q=>floordiv_int hc.1 q (.inl (PyProof.noPylong_of_log2 (by
 have h:=hc.2;have h0:=hc.1;unfold intBits at h;have hb:(j==0)=false:=by simpa using h0
 rw[hb] at h;simp only[CQ,Dn] at h;omega)))
def wB:OpR X (binaryOp .Mult) (rI uI λi j=>.int (i*j)):=opI λi j _ _ _ _ _ hc q=>mul_int q (PySem.IntMulOk.of_le hc.1 hc.2 (by decide))
def pG(bs:List Bool):((List.range bs.length).all λi=>bs.getD i false)=bs.all id:=by
 rw[Bool.eq_iff_iff,Cv,Cv];constructor
 .intro h x hx;obtain⟨i,hi,rfl⟩:=List.mem_iff_getElem.mp hx
  have:=h i (List.mem_range.mpr hi)
  simpa [Dr,hi] using this
 .intro h i hi;have hi':=List.mem_range.mp hi
  have:=h bs[i] (List.getElem_mem hi')
  simpa [Dr,hi'] using this
def ub(hc:X.calm=true):CallR X (.builtin "all") (λxs H Q=>∃(a:Addr) (bs:List Bool),xs=[.ref a]/\SqL X.K H a (bs.map V.bl)/\Q (.bl (bs.all id)) H):=by
 intro pins s σ H xs us Q I r h;obtain⟨a,bs,rfl,hq,q⟩:=h;obtain⟨u,rfl,ru⟩:=ck r;cases ru;obtain⟨its,rv,p,hz⟩:=I.list hq;have hl:=rv.length;rw[u_] at hl;have hlt:a<s.heap.objs.size:=by obtain⟨o,n,e,_⟩:=p;exact n_ e
 refine call_all_walk (wpAny_pyIter_list p.isList ?_);refine⟨s.heap.objs.size,_,_,_,_,_,λi=>bs.getD i false,rfl,Walks.list (A:=X.A.in1) (I.ok.hd hc) s.heap.objs.size a (Ct hlt) its.toArray,⟨⟨_,CB _ rfl,rfl,rfl⟩,(p.keeps λb o e=>m_ _ e).isList⟩,λi v s' Q' E' hP hQ=>?_,λh' tk hk=>?_⟩
 .have hP':its[i]?=some v:=by simpa using hP
  have hi:i<bs.length:=by rw[hl];exact (l_.mp hP').1
  have hb:(bs.map V.bl)[i]?=some (V.bl bs[i]):=by simp [hi]
  obtain⟨u,hu,ru⟩:=rv.get hb;rw[hP'] at hu;cases hu;cases ru;refine Dk ?_;have e:bs.getD i false=bs[i]:=by simp [Dr,hi]
  show Q' bs[i] s';rw[<- e];exact hQ
 .have e1:its.toArray.size=bs.length:=by rw[w_,hl]
  rw[e1,pG];have hn:H s.heap.objs.size=none:=I.fresh;have I1:Inv X pins σ H { s with heap:=s.heap.push { cls:=.type "list_iterator",dict:=none,data:=.fields #[.ref a,rawInt 0] } }:=I.kept (t':=s.toks) λb o e=>m_ _ e;refine⟨.bl _,H,?_,rfl,q⟩;refine I.kept (t':=tk) λb o e=>?_;have hne:b≠s.heap.objs.size:=Ct (n_ e);exact hk b o (by simpa using hne) (m_ _ e)
end
structure Def(K:W.Frag)(mg:Eh)(x:Str)(st:Stmt):Prop where
 ex:∃f fd,Fun K x x st f fd/\mg x=some (.ref f)
def qT{K:W.Frag}{h:Heap}{mg:Eh}{x:Str}{st:Stmt}{f:Addr}{oc:Value}{od an:Option Addr}{osl:Array (Option Value)}{kV doc pm cdv ct:Value}(X:K.In h)(G:h.Ns mainGlobals mg)
 (a:W.nsIn K mainGlobals x=some (some (.ref f))) (l:K.lookup f=some ⟨oc,od,.func (W.fnOf x x (bC st) (aN st) (aj st) .none kV doc pm an cdv ct),osl⟩)
 (c:W.codeIn K cdv x=true) (k:W.keepIn K (.ref f)=true):Def K mg x st:=⟨f,_,zL l c k,W.mg_of X G a⟩
def Fun.look{K:W.Frag}{x qual:Str}{st:Stmt}{f:Addr}{fd:FuncData}(F:Fun K x qual st f fd):∃oc od osl,K.lookup f=some ⟨oc,od,.func fd,osl⟩:=by obtain⟨oc,od,kV,doc,pm,an,cdv,ct,osl,rfl,lk,hcd⟩:=F.ex;exact⟨oc,od,osl,lk⟩
structure Callee(P:Program)(w:World)(K:W.Frag)(mg:Eh)(base:Heap)(x:Str)(k:Nat)(ps:List Str)(sp:Sp):Prop where
 ex:∃f fd,FnOk P w K mg base (CX1 P w) k f fd ps sp/\mg x=some (.ref f)/\W.keepIn K (.ref f)=true/\Binds K fd ps []/\∃oc od osl,K.lookup f=some ⟨oc,od,.func fd,osl⟩
section
variable{P:Program}{w:World}{K:W.Frag}{mg:Eh}{base:Heap}{x:Str}{st:Stmt}{k:Nat}{ps N:List Str}{sp:Sp}
def Callee.imp(C:Callee P w K mg base x k ps sp)(h:∀vs H Q E,sp' vs H Q E->sp vs H Q E):Callee P w K mg base x k ps sp':=by obtain⟨f,fd,F,r⟩:=C.ex;exact⟨f,fd,F.imp h,r⟩
def Def.okR(D:Def K mg x st)(S:FnScope N ps (aj st))
 (hb:∀(kV doc pm:Value) (an:Option Addr) (cdv ct:Value) (us:List Value),us.length=ps.length->bindArgs (W.fnOf x x (bC st) (aN st) (aj st) .none kV doc pm an cdv ct) ⟨us,[]⟩=pure (ps.zip us))
 (len:∀vs H Q E,sp vs H Q E->vs.length=ps.length)
 (d_:∀(f:Addr) (cdv:Value) (A:Around) (outer:List Env) (s:Shared) (H:Hp) (vs:List V) (Q:VK) (E:XK),Room k (A.deeper (envOfC x (aj st) s.heap.objs.size f cdv))->sp vs H Q E->
  ∃t,PSs (bR (CX1 P w) P w K mg base N x (aj st) f cdv A outer s H E) (aN st) t/\t { nx:=λ_ H'=>Q .non H',rt:=Q } (bK N vs) H):Callee P w K mg base x (k+1) ps sp:=by
 obtain⟨f,fd,F,m⟩:=D.ex;exact⟨f,fd,F.okR S len (d_ f),m,F.kp,F.binds hb,F.look⟩
end
section
variable{X:Cx}{K:W.Frag}
def qZ(h:X.K=K)(hc:X.calm=true):CallR X (.builtin "all") (λxs H Q=>∃(a:Addr) (bs:List Bool),xs=[.ref a]/\SqL K H a (bs.map V.bl)/\Q (.bl (bs.all id)) H):=by subst h;exact ub hc
def Room.u180(r:Room k A):A.units+180<cLine:=by have:=r.un;omega
def sI(h:X.K=K)(hu:X.A.units+180<cLine):OpR X (compareOp .Eq) (tq K):=by subst h;exact zE hu
def neDK(h:X.K=K)(hu:X.A.units+180<cLine):OpR X (compareOp .NotEq) (sS K):=by subst h;exact zU hu
end
section
variable{X:Cx}
def zk{h_ iter tg:Expr}{j_:List Expr}{scope:Scope}{pos:Pos}{wi:TI}{g:TG}{tc:TT}{te:TE}{N:List Str}{sub:Ek}{iT:Nat}{xT:Str}{px spos:Pos}
 (hc:X.calm=true) (hN:X.N.Nodup) (hix:X.N[iT]?=some xT) (hxl:Loc X.env.scope xT) (hi:PI X tg iter wi)
 (hk:scope.kind=.function) (hnc:∀x∈scope.names,x.2 ≠ .cell) (b_:∀x∈scope.names,x.2=.local->scope.names.lookup x.1=some .local)
 (hfr:∀x∈scope.names,x.2=.free->X.env.kindOf x.1=some .cell\/X.env.kindOf x.1=some .free)
 (hsl:sub.length=N.length) (i_:∀(j i:Nat) (x:Str),sub[j]?=some (some i)->N[j]?=some x->X.N[i]?=some x/\scope.names.lookup x=some .free)
 (hg:∀cl C s₂ H fp,PG (aC X N scope cl C s₂ H fp) tg g) (ht:∀cl C s₂ H fp,PTs (aC X N scope cl C s₂ H fp) j_ tc) (he:∀cl C s₂ H fp,PE (aC X N scope cl C s₂ H fp) h_ te)
 (hsw:swapsWith (.ListComp h_ [⟨tg,iter,j_,0⟩] scope pos) (some (.Name xT px)) spos.line X.env=pure true)
 (hs:∀x,foldedSetIterable iter X.env x=pure x) (hf:X.fn xT=true\/X.env.scope.names.lookup xT=some .local):
 PS X (.Assign [.Name xT px] (.ListComp h_ [⟨tg,iter,j_,0⟩] scope pos) spos) (nV (eX wi sub g tc te) (j9 iT)):=by
 intro pins s σ H D0 I h;rw[exec_Assign_Name_used _ _ _ _ hsw];refine k_ (Dc (k_ ?_));show wpAny _ X.A (do let _ <- comprehension (.ListComp h_ [⟨tg,iter,j_,0⟩] scope pos) scope X.env _ (newList []) false (eval iter X.env) (some (assign (.Name xT px) X.env))) _ _ s;refine k_ (z_ (mS (use:=some (assign (.Name xT px) X.env)) (R:=λ_ s'=>SP X pins D0 .next s') hc hi hk hnc b_ hfr hsl i_ hg ht he hs I h λD C s4 e=>?_) (λ_ s' hq=>s_ (s_ hq)) λ_ _ e=>e);obtain⟨m,hm⟩:=e.ns;obtain⟨H',hC,q,i⟩:=e.inv;have dc:=e.dc;have fr:=e.fr;refine wpAny_assign_Name (jS (v:=.ref D) (i s4.heap ⟨rfl,λ_ _=>rfl⟩) hN hix hxl rfl (λs7 I7 ⟨a7,sb7,ha7⟩=>?_) hf);have ha:a7<D:=by
  rcases ha7 with z |z
  .rw[z];exact fr
  .exact e.cell xT a7 z
 refine⟨m,hm.sameBut sb7 (D9 (D8 ha dc)),λh8 hs8=>⟨_,_,I7.turned (it:=C) (t':=s7.toks) (λb o hb e=>hs8.extBut b o hb e) hC (D9 (D8 fr dc)) (.inr (Cw e.sz (Nat.le_of_lt dc))) (λx c q=>Ct (D8 (e.cell x c q) dc)) (λp hp=>Ct (D8 (e.pin p hp) dc)),q⟩⟩
end
end L2
namespace Fr
noncomputable def dv (a b:Int):Int:=if b<0 then -((Int.gcd a b:Nat):Int) else ((Int.gcd a b:Nat):Int)
def T(a b:Int):Int:=a.fdiv (dv a b)
def B(a b:Int):Int:=b.fdiv (dv a b)
def lu(hb:b≠0):0<Int.gcd a b:=Int.gcd_pos_of_ne_zero_right a hb
def dv_ne(hb:b≠0):dv a b≠0:=by
 have:=lu (a:=a) hb
 unfold dv;split <;> omega
def tG(a b:Int):dv a b ∣ a:=by
 have h:((Int.gcd a b:Nat):Int) ∣ a:=Int.gcd_dvd_left a b;unfold dv;split
 .exact Int.neg_dvd.mpr h
 .exact h
def sZ(a b:Int):dv a b ∣ b:=by
 have h:((Int.gcd a b:Nat):Int) ∣ b:=Int.gcd_dvd_right a b;unfold dv;split
 .exact Int.neg_dvd.mpr h
 .exact h
def nG{a d q:Int}(hd:d≠0)(h:a=d*q):a.fdiv d=q:=by rw[h,Dy];exact Int.mul_fdiv_cancel q hd
def T_mul(hb:b≠0):T a b*dv a b=a:=by obtain⟨q,h⟩:=tG a b;have:T a b=q:=nG (dv_ne hb) h;rw[this,Dy];exact h.symm
def B_mul(hb:b≠0):B a b*dv a b=b:=by obtain⟨q,h⟩:=sZ a b;have:B a b=q:=nG (dv_ne hb) h;rw[this,Dy];exact h.symm
def B_pos(hb:b≠0):0<B a b:=by
 have h:=B_mul (a:=a) hb;have hg:=lu (a:=a) hb;generalize hx:B a b=x at h ⊢;unfold dv at h;split at h
 .rename_i hneg;have h2:x*((Int.gcd a b:Nat):Int)=-b:=by rw[Int.mul_neg] at h;omega
  rcases Int.lt_or_le 0 x with z |z
  .exact z
  .have:x*((Int.gcd a b:Nat):Int)<=0:=Int.mul_nonpos_of_nonpos_of_nonneg z (by omega);omega
 .rename_i hpos;rcases Int.lt_or_le 0 x with z |z
  .exact z
  .have:x*((Int.gcd a b:Nat):Int)<=0:=Int.mul_nonpos_of_nonpos_of_nonneg z (by omega);omega
def cross(hb:b≠0):T a b*b=a*B a b:=by have h1:=T_mul (a:=a) hb;have h2:=B_mul (a:=a) hb;generalize T a b=x at *;generalize B a b=y at *;generalize dv a b=d at *;rw[<- h2,<- h1];rw[<- CY,Dz]
def dv_abs(a b:Int):(dv a b).natAbs=Int.gcd a b:=by unfold dv;split <;> simp
def low(hb:b≠0):Int.gcd (T a b) (B a b)=1:=by
 have h1:=T_mul (a:=a) hb;have h2:=B_mul (a:=a) hb;have hg:=lu (a:=a) hb;have e1:a.natAbs=(T a b).natAbs*Int.gcd a b:=by rw[<- dv_abs a b,<- DK,h1]
 have e2:b.natAbs=(B a b).natAbs*Int.gcd a b:=by rw[<- dv_abs a b,<- DK,h2]
 have e3:Int.gcd a b=Nat.gcd ((T a b).natAbs*Int.gcd a b) ((B a b).natAbs*Int.gcd a b):=by rw[<- e1,<- e2];rfl
 rw[Nat.gcd_mul_right] at e3;show Nat.gcd (T a b).natAbs (B a b).natAbs=1;generalize Nat.gcd (T a b).natAbs (B a b).natAbs=k at *;generalize Int.gcd a b=g at *;have:(1:Nat)*g=k*g:=by omega
 exact (Nat.eq_of_mul_eq_mul_right hg this).symm
def uniq(hy:0<y)(hy':0<y')(h:Int.gcd x y=1)(h':Int.gcd x' y'=1)(e:x*y'=x'*y):x=x'/\y=y':=by
 have c1:Nat.Coprime y.natAbs x.natAbs:=by rw[Nat.coprime_comm];exact h
 have c2:Nat.Coprime y'.natAbs x'.natAbs:=by rw[Nat.coprime_comm];exact h'
 have e1:x.natAbs*y'.natAbs=x'.natAbs*y.natAbs:=by rw[<- DK,<- DK,e]
 have d1:y.natAbs ∣ y'.natAbs:=c1.dvd_of_dvd_mul_left (by rw[e1];exact Nat.dvd_mul_left _ _);have d2:y'.natAbs ∣ y.natAbs:=c2.dvd_of_dvd_mul_left (by rw[<- e1];exact Nat.dvd_mul_left _ _);have ey:y.natAbs=y'.natAbs:=Nat.dvd_antisymm d1 d2;have ey':y=y':=by omega
 subst ey';exact⟨Dq (by omega) e,rfl⟩
def fJ(hb:b≠0)(hd:d≠0)(e:a*d=c*b):T a b=T c d/\B a b=B c d:=by
 refine uniq (B_pos hb) (B_pos hd) (low hb) (low hd) ?_;have h1:=cross (a:=a) hb;have h2:=cross (a:=c) hd;have hbd:b*d≠0:=Int.mul_ne_zero hb hd;refine Dq hbd ?_
 calc T a b*B c d*(b*d)=(T a b*b)*(B c d*d):=by rw[CY,Di (B c d) b d,<- CY]
  _=(a*B a b)*(B c d*d):=by rw[h1]
  _=(a*d)*(B c d*B a b):=by rw[CY a,CY a,Di (B a b),Di d,Dy (B a b) d]
  _=(c*b)*(B c d*B a b):=by rw[e]
  _=(c*B c d)*(B a b*b):=by rw[CY c,CY c,Di b,Dy b (B a b)]
  _=(T c d*d)*(B a b*b):=by rw[<- h2]
  _=T c d*B a b*(b*d):=by rw[CY,CY,Di d,Dy d b]
def self(hb:0<b)(h:Int.gcd a b=1):T a b=a/\B a b=b:=
 uniq (B_pos (by omega)) hb (low (by omega)) h (cross (by omega))
def euc(m n:Nat):Nat.gcd n (m % n)=Nat.gcd m n:=by rw[Nat.gcd_comm,<- Nat.gcd_rec,Nat.gcd_comm]
end Fr
set_option maxHeartbeats 1000000
namespace L2
open PySem PySem.Spec PyProof.Rows
def SqB(K:W.Frag)(b:Bool)(H:Hp)(a:Addr)(xs:List V):Prop:=match b with
 |true=>SqL K H a xs
 |false=>SqT K H a xs
inductive D where
 |non |bl (b:Bool) |int (i:Int) |str (x:Str) |ty (n:String) |glb (x:Str) |exc (x:Str) |tup (xs:List D) |ref (n:Nat) |kl (xs:List D)
 deriving Inhabited
inductive Ob where
 |lst (xs:List D) |fz (xs:List D) |set (xs:List Int) |dct (kvs:List (Key×D)) |any
 deriving Inhabited
abbrev AH:=List Ob
abbrev AE:=List (Option D)
inductive R(α:Type) where
 |ok (a:α) (h:AH) |exc (c:Str) (h:AH) |stuck
inductive SR where
 |nx (ae:AE) (h:AH) |rt (d:D) (h:AH) |bk (ae:AE) (h:AH) |ct (ae:AE) (h:AH) |exc (c:Str) (ae:AE) (h:AH) |stuck
abbrev ME:=AE->AH->R D
abbrev MT:=AE->AH->R Bool
abbrev MA:=AE->AH->R (List D)
abbrev MS:=AE->AH->SR
section
variable(K:W.Frag)(mg:Eh)
def codO(c:Addr)(q:Str):Heap->Prop:=λh=>h.CodeRec (.ref c) q
noncomputable def rm:List Str:=["by_falling_weights", "least_around"]
def tu(P:Addr)(q:Str):Prop:=∃(x:Str) (f:Addr) (oc:Value) (od:Option Addr) (fd:FuncData) (sl:Array (Option Value)) (c:Addr),x∈rm/\(∀y∈rm,y≠x->mg y=none)/\mg x=some (.ref f)/\K.lookup f=some ⟨oc,od,.func fd,sl⟩/\fd.code=.ref c/\W.codeHdIn K c P=true/\q=fd.qualname ++ ".<locals>." ++ "<lambda>"
def bmP(o:Obj):Prop:=o.cls=.type "module" /\ o.dict=some builtinsNs/\o.data=.plain
def rT(H:Hp):Prop:=∃b o,mg "__builtins__"=some (.ref b)/\b≠builtinsNs/\b≠mainGlobals/\bmP o/\(K.lookup b=some o\/∃u,H b=some (.frz o u))
end
section
variable{X:Cx}{e:Expr}{es:List Expr}{st:Stmt}{sts:List Stmt}
def PE.imp(h:PE X e t)(k:∀σ H Q,t' σ H Q->t σ H Q):PE X e t':=λpins s σ H Q I w=>h pins s σ H Q I (k σ H Q w)
def PT.imp(h:PT X e t)(k:∀σ H Q,t' σ H Q->t σ H Q):PT X e t':=λpins s σ H Q I w=>h pins s σ H Q I (k σ H Q w)
def PW.imp(h:PW X e t)(k:∀σ H Q,t' σ H Q->t σ H Q):PW X e t':=λwh pins s σ H Q I w=>h wh pins s σ H Q I (k σ H Q w)
def PA.imp(h:PA X es t)(k:∀σ H Q,t' σ H Q->t σ H Q):PA X es t':=λpos pins s σ H Q I w=>h pos pins s σ H Q I (k σ H Q w)
def PS.imp(h:PS X st t)(k:∀D σ H,t' D σ H->t D σ H):PS X st t':=λpins s σ H D I w=>h pins s σ H D I (k D σ H w)
def PSs.imp(h:PSs X sts t)(k:∀D σ H,t' D σ H->t D σ H):PSs X sts t':=λpins s σ H D I w=>h pins s σ H D I (k D σ H w)
def PG.imp(h:PG X e t)(k:∀v σ H Q,t' v σ H Q->t v σ H Q):PG X e t':=λpins s σ H v u Q I r w=>h pins s σ H v u Q I r (k v σ H Q w)
def PGs.imp(h:PGs X es t)(k:∀v σ H Q,t' v σ H Q->t v σ H Q):PGs X es t':=λpins s σ H v u Q I r w=>h pins s σ H v u Q I r (k v σ H Q w)
def PO.imp(h:PO X o t)(k:∀σ H Q,t' σ H Q->t σ H Q):PO X o t':=λpins s σ H Q I w=>h pins s σ H Q I (k σ H Q w)
end
abbrev MG:=D->AE->AH->R AE
abbrev MGs:=List D->AE->AH->R AE
noncomputable def g2 (f:Int->Int->R D) (x y:D):R D:=match x,y with
 |.int i,.int j=>f i j
 |_,_=>.stuck
section
variable{K:W.Frag}{X:Cx}
def j5(K:W.Frag):R2:=λx y H Q=>∃a b ys,x=.ref a/\y=.ref b/\SqT K H a []/\SqT K H b ys/\Q (.ref b) H
def vp:OpR X (binaryOp .Add) (j5 X.K):=by
 intro pins s σ H x y v u Q I rx ry h;obtain⟨a,b,ys,rfl,rfl,ha,hb,q⟩:=h;cases rx;cases ry;obtain⟨its,r1,p1,_⟩:=I.tuple ha;obtain⟨its2,r2,p2,_⟩:=I.tuple hb;have e:its=[]:=r1.nil_iff.mpr rfl;subst e;obtain⟨⟨cls,dd,data,sl⟩,ho,hc,n,hd⟩:=id p1;obtain⟨⟨cls2,dd2,data2,sl2⟩,ho2,hc2,n2,hd2⟩:=id p2;simp only at hc hd hc2 hd2;subst hc hd hc2 hd2;exact concat_meets ⟨_,ho,rfl⟩ ⟨_,ho2,rfl⟩ noFill_tuple_add seq_tuple_add DV DP (DH _ _)
  (tuple_addW0 _ _ _ _ n n2 dd dd2 sl sl2 rfl) ⟨ho,ho2,⟨.ref b,H,I,rfl,q⟩⟩
def ixK(h:X.K=K):IxR X (λx y H Q=>ud K x y H Q\/uc K x y H Q):=by subst h;exact w6.or yu
def catK(h:X.K=K):OpR X (binaryOp .Add) (λx y H Q=>nQ x y H Q\/(kf K x y H Q\/j5 K x y H Q)):=by subst h;exact y9.or (vw.or vp)
end
noncomputable def Itx (x:Str):It:=⟨λj _=>j<x.cps.toList.length,λj G v G'=>G'=G/\∃c,x.cps.toList[j]?=some c/\v=.str ⟨#[c]⟩,λj _=>x.cps.toList.length<=j⟩
inductive AIt where
 |lst (n:Nat) (xs:List D) |tup (xs:List D) |rng (lo:Int) (k:Nat) |rgd (lo:Int) (k:Nat) |txt (x:Str) |enm (s:AIt) |zip (s t:AIt)
abbrev MI:=AE->AH->R AIt
section
variable{K:W.Frag}{X:Cx}{tg iter e a b:Expr}{I:MI}
def PI.imp(h:PI X tg iter t)(k:∀σ H Q,t' σ H Q->t σ H Q):PI X tg iter t':=λpins s σ H Q I w=>h pins s σ H Q I (k σ H Q w)
def xk(hl:PE X l tl):PI X tg l (λσ H R=>tl σ H λx H1=>(∃a,x=.ref a/\(∃xs,SqL X.K H1 a xs)/\R (Itl X.K a) H1)\/(∃a,x=.ref a/\(∃xs,SqT X.K H1 a xs)/\R (Itt X.K a) H1)):=by
 intro pins s σ H R I h;refine thn (hl pins s σ H _ I h) λv s1 zz=>exA zz λx H1 I1 r1 q1=>?_;rcases q1 with ⟨a,e,⟨xs,hq⟩,q⟩ |⟨a,e,⟨xs,hq⟩,q⟩
 .subst e;cases r1;obtain⟨its,rv,p,hz⟩:=I1.list hq;refine wpAny_pyIter_list p.isList ?_;refine⟨s1.heap.objs.size,[s1.heap.objs.size],_,_,H1,rfl,I1.kept (t':=s1.toks) λb o e=>m_ _ e,pL a _,⟨_,CB _ rfl,rfl,rfl⟩,λb hb=>?_,q⟩;have e:b=s1.heap.objs.size:=by simpa using hb
  subst e;exact I1.fpOk (v_ _) (I1.hok.fresh (v_ _))
 .subst e;cases r1;obtain⟨its,rv,p,hz⟩:=I1.tuple hq;refine wpAny_pyIter_tuple (show s1.heap.IsTuple a its.toArray from p) ?_;refine⟨s1.heap.objs.size,[s1.heap.objs.size],_,_,H1,rfl,I1.kept (t':=s1.toks) λb o e=>m_ _ e,og a _,⟨_,CB _ rfl,rfl,rfl⟩,λb hb=>?_,q⟩;have e:b=s1.heap.objs.size:=by simpa using hb
  subst e;exact I1.fpOk (v_ _) (I1.hok.fresh (v_ _))
end
section
variable{K:W.Frag}{X:Cx}
def BL(h:X.K=K):CallR X (.builtin "len") (λxs H Q=>(∃p ys,xs=[.ref p]/\(SqL K H p ys\/SqT K H p ys)/\Q (.int ys.length) H)\/(∃z,xs=[.str z]/\z.length<=sizeLine/\Q (.int z.length) H)):=by subst h;exact lN.or k8
def yM(h:X.K=K):CallR X (.type "list") (λxs H Q=>∃p ys,xs=[.ref p]/\(SqL K H p ys\/SqT K H p ys)/\∀l,H l=none->Q (.ref l) (upd H l (.lst ys))):=by subst h;exact mr
def wo(h:X.K=K):CallR X (.type "tuple") (λxs H Q=>∃p ys,xs=[.ref p]/\((SqL K H p ys/\∀l,H l=none->Q (.ref l) (upd H l (.tup ys)))\/(SqT K H p ys/\Q (.ref p) H))):=by subst h;exact jZ
end
inductive Cl where
 |b (n:String) |o (x:Str)
 deriving DecidableEq
def ClV(mg:Eh):Cl->Value->Prop
 |.b n,v=>v=.type n
 |.o x,v=>∃a,v=.ref a/\mg x=some (.ref a)
abbrev eW:=List (Cl×Cl×Bool)
structure KitsOk(K:W.Frag)(mg:Eh)(kt:eW):Prop where
 one:∀p∈kt,∀t v,ClV mg p.1 t->ClV mg p.2.1 v->W.kitOne K t v=some p.2.2
 xc:∀p∈kt,∀x C,p.1=.o x->mg x=some (.ref C)->XCls K C
noncomputable def kit (kt:eW) (t c:Cl):Option Bool:=(kt.find? λp=>decide (p.1=t)&&decide (p.2.1=c)).map (·.2.2)
noncomputable def du (kt:eW) (t:Cl):List Cl->Option Bool
 | []=>some false
 |c::r=>match kit kt t c with
  |some true=>some true
  |some false=>du kt t r
  |none=>none
def iF(e:kit kt t c=some b):(t,c,b)∈kt:=by
 unfold kit at e;cases q:kt.find? (λp=>decide (p.1=t)&&decide (p.2.1=c)) with
 |none=>rw[q] at e;cases e
 |some p=>rw[q] at e;have h1:=List.find?_some q;have h2:=List.mem_of_find?_eq_some q;simp only[p_,DR] at h1;obtain⟨p1,p2,p3⟩:=p;have e3:p3=b:=x_ e;obtain⟨rfl,rfl⟩:=h1;subst e3;exact h2
section
variable{K:W.Frag}{mg:Eh}{X:Cx}{H:Hp}{h:AH}
def qI(ok:KitsOk K mg kt)(ht:ClV mg t tv):∀{cs:List Cl}{cvs:List Value}{b:Bool},Paired (ClV mg) cs cvs->du kt t cs=some b->W.kitAny K tv cvs=some b:=by
 intro cs;induction cs with
 |nil=>intro cvs b r e;cases r;cases e;rfl
 |
  cons c cs ih=>
  intro cvs b r e;cases r with
  |
   cons r rr=>
   unfold du at e;unfold W.kitAny;cases q:kit kt t c with
   |none=>rw[q] at e;cases e
   |
    some z=>
    rw[q] at e;rw[ok.one _ (iF q) _ _ ht r];cases z with
    |true=>exact e
    |false=>exact ih rr e
def qK:CallR X (.builtin "isinstance") (λxs H Q=>∃x tp cs t vs b,xs=[x,.ref tp]/\SqT X.K H tp cs/\TyX X.K H x t/\cs.mapM cR=some vs/\W.kitAny X.K t vs=some b/\Q (.bl b) H):=by intro pins s σ H xs us Q I r h;obtain⟨x,tp,cs,t,vs,b,rfl,ht,ty,hc,hk,q⟩:=h;obtain⟨u,w',rfl,rx,rc⟩:=om r;cases rc;obtain⟨its,rv,⟨o,e,c,n,d⟩,_⟩:=I.tuple ht;obtain rfl:=jN hc rv;obtain⟨Hh,Z,p,hne⟩:=nj I rx ty;obtain⟨oc,od,odt,osl⟩:=o;have c':oc=.type "tuple":=c;have d':odt=.seq its.toArray n:=d;subst c' d';exact W.kia_tup Z I.kIn p e hk hne λtk=>⟨.bl b,H,I.tok _,rfl,q⟩
def AB(hK:X.K=K):CallR X (.builtin "isinstance") (λxs H Q=>(∃x c t v b,xs=[x,c]/\TyX K H x t/\cR c=some v/\W.kitOne K t v=some b/\Q (.bl b) H)\/
 (∃x tp cs t vs b,xs=[x,.ref tp]/\SqT K H tp cs/\TyX K H x t/\cs.mapM cR=some vs/\W.kitAny K t vs=some b/\Q (.bl b) H)):=by subst hK;exact tj.or qK
end
section
variable{K:W.Frag}{X:Cx}{H:Hp}{h:AH}
inductive EqsR(K:W.Frag)(H:Hp)(y:V)(pd:PyData):List V->List Bool->Prop where
 |nil:EqsR K H y pd [] []
 |cons {x:V}{px:PyData}{xs:List V}{bs:List Bool} (rx:Rep K H x px) (hx:shp px=true) (r:EqsR K H y pd xs bs):EqsR K H y pd (x::xs) (PyData.eqv px pd::bs)
def rEqs(K:W.Frag)(H:Hp)(l:Addr)(y:V)(bs:List Bool):Prop:=∃xs pd,SqL K H l xs/\Rep K H y pd/\shp pd=true/\EqsR K H y pd xs bs
def kX(I:Inv X pins σ H s)(hu:X.A.units+190<cLine)(ry:Rep X.K H y pd)(rv:RelV y v)(hy:shp pd=true):∃e:Value->Bool,∀{xs:List V}{bs:List Bool}{its:List Value},EqsR X.K H y pd xs bs->Vals xs its->its.map e=bs/\∀u∈its,SeqAt.EqAt X.A.in1 s u v (e u):=by
 classical
 obtain⟨as,q1⟩:=ry.reads I rv;refine⟨λu=>if q:∃d as,Reads s.heap u d as/\shp d=true then PyData.eqv q.choose pd else false,λ{xs bs its} r rr=>?_⟩;induction r generalizing its with
 |nil=>cases rr;exact⟨rfl,λu hu=>nomatch hu⟩
 |
  cons rx hx r ih=>
  rename_i x px xs bs;cases rr with
  |
   cons r1 rr=>
   rename_i u us;obtain⟨ih1,ih2⟩:=ih rr;obtain⟨as1,q2⟩:=rx.reads I r1;have hq:∃d as,Reads s.heap u d as/\shp d=true:=⟨px,as1,q2,hx⟩;have e1:(if q:∃d as,Reads s.heap u d as/\shp d=true then PyData.eqv q.choose pd else false)=PyData.eqv px pd:=by
    rw[dif_pos hq];obtain⟨as2,q3,hs3⟩:=hq.choose_spec
    have:=SeqAt.Reads.unique px hq.choose u _ _ (cN hx) q2 q3
    rw[<- this]
   refine⟨by rw[Cr,ih1,e1],λw hw=>?_⟩;rcases Cu.mp hw with rfl |hw
   .dsimp only;rw[e1];exact SeqAt.eqAt_reads px pd X.A.in1 s _ _ _ _ q2 q1 (cN hx) (cN hy) (gF hx (by have:X.A.in1.units=X.A.units+1:=rfl;rw[this];omega))
   .exact ih2 w hw
def iX(K:W.Frag):V->List V->Hp->VK->Prop:=λx vs H Q=>∃l y bs,x=.ref l/\vs=[y]/\rEqs K H l y bs/\bs.idxOf true<bs.length/\Q (.int (bs.idxOf true:Nat)) H
def iG(K:W.Frag):V->List V->Hp->VK->Prop:=λx vs H Q=>∃l y bs,x=.ref l/\vs=[y]/\rEqs K H l y bs/\Q (.int (bs.count true:Nat)) H
def EqsR.len(r:EqsR K H y pd xs bs):xs.length=bs.length:=by
 induction r with
 |nil=>rfl
 |cons _ _ _ ih=>rw[CF,CF,ih]
def sT(hu:X.A.units+190<cLine):MtM X "list.index" (iX X.K):=by
 intro pins s σ H x vs v us Q I rx rv h;obtain⟨l,y,bs,rfl,rfl,⟨xs,pd,hq,ry,hy,re⟩,hi,q⟩:=h;cases rx;obtain⟨u,rfl,ru⟩:=rv.one;obtain⟨e,he⟩:=kX I hu ry ru hy;obtain⟨its,r,⟨o,n,eo,hc,hd,hs⟩,hz⟩:=I.list hq;obtain⟨m1,m2⟩:=he re r;have hlen:=r.length;have hbl:=re.len;have hn:=eI;have hj:bs.idxOf true<its.toArray.size:=by rw[w_];omega
 have eo':s.heap.get? l=some { cls:=.type "list",dict:=o.dict,data:=.seq its.toArray n,slots:=o.slots }:=by rw[eo];obtain⟨oc,od,odt,osl⟩:=o;have h1:oc=.type "list":=hc;have h2:odt=.seq its.toArray n:=hs;subst h1 h2;rfl
 have em:∀(m:Nat) (hm:m<its.toArray.size),bs[m]?=some (e its.toArray[m]):=λm hm=>by
  rw[<- m1,Cs];have:its[m]?=some its.toArray[m]:=by rw[A_ (by simpa using hm)];rfl
  rw[this];rfl
 refine Dg PySem.F.slot_list_index ⟨_,eo',rfl⟩ PySem.F.entry_list_index (PySem.F.args_list_index_2 _ _)
  (SeqAt.list_indexAt l its.toArray n o.dict o.slots u e (bs.idxOf true) hj (by omega) ?_ ?_) ⟨eo',λw hw=>m2 w (by simpa using hw),?_⟩
 .have:=em _ hj
  rw[A_ hi,List.getElem_idxOf] at this;exact (x_ this).symm
 .intro m
   hm hlt
  have:=em m hm
  have hb:m<bs.length:=by omega
  rw[A_ hb] at this;have h3
   : bs[m]≠true:=λz=>by
   have h4:bs.idxOf true<=m:=by
    have:=List.idxOf_lt_length_iff (l:=bs) (a:=true)
    rcases Nat.lt_or_ge m (bs.idxOf true) with z' |z'
    .exact absurd z (by have h5:=List.not_of_lt_findIdx (xs:=bs) (p:=(· == true)) (i:=m) z';simpa using h5)
    .exact z'
   omega
  have h4:e its.toArray[m]=bs[m]:=(x_ this).symm;rw[h4];exact Bool.eq_false_iff.mpr h3
 .exact⟨.int _,H,I.tok _,⟨_,rfl⟩,q⟩
def rj(hu:X.A.units+190<cLine):MtM X "list.count" (iG X.K):=by
 intro pins s σ H x vs v us Q I rx rv h;obtain⟨l,y,bs,rfl,rfl,⟨xs,pd,hq,ry,hy,re⟩,q⟩:=h;cases rx;obtain⟨u,rfl,ru⟩:=rv.one;obtain⟨e,he⟩:=kX I hu ry ru hy;obtain⟨its,r,⟨o,n,eo,hc,hd,hs⟩,hz⟩:=I.list hq;obtain⟨m1,m2⟩:=he re r;have eo':s.heap.get? l=some { cls:=.type "list",dict:=o.dict,data:=.seq its.toArray n,slots:=o.slots }:=by rw[eo];obtain⟨oc,od,odt,osl⟩:=o;have h1:oc=.type "list":=hc;have h2:odt=.seq its.toArray n:=hs;subst h1 h2;rfl
 refine Dg PySem.F.slot_list_count ⟨_,eo',rfl⟩ PySem.F.entry_list_count (PySem.F.args_list_count_2 _ _)
  (SeqAt.list_countAt l its.toArray n o.dict o.slots u e) ⟨eo',λw hw=>m2 w (by simpa using hw),?_⟩
 have ec:its.countP e=bs.count true:=by rw[<- m1,List.count,List.countP_map];congr 1;funext w;simp
 have ec':its.toArray.toList.countP e=bs.count true:=ec;rw[ec'];exact⟨.int _,H,I.tok _,⟨_,rfl⟩,q⟩
def zv(h:X.K=K)(hu:X.A.units+190<cLine):MtM X "list.index" (iX K):=by subst h;exact sT hu
def xp(h:X.K=K)(hu:X.A.units+190<cLine):MtM X "list.count" (iG K):=by subst h;exact rj hu
end
abbrev MO:=AE->AH->R (Option Int)
section
variable{K:W.Frag}{X:Cx}{F:ME}{lo hi:Option Expr}
def rX:V->Option Int->Option Int->Hp->VK->Prop:=λx lo hi H Q=>∃z,x=.str z/\z.length<=16777216/\Q (.str (Txt.slice z lo hi)) H
def zw:SlR X rX:=by
 intro pins s σ H x v vl vu lo hi sl Q I rx hs pl pu h;obtain⟨z,rfl,hz,q⟩:=h;obtain⟨t,rfl⟩:=rx;refine⟨"str",_,PySem.F.slot_str_getitem.lookup,DL _ _ _,?_⟩;have key:∀t' k,EP X pins σ Q (.str (Txt.slice z lo hi) t') { s with toks:=k }:=λt' k=>⟨.str (Txt.slice z lo hi),H,I.tok _,⟨_,rfl⟩,q⟩;cases pl <;> cases pu
 .exact C_ (l:=none) (u:=none) (st:=none) hs rfl (Ea ⟨Cw (Txt.slice_le z _ _) hz,λt' k=>key t' k⟩)
 .exact C_ (l:=none) (u:=some (_,_)) (st:=none) hs rfl (Ea ⟨Cw (Txt.slice_le z _ _) hz,λt' k=>key t' k⟩)
 .exact C_ (l:=some (_,_)) (u:=none) (st:=none) hs rfl (Ea ⟨Cw (Txt.slice_le z _ _) hz,λt' k=>key t' k⟩)
 .exact C_ (l:=some (_,_)) (u:=some (_,_)) (st:=none) hs rfl (Ea ⟨Cw (Txt.slice_le z _ _) hz,λt' k=>key t' k⟩)
def slK(h:X.K=K):SlR X (λx lo hi H Q=>(tO K x lo hi H Q\/qV K x lo hi H Q)\/rX x lo hi H Q):=by subst h;exact (vA.or xZ).or zw
end
abbrev cxT(X:Cx)(pn:Ei)(xe:Ej):Cx:={ X with pn:=pn,xe:=xe }
section
variable{X:Cx}{pins pins2 pn:Ei}{σ:St}{H:Hp}{s:Shared}{xe:Ej}
def Inv.toT(I:Inv X pins σ H s):Inv (cxT X (X.pn++pins) xe) [] σ H s:=
 ⟨⟨I.ok.mod,I.ok.kind,I.ok.glob,I.ok.blt,I.ok.above,I.ok.inj,I.ok.has,I.ok.cab,I.ok.hd,I.ok.frames,I.ok.stk,I.ok.exf,I.ok.bs,I.ok.bsz,I.ok.noex,I.ok.exfs,I.ok.funs,I.ok.frf⟩,I.os,I.bare,I.base,I.loc,I.cell,I.free,I.freeC,λp hp=>I.pin p (by simpa using hp),I.hok,I.len⟩
def Inv.ofT(I:Inv (cxT X (X.pn++pins) xe) pins2 σ H s):Inv X pins σ H s:=
 ⟨⟨I.ok.mod,I.ok.kind,I.ok.glob,I.ok.blt,I.ok.above,I.ok.inj,I.ok.has,I.ok.cab,I.ok.hd,I.ok.frames,I.ok.stk,I.ok.exf,I.ok.bs,I.ok.bsz,I.ok.noex,I.ok.exfs,I.ok.funs,I.ok.frf⟩,I.os,I.bare,I.base,I.loc,I.cell,I.free,I.freeC,λp hp=>I.pin p (D5 _ hp),I.hok,I.len⟩
end
def walk_lawD{l:W.OpenLaw}{q:Program}{loose:List Str}{XP:(Str->Option Value)->Heap->Prop}{YP:World->Heap->Prop}{d:DefRec}{K:Params->W.Frag}{x:Str}{k:Nat}(hn:l.most=some 63)(hdf:d.params.defaults=[])(hr:Room k callerA)
 (hY:∀(w:World) (h:Heap),YP w h->(K w.params).In h)
 (F:∀(w:World) (mg:Eh) (h:Heap),(K w.params).In h->h.Ns mainGlobals mg->∀base:Heap,(K w.params).In base->base.Ns mainGlobals mg->Callee l.prog w (K w.params) mg base d.name k [x] (λvs H Q _=>∃(a:Addr) (ns:List Int),vs=[.ref a]/\iL H/\SqL (K w.params) H a (ns.map V.int)/\ns.length<=63/\∀H',Q (.bl true) H'))
 (D:∀(w:World) (mg:Eh) (h:Heap),(K w.params).In h->h.Ns mainGlobals mg->∃st,Def (K w.params) mg d.name st/\∀(kV doc pm:Value) (an:Option Addr) (cdv ct:Value) (us:List Value),us.length=1->bindArgs (W.fnOf d.name d.name (bC st) (aN st) (aj st) .none kV doc pm an cdv ct) ⟨us,[]⟩=pure ([x].zip us)):
 W.WalkO q loose XP YP l.row.toRowW d [] (λf vs=>PySem.call f vs):=by
 refine L2.walk_of (n:=63) (k:=k) (x:=x) (CX:=λw=>CX1 l.prog w) (sp:=λw=>λvs H Q _=>∃(a:Addr) (ns:List Int),vs=[.ref a]/\iL H/\SqL (K w.params) H a (ns.map V.int)/\ns.length<=63/\∀H',Q (.bl true) H') hn (by decide) hdf hr hY (λw mg fa h KX G hmg=>?_) (λ_ _ a ns hl hO hS=>⟨a,ns,rfl,hO,hS,hl,λ_=>rfl⟩) λ_ _ _ _ _ ⟨_,_,_,_,_,_,_,_,_,z⟩=>z;obtain⟨st,Dd,hbind⟩:=D w mg h KX G;obtain⟨f,fd,Ff,m⟩:=Dd.ex;have e:=hmg.symm.trans m;cases e;obtain⟨oc,od,kV,doc,pm,an,cdv,ct,osl,rfl,lk,hcd⟩:=Ff.ex;refine⟨_,λs u=>.of_eq (hbind kV doc pm an cdv ct [u] rfl),λbase kb nb=>?_⟩;obtain⟨f',fd',F',m',kp',b',oc',od',osl',lk'⟩:=(F w mg h KX G base kb nb).ex;rw[m] at m';cases m';rw[lk] at lk';cases lk';exact F'
def CMulA(i j:Int):Prop:=uI i j\/CMul i j
section
variable{K:W.Frag}{X:Cx}
def xX(h:X.K=K):OpR X (binaryOp .Add) (λx y H Q=>rI0 (λi j=>.int (i+j)) x y H Q\/(nQ x y H Q\/(kf K x y H Q\/j5 K x y H Q))):=xY.or (catK h)
def zP:OpR X (binaryOp .Mult) (rI CMulA λi j=>.int (i*j)):=by
 intro pins s σ H x y v u Q I rx ry h;obtain⟨i,j,e1,e2,hc,q⟩:=h;rcases hc with hc |hc
 .exact wB pins s σ H x y v u Q I rx ry ⟨i,j,e1,e2,hc,q⟩
 .exact xo pins s σ H x y v u Q I rx ry ⟨i,j,e1,e2,hc,q⟩
end
def dY(h1:pd.canLay0=true)(h2:pd.depth<=160):shp pd=true:=by unfold shp;rw[h1,Co h2];rfl
def Sm(n:Nat)(x:Int):Prop:=x.natAbs<2^n
def Sm.mono(h:Sm n x)(l:n<=m):Sm m x:=t_ h (CK (by omega) l)
def Sm.bits(h:Sm n x):Builtin.Int.intBits x<=n:=intBits_le_iff.mpr h
def Sm.of_le(h:Sm n y)(l:x.natAbs<=y.natAbs):Sm n x:=DD l h
def CMulA.of(h:Sm n x)(k:Sm m y)(hn:n<=100000)(hm:m<=100000):CMulA x y:=.inl ⟨Cw h.bits hn,Cw k.bits hm⟩
def CMulA.left(h:-(2^64)<x)(k:x<2^64):CMulA x y:=.inr (.inl ⟨h,k⟩)
def CMulA.right(h:-(2^64)<y)(k:y<2^64):CMulA x y:=.inr (.inr ⟨h,k⟩)
def CDivB.of(h0:y≠0)(h:Sm 8000 y):CDivB x y:=⟨h0,h.bits⟩
def qL{a b:Int}(hb:b≠0):((a:Rat)/(b:Rat)).num*b=a*((a:Rat)/(b:Rat)).den:=by
 have h2:=Rat.num_divInt_den ((a:Rat)/(b:Rat));have h3:Rat.divInt ((a:Rat)/(b:Rat)).num (((a:Rat)/(b:Rat)).den:Int)=Rat.divInt a b:=by rw[h2,Rat.divInt_eq_div]
 exact (Rat.divInt_eq_divInt_iff (by have:=((a:Rat)/(b:Rat)).den_nz;omega) hb).mp h3
def mQ(q:Rat):Int.gcd q.num q.den=1:=by
 have:=q.reduced
 exact this
def km(hb:b≠0):Fr.T a b=((a:Rat)/(b:Rat)).num/\Fr.B a b=(((a:Rat)/(b:Rat)).den:Int):=by
 refine Fr.uniq (Fr.B_pos hb) (by have:=((a:Rat)/(b:Rat)).den_pos;omega) (Fr.low hb) (mQ _) ?_;have h1:=Fr.cross (a:=a) hb;have h2:=qL (a:=a) hb;generalize ((a:Rat)/(b:Rat)).num=n at *;generalize (((a:Rat)/(b:Rat)).den:Int)=d at *;generalize Fr.T a b=x at *;generalize Fr.B a b=y at *;have h3:(x*d)*b=(n*y)*b:=by
  calc x*d*b=(x*b)*d:=by rw[Dz]
   _=a*y*d:=by rw[h1]
   _=(a*d)*y:=by rw[Dz]
   _=n*b*y:=by rw[h2]
   _=n*y*b:=by rw[Dz]
 exact Dq hb h3
def wH{q:Rat}:0<q.num ↔ 0<q:=by
 have h1:=Rat.num_nonneg (q:=q);have h2:=Rat.num_eq_zero (q:=q);constructor
 .intro h;refine Rat.lt_of_le_of_ne (h1.mp (by omega)) λz=>?_
  have:=h2.mpr z.symm
  omega
 .intro h;have h3:=h1.mpr (Rat.le_of_lt h);have h4:q.num≠0:=λz=>(Rat.ne_of_lt h) (h2.mp z).symm;omega
def tX{P:Program}{w:World}{H:Hp}(h:Heap)(hb:sysModules<h.objs.size):ObjOk P w H (h.push { cls:=.type "dict",data:=.dict #[] }) h.objs.size (.dK []):=
 ⟨CP _,Cq.mpr (Ne.symm (Ct hb)),[],.nil,Heap.DictOf.new h⟩
def Inv.big{X:Cx}{pins:Ei}{σ:St}{H:Hp}{s:Shared}(I:Inv X pins σ H s):sysModules<s.heap.objs.size:=by have h:mainGlobals<s.heap.objs.size:=(I.mod.glob.keeps I.bk).lt;exact D8 (by decide) h
variable{K:W.Frag}{mg:Eh}
section
variable{κ:Type}[DecidableEq κ]
noncomputable def cD (kvs:List (κ×V)) (k:κ):Option V:=(kvs.find? λkv=>decide (kv.1=k)).map (·.2)
noncomputable def bQ (kvs:List (κ×V)) (k:κ) (v:V):List (κ×V):=
 if (kvs.any λkv=>decide (kv.1=k))=true then kvs.map (λkv=>if kv.1=k then (kv.1,v) else kv) else kvs++[(k,v)]
def gj{p:κ×V}{r:List (κ×V)}{k:κ}(e:p.1=k):cD (p::r) k=some p.2:=by simp [cD,C3,e]
def gE{p:κ×V}{r:List (κ×V)}{k:κ}(e:¬ p.1=k):cD (p::r) k=cD r k:=by simp [cD,C3,e]
theorem gn(k:κ):∀kvs:List (κ×V),(kvs.any λkv=>decide (kv.1=k))=(cD kvs k).isSome
 | []=>rfl
 |
  p::r=>by
  rw[DX];by_cases e:p.1=k
  .simp only[gj e,Co e,Bool.true_or,Option.isSome_some]
  .rw[gE e,Cp e,Bool.false_or];exact gn k r
def d6(kvs:List (κ×V))(k:κ)(v:V):(bQ kvs k v).length<=kvs.length+1:=by
 unfold bQ;split
 .rw[u_];omega
 .rw[Cz,CF,C4];omega
def sV{kvs:List (κ×V)}{k:κ}(v:V)(h:cD kvs k=none):bQ kvs k v=kvs++[(k,v)]:=by unfold bQ;rw[gn,h];exact if_neg (by decide)
def RelO.isSome_eq(r:RelO o u):o.isSome=u.isSome:=by
 cases o with
 |none=>cases u with
  |none=>rfl
  |some _=>exact (show False from r).elim
 |some _=>cases u with
  |none=>exact (show False from r).elim
  |some _=>rfl
def KV.val(r:KV kvs vs)(k:κ):RelO (cD kvs k) (valueAt vs k):=by
 unfold KV at r;induction r with
 |nil=>exact True.intro
 |
  @cons p q ps qs h t ih=>
  obtain⟨h1,h2⟩:=h;by_cases e:p.1=k
  .have e':q.1=k:=h1.symm.trans e;have b:valueAt (q::qs) k=some q.2:=by simp [valueAt,C3,e']
   rw[gj e,b];exact h2
  .have e':¬ q.1=k:=λz=>e (h1.trans z);have b:valueAt (q::qs) k=valueAt qs k:=by simp [valueAt,C3,e']
   rw[gE e,b];exact ih
def KV.any(r:KV kvs vs)(k:κ):(kvs.any λkv=>decide (kv.1=k))=vs.any λkv=>decide (kv.1=k):=by
 unfold KV at r;induction r with
 |nil=>rfl
 |cons h t ih=>rw[DX,DX,ih,h.1]
def KV.repl(r:KV kvs vs)(k:κ)(ry:RelV y u):
 KV (kvs.map λkv=>if kv.1=k then (kv.1,y) else kv) (vs.map λkv=>if kv.1=k then (kv.1,u) else kv):=by
 unfold KV at r ⊢;induction r with
 |nil=>exact .nil
 |
  @cons p q ps qs h t ih=>
  rw[Cr,Cr];refine .cons ?_ ih;obtain⟨h1,h2⟩:=h;by_cases e:p.1=k
  .rw[if_pos e,if_pos (h1.symm.trans e)];exact⟨h1,ry⟩
  .rw[if_neg e,if_neg (λz=>e (h1.trans z))];exact⟨h1,h2⟩
def KV.put(r:KV kvs vs)(k:κ)(ry:RelV y u):KV (bQ kvs k y) (stored vs k u):=by
 unfold bQ stored;rw[r.any k];by_cases e:(vs.any λkv=>decide (kv.1=k))=true
 .rw[if_pos e,if_pos e];exact r.repl k ry
 .rw[if_neg e,if_neg e];exact Paired.snoc r ⟨rfl,ry⟩
def KV.length(r:KV kvs vs):kvs.length=vs.length:=Paired.length r
end
def kq(r:RelV (kV k) u):(a9 P w).is k u=true:=by
 cases k with
 |inl i=>obtain⟨t,e⟩:=(show ∃t,u=Value.int i t from r);subst e;exact mK P w i t
 |inr x=>obtain⟨t,e⟩:=(show ∃t,u=Value.str x t from r);subst e;exact mH P w x t
theorem jI:∀{ks:List Key}{us:List Value},Vals (ks.map kV) us->ItemsAre (a9 P w) ks us
 | [],_,r=>by rw[D4] at r;cases r;exact .nil
 |
  k::ks,_,r=>by
  rw[Cr] at r;cases r with
  |cons h t=>exact .cons (kq h) (jI t)
abbrev KT(H:Hp):List (List Key×V)->List (List Key×Addr×Value)->Prop:=Paired λp q=>p.1=q.1/\H q.2.1=some (.tup (p.1.map kV))/\RelV p.2 q.2.2
def KT.val(r:KT H kvs xs)(k:List Key):RelO (cD kvs k) ((atKey xs k).map (·.2)):=by
 induction r with
 |nil=>exact True.intro
 |
  @cons p q ps qs h t ih=>
  obtain⟨h1,_,h2⟩:=h;by_cases e:p.1=k
  .have e':q.1=k:=h1.symm.trans e;have b:atKey (q::qs) k=some q.2:=by simp [atKey,C3,e']
   rw[gj e,b];exact h2
  .have e':¬ q.1=k:=λz=>e (h1.trans z);have b:atKey (q::qs) k=atKey qs k:=by simp [atKey,C3,e']
   rw[gE e,b];exact ih
def KT.repl(r:KT H kvs xs)(k:List Key)(ry:RelV y u):
 KT H (kvs.map λkv=>if kv.1=k then (kv.1,y) else kv) (xs.map (putAt k u)):=by
 induction r with
 |nil=>exact .nil
 |
  @cons p q ps qs h t ih=>
  rw[Cr,Cr];refine .cons ?_ ih;obtain⟨h1,h2,h3⟩:=h;unfold putAt;by_cases e:p.1=k
  .rw[if_pos e,if_pos (h1.symm.trans e)];exact⟨h1,h2,ry⟩
  .rw[if_neg e,if_neg (λz=>e (h1.trans z))];exact⟨h1,h2,h3⟩
def KT.put(r:KT H kvs xs)(k:List Key)(hb:H b=some (.tup (k.map kV)))(ry:RelV y u):
 KT H (bQ kvs k y) (storedH xs k b u):=by
 have e:(kvs.any λkv=>decide (kv.1=k))=(atKey xs k).isSome:=by rw[gn,(r.val k).isSome_eq,Option.isSome_map]
 unfold bQ storedH;rw[e];by_cases q:(atKey xs k).isSome=true
 .rw[if_pos q,if_pos q];exact r.repl k ry
 .rw[if_neg q,if_neg q];exact Paired.snoc r ⟨rfl,hb,ry⟩
def KT.keeps(r:KT H kvs xs)(ht:∀b ys,H b=some (.tup ys)->H' b=some (.tup ys)):KT H' kvs xs:=
 Paired.mapP r λ_ _ z=>⟨z.1,ht _ _ z.2.1,z.2.2⟩
section
variable{P:Program}{w:World}{H:Hp}{h:Heap}{a:Addr}
def uG(ok:HOk P w H h)(e:Rd H a u):ObjOk P w H h a u:=e.ok ok
def oW(ok:HOk P w H h)(e:Rd H a (.dK kvs)):kvs.length<=sizeLine/\(a==sysModules)=false/\∃vs,KV kvs vs/\h.DictOf (a9 P w) a vs:=
 show ObjOk P w H h a (.dK kvs) from uG ok e
def uq(ok:HOk P w H h)(e:H a=some (.dK kvs)):kvs.length<=sizeLine/\(a==sysModules)=false/\∃vs,KV kvs vs/\h.DictOf (a9 P w) a vs:=oW ok (.inl e)
def mi(ok:HOk P w H h)(e:H a=some (.tup (ks.map kV))):(tupleKind (a9 P w)).is h ks a:=by obtain⟨_,its,r,o,h1,h2,n,h3⟩:=(show ObjOk P w H h a (.tup (ks.map kV)) from ok a _ e);exact⟨o,its.toArray,n,h1,h2,h3,by simpa using jI r⟩
def nT(ok:HOk P w H h)(e:Rd H a (.dT kvs)):kvs.length<=sizeLine/\(a==sysModules)=false/\
 ∃xs,KT H kvs xs/\h.DictOfH (tupleKind (a9 P w)) a xs:=by
 obtain⟨z,y,xs,r,o,es,ep,h1,h2,h3,h4,h5⟩:=(show ObjOk P w H h a (.dT kvs) from uG ok e);refine⟨z,y,xs,r,o,es,ep,h1,h2,h3,h4,λx hx=>?_,h5⟩;have all:∀{l:List (List Key×V)}{m:List (List Key×Addr×Value)},KT H l m->∀x∈m,(tupleKind (a9 P w)).is h x.1 x.2.1:=by
  intro l m q;induction q with
  |nil=>intro x hx;exact nomatch hx
  |
   @cons p q ps qs hq t ih=>
   intro x hx;rcases Cu.mp hx with e |hx
   .subst e;exact mi ok (by rw[<- hq.1];exact hq.2.1)
   .exact ih x hx
 exact all r x hx
def B2(ok:HOk P w H h)(e:H a=some (.dT kvs)):kvs.length<=sizeLine/\(a==sysModules)=false/\
 ∃xs,KT H kvs xs/\h.DictOfH (tupleKind (a9 P w)) a xs:=nT ok (.inl e)
end
def DGet(H:Hp)(a:Addr)(y:V)(r:Option V):Prop:=
 (∃kvs k,Rd H a (.dK kvs)/\y=kV k/\r=cD kvs k)\/∃kvs k b,Rd H a (.dT kvs)/\y=.ref b/\H b=some (.tup (k.map kV))/\r=cD kvs k
def DPut(H:Hp)(a:Addr)(y v:V)(H':Hp):Prop:=
 (∃kvs k,H a=some (.dK kvs)/\y=kV k/\kvs.length<sizeLine/\H'=upd H a (.dK (bQ kvs k v)))\/
 ∃kvs k b,H a=some (.dT kvs)/\y=.ref b/\H b=some (.tup (k.map kV))/\kvs.length<sizeLine/\H'=upd H a (.dT (bQ kvs k v))
def DGet.k{H:Hp}{a:Addr}{kvs:List (Key×V)}{k:Key}(e:H a=some (.dK kvs)):DGet H a (kV k) (cD kvs k):=.inl ⟨kvs,k,.inl e,rfl,rfl⟩
def DPut.k{H:Hp}{a:Addr}{kvs:List (Key×V)}{k:Key}{v:V}(e:H a=some (.dK kvs))(hl:kvs.length<sizeLine):DPut H a (kV k) v (upd H a (.dK (bQ kvs k v))):=.inl ⟨kvs,k,e,rfl,hl,rfl⟩
section
variable{X:Cx}{pins:Ei}{σ:St}{H:Hp}{s:Shared}{a:Addr}{y v:V}{u r:Value}{o:Option V}{A:Around}{E:Ej}
def pS(hu:A.units+1<cLine)(I:Inv X pins σ H s)(g:DGet H a y (some v))(ry:RelV y u)(h:∀w' s',Inv X pins σ H s'->RelV v w'->Q w' s'):
 wpAny (model X.prog X.w) A (getItem (.ref a) u) Q E s:=by
 rcases g with ⟨kvs,k,e,ey,l⟩ |⟨kvs,k,b,e,ey,eb,l⟩
 .subst ey;obtain⟨z,hd,vs,rel,dd⟩:=oW I.hok e;obtain⟨w',hw,rw'⟩:=RelO.some_of (v:=v) (o:=valueAt vs k) (by rw[l];exact rel.val k);exact wpAny_getItem_of (kq ry) dd.mapOf hw (h w' _ (I.tok _) rw')
 .subst ey;cases (show u=Value.ref b from ry);obtain⟨z,hd,xs,rel,dd⟩:=nT I.hok e;obtain⟨w',hw,rw'⟩:=RelO.some_of (v:=v) (o:=(atKey xs k).map (·.2)) (by rw[l];exact rel.val k);obtain⟨p,hp,hp2⟩:=B_.mp hw;refine wpAny_getItem_heap (tupleKind_room_in1 hu) (mi I.hok eb) dd hp ?_;rw[hp2];exact h w' _ (I.tok _) rw'
def iE(I:Inv X pins σ H s)(mu:Mut (H a))(hs:Heap.SameBut a s.heap h')(he:∃q,h'.get? a=some q)(new:ObjOk X.prog X.w (upd H a ob) h' a ob):
 Inv X pins σ (upd H a ob) { s with heap:=h',toks:=t' }:=
 I.write (x:=a) (e:=a) mu (.inl rfl) (λb q hb z=>(hs.2 b hb).trans z) he new
def pA(z:kvs.length<=sizeLine)(hd:(a==sysModules)=false)(rel:KV kvs vs)(dd:h'.DictOf (a9 P w) a vs):
 ObjOk P w H' h' a (.dK kvs):=⟨z,hd,vs,rel,dd⟩
def p8(hu:A.units+1<cLine)(I:Inv X pins σ H s)(g:DPut H a y v H')(ry:RelV y u)(rv:RelV v r)(h:∀s',Inv X pins σ H' s'->Q () s'):
 wpAny (model X.prog X.w) A (setItem (.ref a) u r) Q E s:=by
 rcases g with ⟨kvs,k,e,ey,l,eH⟩ |⟨kvs,k,b,e,ey,eb,l,eH⟩
 .subst ey eH;obtain⟨z,hd,vs,rel,dd⟩:=uq I.hok e;have hz:vs.length<=sizeLine:=by rw[<- rel.length];exact z
  have hl:(bQ kvs k v).length<=sizeLine:=by have:=d6 kvs k v;omega
  refine wpAny_setItem_pairs (hsz:=hz) (kq ry) dd λh' dd' hs=>h _ ?_;have he:∃q,h'.get? a=some q:=let ⟨q,_,_,hq,_⟩:=dd';⟨q,hq⟩;exact iE I (by rw[e];exact True.intro) hs he (pA hl hd (rel.put k rv) dd')
 .subst ey eH;cases (show u=Value.ref b from ry);obtain⟨z,hd,xs,rel,dd⟩:=B2 I.hok e;have hz:xs.length<=sizeLine:=by rw[<- Paired.length rel];exact z
  have hl:(bQ kvs k v).length<=sizeLine:=by have:=d6 kvs k v;omega
  refine wpAny_setItem_heap (hsz:=hz) (tupleKind_room_in1 hu) (mi I.hok eb) dd λh' dd' hs=>h _ ?_;obtain⟨q,es,ep,hq,h2,h3,h4,_,h5⟩:=dd';refine iE I (by rw[e];exact True.intro) hs ⟨q,hq⟩ ⟨hl,hd,_,(rel.put k eb rv).keeps λc ys ec=>?_,q,es,ep,hq,h2,h3,h4,h5⟩;rw[ax (AA ec e (λz=>nomatch z))];exact ec
end
def qX(i:Expr):Prop:=∀ov iv,subscripted i false ov iv=operate [ov,iv] (getItem ov iv)
def vS{prog:Program}{w:World}{A:Around}{E:Ej}{s:Shared}{env:Env}{value slice:Expr}{pos:Pos}{T id:String}{Q:Ej}
 (hl:typeLookup (.type T) "__getitem__"=pure (some (.builtin id))) (hs:qX slice)
 (h:wpAny (model prog w) A (eval value env) (λo s₁=>wpAny (model prog w) A (eval slice env) (λi s₂=>s₂.TypeIs o T/\wpAny (model prog w) A (getItem o i) Q E s₂) E s₁) E s):
 wpAny (model prog w) A (eval (.Subscript value slice pos) env) Q E s:=by
 refine Subscript_ (z_ h (λo s₁ h₁=>z_ h₁ (λi s₂ h₂=>?_) λ_ _ x=>x) λ_ _ x=>x);obtain⟨hT,h₂⟩:=h₂;unfold subscriptTail;refine k_ ?_;rw[getitemInPython_of_ne hT.not_modules];refine k_ (wpAny_specialOf hT hl ?_);have c_:wpAny (model prog w) A (subscripted slice false o i) (λr s₃=>wpAny (model prog w) A (letTemporaryGo value o r >>= λ_=>pure r) Q E s₃) E s₂:=by rw[hs o i];exact wpAny_operating (z_ h₂ (λr s₃ h₃=>k_ (wpAny_letTemporaryGo (s_ h₃))) λ_ _ x=>x)
 first
  |exact s_ (k_ c_)
  |exact k_ (s_ (k_ c_))
  |exact k_ c_
def mG(I:Inv X pins σ H s)(g:DGet H a y o):s.TypeIs (.ref a) "dict":=by
 rcases g with ⟨kvs,k,e,_,_⟩ |⟨kvs,k,b,e,_,_,_⟩
 .obtain⟨_,_,vs,_,dd⟩:=oW I.hok e;exact dd.typeIs
 .obtain⟨_,_,xs,_,dd⟩:=nT I.hok e;exact dd.typeIs
def B0(td ty:TE):TE:=λσ H Q=>td σ H λx H1=>ty σ H1 λy H2=>∃a v,x=.ref a/\DGet H2 a y (some v)/\Q v H2
section
variable{X:Cx}{o i:Expr}{pos:Pos}{td ty:TE}
def wy(hu:X.A.units+1<cLine)(ho:PE X o td)(hi:PE X i ty)(hs:qX i):PE X (.Subscript o i pos) (B0 td ty):=by intro pins s σ H Q I h;refine vS PySem.F.slot_dict_getitem.lookup hs (thn (ho pins s σ H _ I h) λu s1 zz=>exA zz λx H1 I1 rx q1=>thn (hi pins s1 σ H1 _ I1 q1) λiv s2 ⟨y,H2,I2,ry,a,v,ex,g,q2⟩=>?_);subst ex;obtain rfl:u=Value.ref a:=rx;exact⟨mG I2 g,pS hu I2 g ry λw' s3 I3 rw'=>⟨v,H2,I3,rw',q2⟩⟩
end
def g6:List (TE×TE)->St->Hp->(List (V×V)->Hp->Prop)->Prop
 | [],_,H,Q=>Q [] H
 |(tk,tv)::r,σ,H,Q=>tk σ H λx H1=>tv σ H1 λy H2=>g6 r σ H2 λps H3=>Q ((x,y)::ps) H3
abbrev VV:List (V×V)->List (Value×Value)->Prop:=Paired λp q=>RelV p.1 q.1/\RelV p.2 q.2
def PPs(X:Cx)(pos:Pos)(keys:List (Option Expr))(values:List Expr)(trs:List (TE×TE)):Prop:=
 ∀
  (pins:Ei) (s:Shared) (σ:St) (H:Hp) (Q:List (V×V)->Hp->Prop),Inv X pins σ H s->g6 trs σ H Q->
  wpAny (model X.prog X.w) X.A (evalPairs (pairTrees keys values X.env pos)) (λvs s'=>∃ps H',Inv X pins σ H' s'/\VV ps vs/\Q ps H') X.xe s
def wq:PPs X pos [] [] []:=λpins s σ H Q I h=>pairTrees_nil_walk ⟨[],H,I,.nil,h⟩
def rG(hk:PE X k tk)(hv:PE X v tv)(hr:PPs X pos ks vs trs):
 PPs X pos (some k::ks) (v::vs) ((tk,tv)::trs):=λpins s σ H Q I h=>
 pairTrees_cons_walk (thn (hk pins s σ H _ I h) λu s1 zz=>exA zz λx H1 I1 rx q1=>thn (hv pins s1 σ H1 _ I1 q1) λw2 s2 zz=>exA zz λy H2 I2 ry q2=>
  thn (hr pins s2 σ H2 _ I2 q2) λws s3 zz=>exA zz λps H3 I3 rel q3=>⟨(x,y)::ps,H3,I3,.cons ⟨rx,ry⟩ rel,q3⟩)
noncomputable def dN (kvs more:List (Key×V)):List (Key×V):=more.foldl (λacc kv=>bQ acc kv.1 kv.2) kvs
def KV.merge:∀{more:List (Key×V)}{rs:List (Key×Value)}{kvs:List (Key×V)}{vs:List (Key×Value)},KV more rs->KV kvs vs->KV (dN kvs more) (merged vs rs):=by
 intro more rs kvs vs r;unfold KV at r;induction r generalizing kvs vs with
 |nil=>intro q;exact q
 |
  @cons p q ps qs h t ih=>
  intro r0;have e:KV (bQ kvs p.1 p.2) (stored vs q.1 q.2):=by
   have:=r0.put p.1 h.2
   rw[<- h.1];exact this
  exact ih e
theorem fm:∀(more kvs:List (Key×V)),(dN kvs more).length<=kvs.length+more.length
 | [],kvs=>by show kvs.length<=kvs.length+0;omega
 |
  p::r,kvs=>by
  have h1:=fm r (bQ kvs p.1 p.2);have h2:=d6 kvs p.1 p.2;show (dN (bQ kvs p.1 p.2) r).length<=_;rw[CF];omega
theorem gN:∀{kvs:List (Key×V)}{ws:List (Value×Value)},VV (kvs.map λkv=>(kV kv.1,kv.2)) ws->∃rs,Carries (a9 P w) ws rs/\KV kvs rs
 | [],_,r=>by rw[D4] at r;cases r;exact⟨[],True.intro,.nil⟩
 |
  p::kvs,_,r=>by
  rw[Cr] at r;cases r with
  |@cons a b as bs h t=>obtain⟨rs,c,q⟩:=gN (P:=P) (w:=w) t;obtain⟨b1,b2⟩:=b;exact⟨(p.1,b2)::rs,⟨kq h.1,rfl,c⟩,.cons ⟨rfl,h.2⟩ q⟩
def B7(trs:List (TE×TE)):TE:=λσ H Q=>∀p,H p=none->g6 trs σ (upd H p (.dK [])) λps H2=>H2 p=some (.dK [])/\∃kvs:List (Key×V),ps=kvs.map (λkv=>(kV kv.1,kv.2))/\kvs.length<=15/\Q (.ref p) (upd H2 p (.dK (dN [] kvs)))
def vv(h:PPs X pos keys values trs)(hall:keys.all (·.isSome)=true)(hl:keys.length=values.length)(h0:keys≠[])
 (h15:keys.length<=15):PE X (.Dict keys values pos) (B7 trs):=by
 intro pins s σ H Q I q;have hn:=I.hok.fresh (v_ s.heap.objs.size);have I1:=I.laid (a:=s.heap.objs.size) (o:=.dK []) (h':=s.heap.push { cls:=.type "dict",data:=.dict #[] }) (t':=s.toks) (λ_ _ q=>m_ _ q) (v_ _) (tX s.heap I.big);refine wpAny_Dict_walk (knd:=a9 X.prog X.w) hall hl h0 h15 (thn (h pins _ σ _ _ I1 (q _ hn)) λws s2 ⟨ps,H2,I2,rel,e,kvs,ep,lk,q2⟩=>?_);subst ep;obtain⟨rs,c,rk⟩:=gN (P:=X.prog) (w:=X.w) rel;obtain⟨z,hd,vs0,r0,dd⟩:=uq I2.hok e;cases r0;refine⟨rs,c,dd,λh' dd' hs=>⟨.ref s.heap.objs.size,_,?_,rfl,q2⟩⟩;have hz:(dN [] kvs).length<=sizeLine:=by have h1:=fm kvs [];rw[C4] at h1;rw[sizeLine_eq];omega
 have he:∃q,h'.get? s.heap.objs.size=some q:=let ⟨q,_,_,hq,_⟩:=dd';⟨q,hq⟩;exact iE I2 (by rw[e];exact True.intro) hs he (pA hz hd (rk.merge .nil) dd')
section
variable[DecidableEq κ]
noncomputable def lkD (kvs:List (κ×α)) (k:κ):Option α:=(kvs.find? λkv=>decide (kv.1=k)).map (·.2)
noncomputable def oy (kvs:List (κ×α)) (k:κ) (v:α):List (κ×α):=if (kvs.any λkv=>decide (kv.1=k))=true then kvs.map λkv=>if kv.1=k then (kv.1,v) else kv else kvs++[(k,v)]
end
section
variable{H:Hp}
def sP[DecidableEq κ]:∀{kvs:List (κ×α)}{ws:List (κ×β)},ws.map (·.1)=kvs.map (·.1)->(ws.any λkv=>decide (kv.1=k))=kvs.any λkv=>decide (kv.1=k):=by
 intro kvs;induction kvs with
 |
  nil=>
  intro ws e;cases ws with
  |nil=>rfl
  |cons _ _=>cases e
 |
  cons p kvs ih=>
  intro ws e;cases ws with
  |nil=>cases e
  |cons w ws=>rw[Cr,Cr] at e;injection e with e1 e2;rw[DX,DX,ih e2,e1]
def uH:lr:=λo i v H Q=>∃a H4,o=.ref a/\DPut H a i v H4/\Q H4
variable{X:Cx}{a:Expr}
def rD(hu:X.A.units+1<cLine):oo X uH:=λpins s σ H o i v ov iv u Q I ro ri rv ⟨a,H4,eo,g,q⟩=>by subst eo;obtain rfl:ov=Value.ref a:=ro;exact p8 hu I g ri rv λs4 I4=>⟨H4,I4,q⟩
theorem lj:∀(more acc:List (Key×V)),((acc++more).map (·.1)).Nodup->dN acc more=acc++more
 | [],acc,_=>(Du _).symm
 |
  (k,v)::more,acc,h=>by
  show dN (bQ acc k v) more=_;have hk:cD acc k=none:=by unfold cD;rw[Option.map_eq_none_iff,List.find?_eq_none];intro p hp z;have z:=of_decide_eq_true z;rw[List.map_append,List.nodup_append] at h;exact h.2.2 p.1 (List.mem_map_of_mem hp) k (r_ ..) z
  rw[sV v hk,lj more (acc++[(k,v)]) (by rw[Dj];exact h),Dj];rfl
theorem kK:∀(ks:List Str) (vs:List V),(ks.map V.str).zip vs=((ks.map Sum.inr).zip vs).map λkv:Key×V=>(kV kv.1,kv.2)
 | [],_=>rfl
 |_::_,[]=>rfl
 |
  k::ks,v::vs=>by
  show (V.str k,v)::(ks.map V.str).zip vs=_;rw[kK ks vs];rfl
end
open PySem PySem.Spec PySem.Calls PyProof.Rows
section
variable{X:Cx}{K:W.Frag}{es:List Expr}{pos:Pos}
def gUnp(K:W.Frag)(n:Nat)(t:TGs):TG:=λv σ H Q=>∃a xs,v=.ref a/\(SqT K H a xs\/SqL K H a xs)/\xs.length=n/\t xs σ H Q
def zC{k:Nat}{t:TGs}{n:Nat}(hc:X.calm=true)(h:PGs X es t)
 (hn:(assignEach es X.env).length=n) (hst:(assignEach es X.env).findIdx? (·.1)=none):PG X (.Tuple es k pos) (gUnp X.K n t):=by
 intro pins s σ H v u Q I r hw;obtain⟨a,xs,e1,hq,hl,hw⟩:=hw;rcases hq with hq |hq
 .exact oZ hc h hn hst pins s σ H v u Q I r ⟨a,xs,e1,hq,hl,hw⟩
 .subst e1;cases r;obtain⟨its,rv,⟨o,m,ho,oc,od,os⟩,hz⟩:=I.list hq;have ht:s.heap.IsList a its.toArray:=⟨o,ho,oc,m,os⟩;rw[assign_Tuple];refine k_ (Dc ?_);unfold unpack;rw[hst,hn,show n=its.toArray.size by simp [<- hl,rv.length]];refine k_ (CL (W.kun_itemsOf (I.ok.hd hc) ht λh' hx=>?_));have I1:Inv X pins σ H { s with heap:=h' }:=I.kept (t':=s.toks) λb o e=>hx b o (Ct (n_ e)) e;exact h pins _ σ H xs _ Q I1 (by simpa using rv) hw
end
structure RoomU(k:Nat)(A:Around):Prop where
 dp:A.depth+3*k+5<recursionLimit
 un:A.units+16*k+200<cLine
def RoomU.deeper(r:RoomU (k+1) A)(env:Env):RoomU k (A.deeper env):=
 ⟨by have:=r.dp;show A.depth+1+3*k+5<_;omega,by have:=r.un;show A.units+3+16*k+200<_;omega⟩
def RoomU.depth(r:RoomU k A):A.depth<recursionLimit:=by have:=r.dp;omega
def RoomU.u180(r:RoomU k A):A.units+180<cLine:=by have:=r.un;omega
def RoomU.u100(r:RoomU k A):A.units+190<cLine:=by have:=r.un;omega
def Room.toU(r:Room k A)(e:Option Value)(h:j<=k):RoomU j (A.mark e):=⟨by have:=r.dp;show A.depth+3*j+5<_;omega,by have:=r.un;show A.units+16*j+200<_;omega⟩
noncomputable def eS (CX:CXT) (P:Program) (w:World) (K:W.Frag) (mg:Eh) (base:Heap) (N:List Str) (qual:Str) (scope:Scope) (f:Addr) (cd:Value) (A:Around) (outer:List Env) (s:Shared) (H:Hp) (E:XK):Cx:={ bR CX P w K mg base N qual scope f cd A outer s H E with calm:=false }
structure FnOkU(P:Program)(w:World)(K:W.Frag)(mg:Eh)(base:Heap)(CX:CXT)(k:Nat)(f:Addr)(fd:FuncData)(ps:List Str)(sp:Sp):Prop where
 len:∀vs H Q E,sp vs H Q E->vs.length=ps.length
 run:∀(A:Around) (outer:List Env) (s:Shared) (H:Hp) (args:Args) (us:List Value) (vs:List V) (Q:VK) (E:XK),RoomU k A->Env0 P w K mg base A outer s H->BindsTo s fd args (ps.zip us)->Vals vs us->sp vs H Q E->
  codeAny (model P w) A (.call (.ref f) args) (CR CX outer P w H s Q E) s
def nP{CX:CXT}{P:Program}{w:World}{K:W.Frag}{mg:Eh}{base:Heap}{N ps:List Str}{qual:Str}{scope:Scope}{f:Addr}{cd:Value}{A:Around}{outer:List Env}{s s1:Shared}{H:Hp}{E:XK}{us:List Value}{vs:List V}
 (S:FnScope N ps scope) (e0:Env0 P w K mg base A outer s H) (hl:vs.length=ps.length) (r:Vals vs us)
 (x:InCallC s s.heap.objs.size (bindL (envOfC qual scope s.heap.objs.size f cd).kindOf (ps.zip us) λ_=>none) (cellsFrom (s.heap.objs.size+1) scope.names []) (bindC (envOfC qual scope s.heap.objs.size f cd).kindOf (ps.zip us) λ_=>none) s1):
 Inv (eS CX P w K mg base N qual scope f cd A outer s H E) [] (bK N vs) H s1:=by
 have I:=jR (CX:=CX) (E:=E) (A:={ A with handled:=none }) S rfl ⟨e0.frames,e0.mod,e0.bs,e0.bsz,e0.funs,e0.frf,e0.hok,e0.bare⟩ hl r x;exact⟨⟨I.ok.mod,I.ok.kind,I.ok.glob,I.ok.blt,I.ok.above,I.ok.inj,I.ok.has,I.ok.cab,λz=>absurd z o_,Around.frames_deeper e0.frames,I.ok.stk,I.ok.exf,I.ok.bs,I.ok.bsz,I.ok.noex,I.ok.exfs,I.ok.funs,I.ok.frf⟩,I.os,I.bare,I.base,I.loc,I.cell,I.free,I.freeC,I.pin,I.hok,I.len⟩
def yQ{CX:CXT}{P:Program}{w:World}{K:W.Frag}{mg:Eh}{base:Heap}{k:Nat}{f:Addr}{name qual:Str}{params:Arguments}{body:List Stmt}{scope:Scope}{dV kV doc pm cdv ct oc:Value}{an od:Option Addr}
 {osl:Array (Option Value)}{N ps:List Str}{sp:Sp} (lk:K.lookup f=some ⟨oc,od,.func (W.fnOf name qual params body scope dV kV doc pm an cdv ct),osl⟩) (hcd:W.codeIn K cdv qual=true) (S:FnScope N ps scope)
 (len:∀vs H Q E,sp vs H Q E->vs.length=ps.length)
 (d_:∀(A:Around) (outer:List Env) (s:Shared) (H:Hp) (vs:List V) (Q:VK) (E:XK),RoomU k (A.deeper (envOfC qual scope s.heap.objs.size f cdv))->sp vs H Q E->
  ∃t,PSs (eS CX P w K mg base N qual scope f cdv A outer s H E) body t/\t { nx:=λ_ H'=>Q .non H',rt:=Q } (bK N vs) H):
 FnOkU P w K mg base CX (k+1) f (W.fnOf name qual params body scope dV kV doc pm an cdv ct) ps sp:=by
 refine⟨len,λA outer s H args us vs Q E hr e0 hb r hsp=>?_⟩;have hl:=len _ _ _ _ hsp;have KX:K.In s.heap:=e0.mod.kin.keeps λb o e=>(e0.bs b o e).1;have lim:s.heap.NoLimit:=e0.mod.nolimit.keeps λb o e=>(e0.bs b o e).1;have hkind:∀y∈ps.zip us,scope.names.lookup y.1=some .local\/(scope.names.lookup y.1=some .cell/\((cellsFrom (s.heap.objs.size+1) scope.names []).lookup y.1).isSome=true):=λ⟨n,v⟩ hy=>by
  rcases S.par n (D7 hy).1 with q |q
  .exact .inl q
  .exact .inr ⟨q,W.cellsFrom_some _ _ _ (.inl q)⟩
 refine codeAny_call_function hr.depth (KX _ _ lk) rfl S.co S.gen rfl (W.codeRec_of KX hcd) (hb _ _ _ _ ?_);refine wpAny_newFunctionEnv_cells S.kind hkind λenv he s1 x=>?_;subst he;refine⟨lim.keeps x.toInCall.keep,codeAny_func ?_⟩;obtain⟨t,ht,hq⟩:=d_ A outer s H vs Q E (hr.deeper _) hsp;have I:Inv (eS CX P w K mg base N qual scope f cdv A outer s H E) [] (bK N vs) H s1:=nP S e0 hl r x;refine z_ (ht [] s1 (bK N vs) H _ I hq) (λfl s' hs=>?_) λe s' hs=>hs;have c_:∀{σ':St}{H':Hp}{v:V}{u:Value},Inv (eS CX P w K mg base N qual scope f cdv A outer s H E) [] σ' H' s'->RelV v u->Q v H'->CE outer P w H s Q u s':=
  λ{σ' H' v u} J rv q=>⟨v,H',J.os,J.bare,J.base,J.hok,rv,q⟩
 cases fl with
 |ret u=>obtain⟨v,σ',H',J,rv,q⟩:=hs;exact c_ J rv q
 |next=>obtain⟨σ',H',J,q⟩:=hs;exact c_ (v:=V.non) (u:=Value.none) J rfl q
 |brk=>obtain⟨_,_,_,q⟩:=hs;exact False.elim q
 |cont=>obtain⟨_,_,_,q⟩:=hs;exact False.elim q
section
variable{P:Program}{w:World}{K:W.Frag}{mg:Eh}{base:Heap}{x:Str}{st:Stmt}{k:Nat}{ps N:List Str}{sp:Sp}
def Fun.okRU(F:Fun K x qual st f fd)(S:FnScope N ps (aj st))(len:∀vs H Q E,sp vs H Q E->vs.length=ps.length)
 (d_:∀(cdv:Value) (A:Around) (outer:List Env) (s:Shared) (H:Hp) (vs:List V) (Q:VK) (E:XK),RoomU k (A.deeper (envOfC qual (aj st) s.heap.objs.size f cdv))->sp vs H Q E->
  ∃t,PSs (eS (CX1 P w) P w K mg base N qual (aj st) f cdv A outer s H E) (aN st) t/\t { nx:=λ_ H'=>Q .non H',rt:=Q } (bK N vs) H):FnOkU P w K mg base (CX1 P w) (k+1) f fd ps sp:=by
 obtain⟨oc,od,kV,doc,pm,an,cdv,ct,osl,rfl,lk,hcd⟩:=F.ex;exact yQ lk hcd S len λA outer s H vs Q E hr hsp=>d_ cdv A outer s H vs Q E hr hsp
structure CalleeU(P:Program)(w:World)(K:W.Frag)(mg:Eh)(base:Heap)(x:Str)(k:Nat)(ps:List Str)(sp:Sp):Prop where
 ex:∃f fd,FnOkU P w K mg base (CX1 P w) k f fd ps sp/\mg x=some (.ref f)/\W.keepIn K (.ref f)=true/\Binds K fd ps []/\∃oc od osl,K.lookup f=some ⟨oc,od,.func fd,osl⟩
def Def.okRU(D:Def K mg x st)(S:FnScope N ps (aj st))
 (hb:∀(kV doc pm:Value) (an:Option Addr) (cdv ct:Value) (us:List Value),us.length=ps.length->bindArgs (W.fnOf x x (bC st) (aN st) (aj st) .none kV doc pm an cdv ct) ⟨us,[]⟩=pure (ps.zip us))
 (len:∀vs H Q E,sp vs H Q E->vs.length=ps.length)
 (d_:∀(f:Addr) (cdv:Value) (A:Around) (outer:List Env) (s:Shared) (H:Hp) (vs:List V) (Q:VK) (E:XK),RoomU k (A.deeper (envOfC x (aj st) s.heap.objs.size f cdv))->sp vs H Q E->
  ∃t,PSs (eS (CX1 P w) P w K mg base N x (aj st) f cdv A outer s H E) (aN st) t/\t { nx:=λ_ H'=>Q .non H',rt:=Q } (bK N vs) H):CalleeU P w K mg base x (k+1) ps sp:=by
 obtain⟨f,fd,F,m⟩:=D.ex;exact⟨f,fd,F.okRU S len (d_ f),m,F.kp,F.binds hb,F.look⟩
variable{F:MS}
end
section
variable{X:Cx}
def uS:R2:=λx y H Q=>∃z i,x=.str z/\y=.int i/\z.length<=16/\0<=i/\i<=1000/\Q (.str (Txt.mul z i)) H
def vU:OpR X (binaryOp .Mult) uS:=by intro pins s σ H x y v u Q I rx ry h;obtain⟨z,i,rfl,rfl,hz,h0,h1,q⟩:=h;obtain⟨t,rfl⟩:=rx;obtain⟨t',rfl⟩:=ry;exact W.KXi.mul rfl hz (by omega) (by omega) λt'' k _ _=>⟨.str (Txt.mul z i),H,I.tok _,⟨_,rfl⟩,q⟩
end
section
variable{X:Cx}{e st:Expr}{te tst:TE}{pos p2:Pos}
def tRev(K:W.Frag)(te tst:TE):TE:=λσ H Q=>te σ H λx H1=>tst σ H1 λy H2=>y=.int (-1)/\∃a xs,x=.ref a/\SqL K H2 a xs/\∀p,H2 p=none->Q (.ref p) (upd H2 p (.lst xs.reverse))
def xg(he:PE X e te)(hst:PE X st tst):PE X (.Subscript e (.Slice none none (some st) p2) pos) (tRev X.K te tst):=by intro pins s σ H Q I h;refine Subscript_ (thn (he pins s σ H _ I h) λv s1 zz=>exA zz λx H1 I1 r1 q1=>?_);refine wpAny_Slice ?_;rw[evalPart_none];refine s_ ?_;refine s_ ?_;rw[evalPart_some];refine thn (hst pins s1 σ H1 _ I1 q1) λu s2 zz=>exA zz λy H2 I2 r2 q2=>?_;obtain⟨rfl,a,xs,rfl,hq,q⟩:=q2;obtain⟨t,rfl⟩:=r2;cases r1;have I3:Inv X pins σ H2 { s2 with heap:=s2.heap.push { cls:=.type "slice",data:=.fields #[.none,.none,.int (-1) t] } }:=I2.kept (t':=s2.toks) λb ob q=>m_ _ q;obtain⟨its,rv,pl,hz⟩:=I3.list hq;have hl:=rv.length;have hs:(s2.heap.push { cls:=.type "slice",data:=.fields #[.none,.none,.int (-1) t] }).IsSliceOf s2.heap.objs.size .none .none (.int (-1) t):=Heap.IsSliceOf.new ..;show wpAny (model X.prog X.w) X.A (subscriptTail e (.Slice none none (some st) p2) (.ref a) (.ref s2.heap.objs.size)) (EP X pins σ Q) X.xe { s2 with heap:=s2.heap.push { cls:=.type "slice",data:=.fields #[.none,.none,.int (-1) t] } };refine tail_any (ops:=[.ref a,.ref s2.heap.objs.size]) pl.isList.typeIs slot_list_getitem.lookup ?_ (by with_unfolding_all rfl);refine wpAny_getItem_list_slice pl.isList hs .none .none (.int (-1) t) (by decide) ?_ (by rw[w_];omega);rw[W.krv_pick];refine⟨.ref _,_,I3.lnew (t':=s2.toks) (ys:=xs.reverse) rv.reverse (by rw[List.length_reverse];exact hz),rfl,q _ I3.fresh⟩
end
open PySem PySem.W PyProof.Rows
abbrev Ask:=Nat->Nat->(Bool->Shared->Prop)->Shared->Prop
variable{lt:Nat->Nat->Bool}{N:Nat}{cmp:Ask}{s:Shared}
noncomputable def lexP (x y:Int×Int):Bool:=decide (x.1<y.1\/(x.1=y.1/\x.2<y.2))
noncomputable def ltP (ks:List (Int×Int)) (i j:Nat):Bool:=lexP (ks.getD i (0,0)) (ks.getD j (0,0))
set_option maxHeartbeats 4000000
noncomputable def ltS (x y:Str):Bool:=decide (x.cps.toList<y.cps.toList)
section
variable{X:Cx}
def uN:R2:=λx y H Q=>∃z u,x=.str z/\y=.str u/\z.length+u.length<=16777216/\Q (.str (z++u)) H
def wU:OpR X (binaryOp .Add) uN:=by intro pins s σ H x y v u Q I rx ry h;obtain⟨z,u',rfl,rfl,hz,q⟩:=h;obtain⟨t,rfl⟩:=rx;obtain⟨t',rfl⟩:=ry;exact PyProof.Rows.add_str (λt' tk=>⟨.str (z++u'),H,I.tok _,⟨_,rfl⟩,q⟩) hz
end
def pF{P:Program}{w:World}{K:W.Frag}{tg:Expr}(x:Str)(t:Tok)(it:Addr):Turn P w K tg (Itx x) [it] it (λi h=>h.IsStrIter it "str_ascii_iterator" x t i) where
 mem:=by simp
 obj:=λi h st b hb=>by
  obtain rfl:b=it:=by simpa using hb
  obtain⟨o,e,c,d⟩:=st;exact⟨o,e,λv z=>by rw[d] at z;cases z⟩
 keep:=λi h h' st k=>by obtain⟨o,e,c,d⟩:=st;exact⟨o,k it (by simp) o e,c,d⟩
 item:=by
  intro X hP hw hK hc i pins s σ H E I hf st hg;subst hP hw hK;have hi:i<x.cps.toList.length:=hg;obtain⟨f0,f1,f2,f3,f4,f5⟩:=hf it (by simp);have ec:x.cps[i]?=some (x.cps.toList[i]'hi):=by rw[<- Array.getElem?_toList,A_ hi]
  refine wpAny_pyNext_ascii_item st ec λh' st' sb=>?_;have I1:Inv X pins σ H { s with heap:=h',toks:=s.toks+1 }:=I.turned (λb o hb e=>(sb.2 b hb).trans e) f0 f1 f3 f4 f5;obtain⟨o,e,c,d⟩:=id st';exact⟨_,rfl,kC (s:={ s with heap:=h',toks:=s.toks+1 }) e c d (by decide) ⟨.str ⟨#[x.cps.toList[i]'hi]⟩,H,I1,⟨_,rfl⟩,⟨rfl,_,A_ hi,rfl⟩,st',λb hb=>(hf b hb).1⟩⟩
 done:=by intro X hP hw hK hc i pins s σ H E I hf st hg;subst hP hw hK;have hi:x.cps.toList.length<=i:=hg;obtain⟨f0,f1,f2,f3,f4,f5⟩:=hf it (by simp);exact wpAny_pyNext_ascii_end (I.ok.hd hc) st (by rw[<- Array.getElem?_toList];exact List.getElem?_eq_none hi) λh' eb=>⟨rfl,I.turned (t':=s.toks) (λb o hb e=>eb b o hb e) f0 f1 f3 f4 f5⟩
 self:=λ_ _ _ _ _ st h=>wpAny_pyIter_striter_ascii st h
section
variable{X:Cx}{tg l:Expr}
def AY(tl:TE):TI:=λσ H R=>tl σ H λx H1=>∃z,x=.str z/\z.cps.all (· < 128)=true/\R (Itx z) H1
def w9{tl:TE}(hl:PE X l tl):PI X tg l (AY tl):=by
 intro pins s σ H R I h;refine thn (hl pins s σ H _ I h) λv s1 zz=>exA zz λx H1 I1 r1 q1=>?_;obtain⟨z,e,ha,q⟩:=q1;subst e;obtain⟨t,rfl⟩:=r1;refine wpAny_pyIter_ascii ha ?_;refine⟨s1.heap.objs.size,[s1.heap.objs.size],_,_,H1,rfl,I1.kept (t':=s1.toks) λb o e=>m_ _ e,pF z t _,⟨_,CB _ rfl,rfl,rfl⟩,λb hb=>?_,q⟩;obtain rfl:b=s1.heap.objs.size:=by simpa using hb
 exact I1.fpOk (v_ _) (I1.hok.fresh (v_ _))
end
section
variable{X:Cx}{F:ME}
def rSw:V->List V->Hp->VK->Prop:=λx vs H Q=>∃a b,x=.str a/\vs=[.str b]/\Q (.bl (Txt.startswith a b)) H
def AG:MtR X "str.startswith" rSw:=by intro pins s σ H x xs v us Q I rx rs h;obtain⟨a,b,rfl,rfl,q⟩:=h;obtain⟨t,rfl⟩:=rx;obtain⟨u,rfl,ru⟩:=ck rs;obtain⟨t2,rfl⟩:=ru;exact call_gives PySem.F.slot_str_startswith (DL _ _ _) PySem.F.entry_str_startswith (PySem.F.args_str_startswith_2 _ _) (gives_str_startswith a b t t2) ⟨.bl _,H,I,rfl,q⟩
def rStr:List V->Hp->VK->Prop:=λxs H Q=>∃i:Int,xs=[.int i]/\i.natAbs<2^1900/\Q (.str (Str.ofString (toString i))) H
def qw:CallR X (.type "str") rStr:=by
 intro pins s σ H xs us Q I r h;obtain⟨i,rfl,hi,q⟩:=h;obtain⟨u,rfl,ru⟩:=ck r;obtain⟨t,rfl⟩:=ru;refine PySem.P.str_of_int ?_ ⟨.str _,H,I.tok _,⟨_,rfl⟩,q⟩;by_cases h0:i.natAbs=0
 .rw[h0];decide
 .exact t_ ((Nat.log2_lt h0).mpr hi) (by decide)
def uJ:List V->Hp->VK->Prop:=λxs H Q=>∃x n,xs=[.str x]/\x.length<=640/\PySem.intText? x=some n/\Q (.int n) H
def pe:CallR X (.type "int") uJ:=by intro pins s σ H xs us Q I r h;obtain⟨x,n,rfl,hx,hn,q⟩:=h;obtain⟨u,rfl,ru⟩:=ck r;obtain⟨t,rfl⟩:=ru;exact W.KIN.call_text hn hx ⟨.int n,H,I.tok _,⟨_,rfl⟩,q⟩
end
open PySem PySem.Spec PySem.Builtin.Str PyProof.Rows
theorem jT:∀l:List (Str×Tok),Vals ((l.map (·.1)).map V.str) (strValues l)
 | []=>.nil
 |(x,t)::l=>.cons ⟨t,rfl⟩ (jT l)
theorem jH:∀{zs:List Str}{its:List Value},Vals (zs.map V.str) its->∃l:List (Str×Tok),its=strValues l/\l.map (·.1)=zs
 |
  [],_,r=>by
  rw[D4] at r;cases r;exact⟨[],rfl,rfl⟩
 |
  z::zs,_,r=>by
  rw[Cr] at r;cases r with
  |cons r1 r2=>obtain⟨t,rfl⟩:=r1;obtain⟨l,rfl,rfl⟩:=jH r2;exact⟨(z,t)::l,rfl,rfl⟩
section
variable{X:Cx}{K:W.Frag}
noncomputable def nK (a b:Str):List Str:=[(Txt.partition a b).1,(Txt.partition a b).2.1,(Txt.partition a b).2.2]
def uB:V->List V->Hp->VK->Prop:=λx vs H Q=>∃a b,x=.str a/\vs=[.str b]/\(b.length==0)=false/\a.length<=16777216/\∀p,H p=none->Q (.ref p) (upd H p (.tup ((nK a b).map V.str)))
def vc:MtR X "str.partition" uB:=by
 intro pins s σ H x xs v us Q I rx rs h;obtain⟨a,b,rfl,rfl,hb,ha,q⟩:=h;obtain⟨t,rfl⟩:=rx;obtain⟨u,rfl,ru⟩:=ck rs;obtain⟨t2,rfl⟩:=ru;refine Dg PySem.F.slot_str_partition (DL _ _ _) PySem.F.entry_str_partition (PySem.F.args_str_partition_2 _ _) (meets_str_partition a b t t2 hb ha) ?_;have q':=q s.heap.objs.size (I.hok.fresh (v_ _));have c_:∀(ta tb tc:Tok) (k:Nat),EP X pins σ Q (.ref s.heap.objs.size) { s with heap:=s.heap.push { cls:=.type "tuple",data:=.seq [.str (Txt.partition a b).1 ta,.str (Txt.partition a b).2.1 tb,.str (Txt.partition a b).2.2 tc].toArray },toks:=k }:=λta tb tc k=>
  ⟨.ref s.heap.objs.size,_,I.laid (t':=k) (o:=.tup ((nK a b).map V.str)) (λb ob q=>m_ _ q) (v_ _) ⟨by show 3<=sizeLine;decide,_,.cons ⟨ta,rfl⟩ (.cons ⟨tb,rfl⟩ (.cons ⟨tc,rfl⟩ .nil)),IsTup.new _ _⟩,rfl,q'⟩
 clear q q';unfold Txt.partition at c_;revert c_;cases occurrences a b 0 a.length 1 with
 |nil=>intro c_;exact c_ _ _ _ _
 |cons i r=>intro c_;exact c_ _ _ _ _
def pX:V->List V->Hp->VK->Prop:=λx vs H Q=>∃a b,x=.str a/\vs=[.str b]/\(b.length==0)=false/\a.length<=16777216/\(Txt.split a b).length<=16777216/\∀p,H p=none->Q (.ref p) (upd H p (.lst ((Txt.split a b).map V.str)))
def tE:MtR X "str.split" pX:=by
 intro pins s σ H x xs v us Q I rx rs h;obtain⟨x,y,rfl,rfl,hy,ha,hz,q⟩:=h;obtain⟨t,rfl⟩:=rx;obtain⟨u,rfl,ru⟩:=ck rs;obtain⟨t2,rfl⟩:=ru;have q':=q s.heap.objs.size (I.hok.fresh (v_ _));have c_:∀(l:List (Str×Tok)) (k:Nat),l.map (·.1)=Txt.split x y->EP X pins σ Q (.ref s.heap.objs.size) { s with heap:=s.heap.push { cls:=.type "list",data:=.seq (strValues l).toArray },toks:=k }:=λl k e=>
  ⟨.ref s.heap.objs.size,_,I.laid (t':=k) (o:=.lst ((Txt.split x y).map V.str)) (λb ob q=>m_ _ q) (v_ _) ⟨by rw[u_];exact hz,_,_,by rw[<- e];exact jT l,CB _ rfl⟩,rfl,q'⟩
 cases h1:(decide (x.length<y.length) || decide (strKind x<strKind y))
 .cases hf:(occurrences x y 0 x.length (x.length+1)).isEmpty
  .have es:Txt.split x y=_:=(if_neg (Ec h1)).trans (if_neg (Ec hf));refine Dg DU (DL _ _ _) DN (DF _ _) (meets_str_split_sep x y t t2 h1 hy hf ha (by rw[es] at hz;exact hz)) ?_;show wants _ _ _ { s with toks:=_,heap:=s.heap.push { cls:=.type "list",data:=.seq (strsFrom s.toks (partsBetween x (occurrences x y 0 x.length (x.length+1)) y.length)).toArray } };rw[strsFrom_eq];exact c_ (numbered s.toks _) _ ((numbered_texts _ _).trans es.symm)
  .exact Dg DU (DL _ _ _) DN (DF _ _) (meets_str_split_not_found x y t t2 h1 hy hf) (c_ [(x,t)] _ ((if_neg (Ec h1)).trans (if_pos hf)).symm)
 .exact Dg DU (DL _ _ _) DN (DF _ _) (meets_str_split_cannot_occur x y t t2 h1) (c_ [(x,t)] _ (if_pos h1).symm)
def uL(K:W.Frag):V->List V->Hp->VK->Prop:=λx vs H Q=>∃a p zs,x=.str a/\vs=[.ref p]/\SqL K H p (zs.map V.str)/\JoinOk a zs=true/\Q (.str (Txt.join a zs)) H
def ng(hK:X.K=K):MtR X "str.join" (uL K):=by subst hK;intro pins s σ H x xs v us Q I rx rs h;obtain⟨a,p,zs,rfl,rfl,hp,hj,q⟩:=h;obtain⟨t,rfl⟩:=rx;obtain⟨u,rfl,ru⟩:=ck rs;cases ru;obtain⟨its,r,⟨o,n,e,c,_,d⟩,hz⟩:=I.list hp;obtain⟨l,rfl,hl⟩:=jH r;exact SC.join ⟨o,e,c,n,d⟩ hl hj λt' k=>⟨.str _,H,I.tok _,⟨_,rfl⟩,q⟩
def rInT:R2:=λx y H Q=>∃i j,x=.str i/\y=.str j/\Q (.bl (!(occurrences j i 0 j.length 1).isEmpty)) H
def Ae:OpR X (compareOp .In) rInT:=ph
end
structure FlyH(P:Program)(w:World)(outer:List Env)(H:Hp)(h₀:Heap)(H':Hp)(ea:Addr)(cls:Value)(h:Heap)(B:Heap)(t L:Addr):Prop where
 un:Un (frs outer) [] H H' h₀ h
 hok:HOk P w H' h
 fl:Heap.HeldW B outer ea cls (.ref t) L h
 old:∀b o,h₀.get? b=some o->b∉frs outer->∃o',B.get? b=some o'
 trk:∀b o,H' b=some o->∃o',B.get? b=some o'
def CXH(P:Program)(w:World)(outer:List Env)(L:Addr)(H:Hp)(s:Shared)(E:XK)(e:Value)(s':Shared):Prop:=∃(ea t:Addr) (cls:Value) (H':Hp) (B:Heap),e=.ref ea/\s'.os=s.os/\AllBare s'.gens/\FlyH P w outer H s.heap H' ea cls s'.heap B t L/\E cls none H'
section
variable{P:Program}{w:World}{outer:List Env}{H H':Hp}{h₀ h h' B:Heap}
def gC(un:Un (frs outer) [] H H' h₀ h)(hok:HOk P w H' h)(old:∀b o,h₀.get? b=some o->b∉frs outer->∃o',B.get? b=some o')(trk:∀b o,H' b=some o->∃o',B.get? b=some o')(st:B.StaysIn h)(fr:h.FunFrames B outer)(st':B.StaysIn h')(up:h.UpToSlots h'):
 Un (frs outer) [] H H' h₀ h'/\HOk P w H' h':=by
 have fJ:∀b o,(∃o',B.get? b=some o')->h.get? b=some o->h'.get? b=some o:=λb o ⟨o',e⟩ q=>by have z:=st b o' e;rw[q] at z;cases z;exact st' b _ e
 have frame:∀b o,b∈frs outer->h.get? b=some o->∃sl,h'.get? b=some { o with slots:=sl }:=λb o hb q=>by obtain⟨_,o',ho',hd⟩:=fr.mem hb;rw[q] at ho';cases ho';exact up b o q hd
 refine⟨⟨λb o e n hb hx=>fJ b o (old b o e hb) (un.keep b o e n hb hx),λb o e n hb hx=>?_,un.free,λb o e hx=>?_,un.tups,un.frzs,un.tbls⟩,λa o e=>?_⟩
 .obtain⟨sl,q⟩:=un.slot b o e n hb hx;obtain⟨sl',q'⟩:=frame b _ hb q;exact⟨sl',q'⟩
 .obtain⟨o',q⟩:=un.there b o e hx;by_cases hb:b∈frs outer
  .obtain⟨sl,q'⟩:=frame b _ hb q;exact⟨_,q'⟩
  .exact⟨o',fJ b o' (old b o e hb) q⟩
 .refine (hok a o e).stay (λb u hb q=>fJ b u ?_ q) (λ_ q=>q) λ_ _ q=>q;rcases hb with z |z
  .rw[z];exact trk a o e
  .exact trk b _ z
end
def ir(X:Cx)(E:XK):Prop:=∀(pins:Ei) (σ:St) (H:Hp) (s:Shared) (e:Value) (s':Shared),Inv X pins σ H s->CXH X.prog X.w X.stack X.env.locals H s E e s'->X.xe e s'
section
variable{X:Cx}{pins:Ei}{σ:St}{H:Hp}{s s':Shared}{E:XK}{e:Value}
def oB(T:X.Top)(I:Inv X pins σ H s)(h:CXH X.prog X.w X.stack X.env.locals H s E e s'):
 wpAny (model X.prog X.w) A (leaving X.env e) (λ_ s''=>CX1 X.prog X.w X.outer X.H₀ X.s₀ E e s'') E' s':=by
 obtain⟨ea,t,cls,H',B,rfl,os,bare,F,q⟩:=h;have F0:=F;rw[T.stk] at F;have hf:=gq (outer:=X.outer) T.fr;unfold leaving;refine k_ (wpAny_noteFrame_againW T.fr F.fl.2.2.2 ?_);refine wpAny_landsW F.fl λh'' fl1 up=>?_;have fl'':Heap.FlyingW B X.outer ea cls (.ref t) h'':=⟨fl1.1,fl1.2.1,fl1.2.2.1.2.2,fl1.2.2.2⟩;obtain⟨un2,hok2⟩:=gC F.un F.hok F.old F.trk F.fl.1 F.fl.2.2.1 fl1.1 up;have exn:∀b,b∉X.ex:=λb z=>by rw[T.ex] at z;cases z
 have neL:∀b o,X.s₀.heap.get? b=some o->b≠X.env.locals:=λb o e=>Ct (t_ (n_ e) I.ok.above);have notin:∀b o,X.s₀.heap.get? b=some o->b∉frs X.outer->b∉frs (X.env::X.outer):=λb o e hb z=>by
  rw[hf] at z;rcases Cu.mp z with z |z
  .exact neL b o e z
  .exact hb z
 refine⟨ea,t,cls,H',B,rfl,os.trans I.os,bare,⟨⟨λb o e n hb hx=>?_,λb o e n hb hx=>?_,λb o e n hx=>?_,λb o e hx=>?_,λb xs e=>un2.tups b xs (I.base.tups b xs e),λb o xs e=>un2.frzs b o xs (I.base.frzs b o xs e),λb ps e=>?_⟩,hok2,fl'',λb o e hb=>?_,F.trk⟩,q⟩
 .exact un2.keep b o (I.base.keep b o e n hb (exn b)) (I.base.free b o e n (exn b)) (notin b o e hb) (by simp)
 .obtain⟨sl,e1⟩:=I.base.slot b o e n hb (exn b);obtain⟨sl',e2⟩:=un2.slot b _ e1 (I.base.free b o e n (exn b)) (by rw[hf];exact q_ _ hb) (by simp);exact⟨sl',e2⟩
 .obtain⟨o',e1⟩:=I.base.there b o e (exn b);exact un2.free b o' e1 (I.base.free b o e n (exn b)) (by simp)
 .obtain⟨o',e1⟩:=I.base.there b o e (exn b);exact un2.there b o' e1 (by simp)
 .obtain⟨m1,e1⟩:=I.base.tbls b ps e;obtain⟨m2,e2⟩:=un2.tbls b _ e1;exact⟨m1++m2,by rw[e2,Array.append_assoc]⟩
 .obtain⟨o',e1⟩:=I.base.there b o e (exn b);exact F.old b o' e1 (notin b o e hb)
def eP{M:Model}{A:Around}{E:Ej}{s:Shared}{base:Heap}{l:List Env}{e L:Addr}{cls a0:Value}{Q:Unit->Shared->Prop}
 (hh:Heap.HeldW base l e cls a0 L s.heap) (h:∀h',Heap.HeldW base l e cls a0 L h'->s.heap.UpToSlots h'->Q () { s with heap:=h' }):
 wpAny M A (setFlight (.ref e) (some L)) Q E s:=by
 obtain⟨hkb,hen,hl,oe,vs,T,oT,ts,he,hcls,hd,h1,hnT,hTe,hT,hdT,h3⟩:=hh;have hsz3:3<ts.size:=(Array.getElem?_eq_some_iff.mp h3).1;have a_:∀b,b≠T->(s.heap.update T (Obj.mapFields (·.setIfInBounds 3 ((some L:Option Addr).elim Value.none λf=>rawInt f)))).get? b=s.heap.get? b:=
  λb hb=>C0 _ _ (Ne.symm hb)
 have noRecord:∀b o,s.heap.get? b=some o->(∀vs,o.data ≠ .fields vs)->b≠T:=λb o hb hnf q=>by rw[q,hT] at hb;injection hb with hb;subst hb;exact hnf ts hdT
 unfold setFlight;refine k_ (Ed he hd h1 ?_);rw[if_pos (show (Value.ref T != Value.none)=true from by simp)];refine wpAny_setField hT hdT hsz3 (h _ ⟨λb o hbo=>(a_ b λq=>by rw[q,hnT] at hbo;cases hbo).trans (hkb b o hbo),hen,
  hl.of_keeps λb o hb hnf=>⟨o,(a_ b (noRecord b o hb hnf)).trans hb,rfl⟩,?_⟩ λb o hb hnf=>⟨o.slots,(a_ b (noRecord b o hb hnf)).trans hb⟩)
 exact⟨oe,vs,T,_,_,(a_ e (Ne.symm hTe)).trans he,hcls,hd,h1,hnT,hTe,Heap.get?_update_self _ hT (Obj.isFreed_of_fields (Obj.data_mapFields hdT _)),Obj.data_mapFields hdT _,by simp [hsz3]⟩
def f9{α:Type}{M:Model}{A:Around}{E:Ej}{s:Shared}{base:Heap}{l:List Env}{e L:Addr}{cls a0:Value}{Q:α->Shared->Prop}{what:String}{env:Env}(hf:env.frame=some L)
 (hh:Heap.HeldW base l e cls a0 L s.heap) (h:∀h',Heap.HeldW base l e cls a0 L h'->s.heap.UpToSlots h'->E (.ref e) { s with heap:=h' }):
 wpAny M A (passOn what (.ref e) env:Sem α) Q E s:=by
 obtain⟨hkb,hen,hl,oe,vs,T,oT,ts,he,hcls,hd,h1,r⟩:=id hh;unfold PySem.passOn;refine k_ (Ed he hd h1 ?_);rw[if_neg (show ¬ ((Value.ref T==Value.none)=true) from by simp)];rw[hf];exact k_ (eP hh λh' a b=>wpAny_throw (h h' a b))
end
def fu(M:Model)(A:Around)(E:Ej)(Q:Ej)(acc:Value)(cenv:Env)(r:Result)(s':Shared):Prop:=
 match r with
 |.ok _=>∃m,s'.heap.Ns cenv.locals m/\∀h',Heap.SameBut cenv.locals s'.heap h'->Q acc { s' with heap:=h' }
 |.error x=>∃m,s'.heap.Ns cenv.locals m/\∀h',Heap.SameBut cenv.locals s'.heap h'->wpAny M A (passOn "comprehension.variables-let-go" x cenv:Sem Value) (λ_ _=>False) E { s' with heap:=h' }
section
variable{M:Model}{A:Around}{E:Ej}{s:Shared}{env:Env}
def ek{e:Expr}{scope:Scope}{pos:Pos}{newAcc first:Sem Value}{g:Comprehension}{gs:List Comprehension}{cl:List (Str×Addr)}
 {Q:Ej}
 (hcl:clausesOf e=g::gs) (hs:∀x,foldedSetIterable g.iter env x=pure x) (hclos:closureFor scope env=pure cl)
 (hkind:scope.kind=.function) (b_:∀x∈scope.names,x.2=.local->scope.names.lookup x.1=some .local)
 (h:wpAny M A first (λx s₁=>wpAny M A (pyIter x) (λit s₂=>wpAny M A newAcc (λacc s₃=>
  wpAny M A (newFunctionEnv scope env.globals cl [] env.qual none .none (some env)) (λcenv s₄=>
   codeAny M A (.compStart e 0 it acc { cenv with scope:=relabel scope env }) (fu M A E Q acc { cenv with scope:=relabel scope env }) s₄) E s₃) E s₂) E s₁) E s):
 wpAny M A (comprehension e scope env pos newAcc false first none) Q E s:=by
 unfold comprehension;rw[hclos,hcl];refine k_ (z_ h (λx s₁ h₁=>k_ (Dc (k_ (wpAny_of_eq (hs x) (k_ (CL (z_ h₁ (λit s₂ h₂=>
  wpAny_standIf (k_ (z_ h₂ (λacc s₃ h₃=>k_ (s_ (k_ (z_ h₃ (λcenv s₄ h₄=>?_) λ_ _ h'=>h')))) λ_ _ h'=>h')))
   λ_ _ h'=>h'))))))) λ_ _ h'=>h')
 dsimp only;have hv:∀x∈(scope.names.filter λx=>(x.2 == .local || x.2 == .cell)&&x.1 != (".0" : Str)).reverse,x.2=.local->
  Env.kindOf { cenv with scope:=relabel scope env } x.1=some .local:=λx hx hl=>lookup_relabel_local (b_ x (List.mem_filter.mp (List.mem_reverse.mp hx)).1 hl)
 refine CL (k_ (wpAny_attempt (CL (wpAny_run (D_ h₄ λr s' hr=>?_)))));cases r with
 |ok f=>obtain⟨m,hn,hr⟩:=hr;exact k_ (CL (wpAny_comp_letGo (cenv:={ cenv with scope:=relabel scope env }) hkind _ s' m hv hn λh' m' _ hs'=>s_ (hr h' hs')))
 |error x=>obtain⟨m,hn,hr⟩:=hr;exact k_ (CL (wpAny_comp_letGo (cenv:={ cenv with scope:=relabel scope env }) hkind _ s' m hv hn λh' m' _ hs'=>z_ (hr h' hs') (λ_ _ f=>f.elim) λ_ _ y=>y))
end
section
variable{X:Cx}{pins pY:Ei}{σ σY:St}{H2 H3:Hp}{s2 s4 s':Shared}{N:List Str}{scope:Scope}{cl:List (Str×Addr)}{C:Addr}{fp:List Addr}{E:XK}{e:Value}
def o6(I2:Inv X pins σ H2 s2)(hC:s2.heap.objs.size<=C)(f2:∀b∈fp,(b∈X.ex\/X.s₀.heap.objs.size<=b)/\b≠X.env.locals/\(∀x c,X.env.cells.lookup x=some c->c≠b)/\∀p∈X.pn++pins,p.1≠b)
 (I4:Inv (aC X N scope cl C s2 H2 fp) pY σY H3 s4) (hs':∀b o,b≠C->s4.heap.get? b=some o->h'.get? b=some o):Inv X pins σ H3 { s4 with heap:=h' }:=by
 have hCfree:H3 C=none:=I4.free;have un4:Un (frs X.stack) fp H2 H3 s2.heap s4.heap:=I4.base;have ne2:∀b o,s2.heap.get? b=some o->b≠C:=λb o e=>Ct (t_ (n_ e) hC);have un5:Un (frs X.stack) fp H2 H3 s2.heap h':=by
  refine⟨λb o e n hb hx=>hs' b o (ne2 b o e) (un4.keep b o e n hb hx),λb o e n hb hx=>?_,un4.free,λb o e hx=>?_,un4.tups,un4.frzs,un4.tbls⟩
  .obtain⟨sl,q⟩:=un4.slot b o e n hb hx;exact⟨sl,hs' b _ (ne2 b o e) q⟩
  .obtain⟨o',q⟩:=un4.there b o e hx;exact⟨o',hs' b _ (ne2 b o e) q⟩
 have hok5:HOk X.prog X.w H3 h':=λb u e=>(I4.hok b u e).stay (λc v hcc q=>hs' c v (λz=>by
  rcases hcc with zz |zz
  .rw[zz] at z;rw[z,hCfree] at e;cases e
  .rw[z,hCfree] at zz;cases zz) q) (λ_ q=>q) λ_ _ q=>q
 exact I2.call' (s':={ s4 with heap:=h' }) (ch:=fp) I4.os un5 hok5 I4.bare f2
def nZ{R:Ej}{acc:Value}(T:X.Top)(I2:Inv X pins σ H2 s2)(hC:s2.heap.objs.size<=C)(f2:∀b∈fp,(b∈X.ex\/X.s₀.heap.objs.size<=b)/\b≠X.env.locals/\(∀x c,X.env.cells.lookup x=some c->c≠b)/\∀p∈X.pn++pins,p.1≠b)
 (I:Inv (aC X N scope cl C s2 H2 fp) pY σY H3 s4) (hx:ir X E) (h:CX1 X.prog X.w X.stack H3 s4 E e s'):
 notedBy (model X.prog X.w) X.A (compEnvC scope cl C X.env) (λx s''=>fu (model X.prog X.w) X.A X.xe R acc (compEnvC scope cl C X.env) (.error x) s'') e s':=by
 obtain⟨ea,t,cls,H',B,rfl,os,bare,F,q⟩:=h;have hfr:X.A.frames=some (X.env::X.outer):=by rw[I2.ok.frames,T.stk]
 have F1:=F.fl;rw[T.stk] at F1;show wpAny _ _ (noteFrame (.ref ea) X.env) _ _ _;refine wpAny_looks_onW hfr T.fr F1 λh1 fl1 up1=>?_;obtain⟨un1,hok1⟩:=gC F.un F.hok F.old F.trk F.fl.1 F.fl.2.2.1 fl1.1 up1;obtain⟨m,hn,_⟩:=I.loc;have hn:s4.heap.Ns C m:=hn;obtain⟨oC,esC,epC,hoC,hdC,rC⟩:=hn;have hCfree:H3 C=none:=I.free;have hCf:C∉frs X.stack:=λz=>by obtain⟨_,o,ho,_⟩:=I2.stack.mem z;exact absurd (t_ (n_ ho) hC) (CA _)
 have hC1:h1.get? C=some oC:=un1.keep C oC hoC hCfree hCf (by simp);have nC:h1.Ns C m:=⟨oC,esC,epC,hC1,hdC,rC⟩;have noC:∀b o vs,h1.get? b=some o->o.data=.fields vs->b≠C:=λb o vs e d z=>by rw[z,hC1] at e;cases e;rw[hdC] at d;cases d
 refine⟨m,nC,λh2 hs2=>?_⟩;have up2:∀b o,b≠C->h1.get? b=some o->h2.get? b=some o:=λb o hb e=>hs2.extBut b o hb e;have hH':H' C=none:=un1.free C oC hoC hCfree (by simp);have I5:Inv X pins σ H3 { s4 with heap:=W.hideAll s4.heap [C] }:=o6 I2 hC f2 I λb o hb e=>Eg [C] e (by simpa using hb);have hid:∀{g:Heap}{b:Addr}{o:Obj},(W.hideAll g [C]).get? b=some o->b≠C/\g.get? b=some o:=λ{g b o} e=>by refine⟨λz=>?_,W.of_hideAll [C] e⟩;rw[W.hideAll_none [C] (by simp [z])] at e;cases e
 have put:∀{g:Heap}{b:Addr}{o:Obj},b≠C->g.get? b=some o->(W.hideAll g [C]).get? b=some o:=λ{g b o} hb e=>Eg [C] e (by simpa using hb);have hnone:∀{b:Addr},B.get? b=none->(W.hideAll B [C]).get? b=none:=λ{b} e=>by
  cases z:(W.hideAll B [C]).get? b with
  |none=>rfl
  |some o=>rw[(hid z).2] at e;cases e
 have un2:Un (frs X.stack) [] H3 H' (W.hideAll s4.heap [C]) h2:=by
  refine⟨λb o e n hb hx=>?_,λb o e n hb hx=>?_,λb o e n hx=>un1.free b o (hid e).2 n hx,λb o e hx=>?_,un1.tups,un1.frzs,un1.tbls⟩
  .exact up2 b o (hid e).1 (un1.keep b o (hid e).2 n hb hx)
  .obtain⟨sl,q⟩:=un1.slot b o (hid e).2 n hb hx;exact⟨sl,up2 b _ (hid e).1 q⟩
  .obtain⟨o',q⟩:=un1.there b o (hid e).2 hx;exact⟨o',up2 b _ (hid e).1 q⟩
 have hok2:HOk X.prog X.w H' h2:=λb u e=>(hok1 b u e).stay (λc v hcc q=>up2 c v (λz=>by
  rcases hcc with zz |zz
  .rw[zz] at z;rw[z,hH'] at e;cases e
  .rw[z,hH'] at zz;cases zz) q) (λ_ q=>q) λ_ _ q=>q
 have neS:∀env∈X.stack,env.frame≠some C:=λenv he z=>hCf (DB.mpr ⟨env,he,z⟩);have fr2:∀(l:List Env),(∀env∈l,env.frame≠some C)->h1.FunFrames B l->h2.FunFrames (W.hideAll B [C]) l:=by
  intro l;induction l with
  |nil=>intro _ _;trivial
  |cons env r ih=>rintro hne ⟨hk,⟨L,o,hf,hn,ho,hd⟩,hr⟩;have hL:L≠C:=λz=>hne env (.head _) (by rw[hf,z]);exact⟨hk,⟨L,o,hf,hnone hn,up2 L o hL ho,hd⟩,ih (λe he=>hne e (.tail _ he)) hr⟩
 have fl2:Heap.HeldW (W.hideAll B [C]) X.stack ea cls (.ref t) X.env.locals h2:=by obtain⟨g1,g2,g3,oe,vs,T1,oT,ts,he,hc,hd,h1',hnT,hTe,hT,hdT,h3⟩:=fl1;rw[<- T.stk] at g3;exact⟨λb o e=>up2 b o (hid e).1 (g1 b o (hid e).2),hnone g2,fr2 X.stack neS g3,oe,vs,T1,oT,ts,up2 _ _ (noC _ _ _ he hd) he,hc,hd,h1',hnone hnT,hTe,up2 _ _ (noC _ _ _ hT hdT) hT,hdT,h3⟩
 have old2:∀b o,(W.hideAll s4.heap [C]).get? b=some o->b∉frs X.stack->∃o',(W.hideAll B [C]).get? b=some o':=λb o e hb=>by obtain⟨o',z⟩:=F.old b o (hid e).2 hb;exact⟨o',put (hid e).1 z⟩
 have trk2:∀b o,H' b=some o->∃o',(W.hideAll B [C]).get? b=some o':=λb o e=>by obtain⟨o',z⟩:=F.trk b o e;exact⟨o',put (λy=>by rw[y,hH'] at e;cases e) z⟩
 refine f9 (env:=compEnvC scope cl C X.env) T.fr (s:={ s' with heap:=h2 }) fl2 λh3 fl3 up3=>?_;obtain⟨un3,hok3⟩:=gC un2 hok2 old2 trk2 fl2.1 fl2.2.2.1 fl3.1 up3;exact hx pins σ H3 _ (.ref ea) _ I5 ⟨ea,t,cls,H',W.hideAll B [C],rfl,os,bare,⟨un3,hok3,fl3,old2,trk2⟩,q⟩
end
section
variable{prog:Program}{w:World}{A:Around}{R:Result->Shared->Prop}{s:Shared}
def jV{h_ f_ iter:Expr}{j_:List Expr}{scope:Scope}{pos:Pos}{it acc:Value}{env:Env}(I:Nat->Shared->Prop)
 (turn
  : ∀n s,I n s->wpAny (model prog w) A (pyNext it) (λr s₁=>match r with
  |none=>R (.ok .next) s₁
  |some v=>wpAny (model prog w) A (letOwnedTupleGo f_ it v) (λ_ s₁'=>wpAny (model prog w) A (assign f_ env v) (λ_ s₂=>
   wpAny (model prog w) A (forIn j_ true λc r=>if r=true then do let ok <- isTrue c env (eval c env);pure (ForInStep.yield ok) else pure (ForInStep.yield r))
    (λok s₃=>if ok=true then wpAny (model prog w) A (eval h_ env) (λx s₄=>wpAny (model prog w) A (call (.builtin "list.append") [acc,x]) (λ_ s₅=>∃m,m<n/\I m s₅) (λ_ _=>False) s₄) (notedBy (model prog w) A env λe s'=>R (.error e) s') s₃
     else ∃m,m<n/\I m s₃) (λ_ _=>False) s₂) (λ_ _=>False) s₁') (λ_ _=>False) s₁) (λ_ _=>False) s)
 (n:Nat) (h:I n s):
 codeAny (model prog w) A (.compLoop (.ListComp h_ [⟨f_,iter,j_,0⟩] scope pos) 0 it acc env) R s:=by
 refine codeAny_loop rfl I (λn s hI=>?_) n h;show wpAny _ _ ((compTurn (.ListComp h_ [⟨f_,iter,j_,0⟩] scope pos) 0 it acc env).onRaise (λx=>do noteFrame x env;theTreesLotGoes x)) _ _ s;refine wpAny_noted ?_;rw[compTurn_list];refine k_ (Dc (k_ (z_ (turn n s hI) (λr s₁ h₁=>?_) λ_ _ h'=>h'.elim)));cases r with
 |none=>exact s_ h₁
 |
  some v=>
  refine k_ (z_ h₁ (λ_ s₁' h₁'=>?_) λ_ _ h'=>h'.elim);refine k_ (z_ h₁' (λ_ s₂ h₂=>?_) λ_ _ h'=>h'.elim);refine k_ (z_ h₂ (λok s₃ h₃=>?_) λ_ _ h'=>h'.elim);cases ok with
  |true=>simp only[Ds] at h₃ ⊢;refine k_ (k_ (z_ h₃ (λx s₄ h₄=>?_) λ_ _ h'=>h'));refine k_ (z_ h₄ (λ_ s₅ h₅=>?_) λ_ _ h'=>h'.elim);exact s_ (s_ ⟨rfl,h₅⟩)
  |
   false=>
   simp only[CQ,Dn] at h₃ ⊢;first
    |exact k_ (s_ (s_ ⟨rfl,h₃⟩))
    |exact s_ ⟨rfl,h₃⟩
end
abbrev eJ(X:Cx)(N:List Str)(scope:Scope)(cl:List (Str×Addr))(C:Addr)(s₂:Shared)(H:Hp)(fp:List Addr)(Ex:XK):Cx:=
 (aC X N scope cl C s₂ H fp).wish λe s'=>∃pins σ H1 s,Inv (aC X N scope cl C s₂ H fp) pins σ H1 s/\CX1 X.prog X.w X.stack H1 s Ex e s'
def AQ{X:Cx}{N:List Str}{scope:Scope}{cl:List (Str×Addr)}{C:Addr}{s₂:Shared}{H:Hp}{fp:List Addr}{Ex:XK}:iA (CX1 X.prog X.w) (eJ X N scope cl C s₂ H fp Ex) Ex:=λpins σ H s e s' I h=>⟨pins,σ,H,s,I.unwish,h⟩
section
variable{X:Cx}
def t9{h_ iter tg:Expr}{j_:List Expr}{scope:Scope}{pos:Pos}{wi:TI}{g:TG}{tc:TT}{te:TE}{N:List Str}{sub:Ek}{R:Ej}{Ex:XK}{pins:Ei}{s:Shared}{σ:St}{H:Hp}{Q:VK}{fpos:Pos}
 (hT:X.Top) (hxx:ir X Ex) (hc:X.calm=true) (hi:PI X tg iter wi)
 (hk:scope.kind=.function) (hnc:∀x∈scope.names,x.2 ≠ .cell) (b_:∀x∈scope.names,x.2=.local->scope.names.lookup x.1=some .local)
 (hfr:∀x∈scope.names,x.2=.free->X.env.kindOf x.1=some .cell\/X.env.kindOf x.1=some .free)
 (hsl:sub.length=N.length) (i_:∀(j i:Nat) (x:Str),sub[j]?=some (some i)->N[j]?=some x->X.N[i]?=some x/\scope.names.lookup x=some .free)
 (hg:∀cl C s₂ H fp,PG (aC X N scope cl C s₂ H fp) tg g) (ht:∀cl C s₂ H fp,PTs (aC X N scope cl C s₂ H fp) j_ tc) (he:∀cl C s₂ H fp,PE (eJ X N scope cl C s₂ H fp Ex) h_ te)
 (hs:∀x,foldedSetIterable iter X.env x=pure x) (I:Inv X pins σ H s) (h:eX wi sub g tc te σ H Q)
 (c_:∀D C s4,LcEnd X pins σ Q D C s4->∃m,s4.heap.Ns C m/\∀h',Heap.SameBut C s4.heap h'->R (.ref D) { s4 with heap:=h' }):
 wpAny (model X.prog X.w) X.A (comprehension (.ListComp h_ [⟨tg,iter,j_,0⟩] scope pos) scope X.env fpos (newList []) false (eval iter X.env) none) R X.xe s:=by
 obtain⟨cl,hclos,hcl,hclf⟩:=fk (env:=X.env) (scope:=scope) λx hx hf=>I.ok.has x.1 (hfr x hx hf);refine ek rfl hs hclos hk b_ ?_;show wpAny _ _ (eval iter X.env) _ _ _;refine thn (hi pins s σ H _ I h) λv s1 h1=>thn h1 λitv s2 h2=>?_;obtain⟨it,fp,tn,J,H2,e,I2,T,st2,f2,W,⟨m0,w0⟩,turn⟩:=h2;subst e;refine CW (wpAny_newFunctionEnv hnc (by intro y hy;simp at hy) (λh₁ hns₁ hsb₁=>?_) hk);dsimp only at hns₁ hsb₁ ⊢;generalize hH2:s2.heap.push { cls:=.type "list",dict:=none,data:=.seq ([]:List Value).toArray }=G2 at hns₁ hsb₁ ⊢;have hC:G2.objs.size=s2.heap.objs.size+1:=by rw[<- hH2,Heap.size_push]
 have hDC:s2.heap.objs.size≠G2.objs.size:=by omega
 have below:∀b,b<s2.heap.objs.size->b≠G2.objs.size/\b≠s2.heap.objs.size:=λb hb=>⟨by omega,by omega⟩;have old:∀b o,s2.heap.get? b=some o->h₁.get? b=some o:=λb o e=>hsb₁.extBut b o (below b (n_ e)).1 (m_ _ (hH2 ▸ m_ _ e));have hD₁:h₁.get? s2.heap.objs.size=some { cls:=.type "list",dict:=none,data:=.seq ([]:List Value).toArray }:=hsb₁.extBut _ _ hDC (m_ _ (hH2 ▸ CB _ rfl));have fresh:∀a,s2.heap.objs.size<=a->s2.heap.get? a=none:=λa ha=>C8 ha;have cellOld:∀x c,cl.lookup x=some c->c<s2.heap.objs.size:=λx c e=>by obtain⟨v,z⟩:=I2.cell x c (hcl x c e);exact z.lt
 have fpOld:∀b∈fp,b<s2.heap.objs.size:=λb hb=>by obtain⟨o,e,_⟩:=T.obj _ _ st2 b hb;exact n_ e
 let Y:Cx:=aC X N scope cl G2.objs.size s2 H2 fp
 have okY:Y.Ok
  := by
  refine⟨I2.ok.mod,?_,I2.ok.glob,I2.ok.blt,?_,λx y c e1 e2=>I2.ok.inj x y c (hcl x c e1) (hcl y c e2),λx hx=>?_,λx c hfn _=>absurd hfn o_,I2.ok.hd,I2.ok.frames,.inl rfl,
   λb hb=>⟨?_,λx c e z=>?_⟩,I2.bs,Cw I2.ok.bsz I2.sz,λb o e hb=>?_,λb hb hf=>?_,I2.stack,I2.stkFree⟩
  .show (relabel scope X.env).kind=.function;exact hk
  .show s2.heap.objs.size<=G2.objs.size;omega
  .have hx':(
    relabel scope X.env).names.lookup x=some .cell\/(relabel scope X.env).names.lookup x=some .free:=hx
   have:∃k,
    (x,k)∈scope.names/\k=.free:=by
    have gen:∀(names:List (Str×NameKind)),(∀y∈names,y.2 ≠ .cell)->∀kk,(kk=NameKind.cell\/kk=NameKind.free)->(names.map λ(n,k)=>if (k==NameKind.free&&X.env.scope.kind == .function&&X.env.kindOf n==some .cell) then (n,NameKind.cell) else (n,k)).lookup x=some kk->∃k,(x,k)∈names/\k=.free:=by
     intro names;induction names with
     |nil=>intro _ kk _ e;simp at e
     |
      cons y r ih=>
      intro hn kk hkk e;obtain⟨n,k⟩:=y;rw[Cr,CJ] at e;by_cases hkf:k=.free
      .subst hkf;by_cases hxn:x=n
       .exact⟨.free,by rw[hxn];exact r_,rfl⟩
       .have hb:(x==(if (NameKind.free==NameKind.free&&X.env.scope.kind == .function&&X.env.kindOf n==some .cell)=true then (n,NameKind.cell) else (n,NameKind.free)).1)=false:=by split <;> exact Cq.mpr hxn
        rw[hb] at e;obtain⟨k',m,q⟩:=ih (λz hz=>hn z (q_ _ hz)) kk hkk e;exact⟨k',q_ _ m,q⟩
      .have hb0:(k==NameKind.free&&X.env.scope.kind == .function&&X.env.kindOf n==some .cell)=false:=by
        have:(k==NameKind.free)=false:=by simpa using hkf
        rw[this];rfl
       rw[hb0] at e;simp only[CQ,Dn] at e;cases q:x==n with
       |
        true=>
        rw[q] at e;have e':k=kk:=x_ e;subst e';rcases hkk with z |z
        .exact absurd z (hn (n,k) r_)
        .exact absurd z hkf
       |false=>rw[q] at e;obtain⟨k',m,q⟩:=ih (λz hz=>hn z (q_ _ hz)) kk hkk e;exact⟨k',q_ _ m,q⟩
    rcases hx' with z |z
    .exact gen scope.names hnc _ (.inl rfl) z
    .exact gen scope.names hnc _ (.inr rfl) z
   obtain⟨k,m,q⟩:=this;exact hclf (x,k) m q
  .show b≠G2.objs.size;exact (below b (fpOld b hb)).1
  .exact (f2 b hb).2.2.2.2.1 x c (hcl x c e) z
  .rcases (f2 b hb).2.2.2.1 with z |z
   .exact I2.ok.noex b o e z
   .exact absurd (t_ (n_ e) (Cw I2.ok.bsz z)) (CA _)
  .have hf':b∈frs X.stack:=hf;rcases Cu.mp (I2.stkSub b hf') with z |z
   .exact (f2 b hb).2.1 z
   .exact (f2 b hb).2.2.1 z
 have startLoc
  : ∃m,h₁.Ns G2.objs.size m/\∀(i:Nat) (x:Str) (v:V),N[i]?=some x->(br sub σ)[i]?=some (some v)->Vis (relabel scope X.env) x->∃u,RelV v u/\n0 Y.env h₁ m x u:=by
  refine⟨_,hns₁,λj x v e1 e2 e3=>?_⟩;unfold br at e2;rw[Cs] at e2;cases q:sub[j]? with
  |none=>rw[q] at e2;cases e2
  |
   some o=>
   rw[q] at e2;cases o with
   |none=>cases e2
   |
    some i=>
    obtain⟨hNi,hfree⟩:=i_ j i x q e1;have e2':(σ[i]?).bind id=some v:=x_ e2;have e2'':σ[i]?=some (some v):=by
     cases z:σ[i]? with
     |none=>rw[z] at e2';cases e2'
     |some y=>rw[z] at e2';rw[show y=some v from e2']
    obtain⟨m2,hn2,hl2⟩:=I2.loc;have hkx:=hfr (x,.free) (CH hfree) rfl;obtain⟨u,r,l⟩:=hl2 i x v hNi e2'' (by rcases hkx with z |z;exact .inr (.inl z);exact .inr (.inr z));refine⟨u,r,.inr ⟨?_,?_⟩⟩
    .rcases e3
      with z |z |z
     .exfalso;have gen:∀(names:List (Str×NameKind)),names.lookup x=some .free->(names.map λ(n,k)=>if (k==NameKind.free&&X.env.scope.kind == .function&&X.env.kindOf n==some .cell) then (n,NameKind.cell) else (n,k)).lookup x=some .local->False:=by
       intro names;induction names with
       |nil=>intro e _;simp at e
       |
        cons y r ih=>
        intro e1 e2;obtain⟨n,k⟩:=y;rw[CJ] at e1;rw[Cr,CJ] at e2;by_cases hxn:x=n
        .have hb1:(x==n)=true:=CG.mpr hxn;rw[hb1] at e1;have:k=.free:=x_ e1;subst this;split at e2
         .rename_i hq;split at e2 <;> cases e2
         .rename_i hq;split at hq <;> (rw[hb1] at hq;cases hq)
        .have hb1:(x==n)=false:=Cq.mpr hxn;rw[hb1] at e1;refine ih e1 ?_;split at e2
         .rename_i hq;split at hq <;> (rw[hb1] at hq;cases hq)
         .exact e2
      exact gen scope.names hfree z
     .exact .inl z
     .exact .inr z
    .obtain⟨c,hc'⟩:=hclf (x,.free) (CH hfree) rfl;refine⟨c,hc',?_⟩;rcases l with ⟨k,_⟩ |⟨_,c2,ec2,z⟩
     .rcases hkx with z |z <;> (rw[k] at z;cases z)
     .have:=hcl x c hc'
      rw[ec2] at this;cases this;obtain⟨oc,hoc,hd⟩:=z;exact⟨oc,old _ _ hoc,hd⟩
 have pinD:∀{σ':St}{H':Hp}{s':Shared}{pl:Ei}{o:Obj},Inv Y pl σ' H' s'->s'.heap.get? s2.heap.objs.size=some o->(∀v,o.data ≠ .cell v)->H' s2.heap.objs.size=none->Inv Y [(s2.heap.objs.size,o)] σ' H' s':=λ{σ' H' s' pl o} IY e d n=>
  IY.pins_of λp hp=>by
   have e':p=(s2.heap.objs.size,o):=by simpa using hp
   subst e';refine⟨e,n,?_,?_,d⟩
   .show s2.heap.objs.size≠G2.objs.size;omega
   .intro hf;have hf':s2.heap.objs.size∈frs X.stack:=hf;obtain⟨_,o',ho',_⟩:=I2.stack.mem hf';exact absurd (n_ ho') (CA _)
 have fpY:∀{H':Hp}{pl:Ei},(∀b∈fp,H' b=none)->(∀p∈pl,p.1∉fp)->∀b∈fp,ft Y pl H' b:=λ{H' pl} hn hp b hb=>by
  refine⟨hn b hb,?_,?_,.inl hb,λx c e=>?_,λp hp'=>?_⟩
  .exact (okY.exf b hb).1
  .exact okY.exfs b hb
  .exact (okY.exf b hb).2 x c e
  .intro z;have hp'':p∈pl:=by simpa [Y,aC] using hp'
   exact hp p hp'' (by rw[z];exact hb)
 have hDfp:s2.heap.objs.size∉fp:=λz=>CA _ (fpOld _ z);have loop
  : ∀s₃:Shared,s₃={ s2 with heap:=h₁,toks:=s2.toks+([]:List (Str×Value)).length }->
  codeAny (model X.prog X.w) X.A (.compLoop (.ListComp h_ [⟨tg,iter,j_,0⟩] scope pos) 0 (.ref it) (.ref s2.heap.objs.size) (compEnvC scope cl G2.objs.size X.env))
   (fu (model X.prog X.w) X.A X.xe R (.ref s2.heap.objs.size) (compEnvC scope cl G2.objs.size X.env)) s₃:=by
  rintro s₃ rfl;have IY0:Inv Y [(s2.heap.objs.size,{ cls:=.type "list",dict:=none,data:=.seq ([]:List Value).toArray })] (br sub σ) H2 { s2 with heap:=h₁,toks:=s2.toks+([]:List (Str×Value)).length }:=by
   have J0:Inv Y [] (br sub σ) H2 { s2 with heap:=h₁,toks:=s2.toks+([]:List (Str×Value)).length }:=by
    refine⟨okY,rfl,I2.bare,Un.kept old,startLoc,λx c e=>?_,I2.hok.fresh (by show s2.heap.objs.size<=G2.objs.size;omega),λx c e=>I2.freeC x c (hcl x c e),λp hp=>absurd (show p∈([]:Ei) from hp) (by simp),I2.hok.kept old,?_⟩
    .obtain⟨v,oc,hoc,hd⟩:=I2.cell x c (hcl x c e);exact⟨v,oc,old _ _ hoc,hd⟩
    .show (br sub σ).length=N.length;unfold br;rw[u_];exact hsl
   exact pinD J0 hD₁ (λv z=>by cases z) I2.fresh
  refine jV (λn s'=>∃(i:Nat) (ys:List V) (its:List Value) (k:Nat) (σ':St) (H':Hp),Inv Y [(s2.heap.objs.size,{ cls:=.type "list",dict:=none,data:=.seq its.toArray k })] σ' H' s'/\Vals ys its/\tn i s'.heap/\(∀b∈fp,H' b=none)/\W i n ys σ' H') ?_ m0
   ⟨0,[],[],0,br sub σ,H2,IY0,.nil,T.keep _ _ _ st2 (λb hb o e=>old b o e),λb hb=>(f2 b hb).1,w0⟩
  rintro n s3 ⟨i,ys,its,k,σ3,H3,I3,rv,st3,fr3,w3⟩;have npl:∀(o:Obj),∀p∈[(s2.heap.objs.size,o)],p.1∉fp:=λo p hp=>by
   have e':p=(s2.heap.objs.size,o):=by simpa using hp
   subst e';exact hDfp
  rcases turn i n ys σ3 H3 w3 with ⟨stop,hz,qn⟩ |⟨go,hz,Nx,hNx,step⟩
  .refine z_ (T.done Y rfl rfl rfl hc i _ s3 σ3 H3 (λ_ _=>False) I3 (fpY fr3 (npl _)) st3 stop) (λr s4 ⟨hr,I4⟩=>?_) λ_ _ z=>z;subst hr;obtain⟨m4,hn4,_⟩:=I4.loc;have hCfree:H3 G2.objs.size=none:=I4.free;have hD4:=I4.pin (s2.heap.objs.size,{ cls:=.type "list",dict:=none,data:=.seq its.toArray k }) (y_ _ r_);have un4:Un (frs X.stack) fp H2 H3 s2.heap s4.heap:=I4.base;have ne2:∀b o,s2.heap.get? b=some o->b≠G2.objs.size:=λb o e=>(below b (n_ e)).1;have hDfree:H3 s2.heap.objs.size=none:=hD4.2.1;have sz0:X.s₀.heap.objs.size<=s2.heap.objs.size:=I2.sz;refine c_ s2.heap.objs.size G2.objs.size s4 ⟨⟨m4,hn4⟩,by rw[hC];exact Nat.lt_succ_self _,I2.lt,λx c e=>?_,λp hp=>n_ (I2.pin p hp).1,sz0,upd H3 s2.heap.objs.size (.lst ys),by rw[ax (Ne.symm hDC)];exact hCfree,qn _ hDfree,λh' hs'=>?_⟩
   .obtain⟨v,q⟩:=I2.cell x c e;exact q.lt
   have up:∀b o,b≠G2.objs.size->s4.heap.get? b=some o->h'.get? b=some o:=λb o hb e=>hs'.extBut b o hb e;have un5:Un (frs X.stack) fp H2 H3 s2.heap h':=by
    refine⟨λb o e n hb hx=>up b o (ne2 b o e) (un4.keep b o e n hb hx),λb o e n hb hx=>?_,un4.free,λb o e hx=>?_,un4.tups,un4.frzs,un4.tbls⟩
    .obtain⟨sl,q⟩:=un4.slot b o e n hb hx;exact⟨sl,up b _ (ne2 b o e) q⟩
    .obtain⟨o',q⟩:=un4.there b o e hx;exact⟨o',up b _ (ne2 b o e) q⟩
   have hok5:HOk X.prog X.w H3 h':=λb u e=>(I4.hok b u e).stay (λc v hcc q=>up c v (λz=>by
    rcases hcc with zz |zz
    .rw[zz] at z;rw[z,hCfree] at e;cases e
    .rw[z,hCfree] at zz;cases zz) q) (λ_ q=>q) λ_ _ q=>q
   have I5:Inv X pins σ H3 { s4 with heap:=h' }:=I2.call' (s':={ s4 with heap:=h' }) (ch:=fp) I4.os un5 hok5 I4.bare λb hb=>by obtain⟨_,g1,_,g3,g4,g5⟩:=f2 b hb;exact⟨g3,g1,g4,g5⟩
   refine I5.track (o:=.lst ys) hDfree (C8 sz0) (D9 I2.lt) (λx c e z=>?_) (λp hp z=>?_) ?_
   .obtain⟨v,q⟩:=I2.cell x c e;exact absurd q.lt (by rw[z];exact CA _)
   .exact absurd (n_ (I2.pin p hp).1) (by rw[z];exact CA _)
   .exact⟨hz,its,k,rv,up _ _ hDC hD4.1⟩
  .refine z_ (T.item Y rfl rfl rfl hc i _ s3 σ3 H3 (λ_ _=>False) I3 (fpY fr3 (npl _)) st3 go) (λr s4 ⟨u,hr,h4⟩=>?_) λ_ _ z=>z;subst hr;refine z_ h4 (λ_ s5 ⟨x,H5,I5,r5,y5,st5,fr5⟩=>?_) λ_ _ z=>z;have I5':=I5.pinned (fpY fr5 (npl _)) (T.obj _ _ st5);refine z_ (hg cl G2.objs.size s2 H2 fp _ s5 σ3 H5 x u _ I5' r5 (step x H5 y5)) (λ_ s6 ⟨σ6,H6,I6,q6⟩=>?_) λ_ _ z=>z;refine z_ (ht cl G2.objs.size s2 H2 fp _ s6 σ6 H6 _ I6 q6) (λok s7 ⟨H7,I7,q7⟩=>?_) λ_ _ z=>z;have back:∀{σ':St}{H':Hp}{s':Shared},Inv Y ([(s2.heap.objs.size,{ cls:=.type "list",dict:=none,data:=.seq its.toArray k })]++d9 fp s5.heap) σ' H' s'->tn (i+1) s'.heap/\∀b∈fp,H' b=none:=λ{σ' H' s'} IB=>by refine⟨T.keep _ _ _ st5 λb hb o e=>(IB.pin (b,o) (y_ _ (y_ _ (bZ hb e)))).1,λb hb=>?_⟩;obtain⟨o,e,d⟩:=T.obj _ _ st5 b hb;exact (IB.pin (b,o) (y_ _ (y_ _ (bZ hb e)))).2.1
   cases ok with
   |false=>rw[if_neg o_] at q7;obtain⟨m',hm,w7⟩:=hNx _ _ _ q7;rw[if_neg o_];obtain⟨t7,f7⟩:=back I7;exact⟨m',hm,i+1,ys,its,k,σ6,H7,I7.unpinned,rv,t7,f7,w7⟩
   |
    true=>
    rw[if_pos rfl] at q7;rw[if_pos rfl];refine z_ (he cl G2.objs.size s2 H2 fp _ s7 σ6 H7 _ (I7.wish _) q7) (λy s8 ⟨yv,H8,I8',r8,q8⟩=>?_) λe s' ⟨pY,σY,HY,sY,IY,z⟩=>nZ hT I2 (by omega) (λb hb=>by obtain⟨_,g1,_,g3,g4,g5⟩:=f2 b hb;exact⟨g3,g1,g4,g5⟩) IY hxx z;have I8:=I8'.unwish;obtain⟨m',hm,w8⟩:=hNx _ _ _ q8;obtain⟨t8,f8⟩:=back I8;have I9:=I8.unpinned;have hD9:=I9.pin (s2.heap.objs.size,{ cls:=.type "list",dict:=none,data:=.seq its.toArray k }) (y_ _ r_);have e9:s8.heap.get? s2.heap.objs.size=some { cls:=.type "list",dict:=none,data:=.seq its.toArray k }:=hD9.1;have hlen:=rv.length;refine Dg F.slot_list_append ⟨_,e9,rfl⟩ Eb (D2 _ _) (PySem.list_append _ its.toArray k y (by rw[w_];omega)) ⟨e9,?_⟩;have q9:=PySem.IsL.update e9 (λxs=>xs.push y);have ea:its.toArray.push y=(its++[y]).toArray:=by simp
    rw[ea] at q9;have k9:∀b o,b≠s2.heap.objs.size->s8.heap.get? b=some o->(s8.heap.update s2.heap.objs.size (Obj.mapSeq λxs=>xs.push y)).get? b=some o:=λb o hb e=>(C0 _ _ (Ne.symm hb)).trans e;have I10:Inv Y [] σ6 H8 { s8 with heap:=s8.heap.update s2.heap.objs.size (Obj.mapSeq λxs=>xs.push y) }:=
     (I9.pins_of (pins':=[]) (λp hp=>nomatch hp)).turned (t':=s8.toks) k9 hD9.2.1 hD9.2.2.1 (.inr (v_ _)) (λx c e z=>absurd (cellOld x c e) (by rw[z];exact CA _))
      (λp hp=>absurd (show p∈([]:Ei) from hp) (by simp))
    refine⟨m',hm,i+1,ys++[yv],its++[y],_,σ6,H8,pinD I10 q9 (λv z=>by cases z) hD9.2.1,rv.append (.cons r8 .nil),?_,f8,w8⟩;exact T.keep _ _ _ t8 λb hb o e=>k9 b o (λz=>hDfp (by rw[<- z];exact hb)) e
 exact codeAny_compStart_list (loop _ rfl) (T.self _ 0 _ _ _ (T.keep _ _ _ st2 λb hb o e=>old b o e) (loop _ rfl))
def yt{h_ iter tg:Expr}{j_:List Expr}{scope:Scope}{pos:Pos}{wi:TI}{g:TG}{tc:TT}{te:TE}{N:List Str}{sub:Ek}{Ex:XK}
 (hT:X.Top) (hxx:ir X Ex) (hc:X.calm=true) (hi:PI X tg iter wi)
 (hk:scope.kind=.function) (hnc:∀x∈scope.names,x.2 ≠ .cell) (b_:∀x∈scope.names,x.2=.local->scope.names.lookup x.1=some .local)
 (hfr:∀x∈scope.names,x.2=.free->X.env.kindOf x.1=some .cell\/X.env.kindOf x.1=some .free)
 (hsl:sub.length=N.length) (i_:∀(j i:Nat) (x:Str),sub[j]?=some (some i)->N[j]?=some x->X.N[i]?=some x/\scope.names.lookup x=some .free)
 (hg:∀cl C s₂ H fp,PG (aC X N scope cl C s₂ H fp) tg g) (ht:∀cl C s₂ H fp,PTs (aC X N scope cl C s₂ H fp) j_ tc) (he:∀cl C s₂ H fp,PE (eJ X N scope cl C s₂ H fp Ex) h_ te)
 (hs:∀x,foldedSetIterable iter X.env x=pure x):
 PE X (.ListComp h_ [⟨tg,iter,j_,0⟩] scope pos) (eX wi sub g tc te):=by
 intro pins s σ H Q I h;rw[eval_ListComp];refine t9 hT hxx hc hi hk hnc b_ hfr hsl i_ hg ht he hs I h λD C s4 e=>?_;obtain⟨m,hm⟩:=e.ns;obtain⟨H',_,q,i⟩:=e.inv;exact⟨m,hm,λh' hs'=>⟨.ref D,H',i h' hs',rfl,q⟩⟩
def qU{CX:CXT}{P:Program}{w:World}{K:W.Frag}{mg:Eh}{base:Heap}{N:List Str}{qual:Str}{scope:Scope}{f:Addr}{cd:Value}{A:Around}{outer:List Env}{s:Shared}{H:Hp}{E:XK}:(bR CX P w K mg base N qual scope f cd A outer s H E).Top:=⟨rfl,rfl,rfl⟩
def tP{P:Program}{w:World}{K:W.Frag}{mg:Eh}{base:Heap}{N:List Str}{qual:Str}{scope:Scope}{f:Addr}{cd:Value}{A:Around}{outer:List Env}{s:Shared}{H:Hp}{E:XK}:ir (bR (CX1 P w) P w K mg base N qual scope f cd A outer s H E) E:=λpins σ H s e s' I h=>oB qU I h
end
end L2
namespace L3
open PySem PySem.Spec PyProof.Rows L2
set_option genInjectivity true in
inductive Val where
 |non |bl (b:Bool) |int (i:Int) |str (x:Str) |ty (n:String) |glb (x:Str) |exc (x:Str)
 |tup (xs:List Val) |lst (xs:List Val) |kl (xs:List Val) |dct (kvs:List (Key×Val)) |set (xs:List Int)
 deriving Inhabited
abbrev St:=L2.St
structure LeH(H H':Hp):Prop where
 tup:∀b xs,H b=some (.tup xs)->H' b=some (.tup xs)
 frz:∀b o u,H b=some (.frz o u)->H' b=some (.frz o u)
 ext:∀b φ,H b=some (.ext φ)->H' b=some (.ext φ)
def LeH.refl:LeH H H:=⟨λ_ _ e=>e,λ_ _ _ e=>e,λ_ _ e=>e⟩
def LeH.trans(a:LeH H H1)(b:LeH H1 H2):LeH H H2:=⟨λx y e=>b.tup x y (a.tup x y e),λx y z e=>b.frz x y z (a.frz x y z e),λx y e=>b.ext x y (a.ext x y e)⟩
def Gr(H H':Hp):Prop:=∀a o,H a=some o->H' a=some o
def Gr.le(g:Gr H H'):LeH H H':=⟨λ_ _=>g _ _,λ_ _ _=>g _ _,λ_ _=>g _ _⟩
def Gr.refl:Gr H H:=λ_ _ e=>e
def Gr.upd(h:H p=none):Gr H (upd H p u):=λa o e=>by rw[ax (bY e h)];exact e
def Gr.none(g:Gr H H')(h:H' a=none):H a=none:=by
 cases q:H a with
 |none=>rfl
 |some o=>rw[g a o q] at h;cases h
def LeH.sqT{K:W.Frag}(l:LeH H H')(q:SqT K H a xs):SqT K H' a xs:=by
 rcases q with (q |⟨o,q⟩) |q
 .exact .inl (.inl (l.tup _ _ q))
 .exact .inl (.inr ⟨o,l.frz _ _ _ q⟩)
 .exact .inr q
section
variable(K:W.Frag)(mg:Eh)
def KlR(a:Addr)(vs:List V):Prop:=∃(o:Obj) (its:Array Value) (n:Nat),K.lookup a=some o/\o.cls=.type "list" /\ o.dict=none/\o.data=.seq its n/\its.size<=sizeLine/\Vals vs its.toList
mutual
inductive Rd(P:Addr->Prop)(H:Hp):V->Val->Prop where
 |non:Rd P H .non .non
 |bl (b:Bool):Rd P H (.bl b) (.bl b)
 |int (i:Int):Rd P H (.int i) (.int i)
 |str (x:Str):Rd P H (.str x) (.str x)
 |ty (n:String):Rd P H (.ty n) (.ty n)
 |glb {x:Str}{a:Addr} (m:mg x=some (.ref a)):Rd P H (.ref a) (.glb x)
 |exc {x:Str}{a C:Addr} (m:mg x=some (.ref C)) (e:H a=some (.ext (gi a C))):Rd P H (.ref a) (.exc x)
 |tup {p:Addr}{vs:List V}{us:List Val} (h:SqT K H p vs) (r:Rds P H vs us):Rd P H (.ref p) (.tup us)
 |kl {a:Addr}{vs:List V}{us:List Val} (h:KlR K a vs) (r:Rds P H vs us):Rd P H (.ref a) (.kl us)
 |cell {a:Addr}{o:HO}{v:Val} (p:P a) (e:H a=some o) (r:Rc P H o v):Rd P H (.ref a) v
inductive Rc(P:Addr->Prop)(H:Hp):HO->Val->Prop where
 |lst {vs:List V}{us:List Val} (r:Rds P H vs us):Rc P H (.lst vs) (.lst us)
 |fz {o:Obj}{vs:List V}{us:List Val} (r:Rds P H vs us):Rc P H (.frz o (.lst vs)) (.kl us)
 |dct {ws:List (Key×V)}{us:List (Key×Val)} (r:Rk P H ws us):Rc P H (.dK ws) (.dct us)
 |set (xs:List Int) (nd:xs.Nodup):Rc P H (.set (λi=>decide (i∈xs)) xs.length) (.set xs)
inductive Rds(P:Addr->Prop)(H:Hp):List V->List Val->Prop where
 |nil:Rds P H [] []
 |cons {d:V}{v:Val}{ds:List V}{vs:List Val} (r:Rd P H d v) (rr:Rds P H ds vs):Rds P H (d::ds) (v::vs)
inductive Rk(P:Addr->Prop)(H:Hp):List (Key×V)->List (Key×Val)->Prop where
 |nil:Rk P H [] []
 |cons {k:Key}{d:V}{v:Val}{ds:List (Key×V)}{vs:List (Key×Val)} (r:Rd P H d v) (rr:Rk P H ds vs):Rk P H ((k,d)::ds) ((k,v)::vs)
end
end
def kU(o:HO):Prop:=∀ps,o ≠ .tbl ps
structure Mov(P P':Addr->Prop)(H H':Hp):Prop where
 le:LeH H H'
 cl:∀a o,P a->H a=some o->kU o->P' a/\H' a=some o
def Gr.mov(g:Gr H H'):Mov P P H H':=⟨g.le,λa o p e _=>⟨p,g a o e⟩⟩
def Mov.of(h:∀a,P a->P' a):Mov P P' H H:=⟨.refl,λa o p e _=>⟨h a p,e⟩⟩
section
variable{K:W.Frag}{mg:Eh}{P P':Addr->Prop}{H H':Hp}
def Rc.nt(r:Rc K mg P H o v):kU o:=by cases r <;> exact λ_ z=>nomatch z
def Rd.mono(m:Mov P P' H H')(r:Rd K mg P H d v):Rd K mg P' H' d v:=@Rd.rec K mg P H (λd v _=>Rd K mg P' H' d v) (λo v _=>Rc K mg P' H' o v) (λds vs _=>Rds K mg P' H' ds vs) (λws us _=>Rk K mg P' H' ws us) .non (λb=>.bl b) (λi=>.int i) (λx=>.str x) (λn=>.ty n) (λe=>.glb e) (λq e=>.exc q (m.le.ext _ _ e)) (λh _ ih=>.tup (m.le.sqT h) ih) (λh _ ih=>.kl h ih) (λp e r ih=>.cell (m.cl _ _ p e r.nt).1 (m.cl _ _ p e r.nt).2 ih) (λ_ ih=>.lst ih) (λ_ ih=>.fz ih) (λ_ ih=>.dct ih) (λxs nd=>.set xs nd) .nil (λ_ _ a b=>.cons a b) .nil (λ_ _ a b=>.cons a b) d v r
def Rds.ind{M:List V->List Val->Prop}(h0:M [] [])(h1:∀{d v ds vs},Rd K mg P H d v->Rds K mg P H ds vs->M ds vs->M (d::ds) (v::vs)){ds:List V}{vs:List Val}(r:Rds K mg P H ds vs):M ds vs:=by
 induction ds generalizing vs with
 |nil=>cases r;exact h0
 |
  cons d ds ih=>
  cases r with
  |cons r rr=>exact h1 r rr (ih rr)
def Rk.ind{M:List (Key×V)->List (Key×Val)->Prop}(h0:M [] [])(h1:∀{k d v ds vs},Rd K mg P H d v->Rk K mg P H ds vs->M ds vs->M ((k,d)::ds) ((k,v)::vs)){ds:List (Key×V)}{vs:List (Key×Val)}(r:Rk K mg P H ds vs):M ds vs:=by
 induction ds generalizing vs with
 |nil=>cases r;exact h0
 |
  cons d ds ih=>
  cases r with
  |cons r rr=>exact h1 r rr (ih rr)
def Rds.mono(m:Mov P P' H H'){d:List V}{v:List Val}(r:Rds K mg P H d v):Rds K mg P' H' d v:=r.ind .nil λr _ ih=>.cons (r.mono m) ih
def Rk.mono(m:Mov P P' H H'){d:List (Key×V)}{v:List (Key×Val)}(r:Rk K mg P H d v):Rk K mg P' H' d v:=r.ind .nil λr _ ih=>.cons (r.mono m) ih
def Rc.mono(m:Mov P P' H H')(r:Rc K mg P H d v):Rc K mg P' H' d v:=by
 cases r with
 |lst r=>exact .lst (r.mono m)
 |fz r=>exact .fz (r.mono m)
 |dct r=>exact .dct (r.mono m)
 |set xs nd=>exact .set xs nd
def Rds.len{ds:List V}{vs:List Val}(r:Rds K mg P H ds vs):ds.length=vs.length:=r.ind (M:=λds vs=>ds.length=vs.length) rfl λ_ _ ih=>CM (· + 1) ih
def Rds.get{ds:List V}{vs:List Val}{i:Nat}{v:Val}(r:Rds K mg P H ds vs)(e:vs[i]?=some v):∃d,ds[i]?=some d/\Rd K mg P H d v:=
 r.ind (M:=λds vs=>∀i,vs[i]?=some v->∃d,ds[i]?=some d/\Rd K mg P H d v) (λ_ e=>by rw[List.getElem?_nil] at e;cases e) (λr _ ih i e=>match i,e with
  |0,e=>by cases e;exact⟨_,rfl,r⟩
  |i+1,e=>ih i e) i e
def Rds.append{ds es:List V}{vs ws:List Val}(r:Rds K mg P H ds vs)(q:Rds K mg P H es ws):Rds K mg P H (ds++es) (vs++ws):=r.ind (M:=λds vs=>Rds K mg P H (ds++es) (vs++ws)) q λr _ ih=>.cons r ih
def Rds.take{ds:List V}{vs:List Val}(n:Nat)(r:Rds K mg P H ds vs):Rds K mg P H (ds.take n) (vs.take n):=
 r.ind (M:=λds vs=>∀n:Nat,Rds K mg P H (ds.take n) (vs.take n)) (λn=>by rw[Ef,Ef];exact .nil) (λr _ ih n=>by cases n with |zero=>exact .nil |succ n=>exact .cons r (ih n)) n
def Rds.drop{ds:List V}{vs:List Val}(n:Nat)(r:Rds K mg P H ds vs):Rds K mg P H (ds.drop n) (vs.drop n):=
 r.ind (M:=λds vs=>∀n:Nat,Rds K mg P H (ds.drop n) (vs.drop n)) (λn=>by rw[Ee,Ee];exact .nil) (λr rr ih n=>by cases n with |zero=>exact .cons r rr |succ n=>exact ih n) n
def Rds.set{d:V}{v:Val}(r:Rd K mg P H d v){ds:List V}{vs:List Val}(i:Nat)(q:Rds K mg P H ds vs):Rds K mg P H (ds.set i d) (vs.set i v):=
 q.ind (M:=λds vs=>∀i:Nat,Rds K mg P H (ds.set i d) (vs.set i v)) (λ_=>.nil) (λq qq ih i=>by cases i with |zero=>exact .cons r qq |succ i=>exact .cons q (ih i)) i
def Rds.reverse(r:Rds K mg P H ds vs):Rds K mg P H ds.reverse vs.reverse:=by
 induction ds generalizing vs with
 |nil=>cases r;exact .nil
 |
  cons d ds ih=>
  cases r with
  |cons q rr=>rw[DQ,DQ];exact (ih rr).append (.cons q .nil)
def ShR(K:W.Frag)(mg:Eh)(P:Addr->Prop)(H:Hp)(d:V)(v:Val):Prop:=Rd K mg P H d v\/∃a o,d=.ref a/\H a=some o/\Rc K mg P H o v
inductive ShRs(K:W.Frag)(mg:Eh)(P:Addr->Prop)(H:Hp):List V->List Val->Prop where
 |nil:ShRs K mg P H [] []
 |cons {d:V}{v:Val}{ds:List V}{vs:List Val} (r:ShR K mg P H d v) (rr:ShRs K mg P H ds vs):ShRs K mg P H (d::ds) (v::vs)
def ShR.mono(m:Mov P P' H H')(g:Gr H H')(r:ShR K mg P H d v):ShR K mg P' H' d v:=by
 rcases r with r |⟨a,o,rfl,e,r⟩
 .exact .inl (r.mono m)
 .exact .inr ⟨a,o,rfl,g a o e,r.mono m⟩
def ShR.int(r:ShR K mg P H d (.int i)):d=.int i:=by
 rcases r with r |⟨n,o,rfl,e,r⟩
 .cases r with
  |int=>rfl
  |cell p e r=>cases r
 .cases r
def ShR.str(r:ShR K mg P H d (.str i)):d=.str i:=by
 rcases r with r |⟨n,o,rfl,e,r⟩
 .cases r with
  |str=>rfl
  |cell p e r=>cases r
 .cases r
def ShR.bl(r:ShR K mg P H d (.bl i)):d=.bl i:=by
 rcases r with r |⟨n,o,rfl,e,r⟩
 .cases r with
  |bl=>rfl
  |cell p e r=>cases r
 .cases r
def ShR.non(r:ShR K mg P H d .non):d=.non:=by
 rcases r with r |⟨n,o,rfl,e,r⟩
 .cases r with
  |non=>rfl
  |cell p e r=>cases r
 .cases r
def ShR.exc(r:ShR K mg P H d (.exc x)):∃a C,d=.ref a/\mg x=some (.ref C)/\H a=some (.ext (gi a C)):=by
 rcases r with r |⟨n,o,rfl,e,r⟩
 .cases r with
  |exc m e=>exact⟨_,_,rfl,m,e⟩
  |cell p e r=>cases r
 .cases r
def ShR.ty(r:ShR K mg P H d (.ty x)):d=.ty x:=by
 rcases r with r |⟨n,o,rfl,e,r⟩
 .cases r with
  |ty=>rfl
  |cell p e r=>cases r
 .cases r
def ShR.glb(r:ShR K mg P H d (.glb x)):∃a,d=.ref a/\mg x=some (.ref a):=by
 rcases r with r |⟨n,o,rfl,e,r⟩
 .cases r with
  |glb m=>exact⟨_,rfl,m⟩
  |cell p e r=>cases r
 .cases r
def ShR.tup(r:ShR K mg P H d (.tup us)):∃p vs,d=.ref p/\SqT K H p vs/\Rds K mg P H vs us:=by
 rcases r with r |⟨n,o,rfl,e,r⟩
 .cases r with
  |tup h r=>exact⟨_,_,rfl,h,r⟩
  |cell p e r=>cases r
 .cases r
def ShR.lst(r:ShR K mg P H d (.lst us)):∃a vs,d=.ref a/\H a=some (.lst vs)/\Rds K mg P H vs us:=by
 rcases r with r |⟨n,o,rfl,e,r⟩
 .cases r with
  |cell p e r=>cases r with |lst r=>exact⟨_,_,rfl,e,r⟩
 .cases r with |lst r=>exact⟨_,_,rfl,e,r⟩
def ShR.dct(r:ShR K mg P H d (.dct us)):∃a ws,d=.ref a/\H a=some (.dK ws)/\Rk K mg P H ws us:=by
 rcases r with r |⟨n,o,rfl,e,r⟩
 .cases r with
  |cell p e r=>cases r with |dct r=>exact⟨_,_,rfl,e,r⟩
 .cases r with |dct r=>exact⟨_,_,rfl,e,r⟩
def ShR.kl(r:ShR K mg P H d (.kl us)):∃a vs,d=.ref a/\SqL K H a vs/\Rds K mg P H vs us:=by
 rcases r with r |⟨n,o,rfl,e,r⟩
 .cases r with
  |kl h r=>exact⟨_,_,rfl,.inr h,r⟩
  |cell p e r=>cases r with |fz r=>exact⟨_,_,rfl,.inl (.inr ⟨_,e⟩),r⟩
 .cases r with |fz r=>exact⟨_,_,rfl,.inl (.inr ⟨_,e⟩),r⟩
def ShR.lstL(r:ShR K mg P H d (.lst us)):∃a vs,d=.ref a/\SqL K H a vs/\Rds K mg P H vs us:=by obtain⟨a,vs,e,h,q⟩:=r.lst;exact⟨a,vs,e,SqL.of h,q⟩
end
noncomputable def Val.items:Val->Option (List Val)
 |.tup xs=>some xs
 |.lst xs=>some xs
 |.kl xs=>some xs
 |_=>none
def ShR.items{K:W.Frag}{mg:Eh}{P:Addr->Prop}{H:Hp}{d:V}{v:Val}{us:List Val}(r:ShR K mg P H d v)(e:v.items=some us):∃a vs,d=.ref a/\(SqL K H a vs\/SqT K H a vs)/\Rds K mg P H vs us:=by
 cases v with
 |tup xs=>cases e;obtain⟨a,vs,h1,h2,h3⟩:=r.tup;exact⟨a,vs,h1,.inr h2,h3⟩
 |lst xs=>cases e;obtain⟨a,vs,h1,h2,h3⟩:=r.lstL;exact⟨a,vs,h1,.inl h2,h3⟩
 |kl xs=>cases e;obtain⟨a,vs,h1,h2,h3⟩:=r.kl;exact⟨a,vs,h1,.inl h2,h3⟩
 |_=>cases e
inductive Sl where
 |no |sh (v:Val) |ow (v:Val) |mu (v:Val) |lo (v:Val) |lm (v:Val)
 deriving Inhabited
abbrev E3:=List Sl
noncomputable def Sl.val:Sl->Option Val
 |.no=>none
 |.sh v=>some v
 |.ow v=>some v
 |.mu v=>some v
 |.lo v=>some v
 |.lm v=>some v
noncomputable def Sl.mt:Sl->Bool
 |.ow _=>true
 |.mu _=>true
 |_=>false
noncomputable def Sl.lk:Sl->Bool
 |.lo _=>true
 |.lm _=>true
 |_=>false
abbrev Ns:=List (Option Addr)
def Oc(X:Addr->Prop)(ns:Ns)(n:Addr):Prop:=¬ X n/\some n∉ns
def NotFz:HO->Prop
 |.lst _=>True
 |.dK _=>True
 |.set _ _=>True
 |_=>False
def TbQ(H:Hp)(P:Addr)(q:Str):Prop:=∃ps:Array Value,H P=some (.tbl ps)/\TriplesOk ps.toList/\∀pos cv,codeAmong pos ps.toList=some cv->∃c,cv=.ref c/\H c=some (.ext (codO c q))
section
variable(K:W.Frag)(mg:Eh)
def Bs(H:Hp):Prop:=∀P q,tu K mg P q->TbQ H P q/\rT K mg H
def SlR(P:Addr->Prop)(N0:Addr->Prop)(n:Option (Option Addr))(d:Option (Option V))(H:Hp):Sl->Prop
 |.no=>n=some none
 |.sh v=>n=some none/\∃x,d=some (some x)/\Rd K mg P H x v
 |.ow v=>∃m o,n=some (some m)/\d=some (some (.ref m))/\N0 m/\H m=some o/\NotFz o/\Rc K mg P H o v
 |.lo v=>∃m o,n=some (some m)/\d=some (some (.ref m))/\N0 m/\H m=some o/\NotFz o/\Rc K mg P H o v
 |.mu v=>∃m o,n=some (some m)/\d=some (some (.ref m))/\H m=some o/\NotFz o/\Rc K mg P H o v
 |.lm v=>∃m o,n=some (some m)/\d=some (some (.ref m))/\H m=some o/\NotFz o/\Rc K mg P H o v
structure Sat(X:Addr->Prop)(N0:Addr->Prop)(ns:Ns)(e:E3)(σ:St)(H:Hp):Prop where
 l1:σ.length=e.length
 l2:ns.length=e.length
 lh:∀a,H a=none->N0 a
 xl:∀a,X a->∃o,H a=some o
 inj:∀(i j:Nat) (n:Addr),ns[i]?=some (some n)->ns[j]?=some (some n)->i=j
 nx:∀(i:Nat) (n:Addr),ns[i]?=some (some n)->¬ X n
 sl:∀(i:Nat) (s:Sl),e[i]?=some s->SlR K mg (Oc X ns) N0 (ns[i]?) (σ[i]?) H s
 bs:Bs K mg H
end
def Mt(ns:Ns)(e:E3)(n:Addr):Prop:=∃(i:Nat) (s:Sl),ns[i]?=some (some n)/\e[i]?=some s/\s.mt=true
structure Stp(ns:Ns)(e:E3)(H:Hp)(ns':Ns)(e':E3)(H':Hp):Prop where
 le:LeH H H'
 dom:∀a,H' a=none->H a=none
 keep:∀(m:Addr) (o:HO),H m=some o->kU o->¬ Mt ns e m->H' m=some o
 nw:∀(i:Nat) (n:Addr),ns'[i]?=some (some n)->ns[i]?=some (some n)\/H n=none
 lk:∀(i:Nat) (s:Sl),e[i]?=some s->s.lk=true->e'[i]?=some s/\ns'[i]?=ns[i]?
 lk':∀(i:Nat) (s:Sl),e'[i]?=some s->s.lk=true->e[i]?=some s/\ns'[i]?=ns[i]?
 mu:∀(i:Nat) (v:Val),e'[i]?=some (.mu v)->∃u,e[i]?=some (.mu u)/\ns'[i]?=ns[i]?
 mu':∀(i:Nat) (u:Val),e[i]?=some (.mu u)->∃v,e'[i]?=some (.mu v)/\ns'[i]?=ns[i]?
section
variable{K:W.Frag}{mg:Eh}{X Y N0 P P':Addr->Prop}{ns ns1 g_:Ns}{e e1 e2:E3}{σ:St}{H H' H1 H2:Hp}
def NotFz.nt(h:NotFz o):kU o:=λps z=>by subst z;exact h
def NotFz.no(h:NotFz o):(∀xs,o ≠ .tup xs)/\(∀x y,o ≠ .frz x y)/\(∀φ,o ≠ .ext φ)/\∀ps,o ≠ .tbl ps:=
 ⟨λ_ z=>by subst z;exact h,λ_ _ z=>by subst z;exact h,λ_ z=>by subst z;exact h,λ_ z=>by subst z;exact h⟩
def LeH.wr(q:H a=some u)(hf:NotFz u):LeH H (upd H a o):=by
 have n:∀b w,H b=some w->w≠u->upd H a o b=some w:=λb w e z=>by rw[ax λy=>?_];exact e;subst y;rw[q] at e;exact z (x_ e).symm
 exact⟨λb xs e=>n b _ e λz=>hf.no.1 _ z.symm,λb x y e=>n b _ e λz=>hf.no.2.1 _ _ z.symm,λb φ e=>n b _ e λz=>hf.no.2.2.1 _ z.symm⟩
def Ag(b:rT K mg H)(l:LeH H H'):rT K mg H':=by
 obtain⟨x,o,h1,h2,h3,h4,h5⟩:=b;refine⟨x,o,h1,h2,h3,h4,?_⟩;rcases h5 with z |⟨u,z⟩
 .exact .inl z
 .exact .inr ⟨u,l.frz _ _ _ z⟩
def Bs.of(b:Bs K mg H)(l:LeH H H')(t:∀a ps,H a=some (.tbl ps)->H' a=some (.tbl ps)):Bs K mg H':=λP q h=>by obtain⟨⟨ps,h1,h2,h3⟩,m⟩:=b P q h;exact⟨⟨ps,t _ _ h1,h2,λpos cv z=>by obtain⟨c,y1,y2⟩:=h3 pos cv z;exact⟨c,y1,l.ext _ _ y2⟩⟩,Ag m l⟩
def Bs.gr(b:Bs K mg H)(g:Gr H H'):Bs K mg H':=b.of g.le λa _=>g a _
def Bs.wr(b:Bs K mg H)(q:H a=some u)(hf:NotFz u):Bs K mg (upd H a o):=b.of (LeH.wr q hf) λc ps e=>by rw[ax λy=>?_];exact e;subst y;rw[q] at e;exact hf.no.2.2.2 _ (x_ e)
def aB{n:Addr}:some n∈ns ↔ ∃i:Nat,ns[i]?=some (some n):=by
 constructor
 .intro m;exact List.getElem?_of_mem m
 .rintro⟨i,e⟩;exact CT e
def Sat.own(S:Sat K mg X N0 ns e σ H){i:Nat}{n:Addr}(q:ns[i]?=some (some n)):∃s v o,e[i]?=some s/\(s.mt=true\/s.lk=true)/\s.val=some v/\σ[i]?=some (some (.ref n))/\H n=some o/\NotFz o/\Rc K mg (Oc X ns) H o v:=by
 have hi:i<e.length:=by rw[<- S.l2];exact (l_.mp q).1
 have hs:=S.sl i e[i] (A_ hi);refine⟨e[i],?_⟩;have he:=A_ hi;generalize e[i]=s at *;rw[q] at hs;cases s with
 |no=>cases hs
 |sh v=>cases hs.1
 |ow v=>obtain⟨m,o,e1,e2,_,e3,e4,e5⟩:=hs;cases e1;exact⟨v,o,he,.inl rfl,rfl,e2,e3,e4,e5⟩
 |lo v=>obtain⟨m,o,e1,e2,_,e3,e4,e5⟩:=hs;cases e1;exact⟨v,o,he,.inr rfl,rfl,e2,e3,e4,e5⟩
 |mu v=>obtain⟨m,o,e1,e2,e3,e4,e5⟩:=hs;cases e1;exact⟨v,o,he,.inl rfl,rfl,e2,e3,e4,e5⟩
 |lm v=>obtain⟨m,o,e1,e2,e3,e4,e5⟩:=hs;cases e1;exact⟨v,o,he,.inr rfl,rfl,e2,e3,e4,e5⟩
def Stp.gr(g:Gr H H'):Stp ns e H ns e H':=⟨g.le,λ_=>g.none,λ_ _ q _ _=>g _ _ q,λ_ _ q=>.inl q,λ_ _ q _=>⟨q,rfl⟩,λ_ _ q _=>⟨q,rfl⟩,λ_ _ q=>⟨_,q,rfl⟩,λ_ _ q=>⟨_,q,rfl⟩⟩
def Stp.refl:Stp ns e H ns e H:=.gr .refl
def Stp.trans(S:Sat K mg X N0 ns e σ H)(a:Stp ns e H ns1 e1 H1)(b:Stp ns1 e1 H1 g_ e2 H2):Stp ns e H g_ e2 H2:=by
 refine⟨a.le.trans b.le,λx z=>a.dom x (b.dom x z),λm o q ht hm=>?_,λi n q=>?_,λi s q hl=>?_,λi s q hl=>?_,λi v q=>?_,λi v q=>?_⟩
 .refine b.keep m o (a.keep m o q ht hm) ht λ⟨i,s,z1,z2,z3⟩=>hm ?_;rcases a.nw i m z1 with z |z
  .obtain⟨s0,v,o',q1,q2,_⟩:=S.own z;rcases q2 with q2 |q2
   .exact⟨i,s0,z,q1,q2⟩
   .have:=(a.lk i s0 q1 q2).1
    rw[z2] at this;cases this;exfalso;cases s <;> first |cases z3;done |cases q2;done
  .rw[q] at z;cases z
 .rcases b.nw i n q with z |z
  .exact a.nw i n z
  .exact .inr (a.dom n z)
 .obtain⟨q1,q2⟩:=a.lk i s q hl;obtain⟨q3,q4⟩:=b.lk i s q1 hl;exact⟨q3,q4.trans q2⟩
 .obtain⟨q1,q2⟩:=b.lk' i s q hl;obtain⟨q3,q4⟩:=a.lk' i s q1 hl;exact⟨q3,q2.trans q4⟩
 .obtain⟨u,q1,q2⟩:=b.mu i v q;obtain⟨u',q3,q4⟩:=a.mu i u q1;exact⟨u',q3,q2.trans q4⟩
 .obtain⟨u,q1,q2⟩:=a.mu' i v q;obtain⟨u',q3,q4⟩:=b.mu' i u q1;exact⟨u',q3,q4.trans q2⟩
def Stp.mov(a:Stp ns e H ns1 e1 H1):Mov (Oc X ns) (Oc X ns1) H H1:=⟨a.le,λn o p q ht=>by
 have hm:¬ Mt ns e n:=λ⟨i,s,z,_⟩=>p.2 (aB.mpr ⟨i,z⟩);refine⟨⟨p.1,λz=>?_⟩,a.keep n o q ht hm⟩;obtain⟨i,z⟩:=aB.mp z;rcases a.nw i n z with z |z
 .exact p.2 (aB.mpr ⟨i,z⟩)
 .rw[q] at z;cases z⟩
def SlR.mono(m:Mov P P' H H')(k:∀j o,n=some (some j)->H j=some o->NotFz o->H' j=some o)(r:SlR K mg P N0 n d H s):SlR K mg P' N0 n d H' s:=by
 cases s with
 |no=>exact r
 |sh v=>obtain⟨q,x,q1,q2⟩:=r;exact⟨q,x,q1,q2.mono m⟩
 |ow v=>obtain⟨j,o,q1,q2,q3,q4,q5,q6⟩:=r;exact⟨j,o,q1,q2,q3,k j o q1 q4 q5,q5,q6.mono m⟩
 |lo v=>obtain⟨j,o,q1,q2,q3,q4,q5,q6⟩:=r;exact⟨j,o,q1,q2,q3,k j o q1 q4 q5,q5,q6.mono m⟩
 |mu v=>obtain⟨j,o,q1,q2,q4,q5,q6⟩:=r;exact⟨j,o,q1,q2,k j o q1 q4 q5,q5,q6.mono m⟩
 |lm v=>obtain⟨j,o,q1,q2,q4,q5,q6⟩:=r;exact⟨j,o,q1,q2,k j o q1 q4 q5,q5,q6.mono m⟩
def Xn(X:Addr->Prop)(n:Addr):Addr->Prop:=λm=>X m\/m=n
def Sat.gr(S:Sat K mg X N0 ns e σ H)(g:Gr H H'):Sat K mg X N0 ns e σ H':=
 ⟨S.l1,S.l2,λa z=>S.lh a (g.none z),λa z=>by obtain⟨o,q⟩:=S.xl a z;exact⟨o,g a o q⟩,S.inj,S.nx,λi s q=>(S.sl i s q).mono g.mov λj o _ q _=>g j o q,S.bs.gr g⟩
def Sat.grow(S:Sat K mg X N0 ns e σ H)(g:Gr H H')(hp:H p=none)(q:H' p=some o):Sat K mg (Xn X p) N0 ns e σ H':=by
 have S':=S.gr g;have np:∀b u,H b=some u->b≠p:=λb u y z=>by subst z;rw[hp] at y;cases y
 refine⟨S.l1,S.l2,S'.lh,λa z=>?_,S.inj,λi n q' z=>?_,λi s q=>(S.sl i s q).mono ⟨g.le,λa o p q _=>⟨⟨λz=>?_,p.2⟩,g a o q⟩⟩ λj o _ q _=>g j o q,S'.bs⟩
 .rcases z with z |rfl
  .exact S'.xl a z
  .exact⟨o,q⟩
 .rcases z with z |rfl
  .exact S.nx i n q' z
  .obtain⟨_,_,_,_,_,_,_,y,_⟩:=S.own q';exact np _ _ y rfl
 .rcases z with z |z
  .exact p.1 z
  .exact np _ _ q z
def Sat.weak(S:Sat K mg Y N0 ns e σ H)(hx:∀n,X n->Y n):Sat K mg X N0 ns e σ H:=
 ⟨S.l1,S.l2,S.lh,λn z=>S.xl n (hx n z),S.inj,λi n q z=>S.nx i n q (hx n z),λi s q=>(S.sl i s q).mono (.of λn p=>⟨λz=>p.1 (hx n z),p.2⟩) λ_ _ _ q _=>q,S.bs⟩
end
section
variable{K:W.Frag}{mg:Eh}{X N0:Addr->Prop}{ns ns0:Ns}{e e0:E3}{σ:St}{H Hs:Hp}
def aV{α:Type}{l:List α}{i j:Nat}{a b:α}(hi:i<l.length)(q:(l.set i a)[j]?=some b):(j=i/\b=a)\/(j≠i/\l[j]?=some b):=by
 rw[List.getElem?_set] at q;by_cases z:i=j
 .subst z;rw[if_pos rfl,if_pos hi] at q;exact .inl ⟨rfl,(x_ q).symm⟩
 .rw[if_neg z] at q;exact .inr ⟨λy=>z y.symm,q⟩
def bL{α:Type}{l:List α}{i:Nat}{a:α}(hi:i<l.length):(l.set i a)[i]?=some a:=by rw[List.getElem?_set,if_pos rfl,if_pos hi]
def bA{α:Type}{l:List α}{i j:Nat}{a:α}(hi:j≠i):(l.set i a)[j]?=l[j]?:=by rw[Dm (λy=>hi y.symm)]
def cU{n:Addr}(p:Oc X ns n):Oc X (ns.set i none) n:=⟨p.1,λz=>by
 rcases Dw z with z |z
 .exact p.2 z
 .cases z⟩
def Sat.putN(S:Sat K mg X N0 ns e σ H)(hi:i<e.length)(q:SlR K mg (Oc X (ns.set i none)) N0 (some none) (some d) H s):Sat K mg X N0 (ns.set i none) (e.set i s) (σ.set i d) H:=by
 have hn:i<ns.length:=by rw[S.l2];exact hi
 have ha:i<σ.length:=by rw[S.l1];exact hi
 refine⟨by rw[CD,CD];exact S.l1,by rw[CD,CD];exact S.l2,S.lh,S.xl,λj k n q1 q2=>?_,λj n q1=>?_,λj s' q1=>?_,S.bs⟩
 .rcases aV hn q1 with ⟨_,z⟩ |⟨_,z⟩
  .cases z
  rcases aV hn q2 with ⟨_,y⟩ |⟨_,y⟩
  .cases y
  exact S.inj j k n z y
 .rcases aV hn q1 with ⟨_,z⟩ |⟨_,z⟩
  .cases z
  exact S.nx j n z
 .rcases aV hi q1 with ⟨rfl,rfl⟩ |⟨z,q2⟩
  .rw[bL hn,bL ha];exact q
  .rw[bA z,bA z];exact (S.sl j s' q2).mono (.of λn p=>cU p) λ_ _ _ q _=>q
def Sat.putN'(S:Sat K mg X N0 ns e σ H)(hi:i<e.length)(q:SlR K mg (Oc X (ns.set i none)) N0 (some none) (σ[i]?) H s):Sat K mg X N0 (ns.set i none) (e.set i s) σ H:=by
 have ha:i<σ.length:=by rw[S.l1];exact hi
 have:=S.putN hi (s:=s) (d:=σ[i]) (by rw[A_ ha] at q;exact q)
 rw[List.set_getElem_self] at this;exact this
def Sat.putO(S:Sat K mg (Xn X n) N0 ns e σ H)(hx:¬ X n)(hi:i<e.length)(hn0:N0 n)(eo:H n=some o)(hf:NotFz o)(r:Rc K mg (Oc (Xn X n) ns) H o v):Sat K mg X N0 (ns.set i (some n)) (e.set i (.ow v)) (σ.set i (some (.ref n))) H:=by
 have hn:i<ns.length:=by rw[S.l2];exact hi
 have ha:i<σ.length:=by rw[S.l1];exact hi
 have nn:∀j:Nat,ns[j]?≠some (some n):=λj q=>S.nx j n q (.inr rfl);have mv:Mov (Oc (Xn X n) ns) (Oc X (ns.set i (some n))) H H:=.of λm p=>⟨λz=>p.1 (.inl z),λz=>by
  rcases Dw z with z |z
  .exact p.2 z
  .cases z;exact p.1 (.inr rfl)⟩
 refine⟨by rw[CD,CD];exact S.l1,by rw[CD,CD];exact S.l2,S.lh,λm z=>S.xl m (.inl z),λj k m q1 q2=>?_,λj m q1 z=>?_,λj s' q1=>?_,S.bs⟩
 .rcases aV hn q1 with ⟨z1,z⟩ |⟨z1,z⟩ <;> rcases aV hn q2 with ⟨y1,y⟩ |⟨y1,y⟩
  .rw[z1,y1]
  .cases z;exact absurd y (nn k)
  .cases y;exact absurd z (nn j)
  .exact S.inj j k m z y
 .rcases aV hn q1 with ⟨_,y⟩ |⟨_,y⟩
  .cases y;exact hx z
  .exact S.nx j m y (.inl z)
 .rcases aV hi q1 with ⟨rfl,rfl⟩ |⟨z,q2⟩
  .rw[bL hn,bL ha];exact⟨n,o,rfl,rfl,hn0,eo,hf,r.mono mv⟩
  .rw[bA z,bA z];exact (S.sl j s' q2).mono mv λ_ _ _ q _=>q
noncomputable def Sl.pl:Sl->Bool
 |.no=>true
 |.sh _=>true
 |.ow _=>true
 |_=>false
def Stp.put(A:Stp ns0 e0 Hs ns e H)(hi:i<e.length)(hx:∀n,x=some n->Hs n=none)(q0:e[i]?=some s0)(p0:s0.pl=true)(p:s.pl=true)(l2:ns.length=e.length):Stp ns0 e0 Hs (ns.set i x) (e.set i s) H:=by
 have hn:i<ns.length:=by rw[l2];exact hi
 refine⟨A.le,A.dom,A.keep,λj n q=>?_,λj s' q hl=>?_,λj s' q hl=>?_,λj v q=>?_,λj v q=>?_⟩
 .rcases aV hn q with ⟨_,z⟩ |⟨_,z⟩
  .exact .inr (hx n z.symm)
  .exact A.nw j n z
 .obtain⟨q1,q2⟩:=A.lk j s' q hl;have z:j≠i:=λz=>by subst z;rw[q0] at q1;cases q1;cases s0 <;> first |cases p0;done |cases hl;done
  rw[bA z,bA z];exact⟨q1,q2⟩
 .rcases aV hi q with ⟨_,z⟩ |⟨z,q1⟩
  .subst z;cases s' <;> first |cases p;done |cases hl;done
  .rw[bA z];exact A.lk' j s' q1 hl
 .rcases aV hi q with ⟨_,z⟩ |⟨z,q1⟩
  .subst z;cases p
  .rw[bA z];exact A.mu j v q1
 .obtain⟨u,q1,q2⟩:=A.mu' j v q;have z:j≠i:=λz=>by subst z;rw[q0] at q1;cases q1;cases p0
  exact⟨u,by rw[bA z];exact q1,by rw[bA z];exact q2⟩
end
inductive Tm where
 |val (v:Val) |new (v:Val) |bor (i:Nat)
inductive R3(α:Type) where
 |ok (a:α) (e:E3) |exc (c:Str) (e:E3) |stuck
noncomputable def R3.bind {α β:Type} (r:R3 α) (f:α->E3->R3 β):R3 β:=match r with
 |.ok a e=>f a e
 |.exc c e=>.exc c e
 |.stuck=>.stuck
abbrev ME3:=E3->R3 Tm
abbrev MT3:=E3->R3 Bool
abbrev MA3:=E3->R3 (List Tm)
section
variable(K:W.Frag)(mg:Eh)
def PG3{α:Type}(X N0:Addr->Prop)(ns:Ns)(e:E3)(σ:St)(H:Hp)(E:XK)(k:α->E3->Ns->Hp->Prop):R3 α->Prop
 |.ok t e'=>∀H' ns',Stp ns e H ns' e' H'->Sat K mg X N0 ns' e' σ H'->k t e' ns' H'
 |.exc c e'=>∀H' ns' C,Stp ns e H ns' e' H'->Sat K mg X N0 ns' e' σ H'->mg c=some (.ref C)->E (.ref C) none H'
 |.stuck=>False
def relE(X N0 L:Addr->Prop)(σ:St)(ns:Ns)(e:E3)(H:Hp)(d:V):Tm->Prop
 |.val v=>Rd K mg (Oc X ns) H d v
 |.new v=>∃n o,d=.ref n/\L n/\¬ X n/\H n=some o/\NotFz o/\Sat K mg (Xn X n) N0 ns e σ H/\Rc K mg (Oc (Xn X n) ns) H o v
 |.bor i=>σ[i]?=some (some d)
inductive TsR(X:Addr->Prop)(ns:Ns)(σ:St)(H:Hp):List V->List Tm->Prop where
 |nil:TsR X ns σ H [] []
 |val {d:V}{v:Val}{ds:List V}{ts:List Tm} (r:Rd K mg (Oc X ns) H d v) (rr:TsR X ns σ H ds ts):TsR X ns σ H (d::ds) (.val v::ts)
 |bor {d:V}{i:Nat}{ds:List V}{ts:List Tm} (q:σ[i]?=some (some d)) (rr:TsR X ns σ H ds ts):TsR X ns σ H (d::ds) (.bor i::ts)
abbrev KE(X N0 L:Addr->Prop)(σ:St)(Q:VK):Tm->E3->Ns->Hp->Prop:=λt e' ns' H'=>∀v,relE K mg X N0 L σ ns' e' H' v t->Q v H'
abbrev KA(X:Addr->Prop)(σ:St)(Q:List V->Hp->Prop):List Tm->E3->Ns->Hp->Prop:=λts _ ns' H'=>∀vs,TsR K mg X ns' σ H' vs ts->Q vs H'
abbrev KT(Q:Bool->Hp->Prop):Bool->E3->Ns->Hp->Prop:=λb _ _ H'=>Q b H'
def rdE(ES:St->XK)(G:ME3):TE:=λσ H Q=>∃X N0 L ns e,Sat K mg X N0 ns e σ H/\(∀a,H a=none->L a)/\PG3 K mg X N0 ns e σ H (ES σ) (KE K mg X N0 L σ Q) (G e)
def rdT(ES:St->XK)(G:MT3):TT:=λσ H Q=>∃X N0 ns e,Sat K mg X N0 ns e σ H/\PG3 K mg X N0 ns e σ H (ES σ) (KT Q) (G e)
def rdA(ES:St->XK)(G:MA3):TA:=λσ H Q=>∃X N0 ns e,Sat K mg X N0 ns e σ H/\PG3 K mg X N0 ns e σ H (ES σ) (KA K mg X σ Q) (G e)
end
section
variable{K:W.Frag}{mg:Eh}{ES:St->XK}{σ:St}{H:Hp}{Z:Prop}
def rdE.el{G:ME3}(h:rdE K mg ES G σ H Q)(k:∀X N0 L ns e,Sat K mg X N0 ns e σ H->(∀a,H a=none->L a)->PG3 K mg X N0 ns e σ H (ES σ) (KE K mg X N0 L σ Q) (G e)->Z):Z:=by obtain⟨X,N0,L,ns,e,S,hl,p⟩:=h;exact k X N0 L ns e S hl p
def rdT.el{G:MT3}(h:rdT K mg ES G σ H Q)(k:∀X N0 ns e,Sat K mg X N0 ns e σ H->PG3 K mg X N0 ns e σ H (ES σ) (KT Q) (G e)->Z):Z:=by obtain⟨X,N0,ns,e,S,p⟩:=h;exact k X N0 ns e S p
def rdA.el{G:MA3}(h:rdA K mg ES G σ H Q)(k:∀X N0 ns e,Sat K mg X N0 ns e σ H->PG3 K mg X N0 ns e σ H (ES σ) (KA K mg X σ Q) (G e)->Z):Z:=by obtain⟨X,N0,ns,e,S,p⟩:=h;exact k X N0 ns e S p
end
noncomputable def rs (e:E3):Tm->Option Val
 |.val v=>some v
 |.new v=>some v
 |.bor i=>(e[i]?).bind Sl.val
noncomputable def Tm.drop:Tm->Tm
 |.new v=>.val v
 |t=>t
noncomputable def rss (e:E3):List Tm->Option (List Val)
 | []=>some []
 |t::ts=>match rs e t,rss e ts with
  |some v,some vs=>some (v::vs)
  |_,_=>none
section
variable{K:W.Frag}{mg:Eh}{X N0 L:Addr->Prop}{ns ns':Ns}{e e':E3}{σ:St}{H H':Hp}{E:XK}
def PG3.ret{α:Type}{k:α->E3->Ns->Hp->Prop}{t:α}(p:PG3 K mg X N0 ns e σ H E k (.ok t e))(S:Sat K mg X N0 ns e σ H):k t e ns H:=p H ns .refl S
def PG3.after{α:Type}{r:R3 α}{k:α->E3->Ns->Hp->Prop}(p:PG3 K mg X N0 ns e σ H E k r)(S:Sat K mg X N0 ns e σ H)(a:Stp ns e H ns' e' H'):PG3 K mg X N0 ns' e' σ H' E k r:=by
 cases r with
 |stuck=>exact p
 |exc c e2=>exact λH2 g_ C b S2 m=>p H2 g_ C (a.trans S b) S2 m
 |ok t2 e2=>exact λH2 g_ b S2=>p H2 g_ (a.trans S b) S2
def PG3.imp{α β:Type}{r:R3 α}{f:α->E3->R3 β}{k:β->E3->Ns->Hp->Prop}{k':α->E3->Ns->Hp->Prop}(p:PG3 K mg X N0 ns e σ H E k (r.bind f))(S:Sat K mg X N0 ns e σ H)
 (i:∀t e1 ns1 H1,Stp ns e H ns1 e1 H1->Sat K mg X N0 ns1 e1 σ H1->PG3 K mg X N0 ns1 e1 σ H1 E k (f t e1)->k' t e1 ns1 H1):PG3 K mg X N0 ns e σ H E k' r:=by
 cases r with
 |stuck=>exact p
 |exc c e'=>exact p
 |ok t e1=>intro H1 ns1 a S1;exact i t e1 ns1 H1 a S1 (PG3.after (show PG3 K mg X N0 ns e σ H E k (f t e1) from p) S a)
def TsR.stp(a:Stp ns e H ns' e' H')(r:TsR K mg X ns σ H ds ts):TsR K mg X ns' σ H' ds ts:=by
 induction r with
 |nil=>exact .nil
 |val r _ ih=>exact .val (r.mono a.mov) ih
 |bor q _ ih=>exact .bor q ih
def Sat.bor(S:Sat K mg X N0 ns e σ H){i:Nat}{d:V}{v:Val}(q:σ[i]?=some (some d))(r:(e[i]?).bind Sl.val=some v):ShR K mg (Oc X ns) H d v:=by
 cases z:e[i]? with
 |none=>rw[z] at r;cases r
 |
  some s=>
  rw[z] at r;have y:=S.sl i s z;rw[q] at y;have r':s.val=some v:=r;cases s with
  |no=>cases r'
  |sh u=>cases r';obtain⟨_,x,e1,e2⟩:=y;cases e1;exact .inl e2
  |ow u=>cases r';obtain⟨m,o,_,e2,_,e3,_,e4⟩:=y;cases e2;exact .inr ⟨m,o,rfl,e3,e4⟩
  |lo u=>cases r';obtain⟨m,o,_,e2,_,e3,_,e4⟩:=y;cases e2;exact .inr ⟨m,o,rfl,e3,e4⟩
  |mu u=>cases r';obtain⟨m,o,_,e2,e3,_,e4⟩:=y;cases e2;exact .inr ⟨m,o,rfl,e3,e4⟩
  |lm u=>cases r';obtain⟨m,o,_,e2,e3,_,e4⟩:=y;cases e2;exact .inr ⟨m,o,rfl,e3,e4⟩
def relE.new(r:relE K mg X N0 L σ ns e H d (.new v)):Rd K mg (Oc X ns) H d v:=by obtain⟨n,o,rfl,_,hx,eo,_,S,rc⟩:=r;exact .cell ⟨hx,λz=>by obtain⟨i,z⟩:=aB.mp z;exact S.nx i n z (.inr rfl)⟩ eo (rc.mono (.of λm p=>⟨λz=>p.1 (.inl z),p.2⟩))
def relE.sh{d:V}{t:Tm}{v:Val}(S:Sat K mg X N0 ns e σ H)(r:relE K mg X N0 L σ ns e H d t)(q:rs e t=some v):ShR K mg (Oc X ns) H d v:=by
 cases t with
 |val u=>cases q;exact .inl r
 |new u=>cases q;exact .inl r.new
 |bor i=>exact S.bor r q
def relE.drop(r:relE K mg X N0 L σ ns e H d t)(a:Stp ns e H ns' e' H'):relE K mg X N0 L σ ns' e' H' d t.drop:=by
 cases t with
 |val u=>exact Rd.mono a.mov r
 |new u=>exact Rd.mono a.mov r.new
 |bor i=>exact r
def TsR.sh{ds:List V}{ts:List Tm}{vs:List Val}(S:Sat K mg X N0 ns e σ H)(r:TsR K mg X ns σ H ds ts)(q:rss e ts=some vs):ShRs K mg (Oc X ns) H ds vs:=by
 induction r generalizing vs with
 |nil=>cases q;exact .nil
 |
  val r _ ih=>
  unfold rss at q;split at q
  .rename_i e1 e2;cases q;cases e1;exact .cons (.inl r) (ih e2)
  .cases q
 |
  bor q' _ ih=>
  unfold rss at q;split at q
  .rename_i e1 e2;cases q;exact .cons (S.bor q' e1) (ih e2)
  .cases q
end
inductive Bv where
 |val (v:Val) |new (v:Val) |stuck
noncomputable def Bv.at (b:Bv) (e:E3):R3 Tm:=match b with
 |.val v=>.ok (.val v) e
 |.new v=>.ok (.new v) e
 |.stuck=>.stuck
def BvP(K:W.Frag)(mg:Eh)(P:Addr->Prop)(H:Hp)(Q:VK):Bv->Prop
 |.val v=>∀H1 x,Gr H H1->Rd K mg P H1 x v->Q x H1
 |.new v=>∀H1 a o,Gr H H1->H1 a=none->NotFz o->Rc K mg P H1 o v->Q (.ref a) (upd H1 a o)
 |.stuck=>False
section
variable{K:W.Frag}{mg:Eh}{X N0 L:Addr->Prop}{ns:Ns}{e:E3}{σ:St}{H:Hp}{E:XK}{Q:VK}
def PG3.bv(p:PG3 K mg X N0 ns e σ H E (KE K mg X N0 L σ Q) (b.at e))(S:Sat K mg X N0 ns e σ H)(hl:∀a,H a=none->L a):BvP K mg (Oc X ns) H Q b:=by
 cases b with
 |stuck=>exact p
 |val v=>exact λH1 x g r=>p H1 ns (.gr g) (S.gr g) x r
 |
  new v=>
  intro H1 a o g ha hf r;have g2:Gr H (upd H1 a o):=λc u q=>Gr.upd ha c u (g c u q);have S':=S.grow g2 (g.none ha) aM;refine p _ ns (.gr g2) (S.gr g2) _ ⟨a,o,rfl,hl a (g.none ha),λz=>?_,aM,hf,S',r.mono ⟨(Gr.upd ha).le,λc u q z _=>⟨⟨λy=>?_,q.2⟩,Gr.upd ha c u z⟩⟩⟩
  .obtain⟨u,q⟩:=S.xl a z;rw[g.none ha] at q;cases q
  .rcases y with y |rfl
   .exact q.1 y
   .rw[ha] at z;cases z
end
section
variable(K:W.Frag)(mg:Eh)
def UnD(r:V->Hp->VK->Prop)(g:Val->Bv):Prop:=∀P H x v Q,ShR K mg P H x v->BvP K mg P H Q (g v)->r x H Q
def OpD(r:R2)(g:Val->Val->Bv):Prop:=∀P H x y v u Q,ShR K mg P H x v->ShR K mg P H y u->BvP K mg P H Q (g v u)->r x y H Q
def cq(r:List V->Hp->VK->Prop)(g:List Val->Bv):Prop:=∀P H xs vs Q,ShRs K mg P H xs vs->BvP K mg P H Q (g vs)->r xs H Q
end
noncomputable def gG (i:Nat) (e:E3):R3 Tm:=match e[i]? with
 |some (.sh v)=>.ok (.val v) e
 |some .no=>.stuck
 |some _=>.ok (.bor i) e
 |none=>.stuck
noncomputable def vC (v:Val) (e:E3):R3 Tm:=.ok (.val v) e
noncomputable def vUn (g:Val->Bv) (F:ME3) (e:E3):R3 Tm:=(F e).bind λt e1=>match rs e1 t with
 |some v=>(g v).at e1
 |none=>.stuck
noncomputable def vOp (g:Val->Val->Bv) (F G:ME3) (e:E3):R3 Tm:=(F e).bind λt1 e1=>(G e1).bind λt2 e2=>match rs e2 t1.drop,rs e2 t2 with
 |some v1,some v2=>(g v1 v2).at e2
 |_,_=>.stuck
noncomputable def vNil (e:E3):R3 (List Tm):=.ok [] e
noncomputable def BU (F:ME3) (A:MA3) (e:E3):R3 (List Tm):=(F e).bind λt e1=>(A e1).bind λts e2=>.ok (t.drop::ts) e2
noncomputable def vFn (g:List Val->Bv) (A:MA3) (e:E3):R3 Tm:=(A e).bind λts e1=>match rss e1 ts with
 |some vs=>(g vs).at e1
 |none=>.stuck
noncomputable def bG (e:E3):Tm->Option (E3×Val)
 |.val v=>some (e,v)
 |.new v=>some (e,v)
 |.bor i=>match e[i]? with
  |some (.sh v)=>some (e,v)
  |some (.ow v)=>some (e.set i (.sh v),v)
  |_=>none
noncomputable def dem (e:E3):List Tm->Option (E3×List Val)
 | []=>some (e,[])
 |t::ts=>match bG e t with
  |some (e1,v)=>match dem e1 ts with
   |some (e2,vs)=>some (e2,v::vs)
   |none=>none
  |none=>none
noncomputable def vTup (A:MA3) (e:E3):R3 Tm:=(A e).bind λts e1=>match dem e1 ts with
 |some (e2,vs)=>if vs.length<=16777216 then .ok (.val (.tup vs)) e2 else .stuck
 |none=>.stuck
noncomputable def vLst (A:MA3) (e:E3):R3 Tm:=(A e).bind λts e1=>match dem e1 ts with
 |some (e2,vs)=>if vs.length<=16777216 then .ok (.new (.lst vs)) e2 else .stuck
 |none=>.stuck
noncomputable def bOf:Option Val->Option Bool
 |some (.bl b)=>some b
 |_=>none
noncomputable def vAnd (F G:ME3) (e:E3):R3 Tm:=(F e).bind λt e1=>match bOf (rs e1 t) with
 |some true=>G e1
 |some false=>.ok (.val (.bl false)) e1
 |none=>.stuck
noncomputable def vNot (F:ME3) (e:E3):R3 Tm:=(F e).bind λt e1=>match bOf (rs e1 t) with
 |some b=>.ok (.val (.bl (!b))) e1
 |none=>.stuck
noncomputable def vIf (c:MT3) (F G:ME3) (e:E3):R3 Tm:=(c e).bind λb e1=>if b=true then F e1 else G e1
noncomputable def cOf (F:ME3) (e:E3):R3 Bool:=(F e).bind λt e1=>match bOf (rs e1 t) with
 |some b=>.ok b e1
 |none=>.stuck
noncomputable def cAn (c d:MT3) (e:E3):R3 Bool:=(c e).bind λb e1=>if b=true then d e1 else .ok false e1
noncomputable def cO (c d:MT3) (e:E3):R3 Bool:=(c e).bind λb e1=>if b=true then .ok true e1 else d e1
noncomputable def cNo (c:MT3) (e:E3):R3 Bool:=(c e).bind λb e1=>.ok (!b) e1
noncomputable def cY (e:E3):R3 Bool:=.ok true e
section
variable{K:W.Frag}{mg:Eh}{X N0 L:Addr->Prop}{ns:Ns}{e:E3}{σ:St}{H:Hp}
def xA(S:Sat K mg X N0 ns e σ H)(q:e[i]?=some (.ow v)):∃n,σ[i]?=some (some (.ref n))/\Sat K mg X N0 (ns.set i none) (e.set i (.sh v)) σ H/\Stp ns e H (ns.set i none) (e.set i (.sh v)) H/\Rd K mg (Oc X (ns.set i none)) H (.ref n) v:=by
 obtain⟨n,o,q1,q2,_,q3,_,q4⟩:=S.sl i _ q;have hi:=(l_.mp q).1;have hn:i<ns.length:=by rw[S.l2];exact hi
 have r:Rd K mg (Oc X (ns.set i none)) H (.ref n) v:=.cell ⟨S.nx i n q1,λz=>by
  obtain⟨j,z⟩:=aB.mp z;rcases aV hn z with ⟨_,y⟩ |⟨y,z⟩
  .cases y
  .exact y (S.inj j i n z q1)⟩ q3 (q4.mono (.of λm p=>cU p))
 exact⟨n,q2,S.putN' hi ⟨rfl,_,q2,r⟩,Stp.refl.put (x:=none) hi (λ_ z=>by cases z) q rfl rfl S.l2,r⟩
def cw{d:V}{t:Tm}{v:Val}{e':E3}(S:Sat K mg X N0 ns e σ H)(r:relE K mg X N0 L σ ns e H d t)(q:bG e t=some (e',v)):∃ns',Sat K mg X N0 ns' e' σ H/\Stp ns e H ns' e' H/\Rd K mg (Oc X ns') H d v:=by
 cases t with
 |val u=>cases q;exact⟨ns,S,.refl,r⟩
 |new u=>cases q;exact⟨ns,S,.refl,r.new⟩
 |
  bor i=>
  unfold bG at q;dsimp only at q;have r':σ[i]?=some (some d):=r;split at q
  .rename_i u q1;cases q;obtain⟨_,x,e1,e2⟩:=S.sl i _ q1;rw[r'] at e1;cases e1;exact⟨ns,S,.refl,e2⟩
  .rename_i u q1;cases q;obtain⟨n,e1,S',a',e2⟩:=xA S q1;rw[r'] at e1;cases e1;exact⟨_,S',a',e2⟩
  .cases q
def ez:∀{ds:List V}{vs:List Val}{ns:Ns}{e e':E3},Sat K mg X N0 ns e σ H->TsR K mg X ns σ H ds ts->dem e ts=some (e',vs)->∃ns',Sat K mg X N0 ns' e' σ H/\Stp ns e H ns' e' H/\Rds K mg (Oc X ns') H ds vs:=by
 induction ts with
 |nil=>intro ds vs ns e e' S r q;cases r;cases q;exact⟨ns,S,.refl,.nil⟩
 |
  cons t ts ih=>
  intro ds vs ns e e' S r q;unfold dem at q;split at q
  .rename_i e1 v q1;split at q
   .rename_i e2 vs' q2;cases q;have hr:∃d ds',ds=d::ds'/\relE K mg X N0 X σ ns e H d t/\TsR K mg X ns σ H ds' ts:=by
     cases r with
     |val r rr=>exact⟨_,_,rfl,r,rr⟩
     |bor r rr=>exact⟨_,_,rfl,r,rr⟩
    obtain⟨d,ds',rfl,hr⟩:=hr;obtain⟨ns1,S1,a1,r1⟩:=cw S hr.1 q1;obtain⟨g_,S2,a2,r2⟩:=ih S1 (hr.2.stp a1) q2;exact⟨g_,S2,a1.trans S a2,.cons (r1.mono a2.mov) r2⟩
   .cases q
  .cases q
end
structure PEx where
 t:Nat
 G:ME3
structure PTs where
 t:Nat
 G:MT3
structure PAs where
 t:Nat
 G:MA3
structure PO2 where
 G:Val->Val->Bv
structure PU1 where
 G:Val->Bv
structure PBf where
 G:List Val->Bv
noncomputable def af (i:Nat):PEx:=⟨1,gG i⟩
noncomputable def ah (i:Int):PEx:=⟨2,vC (.int i)⟩
noncomputable def pBl (i:Bool):PEx:=⟨3,vC (.bl i)⟩
noncomputable def ao (i:Str):PEx:=⟨4,vC (.str i)⟩
noncomputable def pTy (i:String):PEx:=⟨6,vC (.ty i)⟩
noncomputable def bW (i:Str):PEx:=⟨7,vC (.glb i)⟩
noncomputable def lX (v:Val):PEx:=⟨8,vC v⟩
noncomputable def pUn (o:PU1) (a:PEx):PEx:=⟨9,vUn o.G a.G⟩
noncomputable def pOp (o:PO2) (a b:PEx):PEx:=⟨10,vOp o.G a.G b.G⟩
noncomputable def ag:PAs:=⟨1,vNil⟩
noncomputable def aa (a:PEx) (r:PAs):PAs:=⟨2,BU a.G r.G⟩
noncomputable def pFn (o:PBf) (a:PAs):PEx:=⟨11,vFn o.G a.G⟩
noncomputable def iQ (a:PAs):PEx:=⟨12,vTup a.G⟩
noncomputable def cc (a:PAs):PEx:=⟨13,vLst a.G⟩
noncomputable def iP (a b:PEx):PEx:=⟨14,vAnd a.G b.G⟩
noncomputable def oF (a:PEx):PEx:=⟨16,vNot a.G⟩
noncomputable def pIf (c:PTs) (a b:PEx):PEx:=⟨17,vIf c.G a.G b.G⟩
noncomputable def qOf (a:PEx):PTs:=⟨1,cOf a.G⟩
noncomputable def qAn (a b:PTs):PTs:=⟨3,cAn a.G b.G⟩
noncomputable def qO (a b:PTs):PTs:=⟨4,cO a.G b.G⟩
noncomputable def qNo (a:PTs):PTs:=⟨5,cNo a.G⟩
noncomputable def qY:PTs:=⟨6,cY⟩
section
variable(K:W.Frag)(mg:Eh)(X:Cx)(ES:St->XK)
structure DE(e:Expr)(F:PEx):Prop where
 ok:PE X e (rdE K mg ES F.G)
structure DT(e:Expr)(F:PTs):Prop where
 ok:PT X e (rdT K mg ES F.G)
structure DW(e:Expr)(F:PTs):Prop where
 ok:PW X e (rdT K mg ES F.G)
structure DA(es:List Expr)(F:PAs):Prop where
 ok:PA X es (rdA K mg ES F.G)
end
structure GC(K:W.Frag)(mg:Eh)(x:Str)(d:Val):Prop where
 ex:∃u v,mg x=some u/\RelV v u/\∀P H,Rd K mg P H v d
section
variable{K:W.Frag}{mg:Eh}{X:Cx}{ES:St->XK}{e a b c:Expr}{es:List Expr}{F G p q:PEx}{A:PAs}{t u:PTs}{pos:Pos}{k:PO2}
def mq(i:Nat){x:Str}(hN:X.N[i]?=some x:=by rfl)(hv:Vis X.env.scope x:=by first |exact Or.inl rfl |exact Or.inr (Or.inl rfl) |exact Or.inr (Or.inr rfl))(hd:(x==("__debug__" : Str))=false:=by decide)(hcd:(x==("__classdict__" : Str))=false:=by decide):DE K mg X ES (.Name x pos) (af i):=
 ⟨PE.imp (yZ hN hv hd hcd) λσ H Q zz=>zz.el λY N0 L ns e S hl p=>by
  have p:PG3 K mg Y N0 ns e σ H (ES σ) (KE K mg Y N0 L σ Q) (gG i e):=p;unfold gG at p;split at p
  .rename_i v q;obtain⟨_,x,e1,r⟩:=S.sl i _ q;exact⟨x,e1,p.ret S x r⟩
  .exact p.elim
  .rename_i s h1 h2 q;have y:=S.sl i s q;have:∃x,σ[i]?=some (some x):=by
    cases s with
    |no=>exact absurd rfl h2
    |sh v=>exact absurd rfl (h1 v)
    |ow v=>obtain⟨m,_,_,y,_⟩:=y;exact⟨_,y⟩
    |lo v=>obtain⟨m,_,_,y,_⟩:=y;exact⟨_,y⟩
    |mu v=>obtain⟨m,_,_,y,_⟩:=y;exact⟨_,y⟩
    |lm v=>obtain⟨m,_,_,y,_⟩:=y;exact⟨_,y⟩
   obtain⟨x,e1⟩:=this;exact⟨x,e1,p.ret S x e1⟩
  .exact p.elim⟩
def jm{v:V}{d:Val}{tg:Nat}(hp:PE X e (tC v))(r:∀P H,Rd K mg P H v d):DE K mg X ES e ⟨tg,vC d⟩:=⟨PE.imp hp λσ H Q zz=>zz.el λY N0 L ns e S hl p=>PG3.ret p S v (r _ _)⟩
def g7:DE K mg X ES (.Constant (.int i) j pos) (ah i):=jm zD λ_ _=>.int i
def Bp:DE K mg X ES (.Constant (.bool i) j pos) (pBl i):=jm Cc λ_ _=>.bl i
def yF:DE K mg X ES (.Constant (.str x) j pos) (ao x):=jm qa λ_ _=>.str x
def zo{x:Str}(hg:Gl X x)(ha:∃a,mg x=some (.ref a))(hm:X.mg=mg:=by rfl)(hd:(x==("__debug__" : Str))=false:=by decide):DE K mg X ES (.Name x pos) (bW x):=by subst hm;obtain⟨a,ha⟩:=ha;exact jm (m9 hg ha (v:=.ref a) rfl hd) λ_ _=>.glb ha
def BI{x:Str}{d:Val}(hg:Gl X x)(ha:GC K mg x d)(hm:X.mg=mg:=by rfl)(hd:(x==("__debug__" : Str))=false:=by decide):DE K mg X ES (.Name x pos) (lX d):=by subst hm;obtain⟨u,v,h1,h2,h3⟩:=ha.ex;exact jm (m9 hg h1 h2 hd) h3
def AM{x:Str}{n:String}(hg:Gl X x)(hm:mg x=none)(hv:bootBuiltins x=some (.type n))(he:X.mg=mg:=by rfl)(hn:x ≠ "__name__":=by decide)(hd:(x==("__debug__" : Str))=false:=by decide):DE K mg X ES (.Name x pos) (pTy n):=by subst he;exact jm (wK hg hm hv (v:=.ty n) rfl hn hd) λ_ _=>.ty n
def gQ(hd:OpD K mg r k.G)(σ:St)(H:Hp)(Q:VK):rdE K mg ES (pOp k F G).G σ H Q->tOp r (rdE K mg ES F.G) (rdE K mg ES G.G) σ H Q:=λzz=>zz.el λY N0 L ns e S hl p=>
 ⟨Y,
  N0,L,ns,e,S,hl,PG3.imp p S λt1 e1 ns1 H1 a1 S1 p1 x r1=>⟨Y,N0,L,ns1,e1,S1,λa z=>hl a (a1.dom a z),PG3.imp p1 S1 λt2 e2 g_ H2 a2 S2 p2 y r2=>by
  try dsimp only at p2
  split at p2
  .rename_i v u q1 q2;exact hd _ _ _ _ _ _ _ ((r1.drop a2).sh S2 q1) (r2.sh S2 q2) (p2.bv S2 λa z=>hl a (a1.dom a (a2.dom a z)))
  .exact p2.elim⟩⟩
def AR(ho:OpR X (binaryOp op) r)(hd:OpD K mg r k.G)(ha:DE K mg X ES a p)(hb:DE K mg X ES b q):DE K mg X ES (.BinOp a op b pos) (pOp k p q):=⟨PE.imp (AK ho ha.ok hb.ok) (gQ hd)⟩
def AL(hr:IxR X r)(hd:OpD K mg r k.G)(ha:DE K mg X ES a p)(hb:DE K mg X ES b q)(hs:nA b:=by exact λ_ _=>rfl):DE K mg X ES (.Subscript a b pos) (pOp k p q):=⟨PE.imp (Ba hr ha.ok hb.ok hs) (gQ hd)⟩
def pO(ho:OpR X (compareOp op) r)(hd:OpD K mg r k.G)(ha:DE K mg X ES a p)(hb:DE K mg X ES b q)(hm:behindInMarks op b=false:=by first |exact l6 _ |with_unfolding_all rfl):DE K mg X ES (.Compare a [op] [b] pos) (pOp k p q):=⟨PE.imp (vV ho ha.ok hb.ok hm) (gQ hd)⟩
def gK{Y N0 L:Addr->Prop}{b:Bool}(S1:Sat K mg Y N0 ns1 e1 σ H1)(r1:relE K mg Y N0 L σ ns1 e1 H1 d1 t1)(q:bOf (rs e1 t1)=some b):d1=.bl b:=by
 unfold bOf at q;split at q
 .rename_i b' q';cases q;exact (r1.sh S1 q').bl
 .cases q
def ni(σ:St)(H:Hp)(Q:Bool->Hp->Prop):rdT K mg ES (qOf F).G σ H Q->rdE K mg ES F.G σ H λx H'=>∃k,x=.bl k/\Q k H':=λzz=>zz.el λY N0 ns e S p=>
 ⟨Y,
  N0,λ_=>True,ns,e,S,λ_ _=>trivial,PG3.imp p S λt1 e1 ns1 H1 a1 S1 p1 x r1=>by
  try dsimp only at p1
  split at p1
  .rename_i b q;exact⟨b,gK S1 r1 q,p1.ret S1⟩
  .exact p1.elim⟩
def zY(ho:OpR X (compareOp op) r)(hd:OpD K mg r k.G)(ha:DE K mg X ES a p)(hb:DE K mg X ES b q)(hm:behindInMarks op b=false:=by first |exact l6 _ |with_unfolding_all rfl):DT K mg X ES (.Compare a [op] [b] pos) (qOf (pOp k p q)):=
 ⟨PT.imp (vb ho ha.ok hb.ok hm) λσ H Q z=>gQ hd σ H _ (ni σ H Q z)⟩
def lA(ha:DE K mg X ES a p)(he:∀whole,isTrue a X.env whole=(do let v <- whole;standAt a.pos;holding [v] (truthy v)):=by intro _;rfl):DT K mg X ES a (qOf p):=⟨PT.imp (zM ha.ok he) λσ H Q z=>ni σ H Q z⟩
def lg(ha:DT K mg X ES a t):DT K mg X ES (.UnaryOp .Not a pos) (qNo t):=⟨PT.imp (xi ha.ok) λσ H Q zz=>zz.el λY N0 ns e S p=>⟨Y,N0,ns,e,S,PG3.imp p S λb e1 ns1 H1 a1 S1 p1=>p1.ret S1⟩⟩
def vk(ha:DT K mg X ES a t):DW K mg X ES (.BoolOp .And [a] pos) t:=⟨vF ha.ok⟩
def qG(ha:DT K mg X ES a t):DW K mg X ES (.BoolOp .Or [a] pos) t:=⟨yL ha.ok⟩
def xm(ha:DT K mg X ES a t)(hb:DW K mg X ES (.BoolOp .And (b::es) pos) u):DW K mg X ES (.BoolOp .And (a::b::es) pos) (qAn t u):=⟨PW.imp (zX ha.ok hb.ok) λσ H Q zz=>zz.el λY N0 ns e S p=>
 ⟨Y,N0,ns,e,S,PG3.imp p S λb e1 ns1 H1 a1 S1 p1=>by
  cases b with
  |true=>exact⟨Y,N0,ns1,e1,S1,p1⟩
  |false=>exact p1.ret S1⟩⟩
def oO(ha:DT K mg X ES a t)(hb:DW K mg X ES (.BoolOp .Or (b::es) pos) u):DW K mg X ES (.BoolOp .Or (a::b::es) pos) (qO t u):=⟨PW.imp (B4 ha.ok hb.ok) λσ H Q zz=>zz.el λY N0 ns e S p=>
 ⟨Y,N0,ns,e,S,PG3.imp p S λb e1 ns1 H1 a1 S1 p1=>by
  cases b with
  |true=>exact p1.ret S1
  |false=>exact⟨Y,N0,ns1,e1,S1,p1⟩⟩⟩
def ZW.dt(h:DW K mg X ES a t):DT K mg X ES a t:=⟨h.ok.pt⟩
def zt_w{op}(h:DW K mg X ES (.BoolOp op es pos) t):DT K mg X ES (.BoolOp op es pos) t:=ZW.dt h
def zG{op}(h:DE K mg X ES a p):DE K mg X ES (.BoolOp op [a] pos) p:=⟨zI h.ok⟩
def yz(ha:DE K mg X ES a p)(hb:DE K mg X ES (.BoolOp .And (b::es) pos) q):DE K mg X ES (.BoolOp .And (a::b::es) pos) (iP p q):=⟨PE.imp (yp ha.ok hb.ok) λσ H Q zz=>zz.el λY N0 L ns e S hl p=>
 ⟨Y,N0,L,ns,e,S,hl,PG3.imp p S λt e1 ns1 H1 a1 S1 p1 x r1=>by
  try dsimp only at p1
  split at p1
  .rename_i z;exact⟨true,gK S1 r1 z,Y,N0,L,ns1,e1,S1,λa z=>hl a (a1.dom a z),p1⟩
  .rename_i z;exact⟨false,gK S1 r1 z,p1.ret S1 _ (.bl false)⟩
  .exact p1.elim⟩⟩
def yX(ha:DE K mg X ES a p):DE K mg X ES (.UnaryOp .Not a pos) (oF p):=⟨PE.imp (xu ha.ok) λσ H Q zz=>zz.el λY N0 L ns e S hl p=>
 ⟨Y,N0,L,ns,e,S,hl,PG3.imp p S λt e1 ns1 H1 a1 S1 p1 x r1=>by
  try dsimp only at p1
  split at p1
  .rename_i z;exact⟨_,gK S1 r1 z,p1.ret S1 _ (.bl _)⟩
  .exact p1.elim⟩⟩
def BC(hc:DT K mg X ES c t)(ha:DE K mg X ES a p)(hb:DE K mg X ES b q):DE K mg X ES (.IfExp c a b pos) (pIf t p q):=⟨PE.imp (tT hc.ok ha.ok hb.ok) λσ H Q zz=>zz.el λY N0 L ns e S hl p=>
 ⟨Y,N0,ns,e,S,PG3.imp p S λb e1 ns1 H1 a1 S1 p1=>by
  cases b with
  |true=>exact⟨Y,N0,L,ns1,e1,S1,λa z=>hl a (a1.dom a z),p1⟩
  |false=>exact⟨Y,N0,L,ns1,e1,S1,λa z=>hl a (a1.dom a z),p1⟩⟩⟩
def B8{k:PU1}(ho:UnR X (unaryOp op) r)(hd:UnD K mg r k.G)(ha:DE K mg X ES a p):DE K mg X ES (.UnaryOp op a pos) (pUn k p):=⟨PE.imp (AJ ho ha.ok) λσ H Q zz=>zz.el λY N0 L ns e S hl p=>
 ⟨Y,N0,L,ns,e,S,hl,PG3.imp p S λt e1 ns1 H1 a1 S1 p1 x r1=>by
  try dsimp only at p1
  split at p1
  .rename_i v z;exact hd _ _ _ _ _ (r1.sh S1 z) (p1.bv S1 λa z=>hl a (a1.dom a z))
  .exact p1.elim⟩⟩
def qt:DA K mg X ES [] ag:=⟨PA.imp zS λσ H Q zz=>zz.el λY N0 ns e S p=>PG3.ret p S _ .nil⟩
def cV(ha:DE K mg X ES e p)(hr:DA K mg X ES es A)(hs:starEach (e::es) X.env=(false,eval e X.env)::starEach es X.env:=by rfl):DA K mg X ES (e::es) (aa p A):=⟨PA.imp (vg ha.ok hr.ok hs) λσ H Q zz=>zz.el λY N0 ns e S p=>
 ⟨Y,N0,λ_=>True,ns,e,S,λ_ _=>trivial,PG3.imp p S λt e1 ns1 H1 a1 S1 p1 x r1=>⟨Y,N0,ns1,e1,S1,PG3.imp p1 S1 λts e2 g_ H2 a2 S2 p2 xs r2=>p2.ret S2 _ (by
  have r3:=r1.drop a2;generalize hg:t.drop=t' at *;cases t' with
  |val v=>exact .val r3 r2
  |new v=>cases t <;> cases hg
  |bor i=>exact .bor r3 r2)⟩⟩⟩
def yI{x1}(h:DA K mg X ES es A):DE K mg X ES (.Tuple es x1 pos) (iQ A):=⟨PE.imp (yo h.ok) λσ H Q zz=>zz.el λY N0 L ns e S hl p=>
 ⟨Y,
  N0,ns,e,S,PG3.imp p S λts e1 ns1 H1 a1 S1 p1 xs r1=>by
  try dsimp only at p1
  split at p1
  .rename_i e2 vs q;split at p1
   .rename_i hv;obtain⟨g_,S2,a2,r2⟩:=ez S1 r1 q;exact⟨by rw[r2.len];exact hv,λp hp=>p1 _ g_ (a2.trans S1 (.gr (Gr.upd hp))) (S2.gr (Gr.upd hp)) _ (.tup (SqT.of aM) (r2.mono (Gr.upd hp).mov))⟩
   .exact p1.elim
  .exact p1.elim⟩⟩
def yR(h:DA K mg X ES es A):DE K mg X ES (.List es pos) (cc A):=⟨PE.imp (xy h.ok) λσ H Q zz=>zz.el λY N0 L ns e S hl p=>
 ⟨Y,
  N0,ns,e,S,PG3.imp p S λts e1 ns1 H1 a1 S1 p1 xs r1=>by
  try dsimp only at p1
  split at p1
  .rename_i e2 vs q;split at p1
   .rename_i hv;obtain⟨g_,S2,a2,r2⟩:=ez S1 r1 q;refine⟨by rw[r2.len];exact hv,λp hp=>PG3.bv (b:=.new (.lst vs)) (e:=e2) (X:=Y) (N0:=N0) (L:=L) (E:=ES σ) (λH' ns' a' S'=>p1 H' ns' (a2.trans S1 a') S') S2 (λa z=>hl a (a1.dom a z)) H1 p _ .refl hp trivial (.lst r2)⟩
   .exact p1.elim
  .exact p1.elim⟩⟩
def uh{g:PBf}(hd:cq K mg r g.G)(σ:St)(H:Hp)(Q:VK):rdE K mg ES (pFn g A).G σ H Q->tCB r (rdA K mg ES A.G) σ H Q:=λzz=>zz.el λY N0 L ns e S hl p=>
 ⟨Y,
  N0,ns,e,S,PG3.imp p S λts e1 ns1 H1 a1 S1 p1 xs r1=>by
  try dsimp only at p1
  split at p1
  .rename_i vs q;exact hd _ _ _ _ _ (r1.sh S1 q) (p1.bv S1 λa z=>hl a (a1.dom a z))
  .exact p1.elim⟩
def eY{id:String}{r:List V->Hp->VK->Prop}{k:PBf}{x:Str}{p0:Pos}(hc:CallR X (.builtin id) r)(hd:cq K mg r k.G)(hg:Gl X x)(hm:mg x=none)(hv:bootBuiltins x=some (.builtin id))(ha:DA K mg X ES (e::es) A)(hk:X.mg=mg:=by rfl)(hn:x ≠ "__name__":=by decide)(hdb:(x==("__debug__" : Str))=false:=by decide)
 (he:starEach (e::es) X.env=(false,eval e X.env)::starEach es X.env:=by rfl) (hpl:(backTo pos (starEach es X.env)).any (·.1)=false:=by rfl):DE K mg X ES (.Call (.Name x p0) (e::es) [] pos) (pFn k A):=by
 subst hk;exact⟨PE.imp (sU hc hg hm hv ha.ok hn hdb he hpl) (uh hd)⟩
def fH{id:String}{r:List V->Hp->VK->Prop}{k:PBf}{x:Str}{p0:Pos}(hc:CallR X (.type id) r)(hd:cq K mg r k.G)(hg:Gl X x)(hm:mg x=none)(hv:bootBuiltins x=some (.type id))(ha:DA K mg X ES (e::es) A)(hk:X.mg=mg:=by rfl)(hn:x ≠ "__name__":=by decide)(hdb:(x==("__debug__" : Str))=false:=by decide)
 (he:starEach (e::es) X.env=(false,eval e X.env)::starEach es X.env:=by rfl) (hpl:(backTo pos (starEach es X.env)).any (·.1)=false:=by rfl):DE K mg X ES (.Call (.Name x p0) (e::es) [] pos) (pFn k A):=by
 subst hk;exact⟨PE.imp (o7 hc hg hm hv ha.ok hn hdb he hpl) (uh hd)⟩
end
inductive Rt where
 |val (v:Val) |new (v:Val) |par (i:Nat) |pr (v u:Val)
inductive SR3 where
 |nx (e:E3) |rt (r:Rt) (e:E3) |bk (e:E3) |ct (e:E3) |exc (c:Str) (e:E3) |stuck
abbrev MS3:=E3->SR3
section
variable(K:W.Frag)(mg:Eh)
def RtR(X N0:Addr->Prop)(ns:Ns)(e:E3)(σ:St)(H:Hp)(d:V):Rt->Prop
 |.val v=>Sat K mg X N0 ns e σ H/\Rd K mg (Oc X ns) H d v
 |.new v=>∃n o,d=.ref n/\N0 n/\¬ X n/\H n=some o/\NotFz o/\Sat K mg (Xn X n) N0 ns e σ H/\Rc K mg (Oc (Xn X n) ns) H o v
 |.par i=>Sat K mg X N0 ns e σ H/\σ[i]?=some (some d)/\∃v,e[i]?=some (.mu v)
 |.pr v u=>∃p d1 n o,d=.ref p/\SqT K H p [d1,.ref n]/\N0 n/\¬ X n/\H n=some o/\NotFz o/\Sat K mg (Xn X n) N0 ns e σ H/\Rd K mg (Oc (Xn X n) ns) H d1 v/\Rc K mg (Oc (Xn X n) ns) H o u
def PS3(X N0:Addr->Prop)(ns:Ns)(e:E3)(H:Hp)(D:Ends)(ES:St->XK):SR3->Prop
 |.nx e'=>∀H' σ' ns',Stp ns e H ns' e' H'->Sat K mg X N0 ns' e' σ' H'->D.nx σ' H'
 |.bk e'=>∀H' σ' ns',Stp ns e H ns' e' H'->Sat K mg X N0 ns' e' σ' H'->D.bk σ' H'
 |.ct e'=>∀H' σ' ns',Stp ns e H ns' e' H'->Sat K mg X N0 ns' e' σ' H'->D.ct σ' H'
 |.rt r e'=>∀H' σ' ns' x,Stp ns e H ns' e' H'->RtR K mg X N0 ns' e' σ' H' x r->D.rt x H'
 |.exc c e'=>∀H' σ' ns' C,Stp ns e H ns' e' H'->Sat K mg X N0 ns' e' σ' H'->mg c=some (.ref C)->ES σ' (.ref C) none H'
 |.stuck=>False
def rdS(ES:St->XK)(G:MS3):TS:=λD σ H=>∃X N0 ns e,Sat K mg X N0 ns e σ H/\PS3 K mg X N0 ns e H D ES (G e)
end
def rdS.el{K:W.Frag}{mg:Eh}{ES:St->XK}{σ:St}{H:Hp}{Z:Prop}{G:MS3}{D:Ends}(h:rdS K mg ES G D σ H)(k:∀X N0 ns e,Sat K mg X N0 ns e σ H->PS3 K mg X N0 ns e H D ES (G e)->Z):Z:=by obtain⟨X,N0,ns,e,S,p⟩:=h;exact k X N0 ns e S p
noncomputable def R3.toS {α:Type} (r:R3 α) (f:α->E3->SR3):SR3:=match r with
 |.ok a e=>f a e
 |.exc c e=>.exc c e
 |.stuck=>.stuck
noncomputable def SR3.then (r:SR3) (f:E3->SR3):SR3:=match r with
 |.nx e=>f e
 |r=>r
noncomputable def wSeq (F G:MS3) (e:E3):SR3:=(F e).then G
noncomputable def wIf (c:MT3) (F G:MS3) (e:E3):SR3:=(c e).toS λb e1=>if b=true then F e1 else G e1
noncomputable def lQ (t:Tm) (e:E3):SR3:=match t with
 |.val v=>.rt (.val v) e
 |.new v=>.rt (.new v) e
 |.bor i=>match e[i]? with
  |some (.sh v)=>.rt (.val v) e
  |some (.ow v)=>.rt (.new v) (e.set i .no)
  |some (.mu _)=>.rt (.par i) e
  |_=>.stuck
noncomputable def eZ (o:Bool) (i:Nat) (t:Tm) (e:E3):SR3:=match e[i]? with
 |some s0=>if s0.pl=true then (match t with
  |.val v=>.nx (e.set i (.sh v))
  |.new v=>.nx (e.set i (if o=true then .ow v else .sh v))
  |.bor j=>match bG e (.bor j) with
   |some (e2,v)=>.nx (e2.set i (.sh v))
   |none=>.stuck) else .stuck
 |none=>.stuck
abbrev MG3:=Val->E3->Option E3
abbrev fC:=List Val->E3->Option E3
noncomputable def pN (i:Nat):MG3:=λv e=>match e[i]? with
 |some s=>if s.pl=true then some (e.set i (.sh v)) else none
 |none=>none
noncomputable def psN:fC:=λvs e=>match vs with
 | []=>some e
 |_=>none
noncomputable def psC (g:MG3) (u:fC):fC:=λvs e=>match vs with
 |v::r=>(g v e).bind λe1=>u r e1
 | []=>none
noncomputable def pT (n:Nat) (u:fC):MG3:=λv e=>match v with
 |.tup vs=>if vs.length=n then u vs e else none
 |_=>none
noncomputable def Ck (F:ME3) (g:MG3) (e:E3):SR3:=(F e).toS λt e1=>match bG e1 t with
 |some (e2,v)=>match g v e2 with
  |some e3=>.nx e3
  |none=>.stuck
 |none=>.stuck
noncomputable def wPar (i j:Nat) (A:MA3) (e:E3):SR3:=(A e).toS λts e1=>match dem e1 ts with
 |some (e2,[v,u])=>match (pN i v e2).bind (pN j u) with
  |some e3=>.nx e3
  |none=>.stuck
 |_=>.stuck
noncomputable def yy (c:Str) (A:MA3) (e:E3):SR3:=(A e).toS λts e1=>if ts.length<=16777216 then .exc c e1 else .stuck
structure PSt where
 t:Nat
 G:MS3
structure PGt where
 t:Nat
 G:MG3
structure PGs where
 t:Nat
 G:fC
noncomputable def xNx:PSt:=⟨1,.nx⟩
noncomputable def aE (a:PEx):PSt:=⟨5,λe=>(a.G e).toS lQ⟩
noncomputable def hV (a:PEx):PSt:=⟨6,λe=>(a.G e).toS λ_ e1=>.nx e1⟩
noncomputable def ak (a b:PSt):PSt:=⟨7,wSeq a.G b.G⟩
noncomputable def xIf (c:PTs) (a b:PSt):PSt:=⟨8,wIf c.G a.G b.G⟩
noncomputable def aF (o:Bool) (i:Nat) (a:PEx):PSt:=⟨9,λe=>(a.G e).toS (eZ o i)⟩
noncomputable def gtN (i:Nat):PGt:=⟨1,pN i⟩
noncomputable def lR:PGs:=⟨1,psN⟩
noncomputable def eL (a:PGt) (b:PGs):PGs:=⟨2,psC a.G b.G⟩
noncomputable def gtT (n:Nat) (a:PGs):PGt:=⟨2,pT n a.G⟩
noncomputable def hX (a:PEx) (g:PGt):PSt:=⟨10,Ck a.G g.G⟩
noncomputable def jn (i j:Nat) (a:PAs):PSt:=⟨11,wPar i j a.G⟩
noncomputable def dS (c:Str) (a:PAs):PSt:=⟨13,yy c a.G⟩
noncomputable def xNo:PSt:=⟨14,λ_=>.stuck⟩
section
variable{K:W.Frag}{mg:Eh}{X N0:Addr->Prop}{ns ns1:Ns}{e e1:E3}{σ:St}{H H1:Hp}{De:Ends}{ES:St->XK}
def PS3.after(p:PS3 K mg X N0 ns e H De ES r)(S:Sat K mg X N0 ns e σ H)(a:Stp ns e H ns1 e1 H1):PS3 K mg X N0 ns1 e1 H1 De ES r:=by
 cases r with
 |stuck=>exact p
 |nx e'=>exact λH' σ' ns' b S'=>p H' σ' ns' (a.trans S b) S'
 |bk e'=>exact λH' σ' ns' b S'=>p H' σ' ns' (a.trans S b) S'
 |ct e'=>exact λH' σ' ns' b S'=>p H' σ' ns' (a.trans S b) S'
 |exc c e'=>exact λH' σ' ns' C b S'=>p H' σ' ns' C (a.trans S b) S'
 |rt r e'=>exact λH' σ' ns' x b S'=>p H' σ' ns' x (a.trans S b) S'
def PS3.toS{α:Type}{r:R3 α}{f:α->E3->SR3}{k:α->E3->Ns->Hp->Prop}(p:PS3 K mg X N0 ns e H De ES (r.toS f))(S:Sat K mg X N0 ns e σ H)
 (i:∀t e1 ns1 H1,Stp ns e H ns1 e1 H1->Sat K mg X N0 ns1 e1 σ H1->PS3 K mg X N0 ns e H De ES (f t e1)->k t e1 ns1 H1):PG3 K mg X N0 ns e σ H (ES σ) k r:=by
 cases r with
 |stuck=>exact p
 |exc c e'=>exact λH' ns' C a S' m=>p H' σ ns' C a S' m
 |ok t e'=>exact λH' ns' a S'=>i t e' ns' H' a S' p
def PS3.then{r:SR3}{f:E3->SR3}{N:St->Hp->Prop}(p:PS3 K mg X N0 ns e H De ES (r.then f))(S:Sat K mg X N0 ns e σ H)
 (i:∀e1 ns1 σ1 H1,Stp ns e H ns1 e1 H1->Sat K mg X N0 ns1 e1 σ1 H1->PS3 K mg X N0 ns1 e1 H1 De ES (f e1)->N σ1 H1):PS3 K mg X N0 ns e H { De with nx:=N } ES r:=by
 cases r with
 |nx e'=>exact λH' σ' ns' a S'=>i e' ns' σ' H' a S' (PS3.after p S a)
 |stuck=>exact p
 |bk e'=>exact p
 |ct e'=>exact p
 |exc c e'=>exact p
 |rt r e'=>exact p
def PS3.nx(p:PS3 K mg X N0 ns e H De ES (.nx e))(S:Sat K mg X N0 ns e σ H):De.nx σ H:=p H σ ns .refl S
def ml{d:V}{v:Val}{e':E3}(S:Sat K mg X N0 ns e σ H)(r:Rd K mg (Oc X ns) H d v)(q:pN i v e=some e'):Sat K mg X N0 (ns.set i none) e' (σ.set i (some d)) H/\Stp ns e H (ns.set i none) e' H:=by
 unfold pN at q;split at q
 .rename_i s q0;split at q
  .rename_i p0;cases q;have hi:=(l_.mp q0).1;exact⟨S.putN hi ⟨rfl,d,rfl,Rd.mono (.of λm p=>cU p) r⟩,Stp.refl.put (x:=none) (s:=.sh v) hi (λ_ z=>by cases z) q0 p0 rfl S.l2⟩
  .cases q
 .cases q
end
section
variable(K:W.Frag)(mg:Eh)(X:Cx)(ES:St->XK)
structure DS(st:Stmt)(F:PSt):Prop where
 ok:PS X st (rdS K mg ES F.G)
structure DSs(st:List Stmt)(F:PSt):Prop where
 ok:PSs X st (rdS K mg ES F.G)
def rdG(g:MG3):TG:=λv σ H Q=>∃Y N0 ns e u e',Sat K mg Y N0 ns e σ H/\Rd K mg (Oc Y ns) H v u/\g u e=some e'/\∀σ' ns',Stp ns e H ns' e' H->Sat K mg Y N0 ns' e' σ' H->Q σ' H
def rdGs(g:fC):TGs:=λvs σ H Q=>∃Y N0 ns e us e',Sat K mg Y N0 ns e σ H/\Rds K mg (Oc Y ns) H vs us/\g us e=some e'/\∀σ' ns',Stp ns e H ns' e' H->Sat K mg Y N0 ns' e' σ' H->Q σ' H
def rdG.el{K:W.Frag}{mg:Eh}{g:MG3}(h:rdG K mg g v σ H Q){Z:Prop}(k:∀Y N0 ns e u e',Sat K mg Y N0 ns e σ H->Rd K mg (Oc Y ns) H v u->g u e=some e'->(∀σ' ns',Stp ns e H ns' e' H->Sat K mg Y N0 ns' e' σ' H->Q σ' H)->Z):Z:=by obtain⟨Y,N0,ns,e,u,e',S,r,q,p⟩:=h;exact k Y N0 ns e u e' S r q p
def rdGs.el{K:W.Frag}{mg:Eh}{g:fC}(h:rdGs K mg g v σ H Q){Z:Prop}(k:∀Y N0 ns e us e',Sat K mg Y N0 ns e σ H->Rds K mg (Oc Y ns) H v us->g us e=some e'->(∀σ' ns',Stp ns e H ns' e' H->Sat K mg Y N0 ns' e' σ' H->Q σ' H)->Z):Z:=by obtain⟨Y,N0,ns,e,u,e',S,r,q,p⟩:=h;exact k Y N0 ns e u e' S r q p
structure DG(e:Expr)(g:PGt):Prop where
 ok:PG X e (rdG K mg g.G)
structure DGs(es:List Expr)(g:PGs):Prop where
 ok:L2.PGs X es (rdGs K mg g.G)
def da:Prop:=∀(pins:Ei) (σ:St) (H:Hp) (s:Shared) (e:Value) (s':Shared),Inv X pins σ H s->CX1 X.prog X.w X.stack H s (ES σ) e s'->X.xe e s'
end
section
variable{K:W.Frag}{mg:Eh}{X:Cx}{ES:St->XK}{e a b c o i:Expr}{es:List Expr}{st:Stmt}{sts sts':List Stmt}{p q:PEx}{A:PAs}{t:PTs}{x y:PSt}{g:PGt}{gs:PGs}{pos:Pos}
def vX:DSs K mg X ES [] xNx:=⟨PSs.imp v9 λD σ H zz=>zz.el λY N0 ns e S p=>PS3.nx p S⟩
def eA(h1:DS K mg X ES st x):DSs K mg X ES [st] x:=⟨vW h1.ok⟩
def aP(h1:DS K mg X ES st x)(h2:DSs K mg X ES sts y):DSs K mg X ES (st::sts) (ak x y):=⟨PSs.imp (rp h1.ok h2.ok) λD σ H zz=>zz.el λY N0 ns e S p=>
 ⟨Y,N0,ns,e,S,PS3.then p S λe1 ns1 σ1 H1 a1 S1 p1=>⟨Y,N0,ns1,e1,S1,p1⟩⟩⟩
def Ay:DS K mg X ES st xNo:=⟨λ_ _ _ _ _ _ ⟨_,_,_,_,_,p⟩=>p.elim⟩
def vK(he:DE K mg X ES e p)(hs:swapsWith e none pos.line X.env=pure false:=by rfl):DS K mg X ES (.Expr e pos) (hV p):=⟨PS.imp (wu he.ok hs) λD σ H zz=>zz.el λY N0 ns e S p=>
 ⟨Y,N0,λ_=>True,ns,e,S,λ_ _=>trivial,PS3.toS p S λt e1 ns1 H1 a1 S1 p1 x r1=>p1 H1 σ ns1 a1 S1⟩⟩
def ky(hc:DT K mg X ES c t)(ha:DSs K mg X ES sts x)(hb:DSs K mg X ES sts' y):DS K mg X ES (.If c sts sts' pos) (xIf t x y):=⟨PS.imp (Bd hc.ok ha.ok hb.ok) λD σ H zz=>zz.el λY N0 ns e S p=>
 ⟨Y,N0,ns,e,S,PS3.toS p S λb e1 ns1 H1 a1 S1 p1=>by
  cases b with
  |true=>exact⟨Y,N0,ns1,e1,S1,PS3.after p1 S a1⟩
  |false=>exact⟨Y,N0,ns1,e1,S1,PS3.after p1 S a1⟩⟩⟩
def fE(he:DE K mg X ES e p):DS K mg X ES (.Return (some e) pos) (aE p):=⟨PS.imp (xj he.ok) λD σ H zz=>zz.el λY N0 ns e S p=>
 ⟨Y,
  N0,N0,ns,e,S,S.lh,PS3.toS p S λt e1 ns1 H1 a1 S1 p1 x r1=>by
  cases t with
  |val v=>exact p1 H1 σ ns1 x a1 ⟨S1,r1⟩
  |new v=>exact p1 H1 σ ns1 x a1 r1
  |
   bor i=>
   have r':σ[i]?=some (some x):=r1;unfold lQ at p1;try dsimp only at p1
   split at p1
   .rename_i v q;obtain⟨_,x',e1',e2⟩:=S1.sl i _ q;rw[r'] at e1';cases e1';exact p1 H1 σ ns1 x a1 ⟨S1,e2⟩
   .rename_i v q;obtain⟨n,o,q1,q2,q3,q4,q5,q6⟩:=S1.sl i _ q;rw[r'] at q2;cases q2;have hi:=(l_.mp q).1;have hn:i<ns1.length:=by rw[S1.l2];exact hi
    have mv:Mov (Oc Y ns1) (Oc (Xn Y n) (ns1.set i none)) H1 H1:=.of λm p=>⟨λz=>by
     rcases z with z |rfl
     .exact p.1 z
     .exact p.2 (aB.mpr ⟨i,q1⟩),(cU p).2⟩
    have S2:=S1.putN' hi (s:=.no) rfl;refine p1 H1 σ (ns1.set i none) _ (a1.put (x:=none) hi (λ_ z=>by cases z) q rfl rfl S1.l2) ⟨n,o,rfl,q3,S1.nx i n q1,q4,q5,⟨S2.l1,S2.l2,S2.lh,λm z=>?_,S2.inj,λj m qj z=>?_,λj s qj=>?_,S2.bs⟩,q6.mono mv⟩
    .rcases z with z |rfl
     .exact S2.xl m z
     .exact⟨_,q4⟩
    .rcases z with z |rfl
     .exact S2.nx j m qj z
     .rcases aV hn qj with ⟨_,y⟩ |⟨y,z⟩
      .cases y
      .exact y (S1.inj j i _ z q1)
    .rcases aV hi qj with ⟨rfl,rfl⟩ |⟨z,qj'⟩
     .rw[bL hn];rfl
     .rw[bA z];exact (S1.sl j s qj').mono mv λ_ _ _ q _=>q
   .rename_i v q;exact p1 H1 σ ns1 x a1 ⟨S1,r',v,q⟩
   .exact p1.elim⟩⟩
def pb{ow:Bool}{i:Nat}(D:Ends)(σ:St)(H:Hp):rdS K mg ES (aF ow i p).G D σ H->nV (rdE K mg ES p.G) (j9 i) D σ H:=λzz=>zz.el λY N0 ns e S p=>
 ⟨Y,
  N0,λa=>H a=none,ns,e,S,λ_ z=>z,PS3.toS p S λt e1 ns1 H1 a1 S1 p1 d r1=>by
  unfold eZ at p1;split at p1
  .rename_i s0 q0;split at p1
   .rename_i p0;have hi:=(l_.mp q0).1;cases t with
    |val v=>exact p1 H1 _ _ (a1.put (x:=none) (s:=.sh v) hi (λ_ z=>by cases z) q0 p0 rfl S1.l2) (S1.putN hi ⟨rfl,d,rfl,Rd.mono (.of λm p=>cU p) r1⟩)
    |
     new v=>
     cases ow with
     |true=>obtain⟨n,ob,rfl,q1,q2,q3,q4,q5,q6⟩:=r1;exact p1 H1 _ _ (a1.put (x:=some n) (s:=.ow v) hi (λm z=>by cases z;exact q1) q0 p0 rfl S1.l2) (Sat.putO q5 q2 hi (S.lh n q1) q3 q4 q6)
     |false=>exact p1 H1 _ _ (a1.put (x:=none) (s:=.sh v) hi (λ_ z=>by cases z) q0 p0 rfl S1.l2) (S1.putN hi ⟨rfl,d,rfl,Rd.mono (.of λm p=>cU p) r1.new⟩)
    |
     bor j=>
     try dsimp only at p1
     split at p1
     .rename_i e2 v q2;obtain⟨g_,S2,a2,r2⟩:=cw S1 r1 q2;have hq:∃s2,e2[i]?=some s2/\s2.pl=true:=by
       unfold bG at q2;dsimp only at q2;split at q2
       .cases q2;exact⟨s0,q0,p0⟩
       .rename_i u q3;cases q2;by_cases z:i=j
        .subst z;exact⟨_,bL hi,rfl⟩
        .exact⟨s0,by rw[bA z];exact q0,p0⟩
       .cases q2
      obtain⟨s2,hq1,hq2⟩:=hq;have hi2:=(l_.mp hq1).1;exact p1 H1 _ _ ((a1.trans S a2).put (x:=none) (s:=.sh v) hi2 (λ_ z=>by cases z) hq1 hq2 rfl S2.l2) (S2.putN hi2 ⟨rfl,d,rfl,Rd.mono (.of λm p=>cU p) r2⟩)
     .exact p1.elim
   .exact p1.elim
  .exact p1.elim⟩
def yU{ow:Bool}{i:Nat}{x:Str}{pos':Pos}(hN:X.N.Nodup)(hi:X.N[i]?=some x)(hx:Loc X.env.scope x)(he:DE K mg X ES e p)(hs:swapsWith e (some (.Name x pos')) pos.line X.env=pure false)(hf:X.fn x=true\/X.env.scope.names.lookup x=some .local):
 DS K mg X ES (.Assign [.Name x pos'] e pos) (aF ow i p):=⟨PS.imp (xf hN hi hx he.ok hs hf) pb⟩
def wR{i:Nat}{x:Str}(hN:X.N.Nodup)(hi:X.N[i]?=some x)(hx:Loc X.env.scope x)(hf:X.fn x=true\/X.env.scope.names.lookup x=some .local):DG K mg X (.Name x pos) (gtN i):=
 ⟨PG.imp (vf hN hi hx hf) λv σ H Q zz=>zz.el λY N0 ns e u e' S r q k=>by obtain⟨S',a⟩:=ml S r q;exact k _ _ a S'⟩
def va:DGs K mg X [] lR:=⟨PGs.imp vZ λvs σ H Q zz=>zz.el λY N0 ns e us e' S r q k=>by
 cases r with
 |nil=>cases q;exact⟨rfl,k _ _ .refl S⟩
 |cons _ _=>cases q⟩
def tK(h1:DG K mg X e g)(h2:DGs K mg X es gs)(hs:(assignEach (e::es) X.env).map (·.2)=assign e X.env::(assignEach es X.env).map (·.2):=by rfl):DGs K mg X (e::es) (eL g gs):=
 ⟨PGs.imp (sG h1.ok h2.ok hs) λvs σ H Q zz=>zz.el λY N0 ns e us e' S r q k=>by
  cases r with
  |nil=>cases q
  |cons r rr=>obtain⟨e1,q1,q2⟩:=CI.mp q;exact⟨_,_,rfl,Y,N0,ns,e,_,e1,S,r,q1,λσ1 ns1 a1 S1=>⟨Y,N0,ns1,e1,_,e',S1,rr.mono a1.mov,q2,λσ2 g_ a2 S2=>k σ2 g_ (a1.trans S a2) S2⟩⟩⟩
def yK(hK:X.K=K)(hc:X.calm=true)(h:DGs K mg X es gs)(hn:(assignEach es X.env).length=n:=by rfl)(hst:(assignEach es X.env).findIdx? (·.1)=none:=by rfl):DG K mg X (.Tuple es k pos) (gtT n gs):=by
 subst hK;exact
  ⟨PG.imp (oZ hc h.ok hn hst) λv σ H Q zz=>zz.el λY N0 ns e u e' S r q k=>by
  have q:pT n gs.G u e=some e':=q;unfold pT at q;split at q
  .split at q
   .rename_i hl;obtain⟨a,vs,rfl,z,rr⟩:=ShR.tup (.inl r);exact⟨a,vs,rfl,z,by rw[rr.len];exact hl,Y,N0,ns,e,_,e',S,rr,q,k⟩
   .cases q
  .cases q⟩
def vM(he:DE K mg X ES e p)(hg:DG K mg X a g)(hs:swapsWithSole [a] e pos.line X.env=pure false:=by rfl)(hw:swappedStores [a] e X.env=pure none:=by rfl)(h1:(assignEach [a] X.env).map (·.2)=[assign a X.env]:=by rfl):DS K mg X ES (.Assign [a] e pos) (hX p g):=
 ⟨PS.imp (qz he.ok hg.ok hs hw h1) λD σ H zz=>zz.el λY N0 ns e S p=>⟨Y,N0,λ_=>True,ns,e,S,λ_ _=>trivial,PS3.toS p S λt e1 ns1 H1 a1 S1 p1 x r1=>by
  try dsimp only at p1
  split at p1
  .rename_i e2 v q;obtain⟨g_,S2,a2,r2⟩:=cw S1 r1 q;split at p1
   .rename_i e3 q3;exact⟨Y,N0,g_,e2,v,e3,S2,r2,q3,λσ' ns' a3 S3=>p1 H1 σ' ns' ((a1.trans S a2).trans S a3) S3⟩
   .exact p1.elim
  .exact p1.elim⟩⟩
def y7{i j:Nat}{x y:Str}{px py pt:Pos}{kt k2 pt2}(hN:X.N.Nodup)(ha:DA K mg X ES [a,b] A)(hc:X.calm=true:=by rfl)(hi:X.N[i]?=some x:=by rfl)(hj:X.N[j]?=some y:=by rfl)(hij:i≠j:=by decide)(hx:X.env.scope.names.lookup x=some .local:=by rfl)(hy:X.env.scope.names.lookup y=some .local:=by rfl)(hw:swappedStores [.Tuple [.Name x px,.Name y py] kt pt] (.Tuple [a,b] k2 pt2) X.env=pure (some [x,y]):=by rfl)(hs:swapsWithSole [.Tuple [.Name x px,.Name y py] kt pt] (.Tuple [a,b] k2 pt2) pos.line X.env=pure false:=by rfl):DS K mg X ES (.Assign [.Tuple [.Name x px,.Name y py] kt pt] (.Tuple [a,b] k2 pt2) pos) (jn i j A):=
 ⟨PS.imp
  (zW hc hN hi hj hij hx hy ha.ok hw hs) λD σ H zz=>zz.el λY N0 ns e S p=>⟨Y,N0,ns,e,S,PS3.toS p S λts e1 ns1 H1 a1 S1 p1 xs r1=>by
  try dsimp only at p1
  split at p1
  .rename_i e2 v u q;obtain⟨g_,S2,a2,r2⟩:=ez S1 r1 q;split at p1
   .rename_i e3 q3;obtain⟨e4,q4,q5⟩:=CI.mp q3;cases r2 with
    |
     cons r rr=>
     cases rr with
     |cons r' rr=>cases rr;obtain⟨S3,a3⟩:=ml S2 r q4;obtain⟨S4,a4⟩:=ml S3 (r'.mono a3.mov) q5;exact⟨_,_,rfl,p1 H1 _ _ (((a1.trans S a2).trans S a3).trans S a4) S4⟩
   .exact p1.elim
  .exact p1.elim⟩⟩
def TsR.len{Y:Addr->Prop}(r:TsR K mg Y ns σ H ds ts):ds.length=ts.length:=by
 induction r with
 |nil=>rfl
 |val _ _ ih=>rw[CF,CF,ih]
 |bor _ _ ih=>rw[CF,CF,ih]
def sC{x:Str}{C:Addr}{E:XK}{np cpos:Pos}(hc:X.calm=true)(hR:Rz X E)(hg:Gl X x)(hm:mg x=some (.ref C))(hq:W.excIn X.K C iB "ValueError.__new__"=true)(ha:DA K mg X (λ_=>E) (e::es) A)(hk:X.mg=mg:=by rfl)(he:starEach (e::es) X.env=(false,eval e X.env)::starEach es X.env:=by rfl)(e_:(backTo cpos (starEach es X.env)).any (·.1)=false:=by rfl)(hd:(x==("__debug__" : Str))=false:=by decide):DS K mg X (λ_=>E) (.Raise (some (.Call (.Name x np) (e::es) [] cpos)) none pos) (dS x A):=by
 subst hk;exact⟨PS.imp (sk hc hR hg hm hq ha.ok he e_ hd) λD σ H zz=>zz.el λY N0 ns e S p=>⟨Y,N0,ns,e,S,PS3.toS p S λts e1 ns1 H1 a1 S1 p1 xs r1=>by
  try dsimp only at p1
  split at p1
  .rename_i hl;exact⟨by rw[r1.len];exact hl,p1 H1 σ ns1 C a1 S1 hm⟩
  .exact p1.elim⟩⟩
end
noncomputable def Sl.re (s:Sl) (u:Val):Sl:=match s with
 |.ow _=>.ow u
 |.mu _=>.mu u
 |s=>s
noncomputable def Sl.mv:Sl->Option Val
 |.ow v=>some v
 |.mu v=>some v
 |_=>none
section
variable{K:W.Frag}{mg:Eh}{X N0:Addr->Prop}{ns:Ns}{e:E3}{σ:St}{H:Hp}
def Sat.write(S:Sat K mg X N0 ns e σ H)(q:e[i]?=some s)(hm:s.mv=some u):∃n o,σ[i]?=some (some (.ref n))/\ns[i]?=some (some n)/\H n=some o/\NotFz o/\Rc K mg (Oc X ns) H o u/\
 ∀o' u',NotFz o'->Rc K mg (Oc X ns) H o' u'->Mov (Oc X ns) (Oc X ns) H (upd H n o')/\Sat K mg X N0 ns (e.set i (s.re u')) σ (upd H n o')/\Stp ns e H ns (e.set i (s.re u')) (upd H n o'):=by
 have hi:=(l_.mp q).1;have key:∃n o,ns[i]?=some (some n)/\σ[i]?=some (some (.ref n))/\H n=some o/\NotFz o/\Rc K mg (Oc X ns) H o u/\s.mt=true/\(∀o' u',NotFz o'->Rc K mg (Oc X ns) (upd H n o') o' u'->SlR K mg (Oc X ns) N0 (some (some n)) (some (some (.ref n))) (upd H n o') (s.re u')):=by
  have y:=S.sl i s q;cases s with
  |ow v=>cases hm;obtain⟨n,o,q1,q2,q3,q4,q5,q6⟩:=y;exact⟨n,o,q1,q2,q4,q5,q6,rfl,λo' u' hf r=>⟨n,o',rfl,rfl,q3,aM,hf,r⟩⟩
  |mu v=>cases hm;obtain⟨n,o,q1,q2,q4,q5,q6⟩:=y;exact⟨n,o,q1,q2,q4,q5,q6,rfl,λo' u' hf r=>⟨n,o',rfl,rfl,aM,hf,r⟩⟩
  |_=>cases hm
 obtain⟨n,o,k1,k2,k3,k4,k5,k6,k7⟩:=key;refine⟨n,o,k2,k1,k3,k4,k5,λo' u' hf r=>?_⟩;have up:∀m,m≠n->upd H n o' m=H m:=λm z=>ax z;have mv:Mov (Oc X ns) (Oc X ns) H (upd H n o'):=⟨LeH.wr k3 k4,λm ob p q' _=>⟨p,by rw[up m λz=>p.2 (aB.mpr ⟨i,by rw[z];exact k1⟩)];exact q'⟩⟩;have dom:∀a,upd H n o' a=none->H a=none:=λa z=>by rw[up a λy=>by subst y;rw[aM] at z;cases z] at z;exact z
 refine⟨mv,⟨by rw[CD];exact S.l1,by rw[CD];exact S.l2,λa z=>S.lh a (dom a z),λm z=>?_,S.inj,S.nx,λj s' qj=>?_,S.bs.wr k3 k4⟩,?_⟩
 .by_cases y:m=n
  .subst y;exact⟨o',aM⟩
  .rw[up m y];exact S.xl m z
 .rcases aV hi qj with ⟨rfl,rfl⟩ |⟨z,qj'⟩
  .rw[k1,k2];exact k7 o' u' hf (r.mono mv)
  .refine (S.sl j s' qj').mono mv λm ob qm qo _=>?_;rw[up m λy=>by subst y;exact z (S.inj j i m qm k1)];exact qo
 .refine⟨mv.le,dom,λm ob qm _ hM=>?_,λ_ _ q=>.inl q,λj s' qj hl=>?_,λj s' qj hl=>?_,λj v qj=>?_,λj v qj=>?_⟩
  .rw[up m λy=>by subst y;exact hM ⟨i,s,k1,q,k6⟩];exact qm
  .have z:j≠i:=λz=>by subst z;rw[q] at qj;cases qj;cases s <;> first |cases hl;done |cases k6;done
   rw[bA z];exact⟨qj,rfl⟩
  .rcases aV hi qj with ⟨_,y⟩ |⟨z,qj'⟩
   .subst y;cases s <;> first |cases hl;done |cases k6;done
   .exact⟨qj',rfl⟩
  .rcases aV hi qj with ⟨rfl,y⟩ |⟨z,qj'⟩
   .cases s with
    |mu w=>exact⟨w,q,rfl⟩
    |ow w=>cases y
    |_=>cases k6
   .exact⟨v,qj',rfl⟩
  .by_cases z:j=i
   .subst z;rw[q] at qj;cases qj;exact⟨u',bL hi,rfl⟩
   .exact⟨v,by rw[bA z];exact qj,rfl⟩
end
noncomputable def wSet (i:Nat) (G:ME3) (F:ME3) (w:Val->Val->Val->Option Val) (e:E3):SR3:=(F e).toS λt e1=>match (e1[i]?).bind Sl.mv with
 |none=>.stuck
 |some _=>(G e1).toS λt2 e2=>match rs e2 t2 with
  |none=>.stuck
  |some vi=>match bG e2 t.drop with
   |none=>.stuck
   |some (e3,v)=>match e3[i]? with
    |none=>.stuck
    |some s=>match s.mv with
     |none=>.stuck
     |some u=>match w u vi v with
      |some u'=>.nx (e3.set i (s.re u'))
      |none=>.stuck
noncomputable def fg:Val->Bool
 |.lst _=>true
 |_=>false
noncomputable def oj (i:Nat) (m:Val->List Val->Option (Val×Val)) (vs:List Val) (e2:E3):R3 Tm:=match e2[i]? with
 |some s2=>match s2.mv with
  |some u=>match m u vs with
   |some (u',v)=>.ok (.val v) (e2.set i (s2.re u'))
   |none=>.stuck
  |none=>.stuck
 |none=>.stuck
noncomputable def tw (i:Nat) (m:Val->List Val->Option (Val×Val)) (A:MA3) (e:E3):R3 Tm:=match e[i]? with
 |some s=>if (s.mv.map fg)=some true then (A e).bind λts e1=>match dem e1 ts with
  |some (e2,vs)=>oj i m vs e2
  |none=>.stuck else .stuck
 |none=>.stuck
noncomputable def Ar (m:Val->List Val->Bv) (F:ME3) (A:MA3) (e:E3):R3 Tm:=(F e).bind λt e1=>if (rs e1 t).map fg=some true then (A e1).bind λts e2=>(match rs e2 t.drop,rss e2 ts with
 |some v,some vs=>if fg v=true then (m v vs).at e2 else .stuck
 |_,_=>.stuck) else .stuck
structure PSe where
 G:Val->Val->Val->Option Val
structure PMm where
 G:Val->List Val->Option (Val×Val)
structure PMv where
 G:Val->List Val->Bv
noncomputable def iM (i:Nat) (w:PSe) (k a:PEx):PSt:=⟨15,wSet i k.G a.G w.G⟩
noncomputable def so (i:Nat) (m:PMm) (a:PAs):PEx:=⟨18,tw i m.G a.G⟩
noncomputable def j7 (m:PMv) (a:PEx) (b:PAs):PEx:=⟨20,Ar m.G a.G b.G⟩
section
variable(K:W.Frag)(mg:Eh)
def tQ(r:lr)(w:Val->Val->Val->Option Val):Prop:=∀P H n o u di vi d v u' Q,¬ P n->H n=some o->NotFz o->Rc K mg P H o u->ShR K mg P H di vi->Rd K mg P H d v->w u vi v=some u'->(∀o',NotFz o'->Rc K mg P H o' u'->Q (upd H n o'))->r (.ref n) di d H Q
def MmD(r:V->List V->Hp->VK->Prop)(m:Val->List Val->Option (Val×Val)):Prop:=∀P H n o u ds vs u' v Q,¬ P n->H n=some o->NotFz o->Rc K mg P H o u->Rds K mg P H ds vs->m u vs=some (u',v)->(∀o' y,NotFz o'->Rc K mg P H o' u'->Rd K mg P H y v->Q y (upd H n o'))->r (.ref n) ds H Q
def MtD(r:V->List V->Hp->VK->Prop)(m:Val->List Val->Bv):Prop:=∀P H d v ds vs Q,ShR K mg P H d v->fg v=true->ShRs K mg P H ds vs->BvP K mg P H Q (m v vs)->r d ds H Q
end
section
variable{K:W.Frag}{mg:Eh}{X:Cx}{ES:St->XK}{e o i:Expr}{es:List Expr}{p q:PEx}{A:PAs}{pos p1:Pos}
def qP{j:Nat}{e:E3}{s:Sl}{u:Val}(q:e[j]?=some s)(h:s.mv=some u):gG j e=.ok (.bor j) e:=by unfold gG;rw[q];cases s <;> first |rfl |cases h
def we{w:PSe}{r:lr}(he:DE K mg X ES e p)(ho:DE K mg X ES o (af j))(hi:DE K mg X ES i q)(hs':oo X r)(hd:tQ K mg r w.G)(hs:swapsWithSole [.Subscript o i p1] e pos.line X.env=pure false:=by rfl)(hw:swappedStores [.Subscript o i p1] e X.env=pure none:=by rfl)(h1:(assignEach [.Subscript o i p1] X.env).map (·.2)=[assign (.Subscript o i p1) X.env]:=by rfl)
 (ha:∀v,assign (.Subscript o i p1) X.env v=(do
  let ov <- holding [v] (eval o X.env)
  let iv <- holding [v,ov] (eval i X.env)
  standAt p1
  holding [v,ov,iv] (setItem ov iv v)
  release [v,ov,iv] []):=by intro _;rfl):DS K mg X ES (.Assign [.Subscript o i p1] e pos) (iM j w q p):=
 ⟨PS.imp
  (qz he.ok (yH ho.ok hi.ok hs' ha) hs hw h1) λD σ H zz=>zz.el λY N0 ns e S p=>⟨Y,N0,λ_=>True,ns,e,S,λ_ _=>trivial,PS3.toS p S λt e1 ns1 H1 a1 S1 p1 x r1=>by
  try dsimp only at p1
  split at p1
  .exact p1.elim
  .rename_i u0 qm;obtain⟨s0,y1,y2⟩:=CI.mp qm;refine⟨Y,N0,λ_=>True,ns1,e1,S1,λ_ _=>trivial,?_⟩;show PG3 K mg Y N0 ns1 e1 σ H1 (ES σ) _ (gG j e1);rw[qP y1 y2];intro H2 g_ a2 S2 ov ro;refine⟨Y,N0,λ_=>True,g_,e1,S2,λ_ _=>trivial,PS3.toS (PS3.after p1 S (a1.trans S a2)) S2 λt2 e2 ns3 H3 a3 S3 p3 iv r3=>?_⟩;try dsimp only at p3
   split at p3
   .exact p3.elim
   .rename_i vi qi;split at p3
    .exact p3.elim
    .rename_i e3 v qd;obtain⟨ns4,S4,a4,r4⟩:=cw S3 (r1.drop (a2.trans S1 a3)) qd;split at p3
     .exact p3.elim
     .rename_i s q3;split at p3
      .exact p3.elim
      .rename_i u q4;split at p3
       .rename_i u' q5;obtain⟨n,ob,k1,k0,k2,k3,k4,k5⟩:=S4.write q3 q4;have ro':σ[j]?=some (some ov):=ro;rw[k1] at ro';cases ro';refine hd (Oc Y ns4) _ _ _ _ _ _ _ _ _ _ (λz=>z.2 (aB.mpr ⟨j,k0⟩)) k2 k3 k4 ((r3.sh S3 qi).mono a4.mov .refl) r4 q5 λo' f' rc'=>?_;obtain⟨_,S5,a5⟩:=k5 o' u' f' rc';exact p3 _ _ _ ((a3.trans S2 a4).trans S2 a5) S5
       .exact p3.elim⟩⟩
def uT{P:Addr->Prop}(r:ShR K mg P H d v)(q:fg v=true):tyV K "list" d H:=by
 cases v with
 |lst xs=>obtain⟨a,vs,rfl,h,_⟩:=r.lstL;exact .inl ⟨rfl,vs,h⟩
 |_=>cases q
def wx{Y N0 L:Addr->Prop}{ns:Ns}{e2:E3}{σ:St}{H:Hp}{k:PMm}{r:V->List V->Hp->VK->Prop}{vs:List Val}{E:XK}{Q:VK}(hd:MmD K mg r k.G)(S:Sat K mg Y N0 ns e2 σ H)(ro:σ[j]?=some (some ov))(rx:Rds K mg (Oc Y ns) H xs vs)(p:PG3 K mg Y N0 ns e2 σ H E (KE K mg Y N0 L σ Q) (oj j k.G vs e2)):r ov xs H Q:=by
 unfold oj at p;split at p
 .rename_i s2 q2;split at p
  .rename_i u q3;split at p
   .rename_i u' v q4;obtain⟨n,ob,k1,k0,k2,k3,k4,k5⟩:=S.write q2 q3;rw[k1] at ro;cases ro;refine hd (Oc Y ns) _ _ _ _ _ _ _ _ _ (λz=>z.2 (aB.mpr ⟨j,k0⟩)) k2 k3 k4 rx q4 λo' y f' rc' ry=>?_;obtain⟨mv,S4,a4⟩:=k5 o' u' f' rc';exact p _ _ a4 S4 _ (ry.mono mv)
   .exact p.elim
  .exact p.elim
 .exact p.elim
theorem vd{Y N0 L:Addr->Prop}{ns:Ns}{e:E3}{σ:St}{H:Hp}{m:Val->List Val->Option (Val×Val)}{A:MA3}{E:XK}{Q:VK}{R:V->Hp->Prop}(S:Sat K mg Y N0 ns e σ H)(p:PG3 K mg Y N0 ns e σ H E (KE K mg Y N0 L σ Q) (tw j m A e))
 (i:∀ov ns1 H1,Stp ns e H ns1 e H1->Sat K mg Y N0 ns1 e σ H1->σ[j]?=some (some ov)->tyV K "list" ov H1->PG3 K mg Y N0 ns1 e σ H1 E (KE K mg Y N0 L σ Q) ((A e).bind λts e1=>match dem e1 ts with
 |some (e2,vs)=>oj j m vs e2
 |none=>.stuck)->R ov H1):PG3 K mg Y N0 ns e σ H E (KE K mg Y N0 L σ R) (gG j e):=by
 unfold tw at p;split at p
 .rename_i s0 q0;split at p
  .rename_i hz;obtain⟨u0,z1,z2⟩:=B_.mp hz;rw[qP q0 z1];exact λH1 ns1 a1 S1 ov ro=>i ov ns1 H1 a1 S1 ro (uT (v:=u0) (S1.bor ro (by rw[q0];cases s0 <;> first |exact z1 |cases z1)) z2) (p.after S a1)
  .exact p.elim
 .exact p.elim
def xC{j:Nat}{name:Str}{id:String}{apos cpos:Pos}{r:V->List V->Hp->VK->Prop}{k:PMm}(hK:X.K=K)(slot:Slot "list" name id)(hty:typeOf (.builtin id)=pure (.type "method_descriptor"))(hm:MtM X id r)(hd:MmD K mg r k.G)(ho:DE K mg X ES o (af j))(ha:DA K mg X ES (e::es) A)(hbase:attributeBase o name X.env (eval o X.env)=eval o X.env:=by rfl)(hfew:((backTo cpos (starEach (e::es) X.env)).all (λx=>!x.1)&&(backToKw cpos (keywordEach [] X.env)).all (λx=>x.1.isSome)&&decide ((e::es).length+([]:List Keyword).length+(if ([]:List Keyword).isEmpty then 0 else 1)<30))=true:=by rfl)(hline:(apos.endLine==cpos.line)=true:=by rfl)(hs:starEach (e::es) X.env=(false,eval e X.env)::starEach es X.env:=by rfl)(e_:(backTo cpos (starEach es X.env)).any (·.1)=false:=by rfl):DE K mg X ES (.Call (.Attribute o name apos) (e::es) [] cpos) (so j k A):=by
 subst hK;exact
  ⟨PE.imp (oV PySem.F.plainAttrs_list slot hty hm ho.ok ha.ok hbase hfew hline hs e_) λσ H Q zz=>zz.el λY N0 L ns e S hl p=>
  ⟨Y,
   N0,L,ns,e,S,hl,vd S p λov ns1 H1 a1 S1 ro ty p1=>⟨ty,Y,N0,ns1,e,S1,PG3.imp p1 S1 λts e1 g_ H2 a2 S2 p2 xs r2=>by
   try dsimp only at p2
   split at p2
   .rename_i e2 vs q1;obtain⟨ns3,S3,a3,r3⟩:=ez S2 r2 q1;exact wx hd S3 ro r3 (p2.after S2 a3)
   .exact p2.elim⟩⟩⟩
def wV{name:Str}{id:String}{apos cpos:Pos}{r:V->List V->Hp->VK->Prop}{k:PMv}(hK:X.K=K)(slot:Slot "list" name id)(hty:typeOf (.builtin id)=pure (.type "method_descriptor"))(hm:MtM X id r)(hd:MtD K mg r k.G)(ho:DE K mg X ES o p)(ha:DA K mg X ES (e::es) A)(hbase:attributeBase o name X.env (eval o X.env)=eval o X.env:=by rfl)(hfew:((backTo cpos (starEach (e::es) X.env)).all (λx=>!x.1)&&(backToKw cpos (keywordEach [] X.env)).all (λx=>x.1.isSome)&&decide ((e::es).length+([]:List Keyword).length+(if ([]:List Keyword).isEmpty then 0 else 1)<30))=true:=by rfl)(hline:(apos.endLine==cpos.line)=true:=by rfl)(hs:starEach (e::es) X.env=(false,eval e X.env)::starEach es X.env:=by rfl)(e_:(backTo cpos (starEach es X.env)).any (·.1)=false:=by rfl):DE K mg X ES (.Call (.Attribute o name apos) (e::es) [] cpos) (j7 k p A):=by
 subst hK;exact
  ⟨PE.imp (oV PySem.F.plainAttrs_list slot hty hm ho.ok ha.ok hbase hfew hline hs e_) λσ H Q zz=>zz.el λY N0 L ns e S hl p=>
  ⟨Y,
   N0,L,ns,e,S,hl,PG3.imp p S λt e1 ns1 H1 a1 S1 p1 x r1=>by
   try dsimp only at p1
   split at p1
   .rename_i hq;obtain⟨v0,z1,z2⟩:=B_.mp hq;refine⟨uT (r1.sh S1 z1) z2,Y,N0,ns1,e1,S1,PG3.imp p1 S1 λts e2 g_ H2 a2 S2 p2 xs r2=>?_⟩;try dsimp only at p2
    split at p2
    .rename_i v vs q1 q2;split at p2
     .rename_i hv;exact hd _ _ _ _ _ _ _ ((r1.drop a2).sh S2 q1) hv (r2.sh S2 q2) (p2.bv S2 λa z=>hl a (a1.dom a (a2.dom a z)))
     .exact p2.elim
    .exact p2.elim
   .exact p1.elim⟩⟩
end
noncomputable def df:Sl->Sl
 |.ow v=>.lo v
 |.mu v=>.lm v
 |s=>s
noncomputable def eF:Sl->Sl
 |.lo v=>.ow v
 |.lm v=>.mu v
 |s=>s
noncomputable def lock (e:E3) (k:Nat):E3:=match e[k]? with
 |some s=>e.set k (df s)
 |none=>e
noncomputable def unlock (e:E3) (k:Nat):E3:=match e[k]? with
 |some s=>e.set k (eF s)
 |none=>e
noncomputable def lockO (e:E3):Option Nat->E3
 |some k=>lock e k
 |none=>e
noncomputable def bj (e:E3):Option Nat->E3
 |some k=>unlock e k
 |none=>e
section
variable{K:W.Frag}{mg:Eh}{X N0:Addr->Prop}{ns ns':Ns}{e e':E3}{σ:St}{H H':Hp}
def SlR.lock(r:SlR K mg P N0 n d H s):SlR K mg P N0 n d H (df s):=by cases s <;> exact r
def SlR.unlock(r:SlR K mg P N0 n d H s):SlR K mg P N0 n d H (eF s):=by cases s <;> exact r
def Sat.setS(S:Sat K mg X N0 ns e σ H)(q:e[k]?=some s)(f:Sl->Sl)(hf:SlR K mg (Oc X ns) N0 (ns[k]?) (σ[k]?) H s->SlR K mg (Oc X ns) N0 (ns[k]?) (σ[k]?) H (f s)):Sat K mg X N0 ns (e.set k (f s)) σ H:=by
 have hi:=(l_.mp q).1;refine⟨by rw[CD];exact S.l1,by rw[CD];exact S.l2,S.lh,S.xl,S.inj,S.nx,λj s' qj=>?_,S.bs⟩;rcases aV hi qj with ⟨rfl,rfl⟩ |⟨z,qj'⟩
 .exact hf (S.sl j s q)
 .exact S.sl j s' qj'
def Sat.lock(S:Sat K mg X N0 ns e σ H)(k:Nat):Sat K mg X N0 ns (lock e k) σ H:=by
 unfold L3.lock;split
 .rename_i s q;exact S.setS q df SlR.lock
 .exact S
def Sat.unlock(S:Sat K mg X N0 ns e σ H)(k:Nat):Sat K mg X N0 ns (unlock e k) σ H:=by
 unfold L3.unlock;split
 .rename_i s q;exact S.setS q eF SlR.unlock
 .exact S
def Sat.lockO(S:Sat K mg X N0 ns e σ H)(k:Option Nat):Sat K mg X N0 ns (lockO e k) σ H:=by
 cases k with
 |none=>exact S
 |some k=>exact S.lock k
def eG(z:j≠k):(lock e k)[j]?=e[j]?:=by
 unfold lock;split
 .rw[bA z]
 .rfl
def cZ(z:j≠k):(unlock e k)[j]?=e[j]?:=by
 unfold unlock;split
 .rw[bA z]
 .rfl
def fX(q:e[k]?=some s):(lock e k)[k]?=some (df s):=by unfold lock;rw[q];exact bL (l_.mp q).1
def dX(q:e[k]?=some s):(unlock e k)[k]?=some (eF s):=by unfold unlock;rw[q];exact bL (l_.mp q).1
def Stp.unlock(q:e[k]?=some s)(hs:s.mt=true)(a:Stp ns (L3.lock e k) H ns' e' H'):Stp ns e H ns' (L3.unlock e' k) H':=by
 have hl:(df s).lk=true:=by cases s <;> first |rfl |cases hs
 have hu:eF (df s)=s:=by cases s <;> first |rfl |cases hs
 obtain⟨qk,nk⟩:=a.lk k _ (fX q) hl;refine⟨a.le,a.dom,λm o qm ht hM=>a.keep m o qm ht λ⟨j,s',z1,z2,z3⟩=>hM ?_,a.nw,λj s' qj hj=>?_,λj s' qj hj=>?_,λj v qj=>?_,λj v qj=>?_⟩
 .by_cases z:j=k
  .subst z;exact⟨j,s,z1,q,hs⟩
  .rw[eG z] at z2;exact⟨j,s',z1,z2,z3⟩
 .have z:j≠k:=λz=>by subst z;rw[q] at qj;cases qj;cases s <;> first |cases hs;done |cases hj;done
  rw[cZ z];exact a.lk j s' (by rw[eG z];exact qj) hj
 .have z:j≠k:=λz=>by subst z;rw[dX qk,hu] at qj;cases qj;cases s <;> first |cases hs;done |cases hj;done
  rw[cZ z] at qj;obtain⟨y1,y2⟩:=a.lk' j s' qj hj;rw[eG z] at y1;exact⟨y1,y2⟩
 .by_cases z:j=k
  .subst z;rw[dX qk,hu] at qj;cases qj;exact⟨v,q,nk⟩
  .rw[cZ z] at qj;obtain⟨u,y1,y2⟩:=a.mu j v qj;rw[eG z] at y1;exact⟨u,y1,y2⟩
 .by_cases z:j=k
  .subst z;rw[q] at qj;cases qj;exact⟨v,by rw[dX qk,hu],nk⟩
  .obtain⟨u,y1,y2⟩:=a.mu' j v (by rw[eG z];exact qj);exact⟨u,by rw[cZ z];exact y1,y2⟩
end
abbrev MI3:=E3->R3 (List Val×Option Nat)
noncomputable def dk:Val->Option (List Val)
 |.tup xs=>some xs
 |.lst xs=>some xs
 |_=>none
noncomputable def jk (t:Tm) (e:E3):Option (List Val×Option Nat):=match t with
 |.val v=>(dk v).map λxs=>(xs,none)
 |.new v=>(dk v).map λxs=>(xs,none)
 |.bor k=>match e[k]? with
  |some (.sh v)=>(dk v).map λxs=>(xs,none)
  |some (.ow (.lst xs))=>some (xs,some k)
  |some (.mu (.lst xs))=>some (xs,some k)
  |_=>none
noncomputable def Bb (F:ME3) (e:E3):R3 (List Val×Option Nat):=(F e).bind λt e1=>match jk t e1 with
 |some p=>.ok p e1
 |none=>.stuck
noncomputable def rP (lo:Int) (k:Nat):List Val:=(List.range k).map λi=>Val.int (lo+(i:Nat))
structure RgB(j:Int):Prop where
 lo:-(2^62)<=j
 hi:j<2^62
def fA:List Val->Option (List Val)
 | [.int j]=>@ite _ (RgB j) (Classical.propDecidable _) (some (rP 0 j.toNat)) none
 |_=>none
noncomputable def viRg (f:List Val->Option (List Val)) (A:MA3) (e:E3):R3 (List Val×Option Nat):=(A e).bind λts e1=>match (rss e1 ts).bind f with
 |some xs=>.ok (xs,none) e1
 |none=>.stuck
noncomputable def SR3.loop (r:SR3) (f:E3->SR3):SR3:=match r with
 |.nx e=>f e
 |.ct e=>f e
 |.bk e=>.nx e
 |.rt d e=>.rt d e
 |.exc c e=>.exc c e
 |.stuck=>.stuck
noncomputable def dG (g:MG3) (B:MS3):List Val->MS3
 | [],e=>.nx e
 |v::vs,e=>match g v e with
  |some e1=>(B e1).loop (dG g B vs)
  |none=>.stuck
noncomputable def SR3.unl (k:Option Nat) (r:SR3):SR3:=match r with
 |.nx e=>.nx (bj e k)
 |.ct e=>.ct (bj e k)
 |.bk e=>.bk (bj e k)
 |.rt d e=>.rt d (bj e k)
 |.exc c e=>.exc c (bj e k)
 |.stuck=>.stuck
noncomputable def wFor (I:MI3) (g:MG3) (B:MS3) (e:E3):SR3:=(I e).toS λp e1=>(dG g B p.1 (lockO e1 p.2)).unl p.2
noncomputable def whV (c:MT3) (B:MS3):Nat->MS3
 |0,_=>.stuck
 |k+1,e=>(c e).toS λb e1=>if b=true then (B e1).loop (whV c B k) else .nx e1
open Classical in
def wWh(c:MT3)(B:MS3):MS3:=λe=>if q:∃k,whV c B k e ≠ .stuck then whV c B q.choose e else .stuck
theorem gm{c:MT3}{B:MS3}:∀{k:Nat}{e:E3},whV c B k e ≠ .stuck->whV c B (k+1) e=whV c B k e
 |0,_,q=>absurd rfl q
 |
  k+1,e,q=>by
  have e1:whV c B (k+2) e=(c e).toS λb e1=>if b=true then (B e1).loop (whV c B (k+1)) else .nx e1:=rfl
  have e2:whV c B (k+1) e=(c e).toS λb e1=>if b=true then (B e1).loop (whV c B k) else .nx e1:=rfl
  rw[e2] at q;rw[e1,e2];cases r:c e with
  |exc _ _=>rfl
  |stuck=>rfl
  |
   ok b h1=>
   rw[r] at q;cases b with
   |false=>rfl
   |
    true=>
    have q':(B h1).loop (whV c B k) ≠ .stuck:=q;show (B h1).loop (whV c B (k+1))=(B h1).loop (whV c B k);cases s:B h1 with
    |nx a2=>rw[s] at q';exact gm q'
    |ct a2=>rw[s] at q';exact gm q'
    |_=>rfl
def pk{c:MT3}{B:MS3}{k j:Nat}{e:E3}(q:whV c B k e ≠ .stuck)(hj:k<=j):whV c B j e=whV c B k e:=by
 induction hj with
 |refl=>rfl
 |step _ ih=>rw[gm (by rw[ih];exact q),ih]
def gY{c:MT3}{B:MS3}{k:Nat}{e:E3}(q:whV c B k e ≠ .stuck):wWh c B e=whV c B k e:=by
 have hq:∃k,whV c B k e ≠ .stuck:=⟨k,q⟩;unfold wWh;rw[dif_pos hq];rcases Nat.le_total hq.choose k with z |z
 .exact (pk hq.choose_spec z).symm
 .exact pk q z
def rL(c:MT3)(B:MS3)(e:E3):wWh c B e=(c e).toS λb e1=>if b=true then (B e1).loop (wWh c B) else .nx e1:=by
 by_cases q:∃k,whV c B k e ≠ .stuck
 .obtain⟨k,q⟩:=q;rw[gY q];cases k with
  |zero=>exact absurd rfl q
  |
   succ k=>
   have e2:whV c B (k+1) e=(c e).toS λb e1=>if b=true then (B e1).loop (whV c B k) else .nx e1:=rfl
   rw[e2] at q ⊢;cases r:c e with
   |exc _ _=>rfl
   |stuck=>rfl
   |
    ok b h1=>
    rw[r] at q;cases b with
    |false=>rfl
    |
     true=>
     have q':(B h1).loop (whV c B k) ≠ .stuck:=q;show (B h1).loop (whV c B k)=(B h1).loop (wWh c B);cases s:B h1 with
     |nx a2=>rw[s] at q';exact (gY q').symm
     |ct a2=>rw[s] at q';exact (gY q').symm
     |_=>rfl
 .have e0:wWh c B e=.stuck:=by unfold wWh;rw[dif_neg q]
  rw[e0];have hs:∀k,whV c B (k+1) e=.stuck:=λk=>Classical.byContradiction λz=>q ⟨_,z⟩;cases r:c e with
  |stuck=>rfl
  |
   exc c' h'=>
   have:=hs 0
   unfold whV at this;rw[r] at this;cases this
  |
   ok b h1=>
   cases b with
   |
    false=>
    have:=hs 0
    unfold whV at this;rw[r] at this;cases this
   |
    true=>
    have h2:∀k,(B h1).loop (whV c B k)=.stuck:=λk=>by
     have:=hs k
     unfold whV at this;rw[r] at this;exact this
    show SR3.stuck=(B h1).loop (wWh c B);have lim:∀a2,(∀k,whV c B k a2=.stuck)->wWh c B a2=.stuck:=λa2 z=>by unfold wWh;rw[dif_neg (λ⟨k,y⟩=>y (z k))]
    cases s:B h1 with
    |nx a2=>rw[s] at h2;exact (lim a2 h2).symm
    |ct a2=>rw[s] at h2;exact (lim a2 h2).symm
    |stuck=>rfl
    |_=>have:=h2 0;rw[s] at this;cases this
structure PIt where
 t:Nat
 G:MI3
noncomputable def eT (a:PEx):PIt:=⟨1,Bb a.G⟩
def ku(a:PAs):PIt:=⟨2,viRg fA a.G⟩
noncomputable def oD (i:PIt) (g:PGt) (b:PSt):PSt:=⟨16,wFor i.G g.G b.G⟩
def xWh(c:PTs)(b:PSt):PSt:=⟨17,wWh c.G b.G⟩
section
variable(K:W.Frag)(mg:Eh)
structure Kp(X:Addr->Prop)(ns:Ns)(k:Option Nat)(H0:Hp)(P:Addr->Prop)(H:Hp):Prop where
 mov:Mov (Oc X ns) P H0 H
 lk:∀(j:Nat) (a:Addr) (o:HO),k=some j->ns[j]?=some (some a)->H0 a=some o->kU o->H a=some o
def Kp.refl:Kp X ns k H (Oc X ns) H:=⟨.of λ_ z=>z,λ_ _ _ _ _ q _=>q⟩
def ItS(X:Addr->Prop)(ns:Ns)(k:Option Nat)(H0:Hp)(J:It)(us:List Val):Prop:=∀P H,Kp X ns k H0 P H->(∀(i:Nat) v,us[i]?=some v->J.go i H/\∀x H',J.yld i H x H'->Gr H H'/\Rd K mg P H' x v)/\J.stop us.length H
def fI(X:Addr->Prop)(ns:Ns)(k:Option Nat)(H0:Hp)(b:Bool)(a:Addr)(us:List Val):Prop:=∀P H,Kp X ns k H0 P H->∃vs,SqB K b H a vs/\Rds K mg P H vs us
def rdI(ES:St->XK)(I:MI3):TI:=λσ H R=>∃X N0 ns e,Sat K mg X N0 ns e σ H/\PG3 K mg X N0 ns e σ H (ES σ) (λp e' ns' H'=>∀J,ItS K mg X ns' p.2 H' J p.1->(∀k,p.2=some k->∃s,e'[k]?=some s/\s.mt=true)->R J H') (I e)
def rdI.el{K:W.Frag}{mg:Eh}{I:MI3}{R:It->Hp->Prop}(h:rdI K mg ES I σ H R){Z:Prop}(k:∀X N0 ns e,Sat K mg X N0 ns e σ H->PG3 K mg X N0 ns e σ H (ES σ) (λp e' ns' H'=>∀J,ItS K mg X ns' p.2 H' J p.1->(∀k,p.2=some k->∃s,e'[k]?=some s/\s.mt=true)->R J H') (I e)->Z):Z:=by obtain⟨X,N0,ns,e,S,p⟩:=h;exact k X N0 ns e S p
structure DI(X:Cx)(ES:St->XK)(tg iter:Expr)(F:PIt):Prop where
 ok:PI X tg iter (rdI K mg ES F.G)
end
noncomputable def ItA (K:W.Frag) (b:Bool) (a:Addr):It:=match b with
 |true=>Itl K a
 |false=>Itt K a
section
variable{K:W.Frag}{mg:Eh}{X N0 L:Addr->Prop}{ns ns1 ns':Ns}{e e1 e':E3}{σ:St}{H H1 H':Hp}{De:Ends}{ES:St->XK}
def vx{x:V}{v:Val}(r:Rd K mg (Oc X ns) H x v)(q:dk v=some us):∃b a,x=.ref a/\∀k,fI K mg X ns k H b a us:=by
 cases v with
 |tup ys=>cases q;obtain⟨a,vs,rfl,h,rr⟩:=ShR.tup (.inl r);exact⟨false,a,rfl,λ_ P H' st=>⟨vs,st.mov.le.sqT h,rr.mono st.mov⟩⟩
 |
  lst ys=>
  cases q;cases r with
  |cell p eo rc=>cases rc with |lst rr=>exact⟨true,_,rfl,λ_ P H' st=>⟨_,SqL.of (st.mov.cl _ _ p eo (λ_ z=>nomatch z)).2,rr.mono st.mov⟩⟩
 |_=>cases q
def yf{x:V}{t:Tm}{p:List Val×Option Nat}(S:Sat K mg X N0 ns e σ H)(r:relE K mg X N0 L σ ns e H x t)(q:jk t e=some p):∃b a,x=.ref a/\fI K mg X ns p.2 H b a p.1/\(p.2=none->∀k,fI K mg X ns k H b a p.1)/\∀k:Nat,p.2=some k->∃s,e[k]?=some s/\s.mt=true:=by
 have fv:∀{v us},Rd K mg (Oc X ns) H x v->dk v=some us->∃b a,x=.ref a/\fI K mg X ns none H b a us/\((none:Option Nat)=none->∀k,fI K mg X ns k H b a us)/\∀k:Nat,none=some k->∃s,e[k]?=some s/\s.mt=true:=λr q=>by obtain⟨b,a,h1,h2⟩:=vx r q;exact⟨b,a,h1,h2 _,λ_=>h2,λ_ z=>nomatch z⟩
 cases t with
 |val v=>obtain⟨xs,q1,rfl⟩:=B_.mp q;exact fv r q1
 |new v=>obtain⟨xs,q1,rfl⟩:=B_.mp q;exact fv r.new q1
 |
  bor k=>
  have r':σ[k]?=some (some x):=r;have own:∀{s xs},e[k]?=some s->s.mv=some (.lst xs)->∃b a,x=.ref a/\fI K mg X ns (some k) H b a xs/\(some k=none->∀k,fI K mg X ns k H b a xs)/\∀j:Nat,some k=some j->∃s,e[j]?=some s/\s.mt=true:=λ{s xs} q qm=>by
   obtain⟨n,o,k1,k0,k2,k3,k4,_⟩:=S.write q qm;rw[r'] at k1;cases k1;have hm:s.mt=true:=by cases s <;> first |rfl |cases qm
   refine⟨true,n,rfl,λP H' st=>?_,λz=>(nomatch z),λj z=>by cases z;exact⟨s,q,hm⟩⟩;cases k4 with
   |lst rr=>exact⟨_,SqL.of (st.lk k n _ rfl k0 k2 λ_ z=>nomatch z),rr.mono st.mov⟩
  unfold jk at q;dsimp only at q;split at q
  .rename_i v qs;obtain⟨_,x',e2,r2⟩:=S.sl k _ qs;rw[r'] at e2;cases e2;obtain⟨xs,q1,rfl⟩:=B_.mp q;exact fv r2 q1
  .rename_i xs qs;cases q;exact own qs rfl
  .rename_i xs qs;cases q;exact own qs rfl
  .cases q
def ItS.seq(s:fI K mg X ns k H b a us):ItS K mg X ns k H (ItA K b a) us:=λP H' st=>by
 obtain⟨vs,h,r⟩:=s P H' st;cases b with
 |true=>refine⟨λi v q=>?_,vs,h,by rw[r.len];exact v_ _⟩;obtain⟨x,ex,rx⟩:=r.get q;exact⟨⟨vs,x,h,ex⟩,λy H2 ⟨e1,z⟩=>by subst e1;have:=(z vs h).symm.trans ex;cases this;exact⟨.refl,rx⟩⟩
 |false=>refine⟨λi v q=>?_,vs,h,by rw[r.len];exact v_ _⟩;obtain⟨x,ex,rx⟩:=r.get q;exact⟨⟨vs,x,h,ex⟩,λy H2 ⟨e1,z⟩=>by subst e1;have:=(z vs h).symm.trans ex;cases this;exact⟨.refl,rx⟩⟩
def ItS.nums{f:Nat->Int}{k:Nat}{J:It}(h1:∀i H,i<k->J.go i H/\∀x H',J.yld i H x H'->H'=H/\x=V.int (f i))(h2:∀H,J.stop k H):ItS K mg X ns kk H J ((List.range k).map λi=>Val.int (f i)):=λP H' st=>by refine⟨λi v q=>?_,by rw[u_,List.length_range];exact h2 _⟩;rw[Cs] at q;obtain⟨j,hj,rfl⟩:=B_.mp q;obtain⟨hj1,hj2⟩:=l_.mp hj;rw[List.getElem_range] at hj2;subst hj2;rw[List.length_range] at hj1;obtain⟨g,y⟩:=h1 i H' hj1;exact⟨g,λx H2 z=>by obtain⟨rfl,rfl⟩:=y x H2 z;exact⟨.refl,.int _⟩⟩
def ItS.rng(lo:Int)(k:Nat):ItS K mg X ns kk H (Itr lo k) (rP lo k):=ItS.nums (λi H hi=>⟨hi,λx H' z=>z⟩) λH=>v_ _
def uQ{k:Option Nat}(S:Sat K mg X N0 ns e σ H)(hk:∀j:Nat,k=some j->∃s,e[j]?=some s/\s.mt=true)(a:Stp ns (lockO e k) H ns' e' H'):Kp X ns k H (Oc X ns') H':=⟨a.mov,λj n o hj hn q ht=>by
 subst hj;refine a.keep n o q ht λ⟨i,s,z1,z2,z3⟩=>?_
 have:=S.inj i j n z1 hn
 subst this;obtain⟨s',y1,y2⟩:=hk i rfl;have:(lockO e (some i))[i]?=some (df s'):=fX y1;rw[this] at z2;cases z2;cases s' <;> first |cases y2;done |cases z3;done⟩
def PS3.unl{k:Option Nat}{r:SR3}(hk:∀j:Nat,k=some j->∃s,e[j]?=some s/\s.mt=true)(p:PS3 K mg X N0 ns e H De ES (r.unl k)):PS3 K mg X N0 ns (lockO e k) H De ES r:=by
 cases k with
 |none=>cases r <;> exact p
 |
  some j=>
  obtain⟨s,y1,y2⟩:=hk j rfl;cases r with
  |stuck=>exact p
  |nx e'=>exact λH' σ' ns' a S=>p H' σ' ns' (a.unlock y1 y2) (S.unlock j)
  |bk e'=>exact λH' σ' ns' a S=>p H' σ' ns' (a.unlock y1 y2) (S.unlock j)
  |ct e'=>exact λH' σ' ns' a S=>p H' σ' ns' (a.unlock y1 y2) (S.unlock j)
  |exc c e'=>exact λH' σ' ns' C a S=>p H' σ' ns' C (a.unlock y1 y2) (S.unlock j)
  |
   rt r e'=>
   refine λH' σ' ns' x a q2=>p H' σ' ns' x (a.unlock y1 y2) ?_;cases r with
   |val v=>exact⟨q2.1.unlock j,q2.2⟩
   |new v=>obtain⟨n,o,z1,z2,z3,z4,z5,z6,z7⟩:=q2;exact⟨n,o,z1,z2,z3,z4,z5,z6.unlock j,z7⟩
   |
    par i=>
    obtain⟨z1,z2,v,z3⟩:=q2;refine⟨z1.unlock j,z2,v,?_⟩;by_cases z:i=j
    .subst z;exact dX z3
    .exact (cZ z).trans z3
   |pr v u=>obtain⟨p,d1,n,o,z1,z2,z3,z4,z5,z6,z7,z8⟩:=q2;exact⟨p,d1,n,o,z1,z2,z3,z4,z5,z6,z7.unlock j,z8⟩
def PS3.toB{α:Type}{r:R3 α}{f:α->E3->SR3}{k:α->E3->Ns->Hp->Prop}{ns0:Ns}{e0:E3}{σ0:St}{H0:Hp}(p:PS3 K mg X N0 ns0 e0 H0 De ES (r.toS f))(S0:Sat K mg X N0 ns0 e0 σ0 H0)(a0:Stp ns0 e0 H0 ns e H)
 (i:∀t e1 ns1 H1,Stp ns0 e0 H0 ns1 e1 H1->Sat K mg X N0 ns1 e1 σ H1->PS3 K mg X N0 ns0 e0 H0 De ES (f t e1)->k t e1 ns1 H1):PG3 K mg X N0 ns e σ H (ES σ) k r:=by
 cases r with
 |stuck=>exact p
 |exc c e'=>exact λH' ns' C a S' m=>p H' σ ns' C (a0.trans S0 a) S' m
 |ok t e'=>exact λH' ns' a S'=>i t e' ns' H' (a0.trans S0 a) S' p
def PS3.loop{ns0:Ns}{e0:E3}{σ0:St}{H0:Hp}{r:SR3}{f:E3->SR3}{N:St->Hp->Prop}(p:PS3 K mg X N0 ns0 e0 H0 De ES (r.loop f))(S0:Sat K mg X N0 ns0 e0 σ0 H0)(a0:Stp ns0 e0 H0 ns e H)
 (i:∀e1 ns1 σ1 H1,Stp ns0 e0 H0 ns1 e1 H1->Sat K mg X N0 ns1 e1 σ1 H1->PS3 K mg X N0 ns0 e0 H0 De ES (f e1)->N σ1 H1):PS3 K mg X N0 ns e H { De with nx:=N,ct:=N,bk:=De.nx } ES r:=by
 cases r with
 |nx e'=>exact λH' σ' ns' b S'=>i e' ns' σ' H' (a0.trans S0 b) S' p
 |ct e'=>exact λH' σ' ns' b S'=>i e' ns' σ' H' (a0.trans S0 b) S' p
 |bk e'=>exact λH' σ' ns' b S'=>p H' σ' ns' (a0.trans S0 b) S'
 |exc c e'=>exact λH' σ' ns' C b S'=>p H' σ' ns' C (a0.trans S0 b) S'
 |rt r e'=>exact λH' σ' ns' x b S'=>p H' σ' ns' x (a0.trans S0 b) S'
 |stuck=>exact p
end
section
variable{K:W.Frag}{mg:Eh}{X:Cx}{ES:St->XK}{e a b c tg iter:Expr}{sts:List Stmt}{p:PEx}{A:PAs}{t:PTs}{x:PSt}{g:PGt}{I:PIt}{pos p0:Pos}
def yx(hK:X.K=K)(he:DE K mg X ES e p):DI K mg X ES tg e (eT p):=by
 subst hK;exact⟨PI.imp (xk he.ok) λσ H R zz=>rdI.el zz λY N0 ns e S q=>⟨Y,N0,λ_=>True,ns,e,S,λ_ _=>trivial,PG3.imp q S λt e1 ns1 H1 a1 S1 p1 x r1=>by
  try dsimp only at p1
  split at p1
  .rename_i w z;obtain⟨b,a,rfl,s,_,hk⟩:=yf S1 r1 z;have k:=p1.ret S1 _ (ItS.seq s) hk;obtain⟨vs,hv,_⟩:=s _ _ .refl;cases b with
   |true=>exact .inl ⟨a,rfl,⟨vs,hv⟩,k⟩
   |false=>exact .inr ⟨a,rfl,⟨vs,hv⟩,k⟩
  .exact p1.elim⟩⟩
def bS{P:Addr->Prop}(r:ShRs K mg P H xs [v]):∃x,xs=[x]/\ShR K mg P H x v:=by cases r with |cons r rr=>cases rr;exact⟨_,rfl,r⟩
def uP{P:Addr->Prop}(r:ShRs K mg P H xs [v,u]):∃x y,xs=[x,y]/\ShR K mg P H x v/\ShR K mg P H y u:=by cases r with |cons r rr=>cases rr with |cons r' rr=>cases rr;exact⟨_,_,rfl,r,r'⟩
def pR(hg:Gl X "range")(hm:mg "range"=none)(ha:DA K mg X ES [a] A)(hk:X.mg=mg:=by rfl)(hs:starEach [a] X.env=[(false,eval a X.env)]:=by rfl):DI K mg X ES tg (.Call (.Name "range" p0) [a] [] pos) (ku A):=by
 subst hk;exact
  ⟨PI.imp (pP hg hm ha.ok hs) λσ H R zz=>rdI.el zz λY N0 ns e S q=>⟨Y,N0,ns,e,S,PG3.imp q S λts e1 ns1 H1 a1 S1 p1 xs r1=>by
  try dsimp only at p1
  split at p1
  .rename_i us z;obtain⟨vs,z1,z2⟩:=CI.mp z;have rr:=r1.sh S1 z1;unfold fA at z2;split at z2
   .split at z2
    .rename_i hb;cases z2;obtain⟨x,rfl,r⟩:=bS rr;obtain rfl:=r.int;exact⟨_,rfl,hb.lo,hb.hi,p1.ret S1 _ (ItS.rng _ _) λ_ z=>nomatch z⟩
    .cases z2
   .cases z2
  .exact p1.elim⟩⟩
def o4(hp:PassesOwn (model X.prog X.w) X.A X.env X.xe)(hc:X.calm=true)(hi:DI K mg X ES tg iter I)(hg:DG K mg X tg g)(hb:DSs K mg X ES sts x)(hs:∀x,foldedSetIterable iter X.env x=pure x:=by intro _;rfl):DS K mg X ES (.For tg iter sts [] pos) (oD I g x):=
 ⟨PS.imp (xn hp hc hi.ok hg.ok hb.ok hs) λD σ H zz=>zz.el λY N0 ns e S p=>⟨Y,N0,ns,e,S,PS3.toS p S λw e1 ns1 H1 a1 S1 p1 J it hk=>by
  have p2:=PS3.unl hk (PS3.after p1 S a1);have S2:=S1.lockO w.2;refine⟨λi m σ' H'=>m=w.1.length-i/\i<=w.1.length/\∃ns' e',Stp ns1 (lockO e1 w.2) H1 ns' e' H'/\Sat K mg Y N0 ns' e' σ' H'/\PS3 K mg Y N0 ns1 (lockO e1 w.2) H1 D ES (dG g.G x.G (w.1.drop i) e'),⟨_,rfl,CP _,ns1,_,.refl,S2,p2⟩,?_⟩;rintro i m σ' H' ⟨rfl,hi,ns',e',a',S',p'⟩;by_cases hl:i=w.1.length
  .subst hl;rw[List.drop_length] at p';exact .inl ⟨(it _ _ (uQ S1 hk a')).2,p' H' σ' ns' a' S'⟩
  .have hl':i<w.1.length:=by omega
   rw[CS hl'] at p';unfold dG at p';obtain⟨go,yl⟩:=(it _ _ (uQ S1 hk a')).1 i _ (A_ hl');split at p'
   .rename_i e2 q;refine .inr ⟨go,λσ2 H2=>i+1<=w.1.length/\∃ns' e',Stp ns1 (lockO e1 w.2) H1 ns' e' H2/\Sat K mg Y N0 ns' e' σ2 H2/\PS3 K mg Y N0 ns1 (lockO e1 w.2) H1 D ES (dG g.G x.G (w.1.drop (i+1)) e'),λσ2 H2 n=>⟨_,by omega,rfl,n⟩,λv H2 y=>?_⟩;obtain⟨gr,r⟩:=yl v H2 y;have a2:=a'.trans S2 (.gr gr);exact⟨Y,N0,ns',e',_,e2,S'.gr gr,r,q,λσ3 ns3 a3 S3=>⟨Y,N0,ns3,e2,S3,PS3.loop p' S2 (a2.trans S2 a3) λe4 ns4 σ4 H4 a4 S4 p4=>⟨hl',ns4,e4,a4,S4,p4⟩⟩⟩
   .exact p'.elim⟩⟩
def rS(hp:PassesOwn (model X.prog X.w) X.A X.env X.xe)(hc:DT K mg X ES c t)(hb:DSs K mg X ES sts x):DS K mg X ES (.While c sts [] pos) (xWh t x):=
 ⟨PS.imp (sy hp hc.ok hb.ok) λD σ H zz=>zz.el λY N0 ns e S p=>by
  have p:PS3 K mg Y N0 ns e H D ES (wWh t.G x.G e):=p;by_cases q:∃k,whV t.G x.G k e ≠ .stuck
  .obtain⟨k,q⟩:=q;rw[gY q] at p;refine⟨λm σ' H'=>∃ns' e',Stp ns e H ns' e' H'/\Sat K mg Y N0 ns' e' σ' H'/\PS3 K mg Y N0 ns e H D ES (whV t.G x.G m e'),⟨k,ns,e,.refl,S,p⟩,?_⟩;rintro m σ' H' ⟨ns',e',a',S',p'⟩;cases m with
   |zero=>exact p'.elim
   |
    succ m=>
    have p2:PS3 K mg Y N0 ns e H D ES ((t.G e').toS λb e1=>if b=true then (x.G e1).loop (whV t.G x.G m) else .nx e1):=p';refine⟨Y,N0,ns',e',S',PS3.toB p2 S a' λb e1 ns1 H1 a2 S1 p1=>?_⟩;cases b with
    |true=>exact⟨λσ2 H2=>∃ns' e',Stp ns e H ns' e' H2/\Sat K mg Y N0 ns' e' σ2 H2/\PS3 K mg Y N0 ns e H D ES (whV t.G x.G m e'),λσ2 H2 n=>⟨m,Nat.lt_succ_self _,n⟩,Y,N0,ns1,e1,S1,PS3.loop p1 S a2 λe4 ns4 σ4 H4 a4 S4 p4=>⟨ns4,e4,a4,S4,p4⟩⟩
    |false=>exact p1 _ _ _ a2 S1
  .unfold wWh at p;rw[dif_neg q] at p;exact p.elim⟩
end
noncomputable def c8 (o:Option Nat) (s:Sl) (e:E3):E3:=match o,s with
 |some i,.mu v=>(match e[i]? with
  |some t=>e.set i (t.re v)
  |none=>e)
 |_,_=>e
noncomputable def ay:List (Option Nat)->E3->E3->E3
 |o::sub,s::inner,e=>ay sub inner (c8 o s e)
 |_,_,e=>e
def nB(hn:∀v,o=some i->s=.mu v->False):(c8 o s e)[i]?=e[i]?:=by
 unfold c8;split
 .rename_i i' v;split
  .rename_i t q;by_cases z:i=i'
   .subst z;exact (hn v rfl rfl).elim
   .rw[bA z]
  .rfl
 .rfl
theorem ju:∀{sub:Ek}{e2 e:E3}{i:Nat},(∀(j:Nat) v,sub[j]?=some (some i)->e2[j]?=some (.mu v)->False)->(ay sub e2 e)[i]?=e[i]?
 | [],_,_,_,_=>rfl
 |_::_,[],_,_,_=>rfl
 |
  o::sub,s::e2,e,i,hn=>by
  show (ay sub e2 (c8 o s e))[i]?=_;rw[ju (λj v q1 q2=>hn (j+1) v (by simpa using q1) (by simpa using q2))];exact nB λv z1 z2=>hn 0 v (by rw[z1];rfl) (by rw[z2];rfl)
theorem mU:∀{sub:Ek}{e2 e:E3}{i j:Nat}{v:Val},(∀(j k:Nat) i,sub[j]?=some (some i)->sub[k]?=some (some i)->j=k)->sub[j]?=some (some i)->e2[j]?=some (.mu v)->(ay sub e2 e)[i]?=(e[i]?).map (Sl.re · v)
 | [],_,_,_,j,_,_,q,_=>by simp at q
 |_::_,[],_,_,j,_,_,_,q=>by simp at q
 |
  o::sub,s::e2,e,i,0,v,hj,q1,q2=>by
  have z1:o=some i:=by simpa using q1
  have z2:s=.mu v:=by simpa using q2
  subst z1 z2;show (ay sub e2 (c8 (some i) (.mu v) e))[i]?=_;rw[ju (λk u y1 _=>by have:=hj 0 (k+1) i rfl (by simpa using y1);omega)];unfold c8;dsimp only;split
  .rename_i t q;rw[bL (l_.mp q).1,q];rfl
  .rename_i q;rw[q];rfl
 |
  o::sub,s::e2,e,i,j+1,v,hj,q1,q2=>by
  show (ay sub e2 (c8 o s e))[i]?=_;have q1':sub[j]?=some (some i):=by simpa using q1
  rw[mU (λa b c y1 y2=>by have:=hj (a+1) (b+1) c (by simpa using y1) (by simpa using y2);omega) q1' (by simpa using q2)];rw[nB λv z1 _=>by have:=hj 0 (j+1) i (by rw[z1];rfl) q1;omega]
noncomputable def aA (sub:Ek) (ns:Ns):Ns:=sub.map λo=>o.bind λi=>(ns[i]?).bind id
def bo{sub:Ek}{ns:Ns}{j:Nat}{n:Addr}(q:(aA sub ns)[j]?=some (some n)):∃i,sub[j]?=some (some i)/\ns[i]?=some (some n):=by
 unfold aA at q;rw[Cs] at q;cases z:sub[j]? with
 |none=>rw[z] at q;cases q
 |
  some o=>
  rw[z] at q;cases o with
  |none=>cases q
  |
   some i=>
   refine⟨i,rfl,?_⟩;have q':(ns[i]?).bind id=some n:=x_ q;cases y:ns[i]? with
   |none=>rw[y] at q';cases q'
   |some w=>rw[y] at q';have:w=some n:=q';rw[this]
def wI{sub:Ek}{ns:Ns}{j i:Nat}{w:Option Addr}(q:sub[j]?=some (some i))(q2:ns[i]?=some w):(aA sub ns)[j]?=some w:=by unfold aA;rw[Cs,q];show some ((ns[i]?).bind id)=some w;rw[q2];rfl
structure Lnk(sub:Ek)(e ei:E3):Prop where
 inj:∀(j k:Nat) (i:Nat),sub[j]?=some (some i)->sub[k]?=some (some i)->j=k
 mu:∀(j:Nat) (v:Val),ei[j]?=some (.mu v)->∃(i:Nat) (s:Sl),sub[j]?=some (some i)/\e[i]?=some s/\s.mt=true
 mt:∀(j:Nat) (s:Sl),ei[j]?=some s->s.mt=true->∃v,s=.mu v
section
variable{K:W.Frag}{mg:Eh}{X Y N0:Addr->Prop}{ns g_:Ns}{e e2 ei:E3}{σ:St}{H H2:Hp}{sub:Ek}
theorem gH:∀(sub:Ek) (e2 e:E3),(ay sub e2 e).length=e.length
 | [],_,_=>rfl
 |_::_,[],_=>rfl
 |
  o::sub,s::e2,e=>by
  show (ay sub e2 (c8 o s e)).length=_;rw[gH];unfold c8;split
  .split
   .rw[CD]
   .rfl
  .rfl
def Sat.back(S:Sat K mg X N0 ns e σ H)(lk:Lnk sub e ei)(a:Stp (aA sub ns) ei H g_ e2 H2)(hb:Bs K mg H2)
 (hY:∀n,Y n->(∃o,H2 n=some o)/\(X n\/H n=none)) (hXY:∀n,X n->Y n)
 (hc:∀(j:Nat) v n,e2[j]?=some (.mu v)->g_[j]?=some (some n)->∃o,H2 n=some o/\NotFz o/\Rc K mg (Oc Y ns) H2 o v):Sat K mg Y N0 ns (ay sub e2 e) σ H2/\Stp ns e H ns (ay sub e2 e) H2:=by
 have hM:∀n,Mt (aA sub ns) ei n->Mt ns e n:=λn ⟨j,s,z1,z2,z3⟩=>by obtain⟨v,rfl⟩:=lk.mt j s z2 z3;obtain⟨i,s',y1,y2,y3⟩:=lk.mu j v z2;obtain⟨i',y4,y5⟩:=bo z1;rw[y1] at y4;cases y4;exact⟨i,s',y5,y2,y3⟩
 have mv:Mov (Oc X ns) (Oc Y ns) H H2:=⟨a.le,λn o p q ht=>⟨⟨λz=>(by
  rcases (hY n z).2 with z |z
  .exact p.1 z
  .rw[q] at z;cases z),p.2⟩,a.keep n o q ht λz=>by obtain⟨j,s,z1,_⟩:=z;obtain⟨i,_,y⟩:=bo z1;exact p.2 (aB.mpr ⟨i,y⟩)⟩⟩
 have key:∀i:Nat,(∃(j:Nat) (v:Val) (s:Sl),sub[j]?=some (some i)/\e2[j]?=some (.mu v)/\e[i]?=some s/\s.mt=true/\(ay sub e2 e)[i]?=some (s.re v)/\g_[j]?=ns[i]?)\/((∀n,ns[i]?=some (some n)->¬ Mt (aA sub ns) ei n)/\(ay sub e2 e)[i]?=e[i]?):=λi=>by
  by_cases hx:∃(j:Nat) (v:Val),sub[j]?=some (some i)/\e2[j]?=some (.mu v)
  .obtain⟨j,v,q1,q2⟩:=hx;obtain⟨u,q3,q4⟩:=a.mu j v q2;obtain⟨i',s,y1,y2,y3⟩:=lk.mu j u q3;rw[q1] at y1;cases y1;refine .inl ⟨j,v,s,q1,q2,y2,y3,by rw[mU lk.inj q1 q2,y2];rfl,?_⟩;rw[q4];have hl:i<ns.length:=by rw[S.l2];exact (l_.mp y2).1
   rw[A_ hl];exact wI q1 (A_ hl)
  .refine .inr ⟨λn q ⟨j,s,z1,z2,z3⟩=>hx ?_,ju λj v y1 y2=>hx ⟨j,v,y1,y2⟩⟩;obtain⟨v,rfl⟩:=lk.mt j s z2 z3;obtain⟨i',y4,y5⟩:=bo z1;have:i'=i:=S.inj i' i n y5 q;subst this;obtain⟨v',y6,_⟩:=a.mu' j v z2;exact⟨j,v',y4,y6⟩
 refine⟨⟨by rw[gH];exact S.l1,by rw[gH];exact S.l2,λx z=>S.lh x (a.dom x z),λn z=>(hY n z).1,S.inj,λi n q z=>?_,λi s q=>?_,hb⟩,⟨a.le,a.dom,λm o q ht hm=>a.keep m o q ht λz=>hm (hM m z),λ_ _ q=>.inl q,λi s q hl=>?_,λi s q hl=>?_,λi v q=>?_,λi v q=>?_⟩⟩
 .rcases (hY n z).2 with z |z
  .exact S.nx i n q z
  .obtain⟨_,_,_,_,_,_,_,q',_⟩:=S.own q;rw[q'] at z;cases z
 .rcases key i with ⟨j,v,s0,k1,k2,k3,k4,k5,k6⟩ |⟨k1,k2⟩
  .rw[k5] at q;cases q;have y:=S.sl i s0 k3;cases s0 with
   |ow u=>obtain⟨n,o,y1,y2,y3,_⟩:=y;obtain⟨o',z1,z2,z3⟩:=hc j v n k2 (by rw[k6];exact y1);exact⟨n,o',y1,y2,y3,z1,z2,z3⟩
   |mu u=>obtain⟨n,o,y1,y2,_⟩:=y;obtain⟨o',z1,z2,z3⟩:=hc j v n k2 (by rw[k6];exact y1);exact⟨n,o',y1,y2,z1,z2,z3⟩
   |_=>cases k4
  .rw[k2] at q;exact (S.sl i s q).mono mv λn o q1 q2 hf=>a.keep n o q2 hf.nt (k1 n q1)
 .rcases key i with ⟨j,v,s0,k1,k2,k3,k4,k5,k6⟩ |⟨k1,k2⟩
  .rw[k3] at q;cases q;cases s <;> first |cases hl;done |cases k4;done
  .rw[k2];exact⟨q,rfl⟩
 .rcases key i with ⟨j,v,s0,k1,k2,k3,k4,k5,k6⟩ |⟨k1,k2⟩
  .rw[k5] at q;cases q;cases s0 <;> first |cases hl;done |cases k4;done
  .rw[k2] at q;exact⟨q,rfl⟩
 .rcases key i with ⟨j,u,s0,k1,k2,k3,k4,k5,k6⟩ |⟨k1,k2⟩
  .rw[k5] at q;cases s0 with
   |mu w=>exact⟨w,k3,rfl⟩
   |ow w=>cases q
   |_=>cases k4
  .rw[k2] at q;exact⟨v,q,rfl⟩
 .rcases key i with ⟨j,u,s0,k1,k2,k3,k4,k5,k6⟩ |⟨k1,k2⟩
  .rw[k3] at q;cases q;exact⟨u,k5,rfl⟩
  .exact⟨v,by rw[k2];exact q,rfl⟩
end
noncomputable def inS:Sl->Sl
 |.ow v=>.mu v
 |.lo v=>.lm v
 |s=>s
noncomputable def bz (sub:Ek) (e:E3):E3:=sub.map λo=>match o with
 |none=>.no
 |some i=>match e[i]? with
  |some s=>inS s
  |none=>.no
noncomputable def lcV (g:MG3) (c:MT3) (F:ME3):List Val->List Val->E3->R3 (List Val)
 | [],acc,e=>.ok acc e
 |v::vs,acc,e=>if acc.length<16777216 then (match g v e with
  |none=>.stuck
  |some e1=>(c e1).bind λb e2=>if b=true then (F e2).bind λt e3=>(match bG e3 t with
   |some (e4,y)=>lcV g c F vs (acc++[y]) e4
   |none=>.stuck) else lcV g c F vs acc e2) else .stuck
noncomputable def vLC (I:MI3) (sub:Ek) (g:MG3) (c:MT3) (F:ME3) (e:E3):R3 Tm:=(I e).bind λp e1=>match lcV g c F p.1 [] (bz sub (lockO e1 p.2)) with
 |.ok ys e2=>if ys.length<=16777216 then .ok (.new (.lst ys)) (bj (ay sub e2 (lockO e1 p.2)) p.2) else .stuck
 |_=>.stuck
noncomputable def pLC (i:PIt) (sub:Ek) (hs:(sub.filterMap id).Nodup) (g:PGt) (c:PTs) (a:PEx):PEx:=⟨21,vLC i.G sub g.G c.G a.G⟩
def hZ(sub:Ek):Prop:=∀(j k:Nat) (i:Nat),sub[j]?=some (some i)->sub[k]?=some (some i)->j=k
def jC(h:(sub.filterMap id).Nodup):hZ sub:=by
 induction sub with
 |nil=>intro j k i q;simp at q
 |
  cons o sub ih=>
  have i_:(sub.filterMap id).Nodup:=by
   cases o with
   |none=>simpa using h
   |some i=>rw[CZ] at h;simp at h;exact h.2
  have hno:∀(i k:Nat),o=some i->sub[k]?=some (some i)->False:=λi k z q=>by subst z;rw[CZ] at h;simp at h;exact h.1 (CT q)
  intro j k i q1 q2;cases j with
  |
   zero=>
   cases k with
   |zero=>rfl
   |succ k=>exact (hno i k (by simpa using q1) (by simpa using q2)).elim
  |
   succ j=>
   cases k with
   |zero=>exact (hno i j (by simpa using q2) (by simpa using q1)).elim
   |succ k=>exact CM (· + 1) (ih i_ j k i (by simpa using q1) (by simpa using q2))
def Xin(X:Addr->Prop)(ns:Ns)(sub:Ek)(n:Addr):Prop:=X n\/(some n∈ns/\some n∉aA sub ns)
def lC{n:Addr}(q:some n∈aA sub ns):some n∈ns:=by obtain⟨j,q⟩:=aB.mp q;obtain⟨i,_,q2⟩:=bo q;exact aB.mpr ⟨i,q2⟩
def oU{X:Addr->Prop}{H:Hp}:Mov (Oc X ns) (Oc (Xin X ns sub) (aA sub ns)) H H:=.of λn p=>⟨λz=>by
 rcases z with z |⟨z,_⟩
 .exact p.1 z
 .exact p.2 z,λz=>p.2 (lC z)⟩
def dJ{sub:Ek}{e:E3}{j:Nat}{s:Sl}(q:(bz sub e)[j]?=some s):(sub[j]?=some none/\s=.no)\/(∃i,sub[j]?=some (some i)/\((e[i]?=none/\s=.no)\/∃t,e[i]?=some t/\s=inS t)):=by
 unfold bz at q;rw[Cs] at q;cases z:sub[j]? with
 |none=>rw[z] at q;cases q
 |
  some o=>
  rw[z] at q;cases o with
  |none=>cases q;exact .inl ⟨rfl,rfl⟩
  |
   some i=>
   refine .inr ⟨i,rfl,?_⟩;have q':=x_ q;dsimp only at q';cases y:e[i]? with
   |none=>rw[y] at q';exact .inl ⟨rfl,q'.symm⟩
   |some t=>rw[y] at q';exact .inr ⟨t,rfl,q'.symm⟩
section
variable{K:W.Frag}{mg:Eh}{X N0:Addr->Prop}{ns:Ns}{e:E3}{σ:St}{H:Hp}{sub:Ek}
def Sat.inner(S:Sat K mg X N0 ns e σ H)(hs:hZ sub):Sat K mg (Xin X ns sub) N0 (aA sub ns) (bz sub e) (br sub σ) H:=by
 refine⟨by unfold br bz;rw[u_,u_],by unfold aA bz;rw[u_,u_],S.lh,λn z=>?_,λj k n q1 q2=>?_,λj n q z=>?_,λj s q=>?_,S.bs⟩
 .rcases z with z |⟨z,_⟩
  .exact S.xl n z
  .obtain⟨i,z⟩:=aB.mp z;obtain⟨_,_,o,_,_,_,_,q',_⟩:=S.own z;exact⟨o,q'⟩
 .obtain⟨i,y1,y2⟩:=bo q1;obtain⟨i',y3,y4⟩:=bo q2
  have:=S.inj i i' n y2 y4
  subst this;exact hs j k i y1 y3
 .rcases z with z |⟨_,z⟩
  .obtain⟨i,y1,y2⟩:=bo q;exact S.nx i n y2 z
  .exact z (aB.mpr ⟨j,q⟩)
 .have hj:∀{o},sub[j]?=some o->(aA sub ns)[j]?=some (o.bind λi=>(ns[i]?).bind id)/\(br sub σ)[j]?=some (o.bind λi=>(σ[i]?).bind id):=λ{o} z=>by unfold aA br;rw[Cs,Cs,z];exact⟨rfl,rfl⟩
  rcases dJ q with ⟨z,rfl⟩ |⟨i,z,⟨y,rfl⟩ |⟨t,y,rfl⟩⟩
  .rw[(hj z).1];rfl
  .rw[(hj z).1];show some ((ns[i]?).bind id)=some none;have:ns[i]?=none:=by rw[List.getElem?_eq_none_iff] at y ⊢;rw[S.l2];exact y
   rw[this];rfl
  .have k:=(S.sl i t y).mono (oU (sub:=sub) (H:=H)) λ_ _ _ q _=>q;rw[(hj z).1,(hj z).2];show SlR K mg _ N0 (some ((ns[i]?).bind id)) (some ((σ[i]?).bind id)) H (inS t);have w1:∀x,ns[i]?=some x->some ((ns[i]?).bind id)=some x:=λx q=>by rw[q];rfl
   have w2:∀x,σ[i]?=some x->some ((σ[i]?).bind id)=some x:=λx q=>by rw[q];rfl
   cases t with
   |no=>rw[w1 _ k];rfl
   |sh v=>obtain⟨k1,x,k2,k3⟩:=k;rw[w1 _ k1,w2 _ k2];exact⟨rfl,x,rfl,k3⟩
   |ow v=>obtain⟨m,o,k1,k2,_,k3⟩:=k;rw[w1 _ k1,w2 _ k2];exact⟨m,o,rfl,rfl,k3⟩
   |lo v=>obtain⟨m,o,k1,k2,_,k3⟩:=k;rw[w1 _ k1,w2 _ k2];exact⟨m,o,rfl,rfl,k3⟩
   |mu v=>obtain⟨m,o,k1,k2,k3⟩:=k;rw[w1 _ k1,w2 _ k2];exact⟨m,o,rfl,rfl,k3⟩
   |lm v=>obtain⟨m,o,k1,k2,k3⟩:=k;rw[w1 _ k1,w2 _ k2];exact⟨m,o,rfl,rfl,k3⟩
end
def fT(hs:hZ sub):Lnk sub e (bz sub e):=by
 refine⟨hs,λj v q=>?_,λj s q hm=>?_⟩
 .rcases dJ q with ⟨_,z⟩ |⟨i,z,⟨_,y⟩ |⟨t,y,y2⟩⟩
  .cases z
  .cases y
  .refine⟨i,t,z,y,?_⟩;cases t <;> first |rfl |cases y2
 .rcases dJ q with ⟨_,z⟩ |⟨i,z,⟨_,y⟩ |⟨t,y,y2⟩⟩
  .subst z;cases hm
  .subst y;cases hm
  .subst y2;cases t with
   |ow v=>exact⟨v,rfl⟩
   |mu v=>exact⟨v,rfl⟩
   |_=>cases hm
structure DTs(K:W.Frag)(mg:Eh)(X:Cx)(ES:St->XK)(es:List Expr)(F:PTs):Prop where
 ok:L2.PTs X es (rdT K mg ES F.G)
def Mov.trans{P P1 P2:Addr->Prop}{H H1 H2:Hp}(a:Mov P P1 H H1)(b:Mov P1 P2 H1 H2):Mov P P2 H H2:=⟨a.le.trans b.le,λn o p q ht=>by obtain⟨p1,q1⟩:=a.cl n o p q ht;exact b.cl n o p1 q1 ht⟩
section
variable{K:W.Frag}{mg:Eh}{X:Cx}{ES:St->XK}{a b o iter tg h_:Expr}{j_:List Expr}{I:PIt}{g:PGt}{p:PEx}{t:PTs}{pos:Pos}{sub:Ek}
def dm:DTs K mg X ES [] qY:=⟨λpins s σ H Q i ⟨Y,N0,ns,e,S,p⟩=>wF pins s σ H Q i (PG3.ret p S)⟩
def uC{hsb:(sub.filterMap id).Nodup}(σ:St)(H:Hp)(Q:VK):rdE K mg ES (pLC I sub hsb g t p).G σ H Q->eX (rdI K mg ES I.G) sub (rdG K mg g.G) (rdT K mg (λ_=>E0) t.G) (rdE K mg (λ_=>E0) p.G) σ H Q:=λzz=>zz.el λY N0 L ns e S hl pp=>
 ⟨Y,
  N0,ns,e,S,PG3.imp pp S λw e1 ns1 H1 a1 S1 p1 J it hk=>by
  have hs':=jC hsb;have S2:=S1.lockO w.2;have S3:=S2.inner hs';try dsimp only at p1
  split at p1
  .rename_i ys
    e2 q
   split at p1
   .rename_i hy;have kp:∀{ns' e' H'},Stp (aA sub ns1) (bz sub (lockO e1 w.2)) H1 ns' e' H'->Kp Y ns1 w.2 H1 (Oc (Xin Y ns1 sub) ns') H':=λ{ns' e' H'} a=>⟨oU.trans a.mov,λk n ob hk1 hk2 qm ht=>a.keep n ob qm ht λ⟨j,s,z1,z2,z3⟩=>by
     obtain⟨i,y1,y2⟩:=bo z1
     have:=S1.inj i k n y2 hk2
     subst this;obtain⟨s',w1,w2⟩:=hk i hk1;have hl:(lockO e1 w.2)[i]?=some (df s'):=by rw[hk1];exact fX w1
     rcases dJ z2 with ⟨z,_⟩ |⟨i',z,y⟩
     .rw[y1] at z;cases z
     .rw[y1] at z;cases z;rcases y with ⟨y,_⟩ |⟨t,y,rfl⟩
      .rw[hl] at y;cases y
      .rw[hl] at y;cases y;cases s' <;> first |cases w2;done |cases z3;done⟩
    refine⟨λi m acc σ' H'=>m=w.1.length-i/\i<=w.1.length/\∃ns' e' av,Stp (aA sub ns1) (bz sub (lockO e1 w.2)) H1 ns' e' H'/\Sat K mg (Xin Y ns1 sub) N0 ns' e' σ' H'/\Rds K mg (Oc (Xin Y ns1 sub) ns') H' acc av/\lcV g.G t.G p.G (w.1.drop i) av e'=.ok ys e2,⟨_,rfl,CP _,_,_,[],.refl,S3,.nil,q⟩,?_⟩;rintro i m acc σ' H' ⟨rfl,hi,ns',e',av,a',S',ra,q'⟩;by_cases hlt:i<w.1.length
    .rw[CS hlt] at q';unfold lcV at q';split at q'
     .rename_i hla;obtain⟨go,yl⟩:=(it _ _ (kp a')).1 i _ (A_ hlt);refine .inr ⟨go,by rw[ra.len];exact hla,λacc' σ2 H2=>i+1<=w.1.length/\∃ns' e' av,Stp (aA sub ns1) (bz sub (lockO e1 w.2)) H1 ns' e' H2/\Sat K mg (Xin Y ns1 sub) N0 ns' e' σ2 H2/\Rds K mg (Oc (Xin Y ns1 sub) ns') H2 acc' av/\lcV g.G t.G p.G (w.1.drop (i+1)) av e'=.ok ys e2,λacc' σ2 H2 n=>⟨_,by omega,rfl,n⟩,λx H2 y=>?_⟩;obtain⟨gr,rx⟩:=yl x H2 y;have a2:=a'.trans S3 (.gr gr);have S4:=S'.gr gr;have ra2:=ra.mono gr.mov;split at q'
      .cases q'
      .rename_i e3 qg;refine⟨_,N0,ns',e',_,e3,S4,rx,qg,λσ3 ns3 a3 S5=>⟨_,N0,ns3,e3,S5,?_⟩⟩;have a4:=a2.trans S3 a3;have ra3:=ra2.mono a3.mov;cases qc:t.G e3 with
       |stuck=>rw[qc] at q';cases q'
       |exc _ _=>rw[qc] at q';cases q'
       |
        ok b e4=>
        rw[qc] at q';intro H4 ns4 a5 S6;have a6:=a4.trans S3 a5;have ra4:=ra3.mono a5.mov;show if b=true then _ else _
        have q':(if b=true then (p.G e4).bind λtt e3=>(match bG e3 tt with
         |some (e4,y)=>lcV g.G t.G p.G (w.1.drop (i+1)) (av++[y]) e4
         |none=>.stuck) else lcV g.G t.G p.G (w.1.drop (i+1)) av e4)=.ok ys e2:=q'
        by_cases hb:b=true
        .rw[if_pos hb] at q' ⊢;refine⟨_,N0,λ_=>True,ns4,e4,S6,λ_ _=>trivial,?_⟩;cases qp:p.G e4 with
         |stuck=>rw[qp] at q';cases q'
         |exc _ _=>rw[qp] at q';cases q'
         |
          ok tt e5=>
          rw[qp] at q';intro H5 ns5 a7 S7 v rv;have q':(match bG e5 tt with
           |some (e4,y)=>lcV g.G t.G p.G (w.1.drop (i+1)) (av++[y]) e4
           |none=>.stuck)=.ok ys e2:=q'
          split at q'
          .rename_i e6 u qd;obtain⟨ns6,S8,a8,r8⟩:=cw S7 rv qd;exact⟨hlt,ns6,e6,_,(a6.trans S3 a7).trans S3 a8,S8,((ra4.mono a7.mov).mono a8.mov).append (.cons r8 .nil),q'⟩
          .cases q'
        .rw[if_neg hb] at q' ⊢;exact⟨hlt,ns4,e4,av,a6,S6,ra4,q'⟩
     .cases q'
    .have hi2:i=w.1.length:=by omega
     subst hi2;rw[List.drop_length] at q';cases q';have k3:∀n,Oc (Xin Y ns1 sub) ns' n->Oc Y ns1 n:=λn z=>⟨λy=>z.1 (.inl y),λy=>by
      by_cases w:some n∈aA sub ns1
      .obtain⟨j,w⟩:=aB.mp w;obtain⟨s,v,o,b1,b2,_⟩:=S3.own w;rcases b2 with b2 |b2
       .obtain⟨v',rfl⟩:=(fT (e:=lockO e1 _) hs').mt j s b1 b2;obtain⟨u,c1,c2⟩:=a'.mu' j v' b1;exact z.2 (aB.mpr ⟨j,by rw[c2];exact w⟩)
       .obtain⟨c1,c2⟩:=a'.lk j s b1 b2;exact z.2 (aB.mpr ⟨j,by rw[c2];exact w⟩)
      .exact z.1 (.inr ⟨y,w⟩)⟩
     obtain⟨S5,a5⟩:=S2.back (Y:=Y) (fT hs') a' S'.bs (λn z=>by
      obtain⟨ob,z'⟩:=S2.xl n z;exact⟨by
       cases qh:H' n with
       |none=>rw[a'.dom n qh] at z';cases z'
       |some o'=>exact⟨o',rfl⟩,.inl z⟩) (λ_ z=>z) λj v n q1 q2=>by
      obtain⟨s,u,o,b1,b2,b3,b4,b5,b6,b7⟩:=S'.own q2;rw[q1] at b1;cases b1;cases b3;exact⟨o,b5,b6,b7.mono (.of k3)⟩
     have c_:∀e'',Sat K mg Y N0 ns1 e'' σ H'->Stp ns1 e1 H1 ns1 e'' H'->PG3 K mg Y N0 ns1 e1 σ H1 (ES σ) (KE K mg Y N0 L σ Q) (.ok (.new (.lst ys)) e'')->∀D,H' D=none->Q (.ref D) (upd H' D (.lst acc)):=λe'' S6 a6 p6 D hD=>
      PG3.bv (b:=.new (.lst ys)) (p6.after S1 a6) S6 (λa z=>hl a (a1.dom a (a6.dom a z))) H' D _ .refl hD trivial (.lst (ra.mono (.of k3)))
     refine .inl ⟨(it _ _ (kp a')).2,by rw[ra.len];exact hy,?_⟩;cases hp:w.2 with
     |none=>rw[hp] at S5 a5 p1;exact c_ _ S5 a5 p1
     |some k=>rw[hp] at S5 a5 p1;obtain⟨s,w1,w2⟩:=hk k hp;exact c_ _ (S5.unlock k) (a5.unlock w1 w2) p1
   .exact p1.elim
  .exact p1.elim⟩
def ot{scope:Scope}(M:List Str)(kn:List (Str×NameKind))(N:List Str)(sub:Ek){hsb:(sub.filterMap id).Nodup}(hi:DI K mg X ES tg iter I)(hg:N.Nodup->∀cl C s₂ H fp,DG K mg (aC X N scope cl C s₂ H fp) tg g)(ht:N.Nodup->∀cl C s₂ H fp,DTs K mg (aC X N scope cl C s₂ H fp) (λ_=>E0) j_ t)(he:N.Nodup->∀cl C s₂ H fp,DE K mg (aC X N scope cl C s₂ H fp) (λ_=>E0) h_ p)(hnd:N.Nodup:=by decide)(hc:X.calm=true:=by rfl)(hM:X.N=M:=by rfl)(hkn:X.env.scope.names=kn:=by rfl)(i_:gW M scope.names sub N=true:=by decide)(hk:scope.kind=.function:=by rfl)(hnc:∀x∈scope.names,x.2 ≠ .cell:=by decide)(b_:∀x∈scope.names,x.2=.local->scope.names.lookup x.1=some .local:=by decide)(hfr:mm kn scope.names=true:=by decide)(hsl:sub.length=N.length:=by rfl)(hs:∀x,foldedSetIterable iter X.env x=pure x:=by intro _;rfl):DE K mg X ES (.ListComp h_ [⟨tg,iter,j_,0⟩] scope pos) (pLC I sub hsb g t p):=
 ⟨PE.imp (yN hc hi.ok hk hnc b_ (by subst hkn;exact iD hfr) hsl (by subst hM;exact gu i_) (λcl C s H f=>(hg hnd cl C s H f).ok) (λcl C s H f=>(ht hnd cl C s H f).ok) (λcl C s H f=>(he hnd cl C s H f).ok) hs) uC⟩
def zSlc{ow:Bool}{px spos:Pos}{iT:Nat}{xT:Str}{scope:Scope}(hN:X.N.Nodup)(M:List Str)(kn:List (Str×NameKind))(N:List Str)(sub:Ek){hsb:(sub.filterMap id).Nodup}(hi:DI K mg X ES tg iter I)(hg:N.Nodup->∀cl C s₂ H fp,DG K mg (aC X N scope cl C s₂ H fp) tg g)(ht:N.Nodup->∀cl C s₂ H fp,DTs K mg (aC X N scope cl C s₂ H fp) (λ_=>E0) j_ t)(he:N.Nodup->∀cl C s₂ H fp,DE K mg (aC X N scope cl C s₂ H fp) (λ_=>E0) h_ p)(hsw:swapsWith (.ListComp h_ [⟨tg,iter,j_,0⟩] scope pos) (some (.Name xT px)) spos.line X.env=pure true:=by rfl)(hnd:N.Nodup:=by decide)(hc:X.calm=true:=by rfl)(hix:X.N[iT]?=some xT:=by rfl)(hxl:Loc X.env.scope xT:=by first |exact Or.inl rfl |exact Or.inr rfl)(hM:X.N=M:=by rfl)(hkn:X.env.scope.names=kn:=by rfl)(i_:gW M scope.names sub N=true:=by decide)(hk:scope.kind=.function:=by rfl)(hnc:∀x∈scope.names,x.2 ≠ .cell:=by decide)(b_:∀x∈scope.names,x.2=.local->scope.names.lookup x.1=some .local:=by decide)(hfr:mm kn scope.names=true:=by decide)(hsl:sub.length=N.length:=by rfl)(hs:∀x,foldedSetIterable iter X.env x=pure x:=by intro _;rfl)(hf:X.fn xT=true\/X.env.scope.names.lookup xT=some .local:=by first |exact .inl rfl |exact .inr rfl |assumption):DS K mg X ES (.Assign [.Name xT px] (.ListComp h_ [⟨tg,iter,j_,0⟩] scope pos) spos) (aF ow iT (pLC I sub hsb g t p)):=
 ⟨PS.imp (zk hc hN hix hxl hi.ok hk hnc b_ (by subst hkn;exact iD hfr) hsl (by subst hM;exact gu i_) (λcl C s H f=>(hg hnd cl C s H f).ok) (λcl C s H f=>(ht hnd cl C s H f).ok) (λcl C s H f=>(he hnd cl C s H f).ok) hsw hs hf) λD σ H q=>uC σ H _ (pb D σ H q)⟩
end
inductive R3F where
 |ok (r:Rt) (mv:List Val) |exc (c:Str) (mv:List Val) |stuck
abbrev Fn3:=List Val->R3F
noncomputable def sl1 (b:Bool) (v:Val):Sl:=if b=true then .mu v else .sh v
noncomputable def sls (ms:List Bool) (vs:List Val):E3:=List.zipWith sl1 ms vs
noncomputable def ar:List Bool->List Val->E3
 |true::ms,v::vs=>.mu v::ar ms vs
 |true::ms,[]=>.no::ar ms []
 |false::ms,vs=>.no::ar ms vs
 | [],_=>[]
noncomputable def muV:List Bool->E3->Option (List Val)
 |true::ms,.mu v::e=>(muV ms e).map (v :: ·)
 |true::_,_=>none
 |false::ms,_::e=>muV ms e
 |false::_,[]=>none
 | [],_=>some []
noncomputable def fnV (ms:List Bool) (N:Nat) (F:MS3):Fn3:=λvs=>if vs.length=ms.length then (match F (sls ms vs++List.replicate (N-vs.length) .no) with
 |.nx e=>(match muV ms e with |some mv=>.ok (.val .non) mv |none=>.stuck)
 |.rt r e=>(match muV ms e with |some mv=>.ok r mv |none=>.stuck)
 |.exc c e=>(match muV ms e with |some mv=>.exc c mv |none=>.stuck)
 |_=>.stuck) else .stuck
def cA{ms:List Bool}{vs:List Val}{i:Nat}{s:Sl}(q:(sls ms vs)[i]?=some s):∃b v,ms[i]?=some b/\vs[i]?=some v/\s=sl1 b v:=by
 unfold sls at q;rw[Dl] at q;cases h1:ms[i]? with
 |none=>rw[h1] at q;cases q
 |
  some b=>
  cases h2:vs[i]? with
  |none=>rw[h1,h2] at q;cases q
  |some v=>rw[h1,h2] at q;cases q;exact⟨b,v,rfl,rfl,rfl⟩
theorem dz:∀{ms:List Bool}{e:E3}{mv:List Val}{i:Nat}{s:Sl},muV ms e=some mv->(ar ms mv)[i]?=some s->(ms[i]?=some false/\s=.no)\/(ms[i]?=some true/\∃v,e[i]?=some (.mu v)/\s=.mu v)
 | [],_,_,_,_,_,q=>by unfold ar at q;simp at q
 |
  true::ms,.mu v::e,mv,i,s,q,q2=>by
  obtain⟨mv',z1,z2⟩:=B_.mp (show (muV ms e).map (v :: ·)=some mv from q);subst z2;cases i with
  |zero=>
   right;have:Sl.mu v=s:=by simpa [ar] using q2
   subst this;exact⟨rfl,v,rfl,rfl⟩
  |
   succ i=>
   have:=dz (i:=i) (s:=s) z1 (by simpa [ar] using q2)
   simpa using this
 |true::ms,[],mv,i,s,q,q2=>by cases q
 |true::ms,.no::e,mv,i,s,q,q2=>by cases q
 |true::ms,.sh v::e,mv,i,s,q,q2=>by cases q
 |true::ms,.ow v::e,mv,i,s,q,q2=>by cases q
 |true::ms,.lo v::e,mv,i,s,q,q2=>by cases q
 |true::ms,.lm v::e,mv,i,s,q,q2=>by cases q
 |false::ms,[],mv,i,s,q,q2=>by cases q
 |
  false::ms,t::e,mv,i,s,q,q2=>by
  cases i with
  |zero=>
   left;have:Sl.no=s:=by simpa [ar] using q2
   exact⟨rfl,this.symm⟩
  |
   succ i=>
   have:=dz (i:=i) (s:=s) (show muV ms e=some mv from q) (by simpa [ar] using q2)
   simpa using this
theorem iH:∀{ms:List Bool}{e:E3}{mv:List Val}{i:Nat},muV ms e=some mv->ms[i]?=some true->∃v,e[i]?=some (.mu v)/\(ar ms mv)[i]?=some (.mu v)
 | [],_,_,i,_,q=>by simp at q
 |
  true::ms,.mu v::e,mv,i,q,q2=>by
  obtain⟨mv',z1,z2⟩:=B_.mp (show (muV ms e).map (v :: ·)=some mv from q);subst z2;cases i with
  |zero=>exact⟨v,rfl,rfl⟩
  |succ i=>obtain⟨u,y1,y2⟩:=iH (i:=i) z1 (by simpa using q2);exact⟨u,by simpa using y1,by simpa [ar] using y2⟩
 |true::ms,[],mv,i,q,q2=>by cases q
 |true::ms,.no::e,mv,i,q,q2=>by cases q
 |true::ms,.sh v::e,mv,i,q,q2=>by cases q
 |true::ms,.ow v::e,mv,i,q,q2=>by cases q
 |true::ms,.lo v::e,mv,i,q,q2=>by cases q
 |true::ms,.lm v::e,mv,i,q,q2=>by cases q
 |false::ms,[],mv,i,q,q2=>by cases q
 |
  false::ms,t::e,mv,i,q,q2=>by
  cases i with
  |zero=>simp at q2
  |succ i=>obtain⟨u,y1,y2⟩:=iH (i:=i) (show muV ms e=some mv from q) (by simpa using q2);exact⟨u,by simpa using y1,by simpa [ar] using y2⟩
theorem dB:∀{ms:List Bool}{mv:List Val},(ar ms mv).length=ms.length
 | [],_=>rfl
 |true::ms,v::mv=>by show (ar ms mv).length+1=ms.length+1;rw[dB]
 |true::ms,[]=>by show (ar ms []).length+1=ms.length+1;rw[dB]
 |false::ms,mv=>by show (ar ms mv).length+1=ms.length+1;rw[dB]
noncomputable def d8 (i:Nat):List Tm->Bool
 |.bor j::ts=>(i==j) || d8 i ts
 |_::ts=>d8 i ts
 | []=>false
noncomputable def jj (i:Nat):List Bool->List Tm->Bool
 |true::ms,.bor j::ts=>(i==j) || jj i ms ts
 |_::ms,_::ts=>jj i ms ts
 |_,_=>false
noncomputable def okA (e:E3):List Bool->List Tm->Bool
 |true::ms,.bor i::ts=>((e[i]?).bind Sl.mv).isSome && !(d8 i ts)&&okA e ms ts
 |true::_,_::_=>false
 |false::ms,.bor i::ts=>!(jj i ms ts)&&okA e ms ts
 |false::ms,_::ts=>okA e ms ts
 | [],[]=>true
 |_,_=>false
noncomputable def js (b:Bool) (t:Tm):Option Nat:=match b,t with
 |true,.bor i=>some i
 |_,_=>none
noncomputable def aD (ms:List Bool) (ts:List Tm):List (Option Nat):=List.zipWith js ms ts
noncomputable def aJ (e:E3):List Bool->List Tm->List Nat
 |false::ms,.bor i::ts=>(match e[i]? with
  |some (.sh _)=>aJ e ms ts
  |_=>i::aJ e ms ts)
 |_::ms,_::ts=>aJ e ms ts
 |_,_=>[]
mutual
def bJ:Val->Bool
 |.tup xs=>c3 xs
 |.lst _=>false
 |.kl _=>false
 |.dct _=>false
 |.set _=>false
 |_=>true
def c3:List Val->Bool
 | []=>true
 |v::vs=>bJ v&&c3 vs
end
noncomputable def ib:List (Key×Val)->Bool
 | []=>true
 |(_,v)::vs=>bJ v&&ib vs
noncomputable def bE:Val->Bool
 |.lst xs=>c3 xs
 |.dct xs=>ib xs
 |.set _=>true
 |_=>false
noncomputable def fM:Rt->Bool
 |.val v=>bJ v
 |.new v=>bE v
 |.par _=>true
 |.pr v u=>bJ v&&bE u
noncomputable def ja (e:E3):List Nat->Option E3
 | []=>some e
 |i::is=>match bG e (.bor i) with
  |some (e1,_)=>ja e1 is
  |none=>none
noncomputable def Rt.tm (ts:List Tm):Rt->Tm
 |.val v=>.val v
 |.new v=>.new v
 |.par i=>(ts[i]?).getD (.val .non)
 |.pr v u=>.val (.tup [v,u])
noncomputable def Bq (ms:List Bool) (G:Fn3) (A:MA3) (e:E3):R3 Tm:=(A e).bind λts e1=>match rss e1 ts with
 |none=>.stuck
 |some vs=>if okA e1 ms ts=true then (match G vs with
  |.stuck=>.stuck
  |.ok r mv=>if (aJ e1 ms ts).isEmpty || (fM r&&mv.all bE) then .ok (r.tm ts) (ay (aD ms ts) (ar ms mv) e1) else (match ja e1 (aJ e1 ms ts) with
   |some e2=>.ok (r.tm ts) (ay (aD ms ts) (ar ms mv) e2)
   |none=>.stuck)
  |.exc c mv=>if (aJ e1 ms ts).isEmpty || mv.all bE then .exc c (ay (aD ms ts) (ar ms mv) e1) else .stuck) else .stuck
section
variable{K:W.Frag}{mg:Eh}{P P':Addr->Prop}{H H':Hp}
def Rd.flat(l:LeH H H')(f:bJ v=true)(r:Rd K mg P H d v):Rd K mg P' H' d v:=
 @Rd.rec K mg P H (λd v _=>bJ v=true->Rd K mg P' H' d v) (λo v _=>bJ v=true->Rd K mg P' H' .non v) (λds vs _=>c3 vs=true->Rds K mg P' H' ds vs) (λws us _=>True) (λ_=>.non) (λb _=>.bl b) (λi _=>.int i) (λx _=>.str x) (λn _=>.ty n) (λm _=>.glb m) (λm e _=>.exc m (l.ext _ _ e)) (λh _ ih f=>.tup (l.sqT h) (ih f)) (λ_ _ _ f=>absurd f o_) (λ_ _ r _ f=>by cases r <;> exact absurd f o_) (λ_ _ f=>absurd f o_) (λ_ _ f=>absurd f o_) (λ_ _ f=>absurd f o_) (λ_ _ f=>absurd f o_) (λ_=>.nil) (λ_ _ a b f=>.cons (a (p_ .. ▸ f).1) (b (p_ .. ▸ f).2)) trivial (λ_ _ _ _=>trivial) d v r f
def Rds.flat(l:LeH H H')(f:c3 v=true)(r:Rds K mg P H ds v):Rds K mg P' H' ds v:=
 r.ind (M:=λds vs=>c3 vs=true->Rds K mg P' H' ds vs) (λ_=>.nil) (λr _ ih f=>by rw[c3,p_] at f;exact .cons (Rd.flat l f.1 r) (ih f.2)) f
def Rk.flat(l:LeH H H')(f:ib v=true)(r:Rk K mg P H ds v):Rk K mg P' H' ds v:=
 r.ind (M:=λds vs=>ib vs=true->Rk K mg P' H' ds vs) (λ_=>.nil) (λr _ ih f=>by rw[ib,p_] at f;exact .cons (Rd.flat l f.1 r) (ih f.2)) f
def Rc.flat(l:LeH H H')(f:bE v=true)(r:Rc K mg P H o v):Rc K mg P' H' o v:=by
 cases r with
 |lst r=>exact .lst (Rds.flat l (by simpa [bE] using f) r)
 |fz r=>simp [bE] at f
 |dct r=>exact .dct (Rk.flat l (by simpa [bE] using f) r)
 |set xs nd=>exact .set xs nd
end
structure PFn where
 ms:List Bool
 G:Fn3
def nn(H:Hp)(a:Addr):Prop:=H a=none
def sp3(K:W.Frag)(mg:Eh)(f:PFn):Sp:=λvs H Q E=>∃Y ps us,us.length=f.ms.length/\Sat K mg Y (nn H) ps (sls f.ms us) (vs.map some) H/\match f.G us with
 |.ok r mv=>∀x H',Stp ps (sls f.ms us) H ps (ar f.ms mv) H'->RtR K mg Y (nn H) ps (ar f.ms mv) (vs.map some) H' x r->Q x H'
 |.exc c mv=>∀C H',Stp ps (sls f.ms us) H ps (ar f.ms mv) H'->Sat K mg Y (nn H) ps (ar f.ms mv) (vs.map some) H'->mg c=some (.ref C)->E (.ref C) none H'
 |.stuck=>False
noncomputable def fnP (ms:List Bool) (N:Nat) (c:PSt):PFn:=⟨ms,fnV ms N c.G⟩
section
variable{K:W.Frag}{mg:Eh}{X N0:Addr->Prop}{ps:Ns}{e:E3}{H H':Hp}{ms:List Bool}{us:List Val}{vs:List V}{k:Nat}
def vH(S:Sat K mg X N0 ps e σ H):Sat K mg X N0 (ps++List.replicate k none) (e++List.replicate k .no) (σ++List.replicate k none) H:=by
 have gns:∀{i n:Nat},(ps++List.replicate k (none:Option Addr))[i]?=some (some n)->ps[i]?=some (some n):=λ{i n} q=>by
  rw[D3] at q;split at q
  .exact q
  .rw[CO] at q;split at q <;> cases q
 refine⟨?_,?_,S.lh,S.xl,λi j n q1 q2=>S.inj i j n (gns q1) (gns q2),λi n q=>S.nx i n (gns q),λi s q=>?_,S.bs⟩
 .rw[Cz,Cz,C5,C5,S.l1]
 .rw[Cz,Cz,C5,C5,S.l2]
 .rw[D3] at q;split at q
  .rename_i hi;rw[CC (by rw[S.l2];exact hi),CC (by rw[S.l1];exact hi)];exact (S.sl i s q).mono (.of λn p=>⟨p.1,λz=>p.2 (by obtain⟨j,z⟩:=aB.mp z;exact aB.mpr ⟨j,gns z⟩)⟩) λ_ _ _ q _=>q
  .rename_i hi;rw[CO] at q;split at q
   .cases q;rw[C7 (by rw[S.l2];exact Nat.le_of_not_lt hi),CO,if_pos (by rw[S.l2];assumption)];rfl
   .cases q
def eE{Y:Addr->Prop}(hl:us.length=ms.length)(S:Sat K mg X N0 ps (sls ms us) σ H)(hXY:∀n,X n->Y n)(a:Stp (ps++List.replicate k none) (sls ms us++List.replicate k .no) H ns' e' H')(S2:Sat K mg Y N0 ns' e' σ' H')(qm:muV ms e'=some mv):
 Stp ps (sls ms us) H ps (ar ms mv) H'/\Sat K mg Y N0 ps (ar ms mv) σ H'/\∀n,Oc Y ns' n->Oc Y ps n:=by
 have lS:(sls ms us).length=ms.length:=by unfold sls;rw[C9];omega
 have ltS:∀{i:Nat},i<ms.length->i<(sls ms us).length:=λh=>by omega
 have ltP:∀{i:Nat},i<(sls ms us).length->i<ps.length:=λh=>S.l2.symm ▸ h;have kmu:∀{i:Nat},ms[i]?=some true->∃v u n o,e'[i]?=some (.mu v)/\(ar ms mv)[i]?=some (.mu v)/\(sls ms us)[i]?=some (.mu u)/\ns'[i]?=ps[i]?/\ps[i]?=some (some n)/\σ[i]?=some (some (.ref n))/\H' n=some o/\NotFz o/\Rc K mg (Oc Y ns') H' o v:=by intro i hi;obtain⟨v,y1,y2⟩:=iH qm hi;have hil:i<ms.length:=(l_.mp hi).1;obtain⟨u,y3,y4⟩:=a.mu i v y1;rw[CC (ltS hil)] at y3;rw[CC (ltP (ltS hil))] at y4;obtain⟨n,o,z1,z2,_⟩:=S.sl i _ y3;obtain⟨n',o',w1,w2,w3,w4,w5⟩:=S2.sl i _ y1;rw[y4,z1] at w1;cases w1;exact⟨v,u,n,o',y1,y2,y3,y4,z1,z2,w3,w4,w5⟩
 have kown:∀{i n:Nat},ps[i]?=some (some n)->ms[i]?=some true:=λ{i n} q=>by
  obtain⟨s,v,o,z1,z2,_⟩:=S.own q;obtain⟨b,u,y1,_,y2⟩:=cA z1;cases b with
  |true=>exact y1
  |false=>subst y2;rcases z2 with z2 |z2 <;> cases z2
 have koc:∀n,Oc Y ns' n->Oc Y ps n:=λn z=>⟨z.1,λy=>by obtain⟨i,y⟩:=aB.mp y;obtain⟨v,u,n',o,_,_,_,k1,k2,_⟩:=kmu (kown y);exact z.2 (aB.mpr ⟨i,by rw[k1];exact y⟩)⟩;refine⟨⟨a.le,a.dom,λm o q ht hm=>a.keep m o q ht λ⟨i,s,z1,z2,z3⟩=>hm ?_,λ_ _ q=>.inl q,λi s q hl'=>?_,λi s q hl'=>?_,λi v q=>?_,λi v q=>?_⟩,⟨?_,?_,λn z=>S.lh n (a.dom n z),S2.xl,S.inj,λi n q z=>?_,λi s q=>?_,S2.bs⟩,koc⟩
 .rw[D3] at z1;split at z1
  .rename_i hi;rw[CC (by rw[<- S.l2];exact hi)] at z2;exact⟨i,s,z1,z2,z3⟩
  .rw[CO] at z1;split at z1 <;> cases z1
 .obtain⟨b,u,_,_,y⟩:=cA q;subst y;cases b <;> cases hl'
 .rcases dz qm q with ⟨_,z⟩ |⟨_,v,_,z⟩ <;> subst z <;> cases hl'
 .rcases dz qm q with ⟨_,z⟩ |⟨z,_⟩
  .cases z
  .obtain⟨v',u,n,o,_,_,k1,_⟩:=kmu z;exact⟨u,k1,rfl⟩
 .obtain⟨b,u,y1,_,y2⟩:=cA q;cases b with
  |false=>cases y2
  |true=>obtain⟨v',u,n,o,_,k0,k1,_⟩:=kmu y1;exact⟨v',k0,rfl⟩
 .rw[S.l1,dB];exact lS
 .rw[S.l2,dB];exact lS
 .obtain⟨v,u,n',o,_,_,_,k1,k2,_⟩:=kmu (kown q);exact S2.nx i n (by rw[k1];exact q) z
 .rcases dz qm q with ⟨z,rfl⟩ |⟨z,v,z2,rfl⟩
  .have hil:i<ms.length:=(l_.mp z).1;have hi:i<(sls ms us).length:=ltS hil;obtain⟨b,u,y1,_,y2⟩:=cA (A_ hi);rw[z] at y1;cases y1;have k:=S.sl i _ (A_ hi);rw[y2] at k;exact k.1
  .obtain⟨v',u,n,o,k0,_,_,k1,k2,k3,k4,k5,k6⟩:=kmu z;rw[z2] at k0;cases k0;exact⟨n,o,k2,k3,k4,k5,k6.mono (.of koc)⟩
variable{P:Program}{w:World}{base:Heap}{fx:Str}{j':Stmt}{n m:Nat}{pn N:List Str}{x:PSt}
def md(sp:sp3 K mg (fnP ms m x) vs H Q E):vs.length=ms.length:=by obtain⟨Y,ps,us,hl,S,_⟩:=sp;have q:=S.l1;unfold sls at q;rw[u_,C9] at q;have hl':us.length=ms.length:=hl;have:(fnP ms m x).ms=ms:=rfl;rw[this] at q;omega
def kN{Q:VK}{E:XK}(sp:sp3 K mg (fnP ms N.length x) vs H Q E):rdS K mg (λ_=>E) x.G { nx:=λ_ H'=>Q .non H',rt:=Q } (bK N vs) H:=by
 have hv:=md sp;obtain⟨Y,ps,us,hl,S0,p⟩:=sp;have hl:us.length=ms.length:=hl;have S0:Sat K mg Y (nn H) ps (sls ms us) (vs.map some) H:=S0;have S1:=vH (k:=N.length-vs.length) S0;refine⟨Y,nn H,_,_,S1,?_⟩;have p:match fnV ms N.length x.G us with
  |.ok r mv=>∀y H',Stp ps (sls ms us) H ps (ar ms mv) H'->RtR K mg Y (nn H) ps (ar ms mv) (vs.map some) H' y r->Q y H'
  |.exc c mv=>∀C H',Stp ps (sls ms us) H ps (ar ms mv) H'->Sat K mg Y (nn H) ps (ar ms mv) (vs.map some) H'->mg c=some (.ref C)->E (.ref C) none H'
  |.stuck=>False:=p
 unfold fnV at p;rw[if_pos hl] at p;have hvu:us.length=vs.length:=by omega
 rw[hvu] at p;cases q:x.G (sls ms us++List.replicate (N.length-vs.length) .no) with
 |stuck=>rw[q] at p;exact p.elim
 |bk _=>rw[q] at p;exact p.elim
 |ct _=>rw[q] at p;exact p.elim
 |
  nx e'=>
  rw[q] at p;intro H' σ' ns' a S2;try dsimp only at p
  cases qm:muV ms e' with
  |none=>rw[qm] at p;exact p.elim
  |some mv=>rw[qm] at p;obtain⟨a3,S3,koc⟩:=eE hl S0 (λ_ z=>z) a S2 qm;exact p _ _ a3 ⟨S3,.non⟩
 |
  exc c e'=>
  rw[q] at p;intro H' σ' ns' C a S2 hC;try dsimp only at p
  cases qm:muV ms e' with
  |none=>rw[qm] at p;exact p.elim
  |some mv=>rw[qm] at p;obtain⟨a3,S3,koc⟩:=eE hl S0 (λ_ z=>z) a S2 qm;exact p _ _ a3 S3 hC
 |
  rt r e'=>
  rw[q] at p;intro H' σ' ns' y a rr;try dsimp only at p
  cases qm:muV ms e' with
  |none=>rw[qm] at p;exact p.elim
  |
   some mv=>
   rw[qm] at p;cases r with
   |val v=>obtain⟨a3,S3,koc⟩:=eE hl S0 (λ_ z=>z) a rr.1 qm;exact p _ _ a3 ⟨S3,rr.2.mono (.of koc)⟩
   |new v=>obtain⟨n,o,z1,z2,z3,z4,z5,z6,z7⟩:=rr;obtain⟨a3,S3,koc⟩:=eE (Y:=Xn Y n) hl S0 (λ_ z=>.inl z) a z6 qm;exact p _ _ a3 ⟨n,o,z1,z2,z3,z4,z5,S3,z7.mono (.of koc)⟩
   |pr v u=>obtain⟨pp,d1,n,o,z0,z1,z2,z3,z4,z5,z6,z7,z8⟩:=rr;obtain⟨a3,S3,koc⟩:=eE (Y:=Xn Y n) hl S0 (λ_ z=>.inl z) a z6 qm;exact p _ _ a3 ⟨pp,d1,n,o,z0,z1,z2,z3,z4,z5,S3,z7.mono (.of koc),z8.mono (.of koc)⟩
   |
    par i=>
    obtain⟨R1,R2,v,R3⟩:=rr;obtain⟨a3,S3,koc⟩:=eE hl S0 (λ_ z=>z) a R1 qm;refine p _ _ a3 ⟨S3,?_,?_⟩;all_goals
     obtain⟨u,k1,k2⟩:=a.mu i v R3;have hi:i<(sls ms us).length:=by apply Decidable.byContradiction;intro hi;rw[C7 (Nat.le_of_not_lt hi),CO] at k1;split at k1 <;> cases k1
     rw[CC hi] at k1;rw[CC (by rw[S0.l2];exact hi)] at k2;obtain⟨m,o,w1,w2,_⟩:=S0.sl i _ k1
    .obtain⟨m',o',x1,x2,_⟩:=R1.sl i _ R3;rw[k2,w1] at x1;cases x1;rw[R2] at x2;cases x2;exact w2
    .obtain⟨v',y,_⟩:=a3.mu' i u k1;exact⟨v',y⟩
def okP(D:Def K mg fx j')(S:FnScope N pn (aj j'))
 (hb:∀(kV doc pm:Value) (an:Option Addr) (cdv ct:Value) (us:List Value),us.length=pn.length->bindArgs (W.fnOf fx fx (bC j') (aN j') (aj j') .none kV doc pm an cdv ct) ⟨us,[]⟩=pure (pn.zip us))
 (d_:N.Nodup->∀(f:Addr) (cdv:Value) (A:Around) (outer:List Env) (s:Shared) (H:Hp) (E:XK),Room k (A.deeper (envOfC fx (aj j') s.heap.objs.size f cdv))->
  DSs K mg (bR (CX1 P w) P w K mg base N fx (aj j') f cdv A outer s H E) (λ_=>E) (aN j') x) (hn:ms.length=pn.length:=by rfl) (hm:N.length=m:=by rfl):Callee P w K mg base fx (k+1) pn (sp3 K mg (fnP ms m x)):=by
 subst hm;exact D.okR S hb (λvs H Q E sp=>by rw[<- hn];exact md sp) λf cdv A outer s H vs Q E hr sp=>⟨_,(d_ S.nd f cdv A outer s H E hr).ok,kN sp⟩
end
theorem iK:∀{ts:List Tm}{k:Nat},ts[k]?=some (.bor i)->d8 i ts=true
 | [],_,q=>by simp at q
 |
  t::ts,0,q=>by
  have:t=.bor i:=by simpa using q
  subst this;simp [d8]
 |
  t::ts,k+1,q=>by
  have:=iK (ts:=ts) (k:=k) (by simpa using q)
  cases t <;> simp [d8,this]
theorem mR:∀{ms:List Bool}{ts:List Tm}{k:Nat},ms[k]?=some true->ts[k]?=some (.bor i)->jj i ms ts=true
 | [],_,_,q,_=>by simp at q
 |_::_,[],_,_,q=>by simp at q
 |
  b::ms,t::ts,0,q1,q=>by
  have:t=.bor i:=by simpa using q
  have:b=true:=by simpa using q1
  subst_vars;simp [jj]
 |
  b::ms,t::ts,k+1,q1,q=>by
  have:=mR (ms:=ms) (ts:=ts) (k:=k) (by simpa using q1) (by simpa using q)
  cases b <;> cases t <;> simp [jj,this]
theorem fL:∀{ms:List Bool}{ts:List Tm}{k:Nat},okA e ms ts=true->ms[k]?=some true->∃i,ts[k]?=some (.bor i)/\∃u,(e[i]?).bind Sl.mv=some u
 | [],_,_,_,q=>by simp at q
 |b::ms,[],_,o,_=>by cases b <;> simp [okA] at o
 |
  b::ms,t::ts,0,o,q=>by
  have:b=true:=by simpa using q
  subst this;cases t with
  |bor i=>simp only[okA,p_] at o;exact⟨i,rfl,CV.mp o.1.1⟩
  |_=>simp [okA] at o
 |
  b::ms,t::ts,k+1,o,q=>by
  have o':okA e ms ts=true:=by cases b <;> cases t <;> simp only[okA,p_] at o <;> first |exact o.2 |exact o |(simp at o;done)
  obtain⟨i,y⟩:=fL (k:=k) o' (by simpa using q);exact⟨i,by simpa using y⟩
theorem et:∀{ms:List Bool}{ts:List Tm}{k j i:Nat},okA e ms ts=true->ms[k]?=some true->ts[k]?=some (.bor i)->ts[j]?=some (.bor i)->j=k
 | [],_,_,_,_,_,q,_,_=>by simp at q
 |b::ms,[],_,_,_,o,_,_,_=>by cases b <;> simp [okA] at o
 |b::ms,t::ts,0,0,i,o,q1,q2,q3=>rfl
 |
  b::ms,t::ts,0,j+1,i,o,q1,q2,q3=>by
  have h1:b=true:=by simpa using q1
  have h2:t=.bor i:=by simpa using q2
  subst h1 h2;simp only[okA,p_] at o
  have:=iK (i:=i) (ts:=ts) (k:=j) (by simpa using q3)
  rw[this] at o;simp at o
 |
  b::ms,t::ts,k+1,0,i,o,q1,q2,q3=>by
  have h2:t=.bor i:=by simpa using q3
  subst h2;have hm:=mR (i:=i) (ms:=ms) (ts:=ts) (k:=k) (by simpa using q1) (by simpa using q2);have hb:=iK (i:=i) (ts:=ts) (k:=k) (by simpa using q2);cases b <;> simp [okA,hm,hb] at o
 |
  b::ms,t::ts,k+1,j+1,i,o,q1,q2,q3=>by
  have o':okA e ms ts=true:=by cases b <;> cases t <;> simp only[okA,p_] at o <;> first |exact o.2 |exact o |(simp at o;done)
  exact CM (· + 1) (et (k:=k) (j:=j) (i:=i) o' (by simpa using q1) (by simpa using q2) (by simpa using q3))
theorem iY:∀{ms:List Bool}{ts:List Tm},okA e ms ts=true->ms.length=ts.length
 | [],[],_=>rfl
 | [],_::_,o=>by simp [okA] at o
 |b::ms,[],o=>by cases b <;> simp [okA] at o
 |
  b::ms,t::ts,o=>by
  have o':okA e ms ts=true:=by cases b <;> cases t <;> simp only[okA,p_] at o <;> first |exact o.2 |exact o |(simp at o;done)
  exact CM (· + 1) (iY o')
theorem gB:∀{ms:List Bool}{ts:List Tm}{k i:Nat},ms[k]?=some false->ts[k]?=some (.bor i)->(∀v,e[i]?≠some (.sh v))->i∈aJ e ms ts
 | [],_,_,_,q,_,_=>by simp at q
 |_::_,[],_,_,_,q,_=>by simp at q
 |
  b::ms,t::ts,0,i,q1,q2,hn=>by
  have h1:b=false:=by simpa using q1
  have h2:t=.bor i:=by simpa using q2
  subst h1 h2;unfold aJ;split
  .rename_i v q;exact absurd q (hn v)
  .exact r_ ..
 |
  b::ms,t::ts,k+1,i,q1,q2,hn=>by
  have ih:=gB (ms:=ms) (ts:=ts) (k:=k) (by simpa using q1) (by simpa using q2) hn;cases b <;> cases t <;> simp only[aJ] <;> first |exact ih |(split;exact ih;exact q_ _ ih)
def cx{ms:List Bool}{ts:List Tm}{k i:Nat}(q:(aD ms ts)[k]?=some (some i)):ms[k]?=some true/\ts[k]?=some (.bor i):=by
 unfold aD at q;rw[Dl] at q;cases h1:ms[k]? with
 |none=>rw[h1] at q;cases q
 |
  some b=>
  cases h2:ts[k]? with
  |none=>rw[h1,h2] at q;cases q
  |some t=>rw[h1,h2] at q;have q':js b t=some i:=x_ q;cases b <;> cases t <;> first |(cases q';done) |(cases q';exact⟨rfl,rfl⟩)
def xa{ms:List Bool}{ts:List Tm}{k i:Nat}(q1:ms[k]?=some true)(q2:ts[k]?=some (.bor i)):(aD ms ts)[k]?=some (some i):=by unfold aD;rw[Dl,q1,q2];rfl
theorem nr:∀{ts:List Tm}{vs:List Val}{k:Nat}{v:Val},rss e ts=some vs->vs[k]?=some v->∃t,ts[k]?=some t/\rs e t=some v
 | [],_,_,_,q,q2=>by cases q;simp at q2
 |
  t::ts,vs,k,v,q,q2=>by
  unfold rss at q;split at q
  .rename_i u us e1 e2;cases q;cases k with
   |zero=>
    have:u=v:=by simpa using q2
    subst this;exact⟨t,rfl,e1⟩
   |succ k=>obtain⟨t',y1,y2⟩:=nr (k:=k) e2 (by simpa using q2);exact⟨t',by simpa using y1,y2⟩
  .cases q
theorem iN:∀{ts:List Tm}{vs:List Val},rss e ts=some vs->vs.length=ts.length
 | [],_,q=>by cases q;rfl
 |
  t::ts,vs,q=>by
  unfold rss at q;split at q
  .rename_i u us e1 e2;cases q;exact CM (· + 1) (iN e2)
  .cases q
theorem eO:∀{ms:List Bool}{mv:List Val}{j:Nat}{v:Val},(ar ms mv)[j]?=some (.mu v)->v∈mv
 | [],_,_,_,q=>by simp [ar] at q
 |true::ms,u::mv,0,v,q=>by
  have:Sl.mu u=.mu v:=by simpa [ar] using q
  cases this;exact r_ ..
 |true::ms,u::mv,j+1,v,q=>q_ _ (eO (ms:=ms) (mv:=mv) (j:=j) (by simpa [ar] using q))
 |true::ms,[],0,v,q=>by simp [ar] at q
 |true::ms,[],j+1,v,q=>eO (ms:=ms) (mv:=[]) (j:=j) (by simpa [ar] using q)
 |false::ms,mv,0,v,q=>by simp [ar] at q
 |false::ms,mv,j+1,v,q=>eO (ms:=ms) (mv:=mv) (j:=j) (by simpa [ar] using q)
theorem gA:∀{ms:List Bool}{ts:List Tm}{i:Nat},i∈aJ e ms ts->∃k:Nat,ms[k]?=some false/\ts[k]?=some (.bor i)
 | [],_,_,q=>by simp [aJ] at q
 |_::_,[],_,q=>by simp [aJ] at q
 |
  b::ms,t::ts,i,q=>by
  have up:i∈aJ e ms ts->∃k:Nat,(b::ms)[k]?=some false/\(t::ts)[k]?=some (.bor i):=λz=>by obtain⟨k,y1,y2⟩:=gA z;exact⟨k+1,by simpa using y1,by simpa using y2⟩
  cases b <;> cases t <;> simp only[aJ] at q <;> first |exact up q |skip
  split at q
  .exact up q
  .rcases Cu.mp q with rfl |q
   .exact⟨0,rfl,rfl⟩
   .exact up q
def vj(q:bG e (.bor i)=some (e1,v)):(∀j,j≠i->e1[j]?=e[j]?)/\e1[i]?=some (.sh v)/\(e[i]?).bind Sl.val=some v:=by
 unfold bG at q;dsimp only at q;split at q
 .rename_i u q1;cases q;exact⟨λ_ _=>rfl,q1,by rw[q1];rfl⟩
 .rename_i u q1;cases q;exact⟨λj z=>bA z,bL (l_.mp q1).1,by rw[q1];rfl⟩
 .cases q
theorem jK:∀{ms:List Bool}{ts:List Tm},(∀(k i:Nat),ms[k]?=some true->ts[k]?=some (.bor i)->e2[i]?=e[i]?)->okA e ms ts=true->okA e2 ms ts=true
 | [],[],_,o=>rfl
 | [],_::_,_,o=>by simp [okA] at o
 |b::ms,[],_,o=>by cases b <;> simp [okA] at o
 |
  b::ms,t::ts,hk,o=>by
  have o':okA e ms ts=true:=by cases b <;> cases t <;> simp only[okA,p_] at o <;> first |exact o.2 |exact o |(simp at o;done)
  have ih:=jK (λk i q1 q2=>hk (k+1) i (by simpa using q1) (by simpa using q2)) o';cases b with
  |false=>cases t <;> simp only[okA,p_] at o ⊢ <;> first |exact⟨o.1,ih⟩ |exact ih
  |
   true=>
   cases t with
   |bor i=>simp only[okA,p_] at o ⊢;rw[hk 0 i rfl rfl];exact⟨o.1,ih⟩
   |_=>simp [okA] at o
theorem kY:∀{ms:List Bool}{ts:List Tm},(∀(k i:Nat),ms[k]?=some false->ts[k]?=some (.bor i)->∃v,e[i]?=some (.sh v))->aJ e ms ts=[]
 | [],_,_=>by simp [aJ]
 |_::_,[],_=>by simp [aJ]
 |
  b::ms,t::ts,hk=>by
  have ih:=kY (λk i q1 q2=>hk (k+1) i (by simpa using q1) (by simpa using q2));cases b <;> cases t <;> simp only[aJ] <;> first |exact ih |skip
  rename_i i;obtain⟨v,q⟩:=hk 0 i rfl rfl;rw[q];exact ih
theorem jz(hv:∀i:Nat,(e2[i]?).bind Sl.val=(e[i]?).bind Sl.val):∀(ts:List Tm),rss e2 ts=rss e ts
 | []=>rfl
 |
  t::ts=>by
  unfold rss;rw[jz hv ts];have:rs e2 t=rs e t:=by
   cases t with
   |bor i=>exact hv i
   |_=>rfl
  rw[this]
def r9(ok:okA e ms ts=true):Lnk (aD ms ts) e (sls ms vs):=by
 refine⟨λj k i q1 q2=>et ok (cx q2).1 (cx q2).2 (cx q1).2,λj v q=>?_,λj s q hm=>?_⟩
 .obtain⟨b,u,q1,_,q2⟩:=cA q;cases b with
  |false=>cases q2
  |true=>obtain⟨i,y1,w,y2⟩:=fL ok q1;obtain⟨s,z1,z2⟩:=CI.mp y2;exact⟨i,s,xa q1 y1,z1,by cases s <;> first |rfl |cases z2⟩
 .obtain⟨b,u,q1,_,q2⟩:=cA q;cases b with
  |false=>subst q2;cases hm
  |true=>exact⟨u,q2⟩
section
variable{K:W.Frag}{mg:Eh}{X N0 L:Addr->Prop}{ns:Ns}{e e2:E3}{σ:St}{H H':Hp}{ms:List Bool}{ts:List Tm}{ds:List V}{vs:List Val}{E:XK}{Q:VK}
theorem TsR.get:∀{ds:List V}{ts:List Tm}{k:Nat}{t:Tm},TsR K mg X ns σ H ds ts->ts[k]?=some t->∃d,ds[k]?=some d/\((∃v,t=.val v/\Rd K mg (Oc X ns) H d v)\/∃i,t=.bor i/\σ[i]?=some (some d))
 |_,_,_,_,.nil,q=>by simp at q
 |_,_,0,_,.val r rr,q=>by have:=(by simpa using q:Tm.val _=_);subst this;exact⟨_,rfl,.inl ⟨_,rfl,r⟩⟩
 |_,_,0,_,.bor r rr,q=>by have:=(by simpa using q:Tm.bor _=_);subst this;exact⟨_,rfl,.inr ⟨_,rfl,r⟩⟩
 |_,_,k+1,t,.val r rr,q=>by obtain⟨d,y⟩:=rr.get (k:=k) (by simpa using q);exact⟨d,by simpa using y⟩
 |_,_,k+1,t,.bor r rr,q=>by obtain⟨d,y⟩:=rr.get (k:=k) (by simpa using q);exact⟨d,by simpa using y⟩
def Xc(X:Addr->Prop)(ns:Ns)(e:E3)(ms:List Bool)(ts:List Tm)(n:Addr):Prop:=(X n\/some n∈ns)/\some n∉aA (aD ms ts) ns/\∀i∈aJ e ms ts,ns[i]?≠some (some n)
def gp(S:Sat K mg X N0 ns e σ H)(rt:TsR K mg X ns σ H ds ts)(qv:rss e ts=some vs)(ok:okA e ms ts=true):
 Sat K mg (Xc X ns e ms ts) (nn H) (aA (aD ms ts) ns) (sls ms vs) (ds.map some) H:=by
 have l1:=iY ok;have l2:=iN qv;have l3:=TsR.len rt;have hs:hZ (aD ms ts):=λj k i q1 q2=>et ok (cx q2).1 (cx q2).2 (cx q1).2;have mv:Mov (Oc X ns) (Oc (Xc X ns e ms ts) (aA (aD ms ts) ns)) H H:=.of λn p=>⟨λz=>by
  rcases z.1 with z |z
  .exact p.1 z
  .exact p.2 z,λz=>p.2 (lC z)⟩
 refine⟨?_,?_,λ_ z=>z,λn z=>?_,λj k n q1 q2=>?_,λj n q z=>z.2.1 (aB.mpr ⟨j,q⟩),λk s q=>?_,S.bs⟩
 .unfold sls;rw[u_,C9];omega
 .unfold aA aD sls;rw[u_,C9,C9];omega
 .rcases z.1 with z |z
  .exact S.xl n z
  .obtain⟨i,z⟩:=aB.mp z;obtain⟨_,_,o,_,_,_,_,q',_⟩:=S.own z;exact⟨o,q'⟩
 .obtain⟨i,y1,y2⟩:=bo q1;obtain⟨i',y3,y4⟩:=bo q2
  have:=S.inj i i' n y2 y4
  subst this;exact hs j k i y1 y3
 .obtain⟨b,v,q1,q2,rfl⟩:=cA q;obtain⟨t,q3,q4⟩:=nr qv q2;obtain⟨d,q5,q6⟩:=rt.get q3;have qd:(ds.map some)[k]?=some (some d):=by rw[Cs,q5];rfl
  rw[qd];have qn:(aA (aD ms ts) ns)[k]?=some ((js b t).bind λi=>(ns[i]?).bind id):=by unfold aA aD;rw[Cs,Dl,q1,q3];rfl
  rw[qn];cases b with
  |
   true=>
   obtain⟨i,y1,u,y2⟩:=fL ok q1;rw[q3] at y1;cases y1;have q4':(e[i]?).bind Sl.val=some v:=q4;obtain⟨s,z1,z2⟩:=CI.mp y2;rw[z1] at q4';have hv:s.val=some v:=q4';have huv:u=v:=by cases s <;> first |cases z2;done |(cases z2;cases hv;rfl)
   subst huv;have hns:∃n,ns[i]?=some (some n):=by
    have y:=S.sl i s z1;cases s with
    |ow v=>obtain⟨n,o,y1,_⟩:=y;exact⟨n,y1⟩
    |mu v=>obtain⟨n,o,y1,_⟩:=y;exact⟨n,y1⟩
    |_=>cases z2
   obtain⟨n,hn⟩:=hns;obtain⟨n',o,k1,k0,k2,k3,k4,_⟩:=S.write z1 z2;rcases q6 with ⟨_,z,_⟩ |⟨i',z,q6⟩
   .cases z
   .cases z;rw[q6] at k1;cases k1;obtain⟨_,_,_,_,_,_,w,_⟩:=S.own hn;rw[q6] at w;cases w;exact⟨n,o,by show some ((ns[i]?).bind id)=_;rw[hn];rfl,rfl,k2,k3,k4.mono mv⟩
  |
   false=>
   refine⟨by cases t <;> rfl,d,rfl,?_⟩;rcases q6 with ⟨u,rfl,q6⟩ |⟨i,rfl,q6⟩
   .cases q4;exact q6.mono mv
   .obtain⟨s,z1,z2⟩:=CI.mp (show (e[i]?).bind Sl.val=some v from q4);have y:=S.sl i s z1;by_cases hsh:∃w,s=.sh w
    .obtain⟨w,rfl⟩:=hsh;cases z2;obtain⟨_,x,w1,w2⟩:=y;rw[q6] at w1;cases w1;exact w2.mono mv
    .have hl:=gB q1 q3 λw z=>hsh ⟨w,by rw[z1] at z;exact x_ z⟩;have:∃n o,ns[i]?=some (some n)/\σ[i]?=some (some (.ref n))/\H n=some o/\Rc K mg (Oc X ns) H o v:=by
      cases s with
      |no=>cases z2
      |sh w=>exact absurd ⟨w,rfl⟩ hsh
      |ow w=>cases z2;obtain⟨n,o,y1,y2,_,y3,_,y4⟩:=y;exact⟨n,o,y1,y2,y3,y4⟩
      |lo w=>cases z2;obtain⟨n,o,y1,y2,_,y3,_,y4⟩:=y;exact⟨n,o,y1,y2,y3,y4⟩
      |mu w=>cases z2;obtain⟨n,o,y1,y2,y3,_,y4⟩:=y;exact⟨n,o,y1,y2,y3,y4⟩
      |lm w=>cases z2;obtain⟨n,o,y1,y2,y3,_,y4⟩:=y;exact⟨n,o,y1,y2,y3,y4⟩
     obtain⟨n,o,w1,w2,w3,w4⟩:=this;rw[q6] at w2;cases w2;refine .cell ⟨λy=>y.2.2 i hl w1,λy=>?_⟩ w3 (w4.mono mv);obtain⟨j,y⟩:=aB.mp y;obtain⟨i',y1,y2⟩:=bo y;obtain⟨y3,y4⟩:=cx y1
     have:=S.inj i' i n y2 w1
     subst this
     have:=et ok y3 y4 q3
     subst this;rw[q1] at y3;cases y3
theorem kH:∀{is:List Nat}{ns:Ns}{e e2:E3},Sat K mg X N0 ns e σ H->(∀i∈is,∃d,σ[i]?=some (some d))->ja e is=some e2->∃g_,Sat K mg X N0 g_ e2 σ H/\Stp ns e H g_ e2 H/\(∀i,i∉is->e2[i]?=e[i]?)/\(∀i∈is,∃v,e2[i]?=some (.sh v))/\∀i:Nat,(e2[i]?).bind Sl.val=(e[i]?).bind Sl.val
 | [],ns,e,e2,S,_,q=>by cases q;exact⟨ns,S,.refl,λ_ _=>rfl,(λ_ z=>by cases z),λ_=>rfl⟩
 |
  i::is,ns,e,e2,S,hd,q=>by
  unfold ja at q;split at q
  .rename_i e1 v q1;obtain⟨d,hd0⟩:=hd i (r_ ..);obtain⟨ns1,S1,a1,r1⟩:=cw (L:=X) (t:=.bor i) S hd0 q1;obtain⟨g_,S2,a2,k1,k2,k3⟩:=kH S1 (λj z=>hd j (q_ _ z)) q;obtain⟨y1,y2,y3⟩:=vj q1;refine⟨g_,S2,a1.trans S a2,λj hj=>?_,λj hj=>?_,λj=>?_⟩
   .rw[Cu,not_or] at hj;rw[k1 j hj.2,y1 j hj.1]
   .by_cases z:j∈is
    .exact k2 j z
    .rcases Cu.mp hj with rfl |hj
     .exact⟨v,by rw[k1 j z];exact y2⟩
     .exact absurd hj z
   .rw[k3 j];by_cases z:j=i
    .subst z;rw[y2,y3];rfl
    .rw[y1 j z]
  .cases q
def nF(hl:aJ e ms ts=[])(z:¬ Xc X ns e ms ts n)(z2:some n∉aA (aD ms ts) ns):Oc X ns n:=
 ⟨λy=>z ⟨.inl y,z2,λi hi=>by rw[hl] at hi;cases hi⟩,λy=>z ⟨.inr y,z2,λi hi=>by rw[hl] at hi;cases hi⟩⟩
def gD{Y:Addr->Prop}(S:Sat K mg X N0 ns e σ H)(ok:okA e ms ts=true)(a:Stp (aA (aD ms ts) ns) (sls ms vs) H (aA (aD ms ts) ns) (ar ms mv) H')(hf:aJ e ms ts=[]\/mv.all bE=true)(hY:∀n,Y n->(∃o,H' n=some o)/\H n=none)(S3:Sat K mg (λn=>Xc X ns e ms ts n\/Y n) N1 (aA (aD ms ts) ns) (ar ms mv) (ds.map some) H'):
 Sat K mg (λn=>X n\/Y n) N0 ns (ay (aD ms ts) (ar ms mv) e) σ H'/\Stp ns e H ns (ay (aD ms ts) (ar ms mv) e) H'/\(aJ e ms ts=[]->∀m,Oc (λn=>Xc X ns e ms ts n\/Y n) (aA (aD ms ts) ns) m->Oc (λn=>X n\/Y n) ns m):=by
 have kk:aJ e ms ts=[]->∀m,Oc (λn=>Xc X ns e ms ts n\/Y n) (aA (aD ms ts) ns) m->Oc (λn=>X n\/Y n) ns m:=λhf m z=>by
  have:=nF hf (λy=>z.1 (.inl y)) z.2
  exact⟨λy=>by
   rcases y with y |y
   .exact this.1 y
   .exact z.1 (.inr y),this.2⟩
 obtain⟨S4,a4⟩:=S.back (Y:=λn=>X n\/Y n) (r9 (vs:=vs) ok) a S3.bs (λm z=>by
  rcases z with z |z
  .obtain⟨o,z'⟩:=S.xl m z;refine⟨?_,.inl z⟩;cases qh:H' m with
   |none=>rw[a.dom m qh] at z';cases z'
   |some o'=>exact⟨o',rfl⟩
  .exact⟨(hY m z).1,.inr (hY m z).2⟩) (λ_ z=>.inl z) λj w n' q1 q2=>by
  obtain⟨s,u,o,b1,b2,b3,b4,b5,b6,b7⟩:=S3.own q2;rw[q1] at b1;cases b1;cases b3;rcases hf with hf |hf
  .exact⟨o,b5,b6,b7.mono (.of (kk hf))⟩
  .exact⟨o,b5,b6,b7.flat .refl (Cv.mp hf w (eO q1))⟩
 exact⟨S4,a4,kk⟩
def Sat.eqX{X Y:Addr->Prop}(S:Sat K mg X N0 ns e σ H)(h:∀n,X n ↔ Y n):Sat K mg Y N0 ns e σ H:=by have:X=Y:=funext λn=>propext (h n);exact this ▸ S
def jq(S:Sat K mg X N0 ns e σ H)(ok:okA e ms ts=true)(a:Stp (aA (aD ms ts) ns) (sls ms vs) H (aA (aD ms ts) ns) (ar ms mv) H')(hf:aJ e ms ts=[]\/mv.all bE=true)(S3:Sat K mg (Xc X ns e ms ts) N1 (aA (aD ms ts) ns) (ar ms mv) (ds.map some) H'):
 Sat K mg X N0 ns (ay (aD ms ts) (ar ms mv) e) σ H'/\Stp ns e H ns (ay (aD ms ts) (ar ms mv) e) H'/\(aJ e ms ts=[]->∀m,Oc (Xc X ns e ms ts) (aA (aD ms ts) ns) m->Oc X ns m):=by
 obtain⟨S4,a4,_⟩:=gD (Y:=λ_=>False) S ok a hf (λ_ z=>z.elim) (S3.eqX λn=>⟨.inl,λz=>z.elim id (·.elim)⟩);exact⟨S4.eqX λn=>⟨λz=>z.elim id (·.elim),.inl⟩,a4,λhf m z=>nF hf z.1 z.2⟩
def nh(S:Sat K mg X N0 ns e σ H)(hL:∀a,H a=none->L a)(rt:TsR K mg X ns σ H ds ts)(ok:okA e ms ts=true)(hf:aJ e ms ts=[]\/(fM r=true/\mv.all bE=true))(p:PG3 K mg X N0 ns e σ H E (KE K mg X N0 L σ Q) (.ok (r.tm ts) (ay (aD ms ts) (ar ms mv) e)))
 (a:Stp (aA (aD ms ts) ns) (sls ms vs) H (aA (aD ms ts) ns) (ar ms mv) H') (rr:RtR K mg (Xc X ns e ms ts) (nn H) (aA (aD ms ts) ns) (ar ms mv) (ds.map some) H' x r):Q x H':=by
 have hf2:aJ e ms ts=[]\/mv.all bE=true:=hf.imp id (·.2);cases r with
 |
  val v=>
  obtain⟨S3,rv⟩:=rr;obtain⟨S4,a4,kk⟩:=jq S ok a hf2 S3;refine p _ _ a4 S4 x ?_;rcases hf with hf |hf
  .exact rv.mono (.of (kk hf))
  .exact rv.flat .refl hf.1
 |
  new v=>
  obtain⟨n,o,rfl,z2,z3,z4,z5,S3,z7⟩:=rr;obtain⟨S4,a4,kk⟩:=gD (Y:=λm=>m=n) S ok a hf2 (λm z=>by subst z;exact⟨⟨o,z4⟩,z2⟩) S3;refine p _ _ a4 (S4.weak λ_ z=>.inl z) _ ⟨n,o,rfl,hL n z2,λy=>?_,z4,z5,S4,?_⟩
  .obtain⟨u,y⟩:=S.xl n y;rw[show H n=none from z2] at y;cases y
  .rcases hf with hf |hf
   .exact z7.mono (.of (kk hf))
   .exact z7.flat .refl hf.1
 |
  pr v u=>
  obtain⟨pp,d1,n,o,rfl,z1,z2,z3,z4,z5,S3,z6,z7⟩:=rr;obtain⟨S4,a4,kk⟩:=gD (Y:=λm=>m=n) S ok a hf2 (λm z=>by subst z;exact⟨⟨o,z4⟩,z2⟩) S3;have on:Oc X ns n:=⟨λy=>(by
   obtain⟨u,y⟩:=S.xl n y;rw[show H n=none from z2] at y;cases y),λy=>by
   obtain⟨i,y⟩:=aB.mp y;exact S4.nx i n y (.inr rfl)⟩
  have wk:Mov (Oc (λm=>X m\/m=n) ns) (Oc X ns) H' H':=.of λm z=>⟨λc=>z.1 (.inl c),z.2⟩;refine p _ _ a4 (S4.weak λ_ z=>.inl z) _ (.tup z1 (.cons ?_ (.cons (.cell on z4 ?_) .nil)))
  .rcases hf with hf |hf
   .exact (z6.mono (.of (kk hf))).mono wk
   .exact z6.flat .refl (p_ _ _ ▸ hf.1).1
  .rcases hf with hf |hf
   .exact (z7.mono (.of (kk hf))).mono wk
   .exact z7.flat .refl (p_ _ _ ▸ hf.1).2
 |
  par i=>
  obtain⟨S3,w1,w,w2⟩:=rr;obtain⟨S4,a4,_⟩:=jq S ok a hf2 S3;refine p _ _ a4 S4 x ?_;obtain⟨u,x1,_⟩:=a.mu i w w2;obtain⟨b,u',x2,_,x3⟩:=cA x1;cases b with
  |false=>cases x3
  |
   true=>
   obtain⟨k,y1,_⟩:=fL ok x2;obtain⟨d',y2,z⟩:=rt.get y1;have e1:(Rt.par i).tm ts=.bor k:=by show (ts[i]?).getD _=_;rw[y1];rfl
   rw[e1];rcases z with ⟨_,z,_⟩ |⟨j,z,z2⟩
   .cases z
   .cases z;rw[Cs,y2] at w1;cases w1;exact z2
theorem rE{f:PFn}(S:Sat K mg X N0 ns e σ H)(hL:∀a,H a=none->L a)(rt:TsR K mg X ns σ H ds ts)(p:PG3 K mg X N0 ns e σ H E (KE K mg X N0 L σ Q) (match rss e ts with
 |none=>.stuck
 |some vs=>if okA e f.ms ts=true then (match f.G vs with
  |.stuck=>.stuck
  |.ok r mv=>if (aJ e f.ms ts).isEmpty || (fM r&&mv.all bE) then .ok (r.tm ts) (ay (aD f.ms ts) (ar f.ms mv) e) else (match ja e (aJ e f.ms ts) with
   |some e2=>.ok (r.tm ts) (ay (aD f.ms ts) (ar f.ms mv) e2)
   |none=>.stuck)
  |.exc c mv=>if (aJ e f.ms ts).isEmpty || mv.all bE then .exc c (ay (aD f.ms ts) (ar f.ms mv) e) else .stuck) else .stuck)):sp3 K mg f ds H Q E:=by
 split at p
 .exact p.elim
 .rename_i vs
   qv
  split at p
  .rename_i ok;have hlen:vs.length=f.ms.length:=by rw[iN qv,iY ok]
   split at p
   .exact p.elim
   .rename_i r mv q;split at p
    .rename_i hf;rw[Bool.or_eq_true,p_] at hf;exact⟨_,_,vs,hlen,gp S rt qv ok,by rw[q];exact λx H' a rr=>nh S hL rt ok (hf.imp List.isEmpty_iff.mp id) p a rr⟩
    .split
      at p
     .rename_i e2 qd;obtain⟨g_,S2,a2,k1,k2,k3⟩:=kH S (λi hi=>by
       obtain⟨k,_,y⟩:=gA hi;obtain⟨d,_,z⟩:=rt.get y;rcases z with ⟨_,z,_⟩ |⟨j,z,z2⟩
       .cases z
       .cases z;exact⟨d,z2⟩) qd
      have ok2:okA e2 f.ms ts=true:=jK (λk i q1 q2=>k1 i λz=>by
       obtain⟨k',y1,y2⟩:=gA z
       have:=et ok q1 q2 y2
       subst this;rw[q1] at y1;cases y1) ok
      have ln:aJ e2 f.ms ts=[]:=kY λk i q1 q2=>by
       by_cases z:i∈aJ e f.ms ts
       .exact k2 i z
       .rw[k1 i z];exact Classical.byContradiction λw=>z (gB q1 q2 λv y=>w ⟨v,y⟩)
      exact⟨_,_,vs,hlen,gp S2 (rt.stp a2) (by rw[jz k3];exact qv) ok2,by rw[q];exact λx H' a rr=>nh S2 (λb z=>hL b z) (rt.stp a2) ok2 (.inl ln) (p.after S a2) a rr⟩
     .exact p.elim
   .rename_i c mv q;split at p
    .rename_i hf;rw[Bool.or_eq_true] at hf;refine⟨_,_,vs,hlen,gp S rt qv ok,?_⟩;rw[q];intro C H' a S3 hC;obtain⟨S4,a4,_⟩:=jq S ok a (hf.imp List.isEmpty_iff.mp id) S3;exact p _ _ C a4 S4 hC
    .exact p.elim
  .exact p.elim
end
noncomputable def ai (f:PFn) (a:PAs):PEx:=⟨22,Bq f.ms f.G a.G⟩
section
variable{K:W.Frag}{mg:Eh}{X:Cx}{ES:St->XK}{e:Expr}{es:List Expr}{A:PAs}{pos:Pos}{k:Nat}{ps:List Str}
def m7{f:PFn}(σ:St)(H:Hp)(Q:VK):rdE K mg ES (ai f A).G σ H Q->rdA K mg ES A.G σ H λvs H1=>sp3 K mg f vs H1 Q (ES σ):=λzz=>zz.el λY N0 L ns e S hl p=>
 ⟨Y,N0,ns,e,S,PG3.imp p S λts e1 ns1 H1 a1 S1 p1 xs r1=>rE S1 (λa z=>hl a (a1.dom a z)) r1 p1⟩
def sX{f:PFn}{x:Str}{p0:Pos}(C:Callee X.prog X.w X.K X.mg X.base x k ps (sp3 K mg f))(hr:Room k X.A)(hg:Gl X x)(hx:da X ES)(ha:DA K mg X ES (e::es) A)
 (hdb:(x==("__debug__" : Str))=false) (he:starEach (e::es) X.env=(false,eval e X.env)::starEach es X.env) (hpl:(backTo pos (starEach es X.env)).any (·.1)=false):
 DE K mg X ES (.Call (.Name x p0) (e::es) [] pos) (ai f A):=by
 obtain⟨fa,fd,F',m,kp,bb,_⟩:=C.ex;refine⟨λpins s σ H Q I hh=>DJ (fW I hg m ?_ hdb)⟩;refine W.callWith_K (h₀:=X.base) I.ok.mod.kin kp (z_ (ha.ok pos pins s σ H _ I (m7 σ H Q hh)) (λus s1 ⟨vs,H1,I1,r,q⟩=>⟨I1.kIn,?_⟩) λ_ _ z=>z) he hpl;have hl:(us++[]).length=ps.length:=by rw[Du,<- r.length];exact F'.len _ _ _ _ q
 refine wpAny_call (D_ (F'.run X.A X.stack s1 H1 ⟨us,[]⟩ us vs Q (ES σ) hr I1.env0 (by simpa using bb s1 us I1.kIn hl) r q) λr s' hq=>?_);cases r with
 |error ex=>exact hx pins σ H1 s1 ex s' I1 hq
 |
  ok fl=>
  cases fl with
  |ret u=>exact I1.after hq
  |next=>exact False.elim hq
  |brk=>exact False.elim hq
  |cont=>exact False.elim hq
def ui(hp:iA (CX1 X.prog X.w) X E):da X (λ_=>E):=λpins σ H s e s' I h=>hp pins σ H s e s' I h
def uF:da X (λ_=>E0):=λpins σ H s e s' I h=>Bc pins σ H s e s' I h
def zcF{f:PFn}{x:Str}{p0:Pos}{k j:Nat}{ps:List Str}(C:Callee X.prog X.w X.K X.mg X.base x j ps (sp3 K mg f))(hr:Room k X.A)(ha:DA K mg X ES (e::es) A)(hk:j<=k:=by omega)(hg:Gl X x:=by exact rfl)(hx:da X ES:=by first |exact ui Bw |exact uF |assumption)(hdb:(x==("__debug__" : Str))=false:=by decide)(he:starEach (e::es) X.env=(false,eval e X.env)::starEach es X.env:=by rfl)(hpl:(backTo pos (starEach es X.env)).any (·.1)=false:=by rfl):DE K mg X ES (.Call (.Name x p0) (e::es) [] pos) (ai f A):=sX C (hr.mono hk) hg hx ha hdb he hpl
end
noncomputable def aI (f:Int->Int->Val):Val->Val->Bv:=λx y=>match x,y with
 |.int i,.int j=>.val (f i j)
 |_,_=>.stuck
open Classical in
def aIc(C:Int->Int->Prop)(f:Int->Int->Val):Val->Val->Bv:=λx y=>match x,y with
 |.int i,.int j=>if C i j then .val (f i j) else .stuck
 |_,_=>.stuck
noncomputable def aCat:Val->Val->Bv:=λx y=>match x,y with
 |.lst xs,.lst ys=>if xs.length+ys.length<=16777216 then .new (.lst (xs++ys)) else .stuck
 |.tup xs,.tup ys=>if xs.length+ys.length<=16777216 then .val (.tup (xs++ys)) else .stuck
 |_,_=>.stuck
noncomputable def rM:Val->Val->Bv:=λx y=>match x,y with
 |.int i,.int j=>.val (.int (i+j))
 |x,y=>aCat x y
noncomputable def aMin:=aI λi j=>.int (i-j)
def rN:=aIc CMulA λi j=>.int (i*j)
def tL:=aIc CDivB λi j=>.int (i.fdiv j)
def sJ:=aIc (λ_ j=>j≠0) λi j=>.int (i.fmod j)
def tD:=aIc oM λi j=>.int (i^j.toNat)
noncomputable def aLt:=aI λi j=>.bl (decide (i<j))
noncomputable def aGt:=aI λi j=>.bl (decide (j<i))
noncomputable def aGe:=aI λi j=>.bl (decide (j<=i))
noncomputable def tW:Val->Bv:=λx=>match x with
 |.int i=>.val (.int (-i))
 |_=>.stuck
noncomputable def aIx:Val->Val->Bv:=λx y=>match x.items,y with
 |some xs,.int i=>(match atI xs i with
  |some v=>.val v
  |none=>.stuck)
 |_,_=>.stuck
mutual
def bu:Nat->Val->Option PyData
 |0,_=>none
 |_+1,.non=>some .none
 |_+1,.bl b=>some (.bool b)
 |_+1,.int i=>some (.int i)
 |_+1,.str x=>some (.str x)
 |k+1,.tup xs=>(bX k xs).map .tuple
 |k+1,.lst xs=>(bX k xs).map .list
 |_+1,_=>none
def bX:Nat->List Val->Option (List PyData)
 |_,[]=>some []
 |k,x::xs=>match bu k x,bX k xs with
  |some a,some b=>some (a::b)
  |_,_=>none
end
noncomputable def bw (x y:Val):Option Bool:=match bu 164 x,bu 164 y with
 |some a,some b=>if shp a=true/\shp b=true then some (PyData.eqv a b) else none
 |_,_=>none
noncomputable def aEq (neg:Bool):Val->Val->Bv:=λx y=>match bw x y with
 |some b=>.val (.bl (if neg then !b else b))
 |none=>.stuck
noncomputable def aIsN (neg:Bool):Val->Val->Bv:=λx y=>match x,y with
 |.non,.non=>.val (.bl (!neg))
 |_,.non=>.val (.bl neg)
 |_,_=>.stuck
noncomputable def tV:List Val->Bv:=λvs=>match vs with
 | [v]=>(match v.items with
  |some xs=>.val (.int xs.length)
  |none=>(match v with
   |.str z=>if z.length<=16777216 then .val (.int z.length) else .stuck
   |_=>.stuck))
 |_=>.stuck
noncomputable def sr:List Val->Bv:=λvs=>match vs with
 | [.int i]=>.val (.int (if i<0 then -i else i))
 |_=>.stuck
noncomputable def oa:List Val->Bv:=λvs=>match vs with
 | [.int i,.int j]=>.val (.int (if j<i then j else i))
 |_=>.stuck
noncomputable def d7:List Val->Option (List Bool)
 | []=>some []
 |.bl b::r=>(d7 r).map (b :: ·)
 |_=>none
noncomputable def sW:List Val->Bv:=λvs=>match vs with
 | [.lst xs]=>(match d7 xs with
  |some bs=>.val (.bl (bs.all id))
  |none=>.stuck)
 |_=>.stuck
noncomputable def nO:List Val->Bv:=λvs=>match vs with
 | [v]=>(match v.items with
  |some xs=>.new (.lst xs)
  |none=>.stuck)
 |_=>.stuck
noncomputable def lK:List Val->Bv:=λvs=>match vs with
 | [v]=>(match v.items with
  |some xs=>.val (.tup xs)
  |none=>.stuck)
 |_=>.stuck
noncomputable def tyC:Val->Option Cl
 |.non=>some (.b "NoneType")
 |.bl _=>some (.b "bool")
 |.int _=>some (.b "int")
 |.str _=>some (.b "str")
 |.tup _=>some (.b "tuple")
 |.exc x=>some (.o x)
 |.lst _=>some (.b "list")
 |.dct _=>some (.b "dict")
 |_=>none
noncomputable def clV:Val->Option Cl
 |.ty n=>some (.b n)
 |.glb x=>some (.o x)
 |_=>none
noncomputable def l7:List Val->Option (List Cl)
 | []=>some []
 |v::vs=>match clV v,l7 vs with
  |some c,some cs=>some (c::cs)
  |_,_=>none
noncomputable def AX:Val->Option (List Cl)
 |.tup cs=>l7 cs
 |v=>(clV v).map ([·])
noncomputable def tU (kt:eW):List Val->Bv:=λvs=>match vs with
 | [v,c]=>(match tyC v,AX c with
  |some t,some (c0::cr)=>(match du kt t (c0::cr),kit kt t c0 with
   |some b,some _=>.val (.bl b)
   |_,_=>.stuck)
  |_,_=>.stuck)
 |_=>.stuck
noncomputable def fB (xs:List Val) (lo hi:Option Int):List Val:=(xs.drop (HT.sIx xs.length 0 lo)).take (HT.sIx xs.length xs.length hi-HT.sIx xs.length 0 lo)
noncomputable def aSl (x:Val) (lo hi:Option Int):Bv:=match x with
 |.tup xs=>if HT.sIx xs.length 0 lo=0/\HT.sIx xs.length xs.length hi=xs.length then .stuck else .val (.tup (fB xs lo hi))
 |.lst xs=>.new (.lst (fB xs lo hi))
 |.kl xs=>.new (.lst (fB xs lo hi))
 |.str z=>if z.length<=16777216 then .val (.str (Txt.slice z lo hi)) else .stuck
 |_=>.stuck
noncomputable def iV:Val->List Val->Option (Val×Val):=λu vs=>match u,vs with
 |.lst xs,[v]=>if xs.length<16777216 then some (.lst (xs++[v]),.non) else none
 |_,_=>none
noncomputable def sL:Val->Val->Val->Option Val:=λu i v=>match u,i with
 |.lst xs,.int k=>(match ixN xs.length k with
  |some j=>some (.lst (xs.set j v))
  |none=>none)
 |_,_=>none
noncomputable def fG (d:Val):List Val->Option (List Bool)
 | []=>some []
 |x::r=>match bw x d,fG d r with
  |some b,some bs=>some (b::bs)
  |_,_=>none
noncomputable def iI:Val->List Val->Bv:=λx vs=>match x,vs with
 |.lst xs,[d]=>(match fG d xs with
  |some bs=>if bs.idxOf true<bs.length then .val (.int (bs.idxOf true:Nat)) else .stuck
  |none=>.stuck)
 |_,_=>.stuck
noncomputable def jg:Val->List Val->Bv:=λx vs=>match x,vs with
 |.lst xs,[d]=>if ((bu 164 d).map shp)=some true then (match fG d xs with
  |some bs=>.val (.int (bs.count true:Nat))
  |none=>.stuck) else .stuck
 |_,_=>.stuck
noncomputable def bN:PO2:=⟨rM⟩
noncomputable def oQ:PO2:=⟨aMin⟩
def aW:PO2:=⟨rN⟩
def d4:PO2:=⟨tL⟩
def bF:PO2:=⟨sJ⟩
def cS:PO2:=⟨tD⟩
noncomputable def bLt:PO2:=⟨aLt⟩
noncomputable def bGt:PO2:=⟨aGt⟩
noncomputable def bGe:PO2:=⟨aGe⟩
noncomputable def bIx:PO2:=⟨aIx⟩
noncomputable def bEq:PO2:=⟨aEq false⟩
noncomputable def bNe:PO2:=⟨aEq true⟩
noncomputable def bIs:PO2:=⟨aIsN false⟩
noncomputable def lp:PU1:=⟨tW⟩
noncomputable def cW:PBf:=⟨tV⟩
noncomputable def eV:PBf:=⟨sr⟩
noncomputable def lb:PBf:=⟨oa⟩
noncomputable def iy:PBf:=⟨sW⟩
noncomputable def lV:PBf:=⟨nO⟩
noncomputable def jd:PBf:=⟨lK⟩
noncomputable def au (kt:eW):PBf:=⟨tU kt⟩
noncomputable def gz:PMm:=⟨iV⟩
noncomputable def jh:PMv:=⟨iI⟩
noncomputable def jr:PMv:=⟨jg⟩
noncomputable def seL:PSe:=⟨sL⟩
section
variable{K:W.Frag}{mg:Eh}{P:Addr->Prop}{H:Hp}{Q:VK}{v:Val}{vs:List Val}{x:V}{ds:List V}{neg:Bool}
def bv(p:∀H1 x,Gr H H1->Rd K mg P H1 x v->Q x H1)(r:Rd K mg P H x v):Q x H:=p H x .refl r
def bvL(p:∀H1 a o,Gr H H1->H1 a=none->NotFz o->Rc K mg P H1 o (.lst vs)->Q (.ref a) (upd H1 a o))(r:Rds K mg P H ds vs):∀l,H l=none->Q (.ref l) (upd H l (.lst ds)):=λl hl=>p H l _ .refl hl trivial (.lst r)
def bvT(p:∀H1 x,Gr H H1->Rd K mg P H1 x (.tup vs)->Q x H1)(r:Rds K mg P H ds vs):∀l,H l=none->Q (.ref l) (upd H l (.tup ds)):=λl hl=>p _ _ (Gr.upd hl) (.tup (SqT.of aM) (r.mono (Gr.upd hl).mov))
def j6{f:Int->Int->V}{g:Int->Int->Val}(hr:∀i j P H,Rd K mg P H (f i j) (g i j)):OpD K mg (rI0 f) (aI g):=λP H x y v u Q rx ry p=>by
 unfold aI at p;split at p
 .obtain rfl:=rx.int;obtain rfl:=ry.int;exact⟨_,_,rfl,rfl,bv p (hr _ _ _ _)⟩
 .exact p.elim
def nM{f:Int->Int->V}{g:Int->Int->Val}{C:Int->Int->Prop}(hr:∀i j P H,Rd K mg P H (f i j) (g i j)):OpD K mg (rI C f) (aIc C g):=λP H x y v u Q rx ry p=>by
 unfold aIc at p;split at p
 .obtain rfl:=rx.int;obtain rfl:=ry.int;split at p
  .rename_i hc;exact⟨_,_,rfl,rfl,hc,bv p (hr _ _ _ _)⟩
  .exact p.elim
 .exact p.elim
def Ab:OpD K mg (λx y H Q=>rI0 (λi j=>.int (i+j)) x y H Q\/(nQ x y H Q\/(kf K x y H Q\/j5 K x y H Q))) bN.G:=λP H x y v u Q rx ry p=>by
 replace p:BvP K mg P H Q (rM v u):=p;unfold rM at p;split at p
 .obtain rfl:=rx.int;obtain rfl:=ry.int;exact .inl ⟨_,_,rfl,rfl,bv p (.int _)⟩
 .right;unfold aCat at p;split at p
  .obtain⟨a,xs,rfl,e1,q1⟩:=rx.lst;obtain⟨b,ys,rfl,e2,q2⟩:=ry.lst;split at p
   .rename_i hl;exact .inl ⟨_,_,xs,ys,rfl,rfl,e1,e2,by rw[q1.len,q2.len];exact hl,bvL p (q1.append q2)⟩
   .exact p.elim
  .obtain⟨a,xs,rfl,e1,q1⟩:=rx.tup;obtain⟨b,ys,rfl,e2,q2⟩:=ry.tup;split at p
   .rename_i hl;cases q1 with
    |nil=>exact .inr (.inr ⟨_,_,_,rfl,rfl,e1,e2,bv p (.tup e2 q2)⟩)
    |cons r0 r1=>refine .inr (.inl ⟨_,_,_,_,rfl,rfl,e1,e2,(λz=>nomatch z),by rw[(Rds.cons r0 r1).len,q2.len];exact hl,λz=>?_,λ_=>bvT p ((Rds.cons r0 r1).append q2)⟩);subst z;cases q2;rw[Du] at p;exact bv p (.tup e1 (.cons r0 r1))
   .exact p.elim
  .exact p.elim
def zi:OpD K mg (rI0 λi j=>.int (i-j)) oQ.G:=j6 λ_ _ _ _=>.int _
def yY:OpD K mg (rI CMulA λi j=>.int (i*j)) aW.G:=nM λ_ _ _ _=>.int _
def xU:OpD K mg (rI CDivB λi j=>.int (i.fdiv j)) d4.G:=nM λ_ _ _ _=>.int _
def zr:OpD K mg (rI (λ_ j=>j≠0) λi j=>.int (i.fmod j)) bF.G:=nM λ_ _ _ _=>.int _
def xI:OpD K mg (rI oM λi j=>.int (i^j.toNat)) cS.G:=nM λ_ _ _ _=>.int _
def Bm:OpD K mg (rI0 λi j=>.bl (decide (i<j))) bLt.G:=j6 λ_ _ _ _=>.bl _
def ug:OpD K mg (rI0 λi j=>.bl (decide (j<i))) bGt.G:=j6 λ_ _ _ _=>.bl _
def uR:OpD K mg (rI0 λi j=>.bl (decide (j<=i))) bGe.G:=j6 λ_ _ _ _=>.bl _
def xq:UnD K mg (rU λi=>.int (-i)) lp.G:=λP H x v Q r p=>by
 replace p:BvP K mg P H Q (tW v):=p;unfold tW at p;split at p
 .obtain rfl:=r.int;exact⟨_,rfl,bv p (.int _)⟩
 .exact p.elim
def BG(r:Rds K mg P H ds vs)(e:atI vs i=some v):∃d,atI ds i=some d/\Rd K mg P H d v:=by
 unfold atI at e ⊢;rw[r.len];cases q:ixN vs.length i with
 |none=>rw[q] at e;cases e
 |some j=>rw[q] at e;exact r.get e
def A0:OpD K mg (λx y H Q=>ud K x y H Q\/uc K x y H Q) bIx.G:=λP H x y v u Q rx ry p=>by
 replace p:BvP K mg P H Q (aIx v u):=p;unfold aIx at p;split at p
 .rename_i xs i e1;obtain⟨a,ys,rfl,h,q⟩:=rx.items e1;obtain rfl:=ry.int;split at p
  .rename_i w e3;obtain⟨d,e4,q2⟩:=BG q e3;rcases h with h |h
   .exact .inl ⟨_,_,_,d,rfl,rfl,h,e4,bv p q2⟩
   .exact .inr ⟨_,_,_,d,rfl,rfl,h,e4,bv p q2⟩
  .exact p.elim
 .exact p.elim
def si{k:Nat}(hk:∀d v pd,Rd K mg P H d v->bu k v=some pd->Rep K H d pd){ps:List PyData}(r:Rds K mg P H ds vs):bX k vs=some ps->Reps K H ds ps:=
 r.ind (M:=λds vs=>∀ps,bX k vs=some ps->Reps K H ds ps) (λ_ q=>by unfold bX at q;cases q;exact .nil) (λr _ ih ps q=>by
  unfold bX at q;split at q
  .rename_i a b e1 e2;cases q;exact .cons (hk _ _ _ r e1) (ih _ e2)
  .cases q) ps
theorem dq:∀(k:Nat) (d:V) (v:Val) (pd:PyData),ShR K mg P H d v->bu k v=some pd->Rep K H d pd
 |0,_,_,_,_,q=>by unfold bu at q;cases q
 |
  k+1,d,v,pd,r,q=>by
  have ih:∀{ds:List V}{vs:List Val}{ps:List PyData},Rds K mg P H ds vs->bX k vs=some ps->Reps K H ds ps:=λr=>si (λd v pd r q=>dq k d v pd (.inl r) q) r;cases v with
  |non=>obtain rfl:=r.non;simp only[bu] at q;cases q;exact .non
  |bl b=>obtain rfl:=r.bl;simp only[bu] at q;cases q;exact .bl b
  |int b=>obtain rfl:=r.int;simp only[bu] at q;cases q;exact .int b
  |str b=>obtain rfl:=r.str;simp only[bu] at q;cases q;exact .str b
  |tup xs=>obtain⟨a,ds,rfl,e,r2⟩:=r.tup;simp only[bu] at q;obtain⟨ps,q1,rfl⟩:=B_.mp q;exact .tup e (ih r2 q1)
  |lst xs=>obtain⟨a,ds,rfl,e,r2⟩:=r.lstL;simp only[bu] at q;obtain⟨ps,q1,rfl⟩:=B_.mp q;exact .lst e (ih r2 q1)
  |_=>simp only[bu] at q;cases q
def ym{x y:V}{u:Val}{b:Bool}(r1:ShR K mg P H x v)(r2:ShR K mg P H y u)(q:bw v u=some b):∃a c,Rep K H x a/\Rep K H y c/\shp a=true/\shp c=true/\PyData.eqv a c=b:=by
 unfold bw at q;split at q
 .rename_i a c e1 e2;split at q
  .rename_i hs;cases q;exact⟨a,c,dq 164 _ _ _ r1 e1,dq 164 _ _ _ r2 e2,hs.1,hs.2,rfl⟩
  .cases q
 .cases q
def uu{x y:V}{u:Val}(r1:ShR K mg P H x v)(r2:ShR K mg P H y u)(p:BvP K mg P H Q (aEq neg v u)):∃a c,Rep K H x a/\Rep K H y c/\shp a=true/\shp c=true/\Q (.bl (if neg then !PyData.eqv a c else PyData.eqv a c)) H:=by
 unfold aEq at p;split at p
 .rename_i b q;obtain⟨a,c,h1,h2,h3,h4,rfl⟩:=ym r1 r2 q;exact⟨a,c,h1,h2,h3,h4,bv p (.bl _)⟩
 .exact p.elim
def oz:OpD K mg (tq K) bEq.G:=λP H x y v u Q rx ry p=>uu rx ry p
def AV:OpD K mg (sS K) bNe.G:=λP H x y v u Q rx ry p=>uu rx ry p
def y8:cq K mg (λxs H Q=>(∃p ys,xs=[.ref p]/\(SqL K H p ys\/SqT K H p ys)/\Q (.int ys.length) H)\/(∃z,xs=[.str z]/\z.length<=sizeLine/\Q (.int z.length) H)) cW.G:=λP H xs vs Q r0 p=>by
 replace p:BvP K mg P H Q (tV vs):=p;unfold tV at p;split at p
 .obtain⟨d,rfl,r⟩:=bS r0;split at p
  .rename_i xs e;obtain⟨a,ys,rfl,h,q⟩:=r.items e;exact .inl ⟨_,_,rfl,h,by rw[q.len];exact bv p (.int _)⟩
  .split at p
   .obtain rfl:=r.str;split at p
    .rename_i hl;exact .inr ⟨_,rfl,hl,bv p (.int _)⟩
    .exact p.elim
   .exact p.elim
 .exact p.elim
def zt:cq K mg (λxs H Q=>∃i,xs=[.int i]/\Q (.int (if i<0 then -i else i)) H) eV.G:=λP H xs vs Q r0 p=>by
 replace p:BvP K mg P H Q (sr vs):=p;unfold sr at p;split at p
 .obtain⟨d,rfl,r⟩:=bS r0;obtain rfl:=r.int;exact⟨_,rfl,bv p (.int _)⟩
 .exact p.elim
def wQ:cq K mg (λxs H Q=>∃i j,xs=[.int i,.int j]/\Q (.int (if j<i then j else i)) H) lb.G:=λP H xs vs Q r0 p=>by
 replace p:BvP K mg P H Q (oa vs):=p;unfold oa at p;split at p
 .obtain⟨d,d',rfl,r,r'⟩:=uP r0;obtain rfl:=r.int;obtain rfl:=r'.int;exact⟨_,_,rfl,bv p (.int _)⟩
 .exact p.elim
def Bh{bs:List Bool}(r:Rds K mg P H ds vs):d7 vs=some bs->ds=bs.map V.bl:=
 r.ind (M:=λds vs=>∀bs,d7 vs=some bs->ds=bs.map V.bl) (λbs q=>by cases q;rfl) (λ{d v ds vs} r _ ih bs q=>by
  cases v with
  |bl b=>obtain rfl:=ShR.bl (.inl r);obtain⟨b',q1,rfl⟩:=B_.mp (show (d7 vs).map (b :: ·)=some bs from q);rw[ih _ q1];rfl
  |_=>cases q) bs
def la:cq K mg (λxs H Q=>∃(a:Addr) (bs:List Bool),xs=[.ref a]/\SqL K H a (bs.map V.bl)/\Q (.bl (bs.all id)) H) iy.G:=λP H xs vs Q r0 p=>by
 replace p:BvP K mg P H Q (sW vs):=p;unfold sW at p;split at p
 .obtain⟨d,rfl,r⟩:=bS r0;obtain⟨a,ys,rfl,h,q⟩:=r.lstL;split at p
  .rename_i bs e;exact⟨a,bs,rfl,Bh q e ▸ h,bv p (.bl _)⟩
  .exact p.elim
 .exact p.elim
def wM:cq K mg (λxs H Q=>∃p ys,xs=[.ref p]/\(SqL K H p ys\/SqT K H p ys)/\∀l,H l=none->Q (.ref l) (upd H l (.lst ys))) lV.G:=λP H xs vs Q r0 p=>by
 replace p:BvP K mg P H Q (nO vs):=p;unfold nO at p;split at p
 .obtain⟨d,rfl,r⟩:=bS r0;split at p
  .rename_i xs e;obtain⟨a,ys,rfl,h,q⟩:=r.items e;exact⟨_,_,rfl,h,bvL p q⟩
  .exact p.elim
 .exact p.elim
def sR:cq K mg (λxs H Q=>∃p ys,xs=[.ref p]/\((SqL K H p ys/\∀l,H l=none->Q (.ref l) (upd H l (.tup ys)))\/(SqT K H p ys/\Q (.ref p) H))) jd.G:=λP H xs vs Q r0 p=>by
 replace p:BvP K mg P H Q (lK vs):=p;unfold lK at p;split at p
 .obtain⟨d,rfl,r⟩:=bS r0;split at p
  .rename_i xs e;obtain⟨a,ys,rfl,h,q⟩:=r.items e;rcases h with h |h
   .exact⟨_,_,rfl,.inl ⟨h,bvT p q⟩⟩
   .exact⟨_,_,rfl,.inr ⟨h,bv p (.tup h q)⟩⟩
  .exact p.elim
 .exact p.elim
def By{kt:eW}{t c:Cl}{b:Bool}(ok:KitsOk K mg kt)(r:ShR K mg P H x v)(q:tyC v=some t)(k:kit kt t c=some b):∃tv,TyX K H x tv/\ClV mg t tv:=by
 cases v with
 |non=>obtain rfl:=r.non;cases q;exact⟨_,.of .non,rfl⟩
 |bl b=>obtain rfl:=r.bl;cases q;exact⟨_,.of (.bl _),rfl⟩
 |int b=>obtain rfl:=r.int;cases q;exact⟨_,.of (.int _),rfl⟩
 |str b=>obtain rfl:=r.str;cases q;exact⟨_,.of (.str _),rfl⟩
 |exc b=>obtain⟨a,C,rfl,m,e⟩:=r.exc;cases q;exact⟨_,.exc e (ok.xc _ (iF k) _ _ rfl m),_,rfl,m⟩
 |tup b=>obtain⟨a,ds,rfl,h,_⟩:=r.tup;cases q;exact⟨_,.sqT h,rfl⟩
 |lst b=>obtain⟨a,ds,rfl,e,_⟩:=r.lst;cases q;exact⟨_,.of (.lst e),rfl⟩
 |dct b=>obtain⟨a,ds,rfl,e,_⟩:=r.dct;cases q;exact⟨_,.of (.dK e),rfl⟩
 |_=>cases q
def uj{c:Cl}(r:ShR K mg P H x v)(q:clV v=some c):∃cv,cR x=some cv/\ClV mg c cv:=by
 cases v with
 |ty b=>obtain rfl:=r.ty;cases q;exact⟨_,rfl,rfl⟩
 |glb b=>obtain⟨a,rfl,m⟩:=r.glb;cases q;exact⟨_,rfl,_,rfl,m⟩
 |_=>cases q
def yD{cs:List Cl}(r:Rds K mg P H ds vs):l7 vs=some cs->∃cvs,ds.mapM cR=some cvs/\Paired (ClV mg) cs cvs:=
 r.ind (M:=λds vs=>∀cs,l7 vs=some cs->∃cvs,ds.mapM cR=some cvs/\Paired (ClV mg) cs cvs) (λcs q=>by cases q;exact⟨[],rfl,.nil⟩) (λr _ ih cs q=>by
  unfold l7 at q;split at q
  .rename_i c cs' e1 e2;cases q;obtain⟨cv,h1,h2⟩:=uj (.inl r) e1;obtain⟨cvs,h3,h4⟩:=ih _ e2;refine⟨cv::cvs,?_,.cons h2 h4⟩;rw[List.mapM_cons,h1,h3];rfl
  .cases q) cs
def Af{kt:eW}(ok:KitsOk K mg kt):cq K mg (λxs H Q=>(∃x c t v b,xs=[x,c]/\TyX K H x t/\cR c=some v/\W.kitOne K t v=some b/\Q (.bl b) H)\/
 (∃x tp cs t vs b,xs=[x,.ref tp]/\SqT K H tp cs/\TyX K H x t/\cs.mapM cR=some vs/\W.kitAny K t vs=some b/\Q (.bl b) H)) (au kt).G:=λP H xs vs Q r0 p=>by
 replace p:BvP K mg P H Q (tU kt vs):=p;unfold tU at p;split at p
 .rename_i v c;obtain⟨d,d',rfl,r1,r2⟩:=uP r0;split at p
  .rename_i t c0 cr e1 e2;split at p
   .rename_i b b' e4 e5;obtain⟨tv,h1,h2⟩:=By ok r1 e1 e5;by_cases ht:∃cs,c=.tup cs
    .obtain⟨cs,rfl⟩:=ht;obtain⟨a,es,rfl,h,q⟩:=r2.tup;obtain⟨cvs,h3,h4⟩:=yD q e2;exact .inr ⟨_,_,_,tv,cvs,b,rfl,h,h1,h3,qI ok h2 h4 e4,bv p (.bl _)⟩
    .have e2':(clV c).map ([·])=some (c0::cr):=by
      cases c with
      |tup cs=>exact absurd ⟨cs,rfl⟩ ht
      |_=>exact e2
     obtain⟨cl,y1,y2⟩:=B_.mp e2';cases y2;obtain⟨cv,h3,h4⟩:=uj r2 y1;have:kit kt t c0=some b:=by
      unfold du at e4;rw[e5] at e4 ⊢;cases b' with
      |true=>exact e4
      |false=>unfold du at e4;exact e4
     exact .inl ⟨_,_,tv,cv,b,rfl,h1,h3,ok.one _ (iF this) _ _ h2 h4,bv p (.bl _)⟩
   .exact p.elim
  .exact p.elim
 .exact p.elim
def qx(r:Rc K mg P H o (.lst us)):∃vs,o=.lst vs/\Rds K mg P H vs us:=by cases r with |lst r=>exact⟨_,rfl,r⟩
def rds1(r:Rds K mg P H ds [v]):∃d,ds=[d]/\Rd K mg P H d v:=by cases r with |cons r rr=>cases rr;exact⟨_,rfl,r⟩
def qF:MmD K mg m8 gz.G:=λP H n o u ds vs u' v Q np e hf r0 rs q k=>by
 replace q:iV u vs=some (u',v):=q;unfold iV at q;split at q
 .split at q
  .rename_i hl;cases q;obtain⟨xs,rfl,r⟩:=qx r0;obtain⟨d,rfl,rd⟩:=rds1 rs;exact⟨n,xs,d,rfl,rfl,e,by rw[r.len];exact hl,k _ _ trivial (.lst (r.append (.cons rd .nil))) .non⟩
  .cases q
 .cases q
def wW:tQ K mg uz seL.G:=λP H n o u di vi d v u' Q np e hf r0 ri rd q k=>by
 replace q:sL u vi v=some u':=q;unfold sL at q;split at q
 .split at q
  .rename_i j hj;cases q;obtain⟨xs,rfl,r⟩:=qx r0;obtain rfl:=ri.int;exact⟨n,xs,_,j,rfl,rfl,e,by rw[r.len];exact hj,k _ trivial (.lst (r.set rd j))⟩
  .cases q
 .cases q
def uV{y:V}{w:Val}{pd:PyData}(ry:Rep K H y pd)(es:bu 164 w=some pd){bs:List Bool}(r:Rds K mg P H ds vs):fG w vs=some bs->EqsR K H y pd ds bs:=
 r.ind
  (M:=λds vs=>∀bs,fG w vs=some bs->EqsR K H y pd ds bs) (λbs q=>by cases q;exact .nil) (λr _ ih bs q=>by
  unfold fG at q;split at q
  .rename_i b bs' e1 e2;cases q;unfold bw at e1;rw[es] at e1;split at e1
   .rename_i a c e3 e4;cases e4;split at e1
    .rename_i hs;cases e1;exact .cons (dq 164 _ _ _ (.inl r) e3) hs.1 (ih _ e2)
    .cases e1
   .cases e1
  .cases q) bs
theorem rB{w:Val}:∀{vs:List Val}{bs:List Bool},fG w vs=some bs->vs=[]\/∃pd,bu 164 w=some pd/\shp pd=true
 | [],_,_=>.inl rfl
 |
  x::xs,bs,e=>by
  right;unfold fG at e;split at e
  .rename_i b bs' e1 e2;unfold bw at e1;split at e1
   .rename_i a c e3 e4;split at e1
    .rename_i hs;exact⟨c,e4,hs.2⟩
    .cases e1
   .cases e1
  .cases e
def ua:MtD K mg (iX K) jh.G:=λP H d v ds vs Q r hv rs p=>by
 replace p:BvP K mg P H Q (iI v vs):=p;unfold iI at p;split at p
 .obtain⟨a,xs,rfl,h,q⟩:=r.lstL;obtain⟨y,rfl,ry⟩:=bS rs;split at p
  .rename_i bs eb;split at p
   .rename_i hl;rcases rB eb with rfl |⟨pd,h3,h4⟩
    .cases eb;exact absurd hl (by simp)
    .have r3:=dq 164 _ _ _ ry h3;exact⟨a,y,bs,rfl,rfl,⟨xs,pd,h,r3,h4,uV r3 h3 q eb⟩,hl,bv p (.int _)⟩
   .exact p.elim
  .exact p.elim
 .exact p.elim
def pC:MtD K mg (iG K) jr.G:=λP H d v ds vs Q r hv rs p=>by
 replace p:BvP K mg P H Q (jg v vs):=p;unfold jg at p;split at p
 .obtain⟨a,xs,rfl,h,q⟩:=r.lstL;obtain⟨y,rfl,ry⟩:=bS rs;split at p
  .rename_i hs;obtain⟨pd,s1,s2⟩:=B_.mp hs;have r3:=dq 164 _ _ _ ry s1;split at p
   .rename_i bs eb;exact⟨a,y,bs,rfl,rfl,⟨xs,pd,h,r3,s2,uV r3 s1 q eb⟩,bv p (.int _)⟩
   .exact p.elim
  .exact p.elim
 .exact p.elim
end
abbrev MO3:=E3->R3 (Option Int)
noncomputable def zZ (e:E3):R3 (Option Int):=.ok none e
noncomputable def zp (F:ME3) (e:E3):R3 (Option Int):=(F e).bind λt e1=>match rs e1 t with
 |some (.int i)=>.ok (some i) e1
 |_=>.stuck
noncomputable def vSl (F:ME3) (L U:MO3) (e:E3):R3 Tm:=(F e).bind λt e1=>(L e1).bind λlo e2=>(U e2).bind λhi e3=>match rs e3 t.drop with
 |some v=>(aSl v lo hi).at e3
 |none=>.stuck
structure POp where
 t:Nat
 G:MO3
noncomputable def oN:POp:=⟨1,zZ⟩
noncomputable def oS (a:PEx):POp:=⟨2,zp a.G⟩
noncomputable def pSl (a:PEx) (l u:POp):PEx:=⟨23,vSl a.G l.G u.G⟩
def rdO(K:W.Frag)(mg:Eh)(ES:St->XK)(G:MO3):TO:=λσ H Q=>∃X N0 ns e,Sat K mg X N0 ns e σ H/\PG3 K mg X N0 ns e σ H (ES σ) (λo _ _ H'=>Q o H') (G e)
def rdO.el{K:W.Frag}{mg:Eh}{G:MO3}(h:rdO K mg ES G σ H Q){Z:Prop}(k:∀X N0 ns e,Sat K mg X N0 ns e σ H->PG3 K mg X N0 ns e σ H (ES σ) (λo _ _ H'=>Q o H') (G e)->Z):Z:=by obtain⟨X,N0,ns,e,S,p⟩:=h;exact k X N0 ns e S p
structure DO(K:W.Frag)(mg:Eh)(X:Cx)(ES:St->XK)(e:Option Expr)(F:POp):Prop where
 ok:PO X e (rdO K mg ES F.G)
section
variable{K:W.Frag}{mg:Eh}{X:Cx}{ES:St->XK}{e a:Expr}{p:PEx}{l u:POp}{lo hi:Option Expr}{pos p2:Pos}
def m6:DO K mg X ES none oN:=⟨PO.imp wN λσ H Q zz=>rdO.el zz λY N0 ns e S p=>PG3.ret p S⟩
def nH(he:DE K mg X ES e p):DO K mg X ES (some e) (oS p):=⟨PO.imp (wA he.ok) λσ H Q zz=>rdO.el zz λY N0 ns e S p=>
 ⟨Y,
  N0,λ_=>True,ns,e,S,λ_ _=>trivial,PG3.imp p S λt e1 ns1 H1 a1 S1 p1 x r1=>by
  try dsimp only at p1
  split at p1
  .rename_i i q;obtain rfl:=(r1.sh S1 q).int;exact⟨_,rfl,p1.ret S1⟩
  .exact p1.elim⟩⟩
def Cf{P:Addr->Prop}{H:Hp}{Q:VK}{x:V}{v:Val}{lo hi:Option Int}(r:ShR K mg P H x v)(p:BvP K mg P H Q (aSl v lo hi)):(tO K x lo hi H Q\/qV K x lo hi H Q)\/rX x lo hi H Q:=by
 have cut:∀{vs us},Rds K mg P H vs us->Rds K mg P H (fq vs lo hi) (fB us lo hi):=λr=>by unfold fq fB;rw[r.len];exact (r.drop _).take _
 unfold aSl at p;split at p
 .obtain⟨a,ds,rfl,h,q⟩:=r.tup;split at p
  .exact p.elim
  .rename_i hn;exact .inl (.inr ⟨_,_,rfl,h,by rw[q.len];exact hn,bvT p (cut q)⟩)
 .obtain⟨a,ds,rfl,h,q⟩:=r.lstL;exact .inl (.inl ⟨_,_,rfl,h,bvL p (cut q)⟩)
 .obtain⟨a,ds,rfl,h,q⟩:=r.kl;exact .inl (.inl ⟨_,_,rfl,h,bvL p (cut q)⟩)
 .obtain rfl:=r.str;split at p
  .rename_i hz;exact .inr ⟨_,rfl,hz,bv p (.str _)⟩
  .exact p.elim
 .exact p.elim
def kZ(hK:X.K=K)(he:DE K mg X ES e p)(hl:DO K mg X ES lo l)(hu:DO K mg X ES hi u):DE K mg X ES (.Subscript e (.Slice lo hi none p2) pos) (pSl p l u):=
 ⟨PE.imp (tZ (slK hK) he.ok hl.ok hu.ok) λσ H Q zz=>zz.el λY N0 L ns e S hL p=>⟨Y,N0,L,ns,e,S,hL,PG3.imp p S λt e1 ns1 H1 a1 S1 p1 x rx=>⟨Y,N0,ns1,e1,S1,PG3.imp p1 S1 λlo e2 g_ H2 a2 S2 p2=>⟨Y,N0,g_,e2,S2,PG3.imp p2 S2 λhi e3 ns3 H3 a3 S3 p3=>by
  try dsimp only at p3
  split at p3
  .rename_i v q;exact Cf ((rx.drop (a2.trans S1 a3)).sh S3 q) (p3.bv S3 λa z=>hL a (a1.dom a (a2.dom a (a3.dom a z))))
  .exact p3.elim⟩⟩⟩⟩
end
noncomputable def unS (i:Nat) (k:E3->SR3) (e:E3):SR3:=match e[i]? with
 |some s=>if s.pl=true then k (e.set i .no) else .stuck
 |none=>.stuck
noncomputable def jw (mro:List Str) (i:Nat) (B U:MS3) (e:E3):SR3:=match B e with
 |
  .exc c e1=>if c∈mro then match e1[i]? with
   |
    some s0=>if s0.pl=true then match U (e1.set i (.sh (.exc c))) with
     |.nx e2=>unS i .nx e2
     |.bk e2=>unS i .bk e2
     |.ct e2=>unS i .ct e2
     |.rt d e2=>.rt d e2
     |_=>.stuck
    else .stuck
   |none=>.stuck
  else .stuck
 |r=>r
noncomputable def rH (mro:List Str) (i:Nat) (b u:PSt):PSt:=⟨18,jw mro i b.G u.G⟩
section
variable{K:W.Frag}{mg:Eh}{X:Cx}{ES:St->XK}{cn n:Str}{C:Addr}{i:Nat}{body suite:List Stmt}{b₀:Stmt}{x y:PSt}{np hpos pos:Pos}{mro:List Str}
def vO(hb:∀(pn:Ei) (xe:Ej) (ES':St->XK),da (cxT X pn xe) ES'->DSs K mg (cxT X pn xe) ES' body x):PSsx X body (λDe E σ H=>rdS K mg E x.G De σ H):=by
 intro pins s σ H De E I hh
 let xe:Value->Shared->Prop:=λe s'=>∃pins2 σ1 H1 s1,Inv (cxT X (X.pn++pins) (λ_ _=>False)) pins2 σ1 H1 s1/\CX1 X.prog X.w X.stack H1 s1 (E σ1) e s'
 have hx:da (cxT X (X.pn++pins) xe) E:=λpins2 σ1 H1 s1 e s' I1 q=>⟨pins2,σ1,H1,s1,⟨⟨I1.ok.mod,I1.ok.kind,I1.ok.glob,I1.ok.blt,I1.ok.above,I1.ok.inj,I1.ok.has,I1.ok.cab,I1.ok.hd,I1.ok.frames,I1.ok.stk,I1.ok.exf,I1.ok.bs,I1.ok.bsz,I1.ok.noex,I1.ok.exfs,I1.ok.funs,I1.ok.frf⟩,I1.os,I1.bare,I1.base,I1.loc,I1.cell,I1.free,I1.freeC,I1.pin,I1.hok,I1.len⟩,q⟩;refine z_ ((hb (X.pn++pins) xe E hx).ok [] s σ H De I.toT hh) (λf s' q=>?_) λe s' q=>?_
 .cases f with
  |next=>obtain⟨σ1,H1,I1,q1⟩:=q;exact⟨σ1,H1,I1.ofT,q1⟩
  |brk=>obtain⟨σ1,H1,I1,q1⟩:=q;exact⟨σ1,H1,I1.ofT,q1⟩
  |cont=>obtain⟨σ1,H1,I1,q1⟩:=q;exact⟨σ1,H1,I1.ofT,q1⟩
  |ret u=>obtain⟨v,σ1,H1,I1,r1,q1⟩:=q;exact⟨v,σ1,H1,I1.ofT,r1,q1⟩
 .obtain⟨pins2,σ1,H1,s1,I1,q1⟩:=q;exact⟨σ1,H1,s1,I1.ofT,q1⟩
def kD{Y N0:Addr->Prop}{ns ns':Ns}{e e2:E3}{σ:St}{H H':Hp}{De:Ends}{k:E3->SR3}{R:St->Hp->Prop}(hk:∀e',PS3 K mg Y N0 ns e H De ES (k e')->∀H' σ' ns',Stp ns e H ns' e' H'->Sat K mg Y N0 ns' e' σ' H'->R σ' H')(p:PS3 K mg Y N0 ns e H De ES (unS i k e2))(a:Stp ns e H ns' e2 H')(S:Sat K mg Y N0 ns' e2 σ H'):R (σ.set i none) H':=by
 unfold unS at p;split at p
 .rename_i s q;split at p
  .rename_i hp;have hi:=(l_.mp q).1;exact hk _ p H' _ _ (a.put (x:=none) (s:=.no) hi (λ_ z=>by cases z) q hp rfl S.l2) (S.putN hi rfl)
  .exact p.elim
 .exact p.elim
def ze(T:X.Top)(hN:X.N.Nodup)(hi:X.N[i]?=some n)(hl:X.env.kindOf n=some .local)(hg:Gl X cn)(hm:mg cn=some (.ref C))(hh:XHand K C)(hmro:∀c∈mro,∀Ce,mg c=some (.ref Ce)->W.mroIn K Ce (.ref C)=some true)
 (hb:∀(pn:Ei) (xe:Ej) (ES':St->XK),da (cxT X pn xe) ES'->DSs K mg (cxT X pn xe) ES' body x) (hs:∀ea,DSs K mg (ed X ea) (λ_=>E0) (b₀::suite) y)
 (hK:X.K=K:=by rfl) (hk:X.mg=mg:=by rfl) (hd:(cn==("__debug__" : Str))=false:=by decide):DS K mg X ES (.Try body [.ExceptHandler (some (.Name cn np)) (some n) (b₀::suite) hpos] [] [] pos) (rH mro i x y):=by
 subst hK hk;refine⟨PS.imp (xJ T hN hi hl hg hm hh (vO hb) (λea=>(hs ea).ok) hd) λDe σ H zz=>zz.el λY N0 ns e S p=>⟨Y,N0,ns,e,S,?_⟩⟩;replace p:PS3 X.K X.mg Y N0 ns e H De ES (jw mro i x.G y.G e):=p;unfold jw at p;cases q:x.G e with
 |nx e1=>rw[q] at p;exact p
 |rt d e1=>rw[q] at p;exact p
 |bk e1=>rw[q] at p;exact p
 |ct e1=>rw[q] at p;exact p
 |stuck=>rw[q] at p;exact p
 |
  exc c e1=>
  rw[q] at p;dsimp only at p;split at p
  .rename_i hc;split at p
   .rename_i s0 q0;split at p
    .rename_i p0;intro H1 σ1 ns1 Ce a1 S1 mc;refine⟨Ce,rfl,hmro c hc Ce mc,λea hn=>?_⟩;have hi':=(l_.mp q0).1;have g:=Gr.upd (u:=.ext (gi ea Ce)) hn;have S2:=(S1.gr g).putN (s:=.sh (.exc c)) (d:=some (.ref ea)) hi' ⟨rfl,_,rfl,.exc mc aM⟩;have a2:=(a1.trans S (.gr g)).put (x:=none) (s:=.sh (.exc c)) hi' (λ_ z=>by cases z) q0 p0 rfl S1.l2;refine⟨Y,N0,_,_,S2,?_⟩;cases q2:y.G (e1.set i (.sh (.exc c))) with
     |nx e2=>rw[q2] at p;exact λH' σ' ns' b S'=>kD (De:=De) (ES:=ES) (e:=e) (k:=.nx) (R:=De.nx) (λe' p=>p) p (a2.trans S b) S'
     |bk e2=>rw[q2] at p;exact λH' σ' ns' b S'=>kD (De:=De) (ES:=ES) (e:=e) (k:=.bk) (R:=De.bk) (λe' p=>p) p (a2.trans S b) S'
     |ct e2=>rw[q2] at p;exact λH' σ' ns' b S'=>kD (De:=De) (ES:=ES) (e:=e) (k:=.ct) (R:=De.ct) (λe' p=>p) p (a2.trans S b) S'
     |rt d e2=>rw[q2] at p;exact λH' σ' ns' x b S'=>p H' σ' ns' x (a2.trans S b) S'
     |exc c2 e2=>rw[q2] at p;exact p.elim
     |stuck=>rw[q2] at p;exact p.elim
    .exact p.elim
   .exact p.elim
  .exact p.elim
end
theorem iZ{K:W.Frag}{mg:Eh}{P:Addr->Prop}{H:Hp}:∀(ns:List Int),Rds K mg P H (ns.map V.int) (ns.map Val.int)
 | []=>.nil
 |_::r=>.cons (.int _) (iZ r)
def law3{P:Program}{w:World}{K:W.Frag}{mg:Eh}{base:Heap}{x y:Str}{k:Nat}(p:PFn)(C:Callee P w K mg base x k [y] (sp3 K mg p))(hT:∀P q,¬ tu K mg P q)(hm:p.ms=[false])(hG:∀ns:List Int,ns.length<=63->p.G [.kl (ns.map .int)]=.ok (.val (.bl true)) []):
 Callee P w K mg base x k [y] (λvs H Q _=>∃(a:Addr) (ns:List Int),vs=[.ref a]/\iL H/\SqL K H a (ns.map V.int)/\ns.length<=63/\∀H',Q (.bl true) H'):=C.imp λvs H Q E ⟨a,ns,e,hO,hq,hl,q⟩=>by
 subst e;refine⟨λ_=>False,[none],[.kl (ns.map .int)],by rw[hm];rfl,?_,?_⟩
 .rw[hm];have rd:Rd K mg (Oc (λ_=>False) [none]) H (.ref a) (.kl (ns.map .int)):=by
   rcases hq with (hq |⟨o,hq⟩) |hq
   .rcases hO a with z |⟨o,xs,z⟩ <;> rw[hq] at z <;> cases z
   .exact .cell ⟨λz=>z,by simp⟩ hq (.fz (iZ ns))
   .exact .kl hq (iZ ns)
  refine⟨rfl,rfl,λ_ z=>z,λ_ z=>z.elim,λi j n q=>?_,λi n q z=>z,λi s q=>?_,λP q l=>(hT P q l).elim⟩
  .cases i with
   |zero=>simp at q
   |succ i=>simp at q
  .cases i with
   |
    zero=>
    have:sl1 false (.kl (ns.map .int))=s:=by simpa [sls] using q
    subst this;exact⟨rfl,_,rfl,rd⟩
   |succ i=>simp [sls] at q
 .rw[hG ns hl];intro x H' _ rr;rw[ShR.bl (.inl rr.2)];exact q H'
structure PFx(ms:List Bool) where
 G:Fn3
noncomputable def PFx.fn {ms:List Bool} (p:PFx ms):PFn:=⟨ms,p.G⟩
noncomputable def PFx.none (ms:List Bool) (N:Nat:=0):PFx ms:=⟨λ_=>.stuck⟩
noncomputable def PFx.of (ms:List Bool) (N:Nat) (c:PSt):PFx ms:=⟨fnV ms N c.G⟩
section
variable{K:W.Frag}{mg:Eh}{P:Program}{w:World}{base:Heap}{fx:Str}{j':Stmt}{k m:Nat}{ps N:List Str}{ms:List Bool}{x:PSt}
def okX(D:Def K mg fx j')(S:FnScope N ps (aj j'))
 (hb:∀(kV doc pm:Value) (an:Option Addr) (cdv ct:Value) (us:List Value),us.length=ps.length->bindArgs (W.fnOf fx fx (bC j') (aN j') (aj j') .none kV doc pm an cdv ct) ⟨us,[]⟩=pure (ps.zip us))
 (d_:N.Nodup->∀(f:Addr) (cdv:Value) (A:Around) (outer:List Env) (s:Shared) (H:Hp) (E:XK),Room k (A.deeper (envOfC fx (aj j') s.heap.objs.size f cdv))->
  DSs K mg (bR (CX1 P w) P w K mg base N fx (aj j') f cdv A outer s H E) (λ_=>E) (aN j') x) (hn:ms.length=ps.length:=by rfl) (hm:N.length=m:=by rfl):Callee P w K mg base fx (k+1) ps (sp3 K mg (PFx.of ms m x).fn):=okP D S hb d_ hn hm
def ok0(D:Def K mg fx j')(S:FnScope N ps (aj j'))
 (hb:∀(kV doc pm:Value) (an:Option Addr) (cdv ct:Value) (us:List Value),us.length=ps.length->bindArgs (W.fnOf fx fx (bC j') (aN j') (aj j') .none kV doc pm an cdv ct) ⟨us,[]⟩=pure (ps.zip us)) (hn:ms.length=ps.length:=by rfl):Callee P w K mg base fx (k+1) ps (sp3 K mg (PFx.none ms).fn):=
 (okP (x:=xNo) (ms:=ms) (m:=N.length) D S hb (λ_ _ _ _ _ _ _ _ _=>⟨λ_ _ _ _ _ _ ⟨_,_,_,_,_,p⟩=>p.elim⟩) hn).imp λ_ _ _ _ ⟨_,_,_,_,_,p⟩=>p.elim
end
section
variable{K:W.Frag}{mg:Eh}{X:Cx}{ES:St->XK}{e:Expr}{p:PEx}{pos:Pos}
def zsS{ow:Bool}(i:Nat){x:Str}{pos':Pos}(hN:X.N.Nodup)(he:DE K mg X ES e p)(hi:X.N[i]?=some x:=by exact rfl)(hx:Loc X.env.scope x:=by first |exact Or.inl rfl |exact Or.inr rfl)(hs:swapsWith e (some (.Name x pos')) pos.line X.env=pure false:=by rfl)(hf:X.fn x=true\/X.env.scope.names.lookup x=some .local:=by first |exact .inl rfl |exact .inr rfl |assumption):DS K mg X ES (.Assign [.Name x pos'] e pos) (aF ow i p):=yU hN hi hx he hs hf
def zgN(i:Nat){x:Str}(hN:X.N.Nodup)(hi:X.N[i]?=some x:=by exact rfl)(hx:Loc X.env.scope x:=by first |exact Or.inl rfl |exact Or.inr rfl)(hf:X.fn x=true\/X.env.scope.names.lookup x=some .local:=by first |exact .inl rfl |exact .inr rfl |assumption):DG K mg X (.Name x pos) (gtN i):=wR hN hi hx hf
end
section
variable(e:E3)
@[simp] theorem ke(a:α)(f:α->E3->R3 β):(R3.ok a e).bind f=f a e:=rfl
@[simp] theorem zT(c:Str)(f:α->E3->R3 β):(R3.exc c e:R3 α).bind f=.exc c e:=rfl
@[simp] theorem BD(a:α)(f:α->E3->SR3):(R3.ok a e).toS f=f a e:=rfl
@[simp] theorem yq(c:Str)(f:α->E3->SR3):(R3.exc c e:R3 α).toS f=.exc c e:=rfl
@[simp] theorem Al(f:E3->SR3):(SR3.nx e).then f=f e:=rfl
@[simp] theorem BZ(r:Rt)(f:E3->SR3):(SR3.rt r e).then f=.rt r e:=rfl
@[simp] theorem zb(c:Str)(f:E3->SR3):(SR3.exc c e).then f=.exc c e:=rfl
@[simp] theorem ur(f:E3->SR3):(SR3.nx e).loop f=f e:=rfl
@[simp] theorem BM(f:E3->SR3):(SR3.ct e).loop f=f e:=rfl
@[simp] theorem A4(r:SR3):r.unl none=r:=by cases r <;> rfl
@[simp] theorem rY:lockO e none=e:=rfl
@[simp] theorem nY:bj e none=e:=rfl
@[simp] theorem yE(v:Val):(Bv.val v).at e=.ok (.val v) e:=rfl
@[simp] theorem xv(v:Val):(Bv.new v).at e=.ok (.new v) e:=rfl
@[simp] theorem yj(v:Val):rs e (.val v)=some v:=rfl
@[simp] theorem zh(v:Val):rs e (.new v)=some v:=rfl
@[simp] theorem yO(i:Nat):rs e (.bor i)=(e[i]?).bind Sl.val:=rfl
@[simp] theorem yg(v:Val):(Tm.val v).drop=.val v:=rfl
@[simp] theorem yJ(v:Val):(Tm.new v).drop=.val v:=rfl
@[simp] theorem xO(i:Nat):(Tm.bor i).drop=.bor i:=rfl
@[simp] theorem wZ:rss e []=some []:=rfl
@[simp] theorem sQ(t:Tm)(ts:List Tm):rss e (t::ts)=match rs e t,rss e ts with
 |some v,some vs=>some (v::vs)
 |_,_=>none:=rfl
@[simp] theorem zH(v:Val):bG e (.val v)=some (e,v):=rfl
@[simp] theorem yV:dem e []=some (e,[]):=rfl
@[simp] theorem vy(t:Tm)(ts:List Tm):dem e (t::ts)=match bG e t with
 |some (e1,v)=>match dem e1 ts with
  |some (e2,vs)=>some (e2,v::vs)
  |none=>none
 |none=>none:=rfl
@[simp] theorem zR(b:Bool):bOf (some (.bl b))=some b:=rfl
@[simp] theorem Br(i:Nat):(af i).G e=match e[i]? with
 |some (.sh v)=>.ok (.val v) e
 |some .no=>.stuck
 |some _=>.ok (.bor i) e
 |none=>.stuck:=rfl
@[simp] theorem Bl(i:Int):(ah i).G e=.ok (.val (.int i)) e:=rfl
@[simp] theorem v_bl(i:Bool):(pBl i).G e=.ok (.val (.bl i)) e:=rfl
@[simp] theorem A2(i:Str):(ao i).G e=.ok (.val (.str i)) e:=rfl
@[simp] theorem v_ty(i:String):(pTy i).G e=.ok (.val (.ty i)) e:=rfl
@[simp] theorem Ci(i:Str):(bW i).G e=.ok (.val (.glb i)) e:=rfl
@[simp] theorem v_un(o:PU1)(a:PEx):(pUn o a).G e=(a.G e).bind λt e1=>match rs e1 t with
 |some v=>(o.G v).at e1
 |none=>.stuck:=rfl
@[simp] theorem v_op(o:PO2)(a b:PEx):(pOp o a b).G e=(a.G e).bind λt1 e1=>(b.G e1).bind λt2 e2=>match rs e2 t1.drop,rs e2 t2 with
 |some v1,some v2=>(o.G v1 v2).at e2
 |_,_=>.stuck:=rfl
@[simp] theorem A6:ag.G e=.ok [] e:=rfl
@[simp] theorem zJ(a:PEx)(r:PAs):(aa a r).G e=(a.G e).bind λt e1=>(r.G e1).bind λts e2=>.ok (t.drop::ts) e2:=rfl
@[simp] theorem v_fn(o:PBf)(a:PAs):(pFn o a).G e=(a.G e).bind λts e1=>match rss e1 ts with
 |some vs=>(o.G vs).at e1
 |none=>.stuck:=rfl
@[simp] theorem Bo(a:PAs):(iQ a).G e=(a.G e).bind λts e1=>match dem e1 ts with
 |some (e2,vs)=>if vs.length<=16777216 then .ok (.val (.tup vs)) e2 else .stuck
 |none=>.stuck:=rfl
@[simp] theorem BY(a:PAs):(cc a).G e=(a.G e).bind λts e1=>match dem e1 ts with
 |some (e2,vs)=>if vs.length<=16777216 then .ok (.new (.lst vs)) e2 else .stuck
 |none=>.stuck:=rfl
@[simp] theorem B3(a b:PEx):(iP a b).G e=(a.G e).bind λt e1=>match bOf (rs e1 t) with
 |some true=>b.G e1
 |some false=>.ok (.val (.bl false)) e1
 |none=>.stuck:=rfl
@[simp] theorem Cj(a:PEx):(oF a).G e=(a.G e).bind λt e1=>match bOf (rs e1 t) with
 |some b=>.ok (.val (.bl (!b))) e1
 |none=>.stuck:=rfl
@[simp] theorem v_if(c:PTs)(a b:PEx):(pIf c a b).G e=(c.G e).bind λk e1=>if k=true then a.G e1 else b.G e1:=rfl
@[simp] theorem c_of(a:PEx):(qOf a).G e=(a.G e).bind λt e1=>match bOf (rs e1 t) with
 |some b=>.ok b e1
 |none=>.stuck:=rfl
@[simp] theorem c_an(a b:PTs):(qAn a b).G e=(a.G e).bind λk e1=>if k=true then b.G e1 else .ok false e1:=rfl
@[simp] theorem c_o(a b:PTs):(qO a b).G e=(a.G e).bind λk e1=>if k=true then .ok true e1 else b.G e1:=rfl
@[simp] theorem c_no(a:PTs):(qNo a).G e=(a.G e).bind λk e1=>.ok (!k) e1:=rfl
@[simp] theorem c_y:qY.G e=.ok true e:=rfl
@[simp] theorem x_nx:xNx.G e=.nx e:=rfl
@[simp] theorem B9(a:PEx):(aE a).G e=(a.G e).toS lQ:=rfl
@[simp] theorem vD(v:Val):lQ (.val v) e=.rt (.val v) e:=rfl
@[simp] theorem vN(v:Val):lQ (.new v) e=.rt (.new v) e:=rfl
@[simp] theorem xB(a:PEx):(hV a).G e=(a.G e).toS λ_ e1=>.nx e1:=rfl
@[simp] theorem uM(a b:PSt):(ak a b).G e=(a.G e).then b.G:=rfl
@[simp] theorem x_if(c:PTs)(a b:PSt):(xIf c a b).G e=(c.G e).toS λk e1=>if k=true then a.G e1 else b.G e1:=rfl
@[simp] theorem A1(o:Bool)(i:Nat)(a:PEx):(aF o i a).G e=(a.G e).toS (eZ o i):=rfl
@[simp] theorem AF:Sl.no.pl=true:=rfl
@[simp] theorem BW(v:Val):(Sl.sh v).pl=true:=rfl
@[simp] theorem uZ(o:Bool)(i:Nat)(v:Val):eZ o i (.val v) e=match e[i]? with
 |some s0=>if s0.pl=true then .nx (e.set i (.sh v)) else .stuck
 |none=>.stuck:=by unfold eZ;rfl
@[simp] theorem tI(i:Nat)(v:Val):eZ true i (.new v) e=match e[i]? with
 |some s0=>if s0.pl=true then .nx (e.set i (.ow v)) else .stuck
 |none=>.stuck:=by unfold eZ;rfl
@[simp] theorem sM(i:Nat)(v:Val):eZ false i (.new v) e=match e[i]? with
 |some s0=>if s0.pl=true then .nx (e.set i (.sh v)) else .stuck
 |none=>.stuck:=by unfold eZ;rfl
@[simp] theorem g_n(i:Nat)(v:Val):(gtN i).G v e=match e[i]? with
 |some s=>if s.pl=true then some (e.set i (.sh v)) else none
 |none=>none:=rfl
@[simp] theorem g_sn:lR.G [] e=some e:=rfl
@[simp] theorem g_sc(a:PGt)(b:PGs)(v:Val)(vs:List Val):(eL a b).G (v::vs) e=(a.G v e).bind λe1=>b.G vs e1:=rfl
@[simp] theorem g_t(n:Nat)(a:PGs)(vs:List Val):(gtT n a).G (.tup vs) e=if vs.length=n then a.G vs e else none:=rfl
@[simp] theorem xb(a:PEx)(g:PGt):(hX a g).G e=(a.G e).toS λt e1=>match bG e1 t with
 |some (e2,v)=>match g.G v e2 with
  |some e3=>.nx e3
  |none=>.stuck
 |none=>.stuck:=rfl
@[simp] theorem BN(i j:Nat)(a:PAs):(jn i j a).G e=(a.G e).toS λts e1=>match dem e1 ts with
 |some (e2,[v,u])=>match (pN i v e2).bind (pN j u) with
  |some e3=>.nx e3
  |none=>.stuck
 |_=>.stuck:=rfl
@[simp] theorem A5(i:Nat)(v:Val):pN i v e=match e[i]? with
 |some s=>if s.pl=true then some (e.set i (.sh v)) else none
 |none=>none:=rfl
@[simp] theorem vI(c:Str)(a:PAs):(dS c a).G e=(a.G e).toS λts e1=>if ts.length<=16777216 then .exc c e1 else .stuck:=rfl
@[simp] theorem Cg(i:Nat)(w:PSe)(k a:PEx):(iM i w k a).G e=(a.G e).toS λt e1=>match (e1[i]?).bind Sl.mv with
 |none=>.stuck
 |some _=>(k.G e1).toS λt2 e2=>match rs e2 t2 with
  |none=>.stuck
  |some vi=>match bG e2 t.drop with
   |none=>.stuck
   |some (e3,v)=>match e3[i]? with
    |none=>.stuck
    |some s=>match s.mv with
     |none=>.stuck
     |some u=>match w.G u vi v with
      |some u'=>.nx (e3.set i (s.re u'))
      |none=>.stuck:=rfl
@[simp] theorem Am(v:Val):(Sl.ow v).mv=some v:=rfl
@[simp] theorem An(v:Val):(Sl.mu v).mv=some v:=rfl
@[simp] theorem Az(v u:Val):(Sl.ow v).re u=.ow u:=rfl
@[simp] theorem AW(v u:Val):(Sl.mu v).re u=.mu u:=rfl
@[simp] theorem zO(v:Val):(Sl.ow v).val=some v:=rfl
@[simp] theorem zK(v:Val):(Sl.mu v).val=some v:=rfl
@[simp] theorem AN(mro:List Str)(i:Nat)(b u:PSt):(rH mro i b u).G e=jw mro i b.G u.G e:=rfl
@[simp] theorem B1(i:Nat)(m:PMm)(a:PAs):(so i m a).G e=match e[i]? with
 |some s=>if (s.mv.map fg)=some true then (a.G e).bind λts e1=>match dem e1 ts with
  |some (e2,vs)=>match e2[i]? with
   |some s2=>match s2.mv with
    |some u=>match m.G u vs with
     |some (u',v)=>.ok (.val v) (e2.set i (s2.re u'))
     |none=>.stuck
    |none=>.stuck
   |none=>.stuck
  |none=>.stuck else .stuck
 |none=>.stuck:=rfl
@[simp] theorem tF(xs:List Val):fg (.lst xs)=true:=rfl
@[simp] theorem zd(m:PMv)(a:PEx)(b:PAs):(j7 m a b).G e=(a.G e).bind λt e1=>if (rs e1 t).map fg=some true then (b.G e1).bind λts e2=>(match rs e2 t.drop,rss e2 ts with
 |some v,some vs=>if fg v=true then (m.G v vs).at e2 else .stuck
 |_,_=>.stuck) else .stuck:=rfl
@[simp] theorem Cn(a:PEx):(eT a).G e=(a.G e).bind λt e1=>match jk t e1 with
 |some p=>.ok p e1
 |none=>.stuck:=rfl
@[simp] theorem ye(v:Val):jk (.val v) e=(dk v).map λxs=>(xs,none):=rfl
@[simp] theorem yC(v:Val):jk (.new v) e=(dk v).map λxs=>(xs,none):=rfl
@[simp] theorem zu(xs:List Val):dk (.tup xs)=some xs:=rfl
@[simp] theorem yr(xs:List Val):dk (.lst xs)=some xs:=rfl
@[simp] theorem Ah(a:PAs):(ku a).G e=(a.G e).bind λts e1=>match (rss e1 ts).bind fA with
 |some xs=>.ok (xs,none) e1
 |none=>.stuck:=rfl
@[simp] theorem BX(i:PIt)(g:PGt)(b:PSt):(oD i g b).G e=(i.G e).toS λp e1=>(dG g.G b.G p.1 (lockO e1 p.2)).unl p.2:=rfl
@[simp] theorem wt(g:MG3)(B:MS3):dG g B [] e=.nx e:=rfl
theorem lB(g:MG3)(B:MS3)(v:Val)(vs:List Val):dG g B (v::vs) e=match g v e with
 |some e1=>(B e1).loop (dG g B vs)
 |none=>.stuck:=rfl
def l8(c:PTs)(b:PSt):(xWh c b).G e=(c.G e).toS λk e1=>if k=true then (b.G e1).loop (xWh c b).G else .nx e1:=rL c.G b.G e
@[simp] theorem v_lc(i:PIt)(sub:Ek)(hs:(sub.filterMap id).Nodup)(g:PGt)(c:PTs)(a:PEx):(pLC i sub hs g c a).G e=(i.G e).bind λp e1=>match lcV g.G c.G a.G p.1 [] (bz sub (lockO e1 p.2)) with
 |.ok ys e2=>if ys.length<=16777216 then .ok (.new (.lst ys)) (bj (ay sub e2 (lockO e1 p.2)) p.2) else .stuck
 |_=>.stuck:=rfl
@[simp] theorem xE(f:PFn)(a:PAs):(ai f a).G e=(a.G e).bind λts e1=>match rss e1 ts with
 |none=>.stuck
 |some vs=>if okA e1 f.ms ts=true then (match f.G vs with
  |.stuck=>.stuck
  |.ok r mv=>if (aJ e1 f.ms ts).isEmpty || (fM r&&mv.all bE) then .ok (r.tm ts) (ay (aD f.ms ts) (ar f.ms mv) e1) else (match ja e1 (aJ e1 f.ms ts) with
   |some e2=>.ok (r.tm ts) (ay (aD f.ms ts) (ar f.ms mv) e2)
   |none=>.stuck)
  |.exc c mv=>if (aJ e1 f.ms ts).isEmpty || mv.all bE then .exc c (ay (aD f.ms ts) (ar f.ms mv) e1) else .stuck) else .stuck:=rfl
@[simp] theorem z9(ts:List Tm)(v:Val):(Rt.val v).tm ts=.val v:=rfl
@[simp] theorem yT(ts:List Tm)(v:Val):(Rt.new v).tm ts=.new v:=rfl
@[simp] theorem o_n:oN.G e=.ok none e:=rfl
@[simp] theorem o_s(a:PEx):(oS a).G e=(a.G e).bind λt e1=>match rs e1 t with
 |some (.int i)=>.ok (some i) e1
 |_=>.stuck:=rfl
@[simp] theorem v_sl(a:PEx)(l u:POp):(pSl a l u).G e=(a.G e).bind λt e1=>(l.G e1).bind λlo e2=>(u.G e2).bind λhi e3=>match rs e3 t.drop with
 |some v=>(aSl v lo hi).at e3
 |none=>.stuck:=rfl
theorem bB(ms:List Bool)(N:Nat)(c:PSt)(vs:List Val):(fnP ms N c).G vs=if vs.length=ms.length then (match c.G (sls ms vs++List.replicate (N-vs.length) .no) with
 |.nx e=>(match muV ms e with |some mv=>.ok (.val .non) mv |none=>.stuck)
 |.rt r e=>(match muV ms e with |some mv=>.ok r mv |none=>.stuck)
 |.exc c e=>(match muV ms e with |some mv=>.exc c mv |none=>.stuck)
 |_=>.stuck) else .stuck:=rfl
theorem uU(ms:List Bool)(N:Nat)(c:PSt)(vs:List Val):(PFx.of ms N c).G vs=if vs.length=ms.length then (match c.G (sls ms vs++List.replicate (N-vs.length) .no) with
 |.nx e=>(match muV ms e with |some mv=>.ok (.val .non) mv |none=>.stuck)
 |.rt r e=>(match muV ms e with |some mv=>.ok r mv |none=>.stuck)
 |.exc c e=>(match muV ms e with |some mv=>.exc c mv |none=>.stuck)
 |_=>.stuck) else .stuck:=rfl
@[simp] theorem AI(p:PFx ms):p.fn.ms=ms:=rfl
@[simp] theorem fx_G(p:PFx ms)(vs:List Val):p.fn.G vs=p.G vs:=rfl
end
@[simp] theorem B5(i j:Int):bN.G (.int i) (.int j)=.val (.int (i+j)):=rfl
@[simp] theorem Cd(i j:Int):oQ.G (.int i) (.int j)=.val (.int (i-j)):=rfl
@[simp] theorem k_lt(i j:Int):bLt.G (.int i) (.int j)=.val (.bl (decide (i<j))):=rfl
@[simp] theorem k_gt(i j:Int):bGt.G (.int i) (.int j)=.val (.bl (decide (j<i))):=rfl
@[simp] theorem k_ge(i j:Int):bGe.G (.int i) (.int j)=.val (.bl (decide (j<=i))):=rfl
@[simp] theorem BP(i:Int):lp.G (.int i)=.val (.int (-i)):=rfl
def cm(c:CMulA i j):aW.G (.int i) (.int j)=.val (.int (i*j)):=by show rN (.int i) (.int j)=_;unfold rN aIc;dsimp only;rw[if_pos c]
def fS(c:CDivB i j):d4.G (.int i) (.int j)=.val (.int (i.fdiv j)):=by show tL (.int i) (.int j)=_;unfold tL aIc;dsimp only;rw[if_pos c]
def dh(c:j≠0):bF.G (.int i) (.int j)=.val (.int (i.fmod j)):=by show sJ (.int i) (.int j)=_;unfold sJ aIc;dsimp only;rw[if_pos c]
def ko(c:oM i j):cS.G (.int i) (.int j)=.val (.int (i^j.toNat)):=by show tD (.int i) (.int j)=_;unfold tD aIc;dsimp only;rw[if_pos c]
@[simp] theorem k_ix(x:Val)(i:Int):bIx.G x (.int i)=match x.items with
 |some xs=>(match atI xs i with
  |some v=>.val v
  |none=>.stuck)
 |none=>.stuck:=by show aIx x (.int i)=_;unfold aIx;cases x.items <;> rfl
@[simp] theorem yP(xs:List Val):(Val.tup xs).items=some xs:=rfl
@[simp] theorem x9(xs:List Val):(Val.lst xs).items=some xs:=rfl
@[simp] theorem k_eq(x y:Val):bEq.G x y=match bw x y with
 |some b=>.val (.bl b)
 |none=>.stuck:=by show aEq false x y=_;unfold aEq;cases bw x y <;> rfl
@[simp] theorem k_ne(x y:Val):bNe.G x y=match bw x y with
 |some b=>.val (.bl (!b))
 |none=>.stuck:=by show aEq true x y=_;unfold aEq;cases bw x y <;> rfl
@[simp] theorem Au(x y:Int):bw (.int x) (.int y)=some (x==y):=rfl
def eq_str(hx:PyData.strOk x=true)(hy:PyData.strOk y=true):bw (.str x) (.str y)=some (x==y):=by unfold bw;show (if shp (.str x)=true/\shp (.str y)=true then _ else _)=_;rw[if_pos ⟨dY hx (CP _),dY hy (CP _)⟩];rfl
@[simp] theorem k_is(x:Val):bIs.G x .non=match x with
 |.non=>.val (.bl true)
 |_=>.val (.bl false):=by cases x <;> rfl
@[simp] theorem BO(v:Val):cW.G [v]=match v.items with
 |some xs=>.val (.int xs.length)
 |none=>(match v with
  |.str z=>if z.length<=16777216 then .val (.int z.length) else .stuck
  |_=>.stuck):=rfl
@[simp] theorem uo(i:Int):eV.G [.int i]=.val (.int (if i<0 then -i else i)):=rfl
@[simp] theorem Bn(i j:Int):lb.G [.int i,.int j]=.val (.int (if j<i then j else i)):=rfl
@[simp] theorem Bf(xs:List Val):iy.G [.lst xs]=match d7 xs with
 |some bs=>.val (.bl (bs.all id))
 |none=>.stuck:=rfl
@[simp] theorem yG(v:Val):lV.G [v]=match v.items with
 |some xs=>.new (.lst xs)
 |none=>.stuck:=rfl
@[simp] theorem vm(v:Val):jd.G [v]=match v.items with
 |some xs=>.val (.tup xs)
 |none=>.stuck:=rfl
@[simp] theorem lF(xs:List Val)(v:Val):gz.G (.lst xs) [v]=if xs.length<16777216 then some (.lst (xs++[v]),.non) else none:=rfl
def zQ(b:Bool)(ms:List Bool)(v:Val)(vs:List Val):sls (b::ms) (v::vs)=sl1 b v::sls ms vs:=rfl
def vL:sls [] []=[]:=rfl
def Ap(v:Val):sl1 true v=.mu v:=rfl
def AS(v:Val):sl1 false v=.sh v:=rfl
section
variable(e:E3)
def wg:okA e [] []=true:=rfl
def yk(i:Nat)(ms:List Bool)(ts:List Tm):okA e (true::ms) (.bor i::ts)=(((e[i]?).bind Sl.mv).isSome && !(d8 i ts)&&okA e ms ts):=rfl
def zq(v:Val)(ms:List Bool)(ts:List Tm):okA e (false::ms) (.val v::ts)=okA e ms ts:=rfl
def rh(i:Nat):d8 i []=false:=rfl
def x8(i:Nat)(v:Val)(ts:List Tm):d8 i (.val v::ts)=d8 i ts:=rfl
def pB:aJ e [] []=[]:=rfl
def vR(v:Val)(ms:List Bool)(ts:List Tm):aJ e (false::ms) (.val v::ts)=aJ e ms ts:=rfl
def zB(t:Tm)(ms:List Bool)(ts:List Tm):aJ e (true::ms) (t::ts)=aJ e ms ts:=by cases t <;> rfl
end
def pj:aD [] []=[]:=rfl
def ve(b:Bool)(t:Tm)(ms:List Bool)(ts:List Tm):aD (b::ms) (t::ts)=js b t::aD ms ts:=rfl
def wd(i:Nat):js true (.bor i)=some i:=rfl
def Ac(t:Tm):js false t=none:=by cases t <;> rfl
def qW(e:E3):ay [] [] e=e:=rfl
def xR(o:Option Nat)(sub:Ek)(s:Sl)(i e:E3):ay (o::sub) (s::i) e=ay sub i (c8 o s e):=rfl
theorem wj(i:Nat)(v:Val)(e:E3):c8 (some i) (.mu v) e=match e[i]? with
 |some t=>e.set i (t.re v)
 |none=>e:=rfl
def xS(s:Sl)(e:E3):c8 none s e=e:=rfl
def tS(vs:List Val):ar [] vs=[]:=rfl
def xD(ms:List Bool)(v:Val)(vs:List Val):ar (true::ms) (v::vs)=.mu v::ar ms vs:=rfl
def xV(ms:List Bool)(vs:List Val):ar (false::ms) vs=.no::ar ms vs:=by cases vs <;> rfl
def vE(e:E3):muV [] e=some []:=by cases e <;> rfl
def Cb(ms:List Bool)(v:Val)(e:E3):muV (true::ms) (.mu v::e)=(muV ms e).map (v :: ·):=rfl
def Aq(ms:List Bool)(s:Sl)(e:E3):muV (false::ms) (s::e)=muV ms e:=by cases s <;> rfl
def pI(v:Val):fM (.val v)=bJ v:=rfl
def pD(v:Val):fM (.new v)=bE v:=rfl
def pJ(i:Int):bJ (.int i)=true:=by simp [bJ]
def sd(i:Bool):bJ (.bl i)=true:=by simp [bJ]
def qN(i:Str):bJ (.str i)=true:=by simp [bJ]
def fP(h0:0<=i)(h:l[i.toNat]?=some x):atI l i=some x:=by have hl:=(l_.mp h).1;unfold atI ixN;rw[if_pos h0,if_pos (by omega)];exact h
def yb(h0:0<=i)(h:i.toNat<n):ixN n i=some i.toNat:=by unfold ixN;rw[if_pos h0,if_pos (by omega)]
section
variable(a b c d e f g h:α)(l:List α)
def ati0:atI (a::l) 0=some a:=fP (by decide) rfl
def ati1:atI (a::b::l) 1=some b:=fP (by decide) rfl
def ati2:atI (a::b::c::l) 2=some c:=fP (by decide) rfl
def ati3:atI (a::b::c::d::l) 3=some d:=fP (by decide) rfl
def ati7:atI (a::b::c::d::e::f::g::h::l) 7=some h:=fP (by decide) rfl
end
theorem Cm(xs:List Val)(k:Int)(v:Val):seL.G (.lst xs) (.int k) v=match ixN xs.length k with
 |some j=>some (.lst (xs.set j v))
 |none=>none:=rfl
mutual
def vq:Val->Val->Bool
 |.non,.non=>true
 |.bl a,.bl b=>a==b
 |.bl a,.int j=>(if a then 1 else 0)==j
 |.int i,.bl b=>i==(if b then 1 else 0)
 |.int i,.int j=>i==j
 |.str x,.str y=>x==y
 |.tup xs,.tup ys=>vqs xs ys
 |.lst xs,.lst ys=>vqs xs ys
 |_,_=>false
def vqs:List Val->List Val->Bool
 | [],[]=>true
 |x::xs,y::ys=>vq x y&&vqs xs ys
 |_,_=>false
end
mutual
def wfV:Nat->Val->Bool
 |_,.non=>true
 |_,.bl _=>true
 |_,.int _=>true
 |_,.str x=>PyData.strOk x
 |k+1,.tup xs=>cQ k xs
 |k+1,.lst xs=>cQ k xs
 |_,_=>false
def cQ:Nat->List Val->Bool
 |_,[]=>true
 |k,x::xs=>wfV k x&&cQ k xs
end
mutual
def c9:Val->PyData
 |.bl b=>.bool b
 |.int i=>.int i
 |.str x=>.str x
 |.tup xs=>.tuple (b8 xs)
 |.lst xs=>.list (b8 xs)
 |_=>.none
def b8:List Val->List PyData
 | []=>[]
 |x::xs=>c9 x::b8 xs
end
mutual
theorem iU:∀(k:Nat) (v:Val),wfV k v=true->(∀j,k<j->bu j v=some (c9 v))/\(c9 v).canLay0=true/\(c9 v).depth<=k
 |k,.non,_=>⟨λj hj=>by cases j with |zero=>exact absurd hj (Df _) |succ j=>rfl,rfl,CP _⟩
 |k,.bl b,_=>⟨λj hj=>by cases j with |zero=>exact absurd hj (Df _) |succ j=>rfl,rfl,CP _⟩
 |k,.int b,_=>⟨λj hj=>by cases j with |zero=>exact absurd hj (Df _) |succ j=>rfl,rfl,CP _⟩
 |k,.str b,w=>⟨λj hj=>by cases j with |zero=>exact absurd hj (Df _) |succ j=>rfl,by cases k <;> exact w,CP _⟩
 |0,.tup xs,w=>absurd w o_
 |0,.lst xs,w=>absurd w o_
 |
  k+1,.tup xs,w=>by
  obtain⟨h1,h2,h3⟩:=gw k xs w;exact⟨λj hj=>by cases j with |zero=>exact absurd hj (Df _) |succ j=>simp only[bu,c9,h1 j (Nat.lt_of_succ_lt_succ hj),Option.map_some],h2,by simpa [c9,PyData.depth] using h3⟩
 |
  k+1,.lst xs,w=>by
  obtain⟨h1,h2,h3⟩:=gw k xs w;exact⟨λj hj=>by cases j with |zero=>exact absurd hj (Df _) |succ j=>simp only[bu,c9,h1 j (Nat.lt_of_succ_lt_succ hj),Option.map_some],h2,by simpa [c9,PyData.depth] using h3⟩
 |k,.ty _,w=>by cases k <;> exact absurd w o_
 |k,.glb _,w=>by cases k <;> exact absurd w o_
 |k,.exc _,w=>by cases k <;> exact absurd w o_
 |k,.kl _,w=>by cases k <;> exact absurd w o_
 |k,.dct _,w=>by cases k <;> exact absurd w o_
 |k,.set _,w=>by cases k <;> exact absurd w o_
theorem gw:∀(k:Nat) (vs:List Val),cQ k vs=true->(∀j,k<j->bX j vs=some (b8 vs))/\PyData.canLayAll0 (b8 vs)=true/\PyData.depthAll (b8 vs)<=k
 |k,[],_=>⟨λj hj=>by simp [bX,b8],rfl,CP _⟩
 |
  k,v::vs,w=>by
  have w':(wfV k v&&cQ k vs)=true:=w;rw[p_] at w';obtain⟨h1,h2,h3⟩:=iU k v w'.1;obtain⟨i1,i2,i3⟩:=gw k vs w'.2;exact⟨λj hj=>by simp [bX,b8,h1 j hj,i1 j hj],by simp [b8,PyData.canLayAll0,h2,i2],Nat.max_le.mpr ⟨h3,i3⟩⟩
end
mutual
theorem qM:∀(k:Nat) (v u:Val),wfV k v=true->wfV k u=true->PyData.eqv (c9 v) (c9 u)=vq v u
 |
  k,v,u,hv,hu=>by
  cases v <;> first |(cases k <;> exact absurd hv o_) |skip
  all_goals (cases u <;> first |(cases k <;> exact absurd hu o_) |rfl |(cases k with |zero=>exact absurd hv o_ |succ k=>exact mY k _ _ hv hu))
theorem mY:∀(k:Nat) (v u:List Val),cQ k v=true->cQ k u=true->PyData.eqvAll (b8 v) (b8 u)=vqs v u
 |_,[],[],_,_=>rfl
 |_,[],_::_,_,_=>rfl
 |_,_::_,[],_,_=>rfl
 |
  k,x::xs,y::ys,hv,hu=>by
  have h1:(wfV k x&&cQ k xs)=true:=hv;have h2:(wfV k y&&cQ k ys)=true:=hu;rw[p_] at h1 h2;show (PyData.eqv (c9 x) (c9 y)&&PyData.eqvAll (b8 xs) (b8 ys))=(vq x y&&vqs xs ys);rw[qM k x y h1.1 h2.1,mY k xs ys h1.2 h2.2]
end
def yn(hk:k<=160)(hx:wfV k x=true)(hy:wfV k y=true):bw x y=some (vq x y):=by obtain⟨h1,h2,h3⟩:=iU k x hx;obtain⟨i1,i2,i3⟩:=iU k y hy;unfold bw;rw[h1 164 (by omega),i1 164 (by omega)];dsimp only;rw[if_pos ⟨dY h2 (by omega),dY i2 (by omega)⟩,qM k x y hx hy]
def ux(hx:wfV 60 x=true)(hy:wfV 60 y=true):bw x y=some (vq x y):=yn (by decide) hx hy
mutual
theorem jv:∀(k:Nat) (v:Val),wfV k v=true->vq v v=true
 |
  k,v,hv=>by
  cases v <;> first |(cases k <;> exact absurd hv o_) |rfl |exact beq_self_eq_true _ |(cases k with |zero=>exact absurd hv o_ |succ k=>exact lM k _ hv)
theorem lM:∀(k:Nat) (v:List Val),cQ k v=true->vqs v v=true
 |_,[],_=>rfl
 |
  k,x::xs,hv=>by
  have h1:(wfV k x&&cQ k xs)=true:=hv;rw[p_] at h1;show (vq x x&&vqs xs xs)=true;rw[jv k x h1.1,lM k xs h1.2];rfl
end
noncomputable def fV (q:Rat):Val:=.tup [.int q.num,.int q.den]
structure Bx where
 l:Rat
 t:Rat
 w:Rat
 h:Rat
structure Bx.Ok(b:Bx):Prop where
 w:0<b.w
 h:0<b.h
noncomputable def bV (b:Bx):Val:=.tup [fV b.l,fV b.t,fV b.w,fV b.h]
def kd(q:Rat)(k:Nat):wfV (k+1) (fV q)=true:=by simp [fV,wfV,cQ]
def oq(b:Bx)(k:Nat):wfV (k+2) (bV b)=true:=by simp [bV,wfV,cQ,kd]
def kr(q:Rat):bJ (fV q)=true:=by simp [fV,bJ,c3]
noncomputable def knV:Val->Bool
 |.exc _=>false
 |v=>(tyC v).isSome
noncomputable def eN:Nat->Val->Bool
 |k+1,.tup xs=>xs.all (eN k)
 |_,v=>knV v
noncomputable def gJ:Val->Bool
 |.int _=>true
 |_=>false
noncomputable def aH:Val->Bool
 |.tup [.int a,.int b]=>decide (1<=b)&&decide (Int.gcd a b=1)
 |_=>false
noncomputable def eM:Val->Bool
 |.tup (.int a::_)=>decide (0<a)
 |_=>false
noncomputable def d3:Val->Bool
 |.tup [a,b,c,d]=>aH a&&(aH b&&(aH c&&(aH d&&(eM c&&eM d))))
 |_=>false
noncomputable def cI:Val->Bool
 |.tup _=>true
 |_=>false
def BB(h1:1<=b)(h2:Int.gcd a b=1):Val.tup [.int a,.int b]=fV ((a:Rat)/(b:Rat)):=by
 have hb:b≠0:=by omega
 have h:=km (a:=a) hb;have s:=Fr.self (by omega) h2;unfold fV;rw[<- h.1,<- h.2,s.1,s.2]
def fc(q:Rat):aH (fV q)=true:=by
 show (decide (1<=(q.den:Int))&&decide (Int.gcd q.num q.den=1))=true
 have:=q.den_pos
 rw[Co (by omega),Co (mQ q)];rfl
def pW(h:aH d=true):∃q,d=fV q:=by
 unfold aH at h;split at h
 .simp only[p_,DR] at h;exact⟨_,BB h.1 h.2⟩
 .cases h
def nD(q:Rat):eM (fV q)=decide (0<q):=by show decide (0<q.num)=decide (0<q);rw[decide_eq_decide];exact wH
def rJ(h:b.Ok):d3 (bV b)=true:=by show (aH (fV b.l)&&(aH (fV b.t)&&(aH (fV b.w)&&(aH (fV b.h)&&(eM (fV b.w)&&eM (fV b.h))))))=true;rw[fc,fc,fc,fc,nD,nD,Co h.w,Co h.h];rfl
def xw(b:Bx):eN 2 (bV b)=true:=by simp [bV,fV,eN,knV,tyC]
theorem mV(P:E3->Prop):∀(vs acc:List Val) (e:E3),P e->(∀v∈vs,∀e,P e->∃e1 t e2,g v e=some e1/\F e1=.ok t e2/\bG e2 t=some (e2,f v)/\P e2)->acc.length+vs.length<=16777216->∃e',P e'/\lcV g cY F vs acc e=.ok (acc++vs.map f) e'
 | [],acc,e,hp,_,_=>⟨e,hp,by simp [lcV]⟩
 |
  v::vs,acc,e,hp,hf,hl=>by
  obtain⟨e1,t,e2,q1,q2,q3,q4⟩:=hf v (r_ ..) e hp;obtain⟨e',p',q5⟩:=mV P vs (acc++[f v]) e2 q4 (λu hu=>hf u (q_ _ hu)) (by simp at hl ⊢;omega);refine⟨e',p',?_⟩;unfold lcV;rw[if_pos (by simp at hl;omega),q1];simp only[cY,ke,Ds,q2,q3,q5];simp
noncomputable def rgV (k:Nat):List Val:=(List.range k).map λj=>Val.int (j:Nat)
def m5(h:k<1000000):fA [.int (k:Nat)]=some (rgV k):=by simp only[fA];rw[if_pos (⟨by omega,by omega⟩:RgB _),Int.toNat_natCast];unfold rP rgV;simp only[Int.zero_add]
def wL(h0:0<=i)(h:i<1000000):fA [.int i]=some (rgV i.toNat):=by
 have:=m5 (k:=i.toNat) (by omega)
 rwa [show ((i.toNat:Nat):Int)=i from by omega] at this
theorem cP(fv fw:α->Val)(P:E3->Prop):∀(l:List α) (acc:List Val) (e:E3),P e->(∀a∈l,∀e,P e->∃e1 t e2,g (fv a) e=some e1/\F e1=.ok t e2/\bG e2 t=some (e2,fw a)/\P e2)->acc.length+l.length<=16777216->∃e',P e'/\lcV g qY.G F (l.map fv) acc e=.ok (acc++l.map fw) e'
 | [],acc,e,hp,_,_=>⟨e,hp,by simp [lcV]⟩
 |
  v::vs,acc,e,hp,hf,hl=>by
  obtain⟨e1,t,e2,q1,q2,q3,q4⟩:=hf v (r_ ..) e hp;obtain⟨e',p',q5⟩:=cP fv fw P vs (acc++[fw v]) e2 q4 (λu hu=>hf u (q_ _ hu)) (by simp at hl ⊢;omega);refine⟨e',p',?_⟩;rw[Cr];unfold lcV;have cy:qY.G=cY:=rfl;rw[cy] at q5 ⊢;rw[if_pos (by simp at hl;omega),q1];simp only[cY,ke,Ds,q2,q3,q5];simp
noncomputable def ji (ms:List Bool) (r:SR3):R3F:=match r with
 |.nx e=>(match muV ms e with |some mv=>.ok (.val .non) mv |none=>.stuck)
 |.rt r e=>(match muV ms e with |some mv=>.ok r mv |none=>.stuck)
 |.exc c e=>(match muV ms e with |some mv=>.exc c mv |none=>.stuck)
 |_=>.stuck
def kx(h:vs.length=ms.length):(fnP ms N c).G vs=ji ms (c.G (sls ms vs++List.replicate (N-vs.length) .no)):=by rw[bB,if_pos h];rfl
def fU(ms:List Bool)(r:Rt)(e:E3):ji ms (.rt r e)=match muV ms e with |some mv=>.ok r mv |none=>.stuck:=rfl
def xF(ms:List Bool)(c:Str)(e:E3):ji ms (.exc c e)=match muV ms e with |some mv=>.exc c mv |none=>.stuck:=rfl
def bh{Q:SR3->Prop}(I:E3->Prop){a b:PSt}{e:E3}(h1:∃e1,a.G e=.nx e1/\I e1)(h2:∀e1,I e1->Q (b.G e1)):Q ((ak a b).G e):=by obtain⟨e1,q,i⟩:=h1;rw[uM,q];exact h2 e1 i
def sm8(h:m.natAbs<1099511627776):Sm 8000 m:=t_ (show m.natAbs<2^40 from h) (CK (by decide) (by decide))
def Bz(h:m.natAbs<=2000000000000000000000000000000):Sm 101 m:=by unfold Sm;exact DD h (by decide)
def jb{m:Int}(h:0<m):(0:Rat)<(m:Rat):=Rat.intCast_pos.mpr h
def rV{a b:Int}(h1:0<a)(h2:0<b):(0:Rat)<(a:Rat)/(b:Rat):=by rw[Rat.div_def];exact Rat.mul_pos (jb h1) (Rat.inv_pos.mpr (jb h2))
def uE(h:m.natAbs<=2000000000000000000000000000000):Sm 8000 m:=(Bz h).mono (by decide)
def zl(xs ys:List Val):bN.G (.lst xs) (.lst ys)=if xs.length+ys.length<=16777216 then .new (.lst (xs++ys)) else .stuck:=rfl
section
variable{K:W.Frag}{mg:Eh}{P:Addr->Prop}{H:Hp}{ws ws':List (Key×V)}{us us':List (Key×Val)}{k:Key}
def AU(r:Rk K mg P H ws us):lkD us k=some v->∃d,lkD ws k=some d/\Rd K mg P H d v:=
 r.ind (M:=λws us=>lkD us k=some v->∃d,lkD ws k=some d/\Rd K mg P H d v) (λq=>by cases q) (λ{k2 d v2 ds vs} r _ ih q=>by
  unfold lkD at q ih ⊢;rw[C3] at q ⊢;dsimp only at q ⊢;by_cases hk:k2=k
  .rw[Co hk] at q ⊢;cases q;exact⟨d,rfl,r⟩
  .rw[Cp hk] at q ⊢;exact ih q)
def vY(r:Rk K mg P H ws us):us.map (·.1)=ws.map (·.1):=
 r.ind (M:=λws us=>us.map (·.1)=ws.map (·.1)) rfl λ_ _ ih=>by rw[Cr,Cr,ih]
def zy(r:Rk K mg P H ws us):ws.length=us.length:=
 r.ind (M:=λws us=>ws.length=us.length) rfl λ_ _ ih=>CM (· + 1) ih
def zF(r:Rk K mg P H ws us)(q:Rk K mg P H ws' us'):Rk K mg P H (ws++ws') (us++us'):=
 r.ind (M:=λws us=>Rk K mg P H (ws++ws') (us++us')) q λr _ ih=>.cons r ih
def zm(rd:Rd K mg P H d v)(r:Rk K mg P H ws us):Rk K mg P H (oy ws k d) (oy us k v):=by
 unfold oy;rw[sP (vY r)];by_cases hc:(ws.any λkv=>decide (kv.1=k))=true
 .rw[if_pos hc,if_pos hc];exact r.ind (M:=λws us=>Rk K mg P H (ws.map λkv=>if kv.1=k then (kv.1,d) else kv) (us.map λkv=>if kv.1=k then (kv.1,v) else kv)) .nil (λ{k2 d2 v2 ds vs} r _ ih=>by
   rw[Cr,Cr];dsimp only;by_cases hk:k2=k
   .rw[if_pos hk,if_pos hk];exact .cons rd ih
   .rw[if_neg hk,if_neg hk];exact .cons r ih)
 .rw[if_neg hc,if_neg hc];exact zF r (.cons rd .nil)
def yw:∀{ks:List Key}{ds:List V}{vs:List Val},Rds K mg P H ds vs->Rk K mg P H (ks.zip ds) (ks.zip vs):=by
 intro ks;induction ks with
 |nil=>intro ds vs _;exact .nil
 |
  cons k ks ih=>
  intro ds vs r;cases r with
  |nil=>exact .nil
  |cons r rr=>exact .cons r (ih rr)
end
noncomputable def ue:Val->Val->Bv:=λx y=>match x with
 |.dct kvs=>(match y with
  |.str k=>(match lkD kvs (.inr k) with
   |some v=>.val v
   |none=>.stuck)
  |_=>.stuck)
 |_=>.stuck
noncomputable def c4:PO2:=⟨ue⟩
noncomputable def sD:Val->Val->Val->Option Val:=λo i v=>match o with
 |.dct kvs=>(match i with
  |.str k=>if kvs.length<16777216 then some (.dct (oy kvs (.inr k) v)) else none
  |_=>none)
 |_=>none
noncomputable def seD:PSe:=⟨sD⟩
noncomputable def oK (ks:List Str) (A:MA3) (e:E3):R3 Tm:=(A e).bind λts e1=>match dem e1 ts with
 |some (e2,vs)=>if ks.length=vs.length then .ok (.new (.dct ((ks.map Sum.inr).zip vs))) e2 else .stuck
 |none=>.stuck
noncomputable def oA (ks:List Str) (a:PAs):PEx:=⟨26,oK ks a.G⟩
theorem qr(e:E3)(ks:List Str)(a:PAs):(oA ks a).G e=(a.G e).bind λts e1=>match dem e1 ts with
 |some (e2,vs)=>if ks.length=vs.length then .ok (.new (.dct ((ks.map Sum.inr).zip vs))) e2 else .stuck
 |none=>.stuck:=rfl
noncomputable def aL:List (Str×PEx)->PAs
 | []=>ag
 |p::r=>aa p.2 (aL r)
section
variable{K:W.Frag}{mg:Eh}{X N0:Addr->Prop}{ns ns0:Ns}{e e0:E3}{σ:St}{H H0:Hp}
def Sat.fill(S:Sat K mg (Xn X n) N0 ns e σ H)(q:H n=some o)(hf:NotFz o):Mov (Oc (Xn X n) ns) (Oc (Xn X n) ns) H (upd H n o')/\Sat K mg (Xn X n) N0 ns e σ (upd H n o'):=by
 have up:∀m,m≠n->upd H n o' m=H m:=λm z=>ax z;have mv:Mov (Oc (Xn X n) ns) (Oc (Xn X n) ns) H (upd H n o'):=⟨LeH.wr q hf,λm ob p q' _=>⟨p,by rw[up m λz=>p.1 (.inr z)];exact q'⟩⟩;refine⟨mv,⟨S.l1,S.l2,λa z=>S.lh a ?_,λm z=>?_,S.inj,S.nx,λj s qj=>(S.sl j s qj).mono mv λm ob qm qo _=>?_,S.bs.wr q hf⟩⟩
 .rw[up a λy=>by subst y;rw[aM] at z;cases z] at z;exact z
 .by_cases y:m=n
  .subst y;exact⟨o',aM⟩
  .rw[up m y];exact S.xl m z
 .rw[up m λy=>by subst y;exact S.nx j m qm (.inr rfl)];exact qo
def Stp.fill(a:Stp ns0 e0 H0 ns e H)(hn:H0 n=none)(q:H n=some o)(hf:NotFz o):Stp ns0 e0 H0 ns e (upd H n o'):=by
 have up:∀m,m≠n->upd H n o' m=H m:=λm z=>ax z;refine⟨a.le.trans (LeH.wr q hf),λm z=>a.dom m ?_,λm ob qm ht hM=>?_,a.nw,a.lk,a.lk',a.mu,a.mu'⟩
 .rw[up m λy=>by subst y;rw[aM] at z;cases z] at z;exact z
 .rw[up m λy=>by subst y;rw[hn] at qm;cases qm];exact a.keep m ob qm ht hM
def TsR.cons'{L:Addr->Prop}{t:Tm}(r:relE K mg X N0 L σ ns e H d t.drop)(rs:TsR K mg X ns σ H ds ts):TsR K mg X ns σ H (d::ds) (t.drop::ts):=by
 generalize hg:t.drop=t' at *;cases t' with
 |val v=>exact .val r rs
 |new v=>cases t <;> cases hg
 |bor i=>exact .bor r rs
end
section
variable{K:W.Frag}{mg:Eh}{X:Cx}{ES:St->XK}{a b v:Expr}{keys:List (Option Expr)}{ks:List (Option Expr)}{values vs:List Expr}{p q F:PEx}{A:PAs}{prs:List (Str×PEx)}{pos kp:Pos}
noncomputable def tps (K:W.Frag) (mg:Eh) (ES:St->XK) (prs:List (Str×PEx)):List (TE×TE):=prs.map λp=>(tC (.str p.1),rdE K mg ES p.2.G)
theorem kE:∀(prs:List (Str×PEx)) {Y N0:Addr->Prop}{ns:Ns}{e:E3}{σ:St}{H:Hp}{Q:List (V×V)->Hp->Prop},Sat K mg Y N0 ns e σ H->PG3 K mg Y N0 ns e σ H (ES σ) (λts _ ns' H'=>∀vs,TsR K mg Y ns' σ H' vs ts->Q ((prs.map λp=>V.str p.1).zip vs) H') ((aL prs).G e)->g6 (tps K mg ES prs) σ H Q
 | [],Y,N0,ns,e,σ,H,Q,S,p=>PG3.ret p S [] .nil
 |pr::r,Y,N0,ns,e,σ,H,Q,S,p=>⟨Y,N0,λ_=>True,ns,e,S,λ_ _=>trivial,PG3.imp p S λt e1 ns1 H1 a1 S1 p1 y ry=>kE r S1 (PG3.imp p1 S1 λts e2 g_ H2 a2 S2 p2 vs rs=>p2.ret S2 (y::vs) (TsR.cons' (ry.drop a2) rs))⟩
def vh(hu:X.A.units+1<cLine)(ha:DE K mg X ES a p)(hb:DE K mg X ES b q)(hs:qX b):DE K mg X ES (.Subscript a b pos) (pOp c4 p q):=⟨PE.imp (wy hu ha.ok hb.ok hs) λσ H Q zz=>zz.el λY N0 L ns e S hl p=>
 ⟨Y,
  N0,L,ns,e,S,hl,PG3.imp p S λt1 e1 ns1 H1 a1 S1 p1 x r1=>⟨Y,N0,L,ns1,e1,S1,λa z=>hl a (a1.dom a z),PG3.imp p1 S1 λt2 e2 g_ H2 a2 S2 p2 y r2=>by
  try dsimp only at p2
  split at p2
  .rename_i v u q1 q2;replace p2:PG3 K mg Y N0 g_ e2 σ H2 (ES σ) (KE K mg Y N0 L σ Q) ((ue v u).at e2):=p2;unfold ue at p2;split at p2
   .split at p2
    .split at p2
     .rename_i q3;obtain⟨a,ws,rfl,h,rk⟩:=((r1.drop a2).sh S2 q1).dct;obtain rfl:=(r2.sh S2 q2).str;obtain⟨d,q4,rd⟩:=AU rk q3;exact⟨a,d,rfl,q4 ▸ DGet.k (k:=.inr _) h,p2.ret S2 _ rd⟩
     .exact p2.elim
    .exact p2.elim
   .exact p2.elim
  .exact p2.elim⟩⟩⟩
def wc:PPs X pos [] [] (tps K mg ES []):=wq
def gv(hv:DE K mg X ES v F)(hr:PPs X pos ks vs (tps K mg ES prs)):PPs X pos (some (.Constant (.str k) j kp)::ks) (v::vs) (tps K mg ES ((k,F)::prs)):=rG qa hv.ok hr
def uX{ns:List Str}(hp:PPs X pos keys values (tps K mg ES prs))(h1:ns=prs.map (·.1):=by rfl)(h2:A=aL prs:=by rfl)(hn:ns.Nodup:=by decide)(hall:keys.all (·.isSome)=true:=by rfl)(hl:keys.length=values.length:=by rfl)(h0:keys≠[]:=by intro h;cases h)(h15:keys.length<=15:=by decide)(hp15:prs.length<=15:=by decide):DE K mg X ES (.Dict keys values pos) (oA ns A):=by
 subst h1 h2;refine⟨PE.imp (vv hp hall hl h0 h15) λσ H Q ⟨Y,N0,L,ns,e,S,hL,p⟩ pp hpp=>?_⟩;have g:=Gr.upd (u:=.dK []) hpp;have SG:=S.grow g hpp aM;refine kE prs SG ?_;replace p:PG3 K mg Y N0 ns e σ H (ES σ) (KE K mg Y N0 L σ Q) (oK (prs.map (·.1)) (aL prs).G e):=p;unfold oK at p;cases q:(aL prs).G e with
 |stuck=>rw[q] at p;exact p
 |exc c e'=>rw[q] at p;exact λH' ns' C a S' m=>p H' ns' C ((Stp.gr g).trans S a) (S'.weak λ_ z=>.inl z) m
 |
  ok ts e1=>
  rw[q] at p;intro H2 ns1 a1 S1 vs rs;replace p:PG3 K mg Y N0 ns e σ H (ES σ) (KE K mg Y N0 L σ Q) (match dem e1 ts with
   |some (e2,vs)=>if (prs.map (·.1)).length=vs.length then .ok (.new (.dct (((prs.map (·.1)).map Sum.inr).zip vs))) e2 else .stuck
   |none=>.stuck):=p
  split at p
  .rename_i e2 us qd;split at p
   .rename_i hlen;obtain⟨g_,S2,a2,r2⟩:=ez S1 rs qd;have k1:H2 pp=some (.dK []):=a1.keep pp _ aM (λ_ z=>nomatch z) λ⟨i,s,z,_⟩=>SG.nx i _ z (.inr rfl);have hlv:vs.length=prs.length:=by rw[r2.len,<- hlen,u_]
    refine⟨k1,((prs.map (·.1)).map Sum.inr).zip vs,?_,?_,?_⟩
    .rw[<- kK,List.map_map];rfl
    .rw[List.length_zip,u_,u_];omega
    .have hz:(((prs.map (·.1)).map Sum.inr).zip vs:List (Key×V)).map (·.1)=(prs.map (·.1)).map Sum.inr:=List.map_fst_zip (by rw[u_,u_];omega);rw[lj _ [] (by rw[CU,hz];exact List.Pairwise.map _ (λa b hab z=>hab (Sum.inr.inj z)) hn),CU];obtain⟨mv,S3⟩:=S2.fill (o':=.dK (((prs.map (·.1)).map Sum.inr).zip vs)) k1 trivial;exact p _ g_ ((((Stp.gr g).trans S a1).trans S a2).fill hpp k1 trivial) (S3.weak λ_ z=>.inl z) _ ⟨pp,_,rfl,hL pp hpp,λz=>(by obtain⟨o,z⟩:=S.xl _ z;rw[hpp] at z;cases z),aM,trivial,S3,.dct ((yw r2).mono mv)⟩
   .exact p.elim
  .exact p.elim
def pw:tQ K mg uH seD.G:=λP H n o u di vi d v u' Q np e hf r0 ri rd q k=>by
 replace q:sD u vi v=some u':=q;unfold sD at q;split at q
 .split at q
  .split at q
   .rename_i hl;cases q;obtain rfl:=ri.str;cases r0 with
    |dct rk=>exact⟨n,_,rfl,DPut.k (k:=.inr _) e (by rw[zy rk];exact hl),k _ trivial (.dct (zm rd rk))⟩
   .cases q
  .cases q
 .cases q
end
noncomputable def pU (n:Nat) (u:fC):MG3:=λv e=>match v with
 |.tup vs=>if vs.length=n then u vs e else none
 |.lst vs=>if vs.length=n then u vs e else none
 |_=>none
noncomputable def gtU (n:Nat) (a:PGs):PGt:=⟨3,pU n a.G⟩
section
variable{e:E3}
def g_u(n:Nat)(a:PGs)(vs:List Val):(gtU n a).G (.tup vs) e=if vs.length=n then a.G vs e else none:=rfl
end
section
variable{K:W.Frag}{mg:Eh}{X:Cx}{es:List Expr}{gs:PGs}{pos:Pos}
def yW{k n:Nat}(hK:X.K=K)(hc:X.calm=true)(h:DGs K mg X es gs)(hn:(assignEach es X.env).length=n:=by rfl)(hst:(assignEach es X.env).findIdx? (·.1)=none:=by rfl):DG K mg X (.Tuple es k pos) (gtU n gs):=by
 subst hK;exact
  ⟨PG.imp (zC hc h.ok hn hst) λv σ H Q zz=>zz.el λY N0 ns e u e' S r q k=>by
  replace q:pU n gs.G u e=some e':=q;unfold pU at q;split at q
  .split at q
   .rename_i hl;obtain⟨a,vs,rfl,z,rr⟩:=ShR.tup (.inl r);exact⟨a,vs,rfl,.inl z,by rw[rr.len];exact hl,Y,N0,ns,e,_,e',S,rr,q,k⟩
   .cases q
  .split at q
   .rename_i hl;obtain⟨a,vs,rfl,z,rr⟩:=ShR.lstL (.inl r);exact⟨a,vs,rfl,.inr z,by rw[rr.len];exact hl,Y,N0,ns,e,_,e',S,rr,q,k⟩
   .cases q
  .cases q⟩
end
theorem ar1{α:Type}{P:List α->Prop}(h:∀a,P [a]):∀us:List α,us.length=1->P us
 | [a],_=>h a
theorem ar2{α:Type}{P:List α->Prop}(h:∀a b,P [a,b]):∀us:List α,us.length=2->P us
 | [a,b],_=>h a b
open PySem PySem.Spec PyProof.Rows L2 PySem.W
noncomputable def adr (K:Frag) (x:Str):Addr:=match nsIn K mainGlobals x with
 |some (some (.ref a))=>a
 |_=>0
noncomputable def fD (K:Frag) (x:Str):Bool:=match nsIn K mainGlobals x with
 |some (some (.ref _))=>true
 |_=>false
noncomputable def oP (K:Frag) (x:Str):Bool:=match nsIn K mainGlobals x with
 |some none=>true
 |_=>false
noncomputable def xcB (K:Frag) (C:Addr):Bool:=(clsIn K C).isSome&&(findIn K (.ref C) "__getattribute__" == some (some (.builtin "BaseException.__getattribute__"))&&(findIn K (.ref C) "__getattr__" == some none&&(findIn K (.ref C) "__class__" == some (some (.builtin "object.__class__"))&&(specialIn K (.builtin "object.__class__") "__get__" == some (some (.builtin "getset_descriptor.__get__"))&&(takesIn K (.builtin "object.__class__")==some true&&(mroIn K C (.type "object")==some true&&mroIn K C (.type "BaseException")==some true))))))
noncomputable def hdB (K:Frag) (C:Addr):Bool:=typeIn K (.ref C)==some (.type "type")&&((clsIn K C).isSome&&mroIn K C (.type "BaseException")==some true)
noncomputable def clA (K:Frag):Cl->Value
 |.b n=>.type n
 |.o x=>.ref (adr K x)
noncomputable def rf (K:Frag):Cl->Bool
 |.b _=>true
 |.o x=>fD K x
noncomputable def sF (K:Frag) (p:Cl×Cl×Bool):Bool:=kitOne K (clA K p.1) (clA K p.2.1)==some p.2.2&&(rf K p.1&&rf K p.2.1)
noncomputable def xkB (K:Frag):Cl->Bool
 |.b _=>true
 |.o x=>xcB K (adr K x)
noncomputable def ou:Val->Value->Bool
 |.int i,.int j _=>i==j
 |.str x,.str y _=>x==y
 |.non,.none=>true
 |.bl b,.bool c=>b==c
 |_,_=>false
noncomputable def dV:Val->V
 |.int i=>.int i
 |.str x=>.str x
 |.bl b=>.bl b
 |_=>.non
noncomputable def kh:List Val->List Value->Bool
 | [],[]=>true
 |d::ds,v::vs=>ou d v&&kh ds vs
 |_,_=>false
noncomputable def gcB (K:Frag) (x:Str):Val->Bool
 |.tup ds=>(match nsIn K mainGlobals x with
  |some (some (.ref a))=>(match K.lookup a with
   |some ⟨.type "tuple",_,.seq its _,_⟩=>decide (its.size<=1000)&&kh ds its.toList
   |_=>false)
  |_=>false)
 |d=>match nsIn K mainGlobals x with
  |some (some v)=>ou d v
  |_=>false
noncomputable def bFn:List String:=["abs", "all", "any", "isinstance", "len", "max", "min", "sorted", "sum"]
noncomputable def bTy:List String:=["bool", "dict", "int", "list", "set", "str", "tuple", "ValueError"]
noncomputable def bIt:List String:=["range", "zip", "enumerate"]
def zj:(bFn.all λn=>bootBuiltins (Str.ofString n)==some (.builtin n))=true:=by decide
def yh:(bTy.all λn=>bootBuiltins (Str.ofString n)==some (.type n))=true:=by decide
def boF{n:String}(h:bFn.contains n=true):bootBuiltins (Str.ofString n)=some (.builtin n):=CG.mp (Cv.mp zj n (CN.mp h))
def boT{n:String}(h:bTy.contains n=true):bootBuiltins (Str.ofString n)=some (.type n):=CG.mp (Cv.mp yh n (CN.mp h))
structure Tb where
 us:List Str
 rs:List Str
 hs:List (Str×List Str)
 kt:eW
 gs:List (Str×Val)
noncomputable def Tb.ok (b:Tb) (K:Frag):Bool:=(bFn++(bTy++bIt)).all (λn=>oP K (Str.ofString n))&&(b.us.all (fD K)&&(b.rs.all (λx=>excIn K (adr K x) iB "ValueError.__new__" && fD K x)&&(b.hs.all (λp=>hdB K (adr K p.1)&&p.2.all λc=>mroIn K (adr K c) (.ref (adr K p.1))==some true&&fD K c)&&(b.kt.all (λp=>sF K p&&xkB K p.1)&&b.gs.all λp=>gcB K p.1 p.2))))
structure Tx(b:Tb)(K:Frag)(mg:Eh):Prop where
 n:∀{n:String},(bFn++(bTy++bIt)).contains n=true->mg (Str.ofString n)=none
 m:∀{x:Str},b.us.contains x=true->mg x=some (.ref (adr K x))
 x:∀{x:Str},b.rs.contains x=true->excIn K (adr K x) iB "ValueError.__new__"=true
 h:∀{x:Str}{l:List Str},(x,l)∈b.hs->XHand K (adr K x)/\∀c∈l,∀Ce,mg c=some (.ref Ce)->mroIn K Ce (.ref (adr K x))=some true
 k:KitsOk K mg b.kt
 g:∀{x:Str}{d:Val},b.gs.lookup x=some d->GC K mg x d
section
variable{K:Frag}{h:Heap}{mg:Eh}{x:Str}(X:K.In h)(G:h.Ns mainGlobals mg)
include X G
def kA(e:fD K x=true):mg x=some (.ref (adr K x)):=by
 unfold fD at e;split at e
 .rename_i a q;unfold adr;rw[q];exact mg_of X G q
 .cases e
def uy(e:oP K x=true):mg x=none:=by
 unfold oP at e;split at e
 .rename_i q;exact mg_none_of X G q
 .cases e
omit X G in
def AO{C:Addr}(e:xcB K C=true):XCls K C:=by simp only[xcB,p_,CG] at e;obtain⟨e1,e2,e3,e4,e5,e6,e7,e8⟩:=e;exact⟨e1,e2,e3,e4,e5,e6,e7,e8⟩
def uw{c:Cl}{v:Value}(e:rf K c=true)(q:ClV mg c v):v=clA K c:=by
 cases c with
 |b n=>exact q
 |o y=>obtain⟨a,rfl,m⟩:=q;rw[kA X G (show fD K y=true from e)] at m;cases m;rfl
omit X G in
def o9{d:Val}{v:Value}(e:ou d v=true):RelV (dV d) v/\∀P H,Rd K mg P H (dV d) d:=by
 unfold ou at e;split at e
 .cases CG.mp e;exact⟨⟨_,rfl⟩,λ_ _=>.int _⟩
 .cases CG.mp e;exact⟨⟨_,rfl⟩,λ_ _=>.str _⟩
 .exact⟨rfl,λ_ _=>.non⟩
 .cases CG.mp e;exact⟨rfl,λ_ _=>.bl _⟩
 .cases e
omit X G in
theorem nE:∀{ds:List Val}{vs:List Value},kh ds vs=true->Vals (ds.map dV) vs/\∀P H,Rds K mg P H (ds.map dV) ds
 | [],[],_=>⟨.nil,λ_ _=>.nil⟩
 |
  d::ds,v::vs,e=>by
  rw[kh,p_] at e;obtain⟨a1,a2⟩:=o9 (K:=K) (mg:=mg) e.1;obtain⟨b1,b2⟩:=nE e.2;exact⟨.cons a1 b1,λP H=>.cons (a2 P H) (b2 P H)⟩
 | [],_::_,e=>nomatch e
 |_::_,[],e=>nomatch e
def Bg{d:Val}(e:gcB K x d=true):GC K mg x d:=by
 unfold gcB at e;split at e
 .rename_i ds;split at e
  .rename_i a q;split at e
   .rename_i dd its n sl l;rw[p_] at e;obtain⟨v1,v2⟩:=nE (K:=K) (mg:=mg) e.2;exact⟨_,.ref a,mg_of X G q,rfl,λP H=>.tup (.inr ⟨_,its,n,l,rfl,rfl,Cw (of_decide_eq_true e.1) (by decide),v1⟩) (v2 P H)⟩
   .cases e
  .cases e
 .split at e
  .rename_i v q;obtain⟨v1,v2⟩:=o9 (K:=K) (mg:=mg) e;exact⟨_,_,mg_of X G q,v1,v2⟩
  .cases e
omit X G in
theorem pv{d:Val}:∀{l:List (Str×Val)},l.lookup x=some d->(x,d)∈l
 | [],h=>nomatch h
 |
  (y,e)::l,h=>by
  rw[CJ] at h;split at h
  .rename_i q;cases h;rw[CG.mp q];exact r_
  .exact q_ _ (pv h)
def BS{b:Tb}(e:b.ok K=true):Tx b K mg:=by
 unfold Tb.ok at e;simp only[p_] at e;obtain⟨e1,e2,e3,e4,e5,e6⟩:=e;simp only[Cv,p_] at e1 e2 e3 e4 e5 e6;refine⟨λh=>uy X G (e1 _ (CN.mp h)),λh=>kA X G (e2 _ (CN.mp h)),λh=>(e3 _ (CN.mp h)).1,λh=>?_,⟨λp hp t v h1 h2=>?_,λp hp x C e' m=>?_⟩,λh=>Bg X G (e6 _ (pv h))⟩
 .obtain⟨a1,a2⟩:=e4 _ h;refine⟨?_,λc hc Ce m=>?_⟩
  .simp only[hdB,p_,CG] at a1;exact⟨a1.1,a1.2.1,a1.2.2⟩
  .obtain⟨b1,b2⟩:=a2 c hc;rw[kA X G b2] at m;cases m;exact CG.mp b1
 .obtain⟨a1,_⟩:=e5 p hp;simp only[sF,p_,CG] at a1;rw[uw X G a1.2.1 h1,uw X G a1.2.2 h2];exact a1.1
 .obtain⟨a1,a2⟩:=e5 p hp;simp only[sF,p_,CG] at a1;have a3:=a1.2.1;rw[e'] at a2 a3;rw[kA X G (show fD K x=true from a3)] at m;cases m;exact AO a2
end
def dNm(s:Stmt):Str:=match s with
 |.FunctionDef n ..=>n
 |_=>""
def AllD(K:Frag)(mg:Eh)(top:Nat->Stmt):List Nat->Prop
 | []=>True
 |i::l=>Def K mg (dNm (top i)) (top i)/\AllD K mg top l
theorem AllD.get{K:Frag}{mg:Eh}{top:Nat->Stmt}:∀{l:List Nat},AllD K mg top l->∀i,l.contains i=true->Def K mg (dNm (top i)) (top i)
 | [],_,i,h=>nomatch h
 |
  j::l,⟨a,b⟩,i,h=>by
  rcases Cu.mp (CN.mp h) with rfl |h
  .exact a
  .exact b.get i (CN.mpr h)
def Tx.e{b:Tb}{K:Frag}{mg:Eh}{x:Str}(T:Tx b K mg)(h:b.us.contains x=true):∃a,mg x=some (.ref a):=⟨_,T.m h⟩
structure Ty(b:Tb)(top:Nat->Stmt)(ds:List Nat)(K:Frag)(mg:Eh):Prop extends Tx b K mg where
 d:AllD K mg top ds
noncomputable def scB (N P:List Str) (sc:Scope):Bool:=decide (sc.kind=.function)&&(!sc.isCoroutine&&(!sc.isGenerator&&(decide N.Nodup&&(decide (N.take P.length=P)&&(P.all (λx=>decide (sc.names.lookup x=some .local\/sc.names.lookup x=some .cell))&&sc.names.all λy=>decide (y.2 ≠ .free))))))
def aS{N P:List Str}{sc:Scope}(e:scB N P sc=true):FnScope N P sc:=by simp only[scB,p_,DR,Cv,Bool.not_eq_true'] at e;obtain⟨e1,e2,e3,e4,e5,e6,e7⟩:=e;exact⟨e1,e2,e3,e4,e5,e6,e7⟩
section
variable{K:Frag}{h:Heap}{mg:Eh}(X:K.In h)(G:h.Ns mainGlobals mg)
include X G
def za(e:rm.all (oP K)=true)(P:Addr)(q:Str):¬ tu K mg P q:=λ⟨x,f,oc,od,fd,sl,c,a1,a2,a3,_⟩=>by
 have:=uy X G (Cv.mp e x a1)
 rw[a3] at this;cases this
end
theorem jD(P:Nat->E3->Prop)(m:Nat)(hs:∀i,i<m->∀e,P i e->∃e1 e2,g (.int (i:Nat)) e=some e1/\(B e1=.nx e2\/B e1=.ct e2)/\P (i+1) e2):∀(k i:Nat) (e:E3),i+k=m->P i e->∃e',P m e'/\dG g B ((List.range' i k).map λj=>Val.int (j:Nat)) e=.nx e'
 |
  0,i,e,h,p=>by
  obtain rfl:i=m:=by omega
  exact⟨e,p,rfl⟩
 |
  k+1,i,e,h,p=>by
  obtain⟨e1,e2,q1,q2,q3⟩:=hs i (by omega) e p;obtain⟨e',p',q4⟩:=jD P m hs k (i+1) e2 (by omega) q3;refine⟨e',p',?_⟩;rw[List.range'_succ,Cr,lB,q1];rcases q2 with q2 |q2
  .simp only[q2,ur];exact q4
  .simp only[q2,BM];exact q4
def rq(P:Nat->E3->Prop)(m:Nat)(h0:P 0 e)(hs:∀i,i<m->∀e,P i e->∃e1 e2,g (.int (i:Nat)) e=some e1/\(B e1=.nx e2\/B e1=.ct e2)/\P (i+1) e2):∃e',P m e'/\dG g B (rgV m) e=.nx e':=by
 have:=jD P m hs m 0 e (by omega) h0
 rw[<- List.range_eq_range'] at this;exact this
def zc(xs:List Val)(n:Nat):fB xs none (some (n:Int))=xs.take n:=by
 unfold fB;rw[HT.sIx_none,HT.sIx_nat,List.drop_zero,Nat.sub_zero];by_cases h:n<=xs.length
 .rw[Nat.min_eq_left h]
 .rw[Nat.min_eq_right (by omega),C1 (v_ _),C1 (by omega)]
def AZ(xs:List Val)(lo hi:Option Int):aSl (.kl xs) lo hi=.new (.lst (fB xs lo hi)):=rfl
@[irreducible] def gtX(a:PGt):PGt:=a
def g_x(a:PGt)(v:Val)(e:E3):(gtX a).G v e=a.G v e:=by unfold gtX;rfl
def ZG.weak{K:W.Frag}{mg:Eh}{X:Cx}{e:PySem.Expr}{g:PGt}(h:DG K mg X e g):DG K mg X e (gtX g):=by unfold gtX;exact h
section
variable{P:Program}{w:World}{K:W.Frag}{mg:Eh}{base:Heap}{fx:Str}{j':Stmt}{k m:Nat}{pn N:List Str}{ms:List Bool}{x:PSt}
def okPU(D:Def K mg fx j')(S:FnScope N pn (aj j'))
 (hb:∀(kV doc pm:Value) (an:Option Addr) (cdv ct:Value) (us:List Value),us.length=pn.length->bindArgs (W.fnOf fx fx (bC j') (aN j') (aj j') .none kV doc pm an cdv ct) ⟨us,[]⟩=pure (pn.zip us))
 (d_:N.Nodup->∀(f:Addr) (cdv:Value) (A:Around) (outer:List Env) (s:Shared) (H:Hp) (E:XK),RoomU k (A.deeper (envOfC fx (aj j') s.heap.objs.size f cdv))->
  DSs K mg (eS (CX1 P w) P w K mg base N fx (aj j') f cdv A outer s H E) (λ_=>E) (aN j') x) (hn:ms.length=pn.length:=by rfl) (hm:N.length=m:=by rfl):CalleeU P w K mg base fx (k+1) pn (sp3 K mg (fnP ms m x)):=by
 subst hm;exact D.okRU S hb (λvs H Q E sp=>by rw[<- hn];exact md sp) λf cdv A outer s H vs Q E hr sp=>⟨_,(d_ S.nd f cdv A outer s H E hr).ok,kN sp⟩
end
section
variable{K:W.Frag}{mg:Eh}{X:Cx}{ES:St->XK}{e:Expr}{es:List Expr}{A:PAs}{pos:Pos}{k:Nat}{ps:List Str}
def pH{f:PFn}{x:Str}{p0:Pos}(C:CalleeU X.prog X.w X.K X.mg X.base x k ps (sp3 K mg f))(hr:RoomU k X.A)(hg:Gl X x)(hx:da X ES)(ha:DA K mg X ES (e::es) A)
 (hdb:(x==("__debug__" : Str))=false:=by decide) (he:starEach (e::es) X.env=(false,eval e X.env)::starEach es X.env:=by rfl) (hpl:(backTo pos (starEach es X.env)).any (·.1)=false:=by rfl):
 DE K mg X ES (.Call (.Name x p0) (e::es) [] pos) (ai f A):=by
 obtain⟨fa,fd,F',m,kp,bb,_⟩:=C.ex;refine⟨λpins s σ H Q I hh=>DJ (fW I hg m ?_ hdb)⟩;refine W.callWith_K (h₀:=X.base) I.ok.mod.kin kp (z_ (ha.ok pos pins s σ H _ I (m7 σ H Q hh)) (λus s1 zz=>exA zz λvs H1 I1 r q=>⟨I1.kIn,?_⟩) λ_ _ z=>z) he hpl;have hl:(us++[]).length=ps.length:=by rw[Du,<- r.length];exact F'.len _ _ _ _ q
 refine wpAny_call (D_ (F'.run X.A X.stack s1 H1 ⟨us,[]⟩ us vs Q (ES σ) hr I1.env0 (by simpa using bb s1 us I1.kIn hl) r q) λr s' hq=>?_);cases r with
 |error ex=>exact hx pins σ H1 s1 ex s' I1 hq
 |
  ok fl=>
  cases fl with
  |ret u=>exact I1.after hq
  |next=>exact False.elim hq
  |brk=>exact False.elim hq
  |cont=>exact False.elim hq
end
noncomputable def vLCX (I:MI3) (sub:Ek) (g:MG3) (F:ME3) (e:E3):R3 Tm:=(I e).bind λp e1=>match lcV g qY.G F p.1 [] (bz sub (lockO e1 p.2)) with
 |.ok ys e2=>if ys.length<=16777216 then .ok (.new (.lst ys)) (bj (ay sub e2 (lockO e1 p.2)) p.2) else .stuck
 |.exc c e2=>.exc c (bj (ay sub e2 (lockO e1 p.2)) p.2)
 |_=>.stuck
noncomputable def nL (i:PIt) (sub:Ek) (hs:(sub.filterMap id).Nodup) (g:PGt) (a:PEx):PEx:=⟨42,vLCX i.G sub g.G a.G⟩
theorem uK(i:PIt)(sub:Ek)(hs:(sub.filterMap id).Nodup)(g:PGt)(a:PEx)(e:E3):(nL i sub hs g a).G e=(i.G e).bind λp e1=>match lcV g.G qY.G a.G p.1 [] (bz sub (lockO e1 p.2)) with
 |.ok ys e2=>if ys.length<=16777216 then .ok (.new (.lst ys)) (bj (ay sub e2 (lockO e1 p.2)) p.2) else .stuck
 |.exc c e2=>.exc c (bj (ay sub e2 (lockO e1 p.2)) p.2)
 |_=>.stuck:=rfl
section
variable{K:W.Frag}{mg:Eh}{X:Cx}{Ex:XK}{iter tg h_:Expr}{I:PIt}{g:PGt}{p:PEx}{pos:Pos}{sub:Ek}
def yA{hsb:(sub.filterMap id).Nodup}(σ:St)(H:Hp)(Q:VK):rdE K mg (λ_=>Ex) (nL I sub hsb g p).G σ H Q->eX (rdI K mg (λ_=>Ex) I.G) sub (rdG K mg g.G) (rdT K mg (λ_=>E0) qY.G) (rdE K mg (λ_=>Ex) p.G) σ H Q:=λzz=>zz.el λY N0 L ns e S hl pp=>
 ⟨Y,
  N0,ns,e,S,PG3.imp pp S λw e1 ns1 H1 a1 S1 p1 J it hk=>by
  have hs':=jC hsb;have S2:=S1.lockO w.2;have S3:=S2.inner hs';try dsimp only at p1
  generalize hr:lcV g.G qY.G p.G w.1 [] (bz sub (lockO e1 w.2))=r at p1;have kp:∀{ns' e' H'},Stp (aA sub ns1) (bz sub (lockO e1 w.2)) H1 ns' e' H'->Kp Y ns1 w.2 H1 (Oc (Xin Y ns1 sub) ns') H':=λ{ns' e' H'} a=>⟨oU.trans a.mov,λk n ob hk1 hk2 qm ht=>a.keep n ob qm ht λ⟨j,s,z1,z2,z3⟩=>by
   obtain⟨i,y1,y2⟩:=bo z1
   have:=S1.inj i k n y2 hk2
   subst this;obtain⟨s',w1,w2⟩:=hk i hk1;have hl:(lockO e1 w.2)[i]?=some (df s'):=by rw[hk1];exact fX w1
   rcases dJ z2 with ⟨z,_⟩ |⟨i',z,y⟩
   .rw[y1] at z;cases z
   .rw[y1] at z;cases z;rcases y with ⟨y,_⟩ |⟨t,y,rfl⟩
    .rw[hl] at y;cases y
    .rw[hl] at y;cases y;cases s' <;> first |cases w2;done |cases z3;done⟩
  have k3:∀{ns' e' H'},Stp (aA sub ns1) (bz sub (lockO e1 w.2)) H1 ns' e' H'->∀n,Oc (Xin Y ns1 sub) ns' n->Oc Y ns1 n:=λ{ns' e' H'} a' n z=>⟨λy=>z.1 (.inl y),λy=>by
   by_cases w:some n∈aA sub ns1
   .obtain⟨j,w⟩:=aB.mp w;obtain⟨s,v,o,b1,b2,_⟩:=S3.own w;rcases b2 with b2 |b2
    .obtain⟨v',rfl⟩:=(fT (e:=lockO e1 _) hs').mt j s b1 b2;obtain⟨u,c1,c2⟩:=a'.mu' j v' b1;exact z.2 (aB.mpr ⟨j,by rw[c2];exact w⟩)
    .obtain⟨c1,c2⟩:=a'.lk j s b1 b2;exact z.2 (aB.mpr ⟨j,by rw[c2];exact w⟩)
   .exact z.1 (.inr ⟨y,w⟩)⟩
  have bk:∀{ns' e' H' σ'},Stp (aA sub ns1) (bz sub (lockO e1 w.2)) H1 ns' e' H'->Sat K mg (Xin Y ns1 sub) N0 ns' e' σ' H'->Sat K mg Y N0 ns1 (bj (ay sub e' (lockO e1 w.2)) w.2) σ H'/\Stp ns1 e1 H1 ns1 (bj (ay sub e' (lockO e1 w.2)) w.2) H':=λ{ns' e' H' σ'} a' S'=>by
   obtain⟨S5,a5⟩:=S2.back (Y:=Y) (fT hs') a' S'.bs (λn z=>by
    obtain⟨ob,z'⟩:=S2.xl n z;exact⟨by
     cases qh:H' n with
     |none=>rw[a'.dom n qh] at z';cases z'
     |some o'=>exact⟨o',rfl⟩,.inl z⟩) (λ_ z=>z) λj v n q1 q2=>by
    obtain⟨s,u,o,b1,b2,b3,b4,b5,b6,b7⟩:=S'.own q2;rw[q1] at b1;cases b1;cases b3;exact⟨o,b5,b6,b7.mono (.of (k3 a'))⟩
   cases hp:w.2 with
   |none=>rw[hp] at S5 a5;exact⟨S5,a5⟩
   |some k=>rw[hp] at S5 a5;obtain⟨s,w1,w2⟩:=hk k hp;exact⟨S5.unlock k,a5.unlock w1 w2⟩
  have ex:r=.stuck->False:=λz=>by subst z;exact p1.elim
  refine⟨λi m acc σ' H'=>m=w.1.length-i/\i<=w.1.length/\∃ns' e' av,Stp (aA sub ns1) (bz sub (lockO e1 w.2)) H1 ns' e' H'/\Sat K mg (Xin Y ns1 sub) N0 ns' e' σ' H'/\Rds K mg (Oc (Xin Y ns1 sub) ns') H' acc av/\lcV g.G qY.G p.G (w.1.drop i) av e'=r,⟨_,rfl,CP _,_,_,[],.refl,S3,.nil,hr⟩,?_⟩;rintro i m acc σ' H' ⟨rfl,hi,ns',e',av,a',S',ra,q'⟩;by_cases hlt:i<w.1.length
  .rw[CS hlt] at q';unfold lcV at q';split at q'
   .rename_i hla;obtain⟨go,yl⟩:=(it _ _ (kp a')).1 i _ (A_ hlt);refine .inr ⟨go,by rw[ra.len];exact hla,λacc' σ2 H2=>i+1<=w.1.length/\∃ns' e' av,Stp (aA sub ns1) (bz sub (lockO e1 w.2)) H1 ns' e' H2/\Sat K mg (Xin Y ns1 sub) N0 ns' e' σ2 H2/\Rds K mg (Oc (Xin Y ns1 sub) ns') H2 acc' av/\lcV g.G qY.G p.G (w.1.drop (i+1)) av e'=r,λacc' σ2 H2 n=>⟨_,by omega,rfl,n⟩,λx H2 y=>?_⟩;obtain⟨gr,rx⟩:=yl x H2 y;have a2:=a'.trans S3 (.gr gr);have S4:=S'.gr gr;have ra2:=ra.mono gr.mov;split at q'
    .exact (ex q'.symm).elim
    .rename_i e3 qg;refine⟨_,N0,ns',e',_,e3,S4,rx,qg,λσ3 ns3 a3 S5=>⟨_,N0,ns3,e3,S5,?_⟩⟩;have a4:=a2.trans S3 a3;have ra3:=ra2.mono a3.mov;intro H4 ns4 a5 S6;have a6:=a4.trans S3 a5;have ra4:=ra3.mono a5.mov;show if true=true then _ else _
     have q':((p.G e3).bind λtt e3=>(match bG e3 tt with
      |some (e4,y)=>lcV g.G qY.G p.G (w.1.drop (i+1)) (av++[y]) e4
      |none=>.stuck))=r:=q'
     rw[if_pos rfl];refine⟨_,N0,λ_=>True,ns4,e3,S6,λ_ _=>trivial,?_⟩;cases qp:p.G e3 with
     |stuck=>rw[qp] at q';exact (ex q'.symm).elim
     |exc c e5=>rw[qp] at q';intro H5 ns5 C a7 S7 hC;have q':R3.exc c e5=r:=q';subst q';obtain⟨S8,a8⟩:=bk (a6.trans S3 a7) S7;exact p1 _ _ C a8 S8 hC
     |
      ok tt e5=>
      rw[qp] at q';intro H5 ns5 a7 S7 v rv;have q':(match bG e5 tt with
       |some (e4,y)=>lcV g.G qY.G p.G (w.1.drop (i+1)) (av++[y]) e4
       |none=>.stuck)=r:=q'
      split at q'
      .rename_i e6 u qd;obtain⟨ns6,S8,a8,r8⟩:=cw S7 rv qd;exact⟨hlt,ns6,e6,_,(a6.trans S3 a7).trans S3 a8,S8,((ra4.mono a7.mov).mono a8.mov).append (.cons r8 .nil),q'⟩
      .exact (ex q'.symm).elim
   .exact (ex q'.symm).elim
  .have hi2:i=w.1.length:=by omega
   subst hi2;rw[List.drop_length] at q';have q':R3.ok av e'=r:=q';subst q';try dsimp only at p1
   split at p1
   .rename_i hy;obtain⟨S6,a6⟩:=bk a' S';refine .inl ⟨(it _ _ (kp a')).2,by rw[ra.len];exact hy,λD hD=>?_⟩;exact PG3.bv (b:=.new (.lst av)) (p1.after S1 a6) S6 (λa z=>hl a (a1.dom a (a6.dom a z))) H' D _ .refl hD trivial (.lst (ra.mono (.of (k3 a'))))
   .exact p1.elim⟩
def Bi{scope:Scope}(M:List Str)(kn:List (Str×NameKind))(N:List Str)(sub:Ek){hsb:(sub.filterMap id).Nodup}(hi:DI K mg X (λ_=>Ex) tg iter I)(hg:N.Nodup->∀cl C s₂ H fp,DG K mg (aC X N scope cl C s₂ H fp) tg g)(he:N.Nodup->∀cl C s₂ H fp,da (eJ X N scope cl C s₂ H fp Ex) (λ_=>Ex)->DE K mg (eJ X N scope cl C s₂ H fp Ex) (λ_=>Ex) h_ p)(hT:X.Top:=by exact qU)(hxx:ir X Ex:=by exact tP)(hnd:N.Nodup:=by decide)(hc:X.calm=true:=by rfl)(hM:X.N=M:=by rfl)(hkn:X.env.scope.names=kn:=by rfl)(i_:gW M scope.names sub N=true:=by decide)(hk:scope.kind=.function:=by rfl)(hnc:∀x∈scope.names,x.2 ≠ .cell:=by decide)(b_:∀x∈scope.names,x.2=.local->scope.names.lookup x.1=some .local:=by decide)(hfr:mm kn scope.names=true:=by decide)(hsl:sub.length=N.length:=by rfl)(hs:∀x,foldedSetIterable iter X.env x=pure x:=by intro _;rfl):DE K mg X (λ_=>Ex) (.ListComp h_ [⟨tg,iter,[],0⟩] scope pos) (nL I sub hsb g p):=
 ⟨PE.imp (yt hT hxx hc hi.ok hk hnc b_ (by subst hkn;exact iD hfr) hsl (by subst hM;exact gu i_) (λcl C s H f=>(hg hnd cl C s H f).ok) (λcl C s H f=>(dm (K:=K) (mg:=mg) (ES:=λ_=>E0)).ok) (λcl C s H f=>(he hnd cl C s H f (ui AQ)).ok) hs) yA⟩
end
open PySem PySem.Spec PySem.Builtin.Str PyProof.Rows L2
noncomputable def hU:Val->Val->Bv:=λx y=>match x,y with
 |.str z,.int i=>if z.length<=16/\0<=i/\i<=1000 then .val (.str (Txt.mul z i)) else .stuck
 |_,_=>.stuck
noncomputable def j8:PO2:=⟨hU⟩
def xQ{z:Str}{i:Int}(hz:z.length<=16/\0<=i/\i<=1000):j8.G (.str z) (.int i)=.val (.str (Txt.mul z i)):=by show hU (.str z) (.int i)=_;unfold hU;dsimp only;rw[if_pos hz]
noncomputable def eR:List Val->Option (List Str)
 | []=>some []
 |.str x::vs=>(eR vs).map (x :: ·)
 |_::_=>none
theorem jQ:∀l:List Str,eR (l.map .str)=some l
 | []=>rfl
 |x::l=>by rw[Cr,eR,jQ l];rfl
noncomputable def ij:Val->Val->Bv:=λx y=>match x,y with
 |.str z,.str u=>if z.length+u.length<=16777216 then .val (.str (z++u)) else .stuck
 |_,_=>.stuck
noncomputable def bT:PO2:=⟨ij⟩
def eh{z u:Str}(hz:z.length+u.length<=16777216):bT.G (.str z) (.str u)=.val (.str (z++u)):=by show ij (.str z) (.str u)=_;unfold ij;dsimp only;rw[if_pos hz]
noncomputable def sm:Val->Val->Bv:=λx y=>match x,y with
 |.lst xs,.int i=>if i=-1 then .new (.lst xs.reverse) else .stuck
 |_,_=>.stuck
noncomputable def n5:PO2:=⟨sm⟩
def Ao(xs:List Val):n5.G (.lst xs) (.int (-1))=.new (.lst xs.reverse):=rfl
noncomputable def fb (z:Str):List Val:=z.cps.toList.map λc=>Val.str ⟨#[c]⟩
noncomputable def txI:Option Val->Option (List Val)
 |some (.str z)=>if z.cps.all (· < 128)=true then some (fb z) else none
 |_=>none
noncomputable def Bu (F:ME3) (e:E3):R3 (List Val×Option Nat):=(F e).bind λt e1=>match txI (rs e1 t) with
 |some xs=>.ok (xs,none) e1
 |none=>.stuck
noncomputable def n1 (a:PEx):PIt:=⟨9,Bu a.G⟩
theorem BQ(a:PEx)(e:E3):(n1 a).G e=(a.G e).bind λt e1=>match txI (rs e1 t) with
 |some xs=>.ok (xs,none) e1
 |none=>.stuck:=rfl
def yS{z:Str}(h:z.cps.all (· < 128)=true):txI (some (.str z))=some (fb z):=if_pos h
noncomputable def lP:Val->Bool
 |.str _=>true
 |_=>false
noncomputable def vMs (m:List Val->Bv) (F:ME3) (A:MA3) (e:E3):R3 Tm:=(F e).bind λt e1=>if (rs e1 t).map lP=some true then (A e1).bind λts e2=>(match rs e2 t.drop,rss e2 ts with
 |some v,some vs=>if lP v=true then (m (v::vs)).at e2 else .stuck
 |_,_=>.stuck) else .stuck
noncomputable def pMs (m:PBf) (a:PEx) (b:PAs):PEx:=⟨43,vMs m.G a.G b.G⟩
@[simp] theorem aX(xs:Str):lP (.str xs)=true:=rfl
theorem cT(m:PBf)(a:PEx)(b:PAs)(e:E3):(pMs m a b).G e=(a.G e).bind λt e1=>if (rs e1 t).map lP=some true then (b.G e1).bind λts e2=>(match rs e2 t.drop,rss e2 ts with
 |some v,some vs=>if lP v=true then (m.G (v::vs)).at e2 else .stuck
 |_,_=>.stuck) else .stuck:=rfl
noncomputable def fSw:List Val->Bv:=λvs=>match vs with
 | [.str a,.str b]=>.val (.bl (Txt.startswith a b))
 |_=>.stuck
noncomputable def nW:PBf:=⟨fSw⟩
noncomputable def nJ:List Val->Bv:=λvs=>match vs with
 | [.str a,.str b]=>if (b.length==0)=false/\a.length<=16777216 then .val (.tup ((nK a b).map .str)) else .stuck
 |_=>.stuck
noncomputable def kG:PBf:=⟨nJ⟩
noncomputable def kW:List Val->Bv:=λvs=>match vs with
 | [.str a,.str b]=>if (b.length==0)=false/\a.length<=16777216/\(Txt.split a b).length<=16777216 then .new (.lst ((Txt.split a b).map .str)) else .stuck
 |_=>.stuck
noncomputable def iS:PBf:=⟨kW⟩
noncomputable def g9:List Val->Bv:=λvs=>match vs with
 | [.str a,.lst us]=>match eR us with
  |some zs=>if JoinOk a zs=true then .val (.str (Txt.join a zs)) else .stuck
  |none=>.stuck
 |_=>.stuck
noncomputable def cG:PBf:=⟨g9⟩
noncomputable def kF:List Val->Bv:=λvs=>match vs with
 | [.int i]=>if i.natAbs<2^1900 then .val (.str (Str.ofString (toString i))) else .stuck
 |_=>.stuck
noncomputable def fY:PBf:=⟨kF⟩
noncomputable def il:List Val->Bv:=λvs=>match vs with
 |
  [.str x]=>if x.length<=640 then match PySem.intText? x with
   |some n=>.val (.int n)
   |none=>.stuck
  else .stuck
 |_=>.stuck
noncomputable def ip:PBf:=⟨il⟩
def k_sw(a b:Str):nW.G [.str a,.str b]=.val (.bl (Txt.startswith a b)):=rfl
def p9{a b:Str}(h1:(b.length==0)=false)(h2:a.length<=16777216):kG.G [.str a,.str b]=.val (.tup [.str (Txt.partition a b).1,.str (Txt.partition a b).2.1,.str (Txt.partition a b).2.2]):=if_pos ⟨h1,h2⟩
def mP{a b:Str}(h1:(b.length==0)=false)(h2:a.length<=16777216)(h3:(Txt.split a b).length<=16777216):iS.G [.str a,.str b]=.new (.lst ((Txt.split a b).map .str)):=if_pos ⟨h1,h2,h3⟩
def ia{a:Str}{zs:List Str}(h:JoinOk a zs=true):cG.G [.str a,.lst (zs.map .str)]=.val (.str (Txt.join a zs)):=by show g9 [.str a,.lst (zs.map .str)]=_;unfold g9;dsimp only;rw[jQ];dsimp only;rw[if_pos h]
def oI{i:Int}(h:i.natAbs<2^1900):fY.G [.int i]=.val (.str (Str.ofString (toString i))):=by show kF [.int i]=_;unfold kF;dsimp only;rw[if_pos h]
def oX{x:Str}{n:Int}(h:x.length<=640)(hn:PySem.intText? x=some n):ip.G [.str x]=.val (.int n):=by show il [.str x]=_;unfold il;dsimp only;rw[if_pos h,hn]
noncomputable def rW:Val->Val->Bv:=λx y=>match x,y with
 |.str i,.str j=>.val (.bl (!(occurrences j i 0 j.length 1).isEmpty))
 |_,_=>.stuck
noncomputable def lE:PO2:=⟨rW⟩
def B6(i j:Str):lE.G (.str i) (.str j)=.val (.bl (!(occurrences j i 0 j.length 1).isEmpty)):=rfl
section
variable{K:W.Frag}{mg:Eh}
theorem gh:∀zs:List Str,Rds K mg P H (zs.map V.str) (zs.map Val.str)
 | []=>.nil
 |z::zs=>.cons (.str z) (gh zs)
def sv{ds:List V}{vs:List Val}{zs:List Str}(r:Rds K mg P H ds vs):eR vs=some zs->ds=zs.map V.str:=
 r.ind (M:=λds vs=>∀zs,eR vs=some zs->ds=zs.map V.str) (λzs e=>by cases e;rfl) (λ{d v ds vs} r _ ih zs e=>by
  unfold eR at e;split at e
  .rename_i z;exact nomatch z
  .rename_i z;cases z;obtain⟨ms,e1,rfl⟩:=B_.mp e;obtain rfl:=ShR.str (.inl r);rw[ih ms e1];rfl
  .cases e) zs
def vQ:OpD K mg uS j8.G:=λP H x y v u Q rx ry p=>by
 replace p:BvP K mg P H Q (hU v u):=p;unfold hU at p;split at p
 .obtain rfl:=rx.str;obtain rfl:=ry.int;split at p
  .rename_i hz;exact⟨_,_,rfl,rfl,hz.1,hz.2.1,hz.2.2,bv p (.str _)⟩
  .exact p.elim
 .exact p.elim
def wX:OpD K mg uN bT.G:=λP H x y v u Q rx ry p=>by
 replace p:BvP K mg P H Q (ij v u):=p;unfold ij at p;split at p
 .obtain rfl:=rx.str;obtain rfl:=ry.str;split at p
  .rename_i hz;exact⟨_,_,rfl,rfl,hz,bv p (.str _)⟩
  .exact p.elim
 .exact p.elim
def xx:OpD K mg rInT lE.G:=λP H x y v u Q rx ry p=>by
 replace p:BvP K mg P H Q (rW v u):=p;unfold rW at p;split at p
 .obtain rfl:=rx.str;obtain rfl:=ry.str;exact⟨_,_,rfl,rfl,bv p (.bl _)⟩
 .exact p.elim
def xM:cq K mg rStr fY.G:=λP H xs vs Q r0 p=>by
 replace p:BvP K mg P H Q (kF vs):=p;unfold kF at p;split at p
 .split at p
  .rename_i hi;obtain⟨d,rfl,r⟩:=bS r0;obtain rfl:=r.int;exact⟨_,rfl,hi,bv p (.str _)⟩
  .exact p.elim
 .exact p.elim
def uW:cq K mg uJ ip.G:=λP H xs vs Q r0 p=>by
 replace p:BvP K mg P H Q (il vs):=p;unfold il at p;split at p
 .split at p
  .rename_i hx;split at p
   .rename_i n hn;obtain⟨d,rfl,r⟩:=bS r0;obtain rfl:=r.str;exact⟨_,_,rfl,hx,hn,bv p (.int _)⟩
   .exact p.elim
  .exact p.elim
 .exact p.elim
def MsD(K:W.Frag)(mg:Eh)(r:V->List V->Hp->VK->Prop)(m:List Val->Bv):Prop:=∀P H d v ds vs Q,ShR K mg P H d v->ShRs K mg P H ds vs->BvP K mg P H Q (m (v::vs))->r d ds H Q
def A3:MsD K mg rSw nW.G:=λP H d v ds vs Q rd rs p=>by
 replace p:BvP K mg P H Q (fSw (v::vs)):=p;unfold fSw at p;split at p
 .rename_i e;cases e;obtain rfl:=rd.str;obtain⟨x,rfl,r⟩:=bS rs;obtain rfl:=r.str;exact⟨_,_,rfl,rfl,bv p (.bl _)⟩
 .exact p.elim
def wz:MsD K mg uB kG.G:=λP H d v ds vs Q rd rs p=>by
 replace p:BvP K mg P H Q (nJ (v::vs)):=p;unfold nJ at p;split at p
 .rename_i e;cases e;split at p
  .rename_i hc;obtain rfl:=rd.str;obtain⟨x,rfl,r⟩:=bS rs;obtain rfl:=r.str;exact⟨_,_,rfl,rfl,hc.1,hc.2,λl hl=>p (upd H l _) (.ref l) (Gr.upd hl) (.tup (.inl (.inl aM)) (gh _))⟩
  .exact p.elim
 .exact p.elim
def tY:MsD K mg pX iS.G:=λP H d v ds vs Q rd rs p=>by
 replace p:BvP K mg P H Q (kW (v::vs)):=p;unfold kW at p;split at p
 .rename_i e;cases e;split at p
  .rename_i hc;obtain rfl:=rd.str;obtain⟨x,rfl,r⟩:=bS rs;obtain rfl:=r.str;exact⟨_,_,rfl,rfl,hc.1,hc.2.1,hc.2.2,λl hl=>p H l _ .refl hl trivial (.lst (gh _))⟩
  .exact p.elim
 .exact p.elim
def nc:MsD K mg (uL K) cG.G:=λP H d v ds vs Q rd rs p=>by
 replace p:BvP K mg P H Q (g9 (v::vs)):=p;unfold g9 at p;split at p
 .rename_i e;cases e;split at p
  .rename_i zs q;split at p
   .rename_i hj;obtain rfl:=rd.str;obtain⟨x,rfl,r⟩:=bS rs;obtain⟨a,ys,rfl,h,rr⟩:=r.lstL;obtain rfl:=sv rr q;exact⟨_,_,zs,rfl,rfl,h,hj,bv p (.str _)⟩
   .exact p.elim
  .exact p.elim
 .exact p.elim
variable{X:Cx}{ES:L2.St->XK}{tg l o e st:Expr}{es:List Expr}{p q:PEx}{A:PAs}{pos p2:Pos}
def um{name:Str}{id:String}{apos cpos:Pos}{r:V->List V->Hp->VK->Prop}{k:PBf}(slot:Slot "str" name id)(hty:typeOf (.builtin id)=pure (.type "method_descriptor"))(hm:MtR X id r)(hd:MsD K mg r k.G)(ho:DE K mg X ES o p)(ha:DA K mg X ES (e::es) A)(hbase:attributeBase o name X.env (eval o X.env)=eval o X.env:=by rfl)(hfew:((backTo cpos (starEach (e::es) X.env)).all (λx=>!x.1)&&(backToKw cpos (keywordEach [] X.env)).all (λx=>x.1.isSome)&&decide ((e::es).length+([]:List Keyword).length+(if ([]:List Keyword).isEmpty then 0 else 1)<30))=true:=by rfl)(hline:(apos.endLine==cpos.line)=true:=by rfl)(hs:starEach (e::es) X.env=(false,eval e X.env)::starEach es X.env:=by rfl)(e_:(backTo cpos (starEach es X.env)).any (·.1)=false:=by rfl):DE K mg X ES (.Call (.Attribute o name apos) (e::es) [] cpos) (pMs k p A):=by
 exact
  ⟨PE.imp (oV PySem.F.plainAttrs_str slot hty hm ho.ok ha.ok hbase hfew hline hs e_) λσ H Q zz=>zz.el λY N0 L ns e S hl p=>
  ⟨Y,
   N0,L,ns,e,S,hl,PG3.imp p S λt e1 ns1 H1 a1 S1 p1 x r1=>by
   try dsimp only at p1
   split at p1
   .rename_i hq;obtain⟨v0,z1,z2⟩:=B_.mp hq;have ty:tyV X.K "str" x H1:=by
     cases v0 with
     |str z=>rw[(r1.sh S1 z1).str];rfl
     |_=>cases z2
    refine⟨ty,Y,N0,ns1,e1,S1,PG3.imp p1 S1 λts e2 g_ H2 a2 S2 p2 xs r2=>?_⟩;try dsimp only at p2
    split at p2
    .rename_i v vs q1 q2;split at p2
     .rename_i hv;exact hd _ _ _ _ _ _ _ ((r1.drop a2).sh S2 q1) (r2.sh S2 q2) (p2.bv S2 λa z=>hl a (a1.dom a (a2.dom a z)))
     .exact p2.elim
    .exact p2.elim
   .exact p1.elim⟩⟩
def ItS.txt(z:Str):ItS K mg X0 ns kk H0 (Itx z) (fb z):=λP H' st=>by
 refine⟨λi v e=>?_,?_⟩
 .unfold fb at e;rw[Cs] at e;cases q:z.cps.toList[i]? with
  |none=>rw[q] at e;cases e
  |some c=>rw[q] at e;cases e;refine⟨(l_.mp q).1,λx H1 y=>?_⟩;obtain⟨rfl,c',e1,rfl⟩:=y;rw[q] at e1;cases e1;exact⟨.refl,.str _⟩
 .show z.cps.toList.length<=(fb z).length;unfold fb;rw[u_];exact v_ _
def u9(he:DE K mg X ES l p):DI K mg X ES tg l (n1 p):=
 ⟨PI.imp
  (w9 he.ok) λσ H R zz=>rdI.el zz λY N0 ns e S q=>⟨Y,N0,λ_=>True,ns,e,S,λ_ _=>trivial,PG3.imp q S λt e1 ns1 H1 a1 S1 p1 x r1=>by
  try dsimp only at p1
  split at p1
  .rename_i xs z;unfold txI at z;split at z
   .rename_i y q1;split at z
    .rename_i ha;cases z;exact⟨y,(r1.sh S1 q1).str,ha,p1.ret S1 _ (ItS.txt y) λ_ z=>nomatch z⟩
    .cases z
   .cases z
  .exact p1.elim⟩⟩
def yB(hK:X.K=K)(he:DE K mg X ES e p)(hs:DE K mg X ES st q):DE K mg X ES (.Subscript e (.Slice none none (some st) p2) pos) (pOp n5 p q):=by
 subst hK;exact
  ⟨PE.imp (xg he.ok hs.ok) λσ H Q zz=>gQ (r:=λx y H2 Q=>y=.int (-1)/\∃a xs,x=.ref a/\SqL X.K H2 a xs/\∀p,H2 p=none->Q (.ref p) (upd H2 p (.lst xs.reverse))) (λP H x y v u Q rx ry p=>by
  replace p:BvP X.K mg P H Q (sm v u):=p;unfold sm at p;split at p
  .obtain rfl:=ry.int;split at p
   .rename_i hi;obtain⟨a,ys,rfl,h,rr⟩:=rx.lstL;exact⟨by rw[hi],a,ys,rfl,h,λl hl=>p H l _ .refl hl trivial (.lst rr.reverse)⟩
   .exact p.elim
  .exact p.elim) σ H Q zz⟩
end
open PySem PySem.Spec PySem.Builtin PySem.Builtin.Str PySem.NumText PySem.StrLaws PyProof.Rows L2
noncomputable def tn (i:Int):Str:=Str.ofString (toString i)
noncomputable def dg (m:Nat):List Nat:=(Nat.toDigits 10 m).map Char.toNat
def eD{a b:Str}(h:a.cps.toList=b.cps.toList):a=b:=Str.ext' (Array.toList_inj.mp h)
def cz(a b:Str):(a++b).cps.toList=a.cps.toList++b.cps.toList:=by rw[Str.cps_append,Array.toList_append]
def bx(a:Str):a.length=a.cps.toList.length:=Dt.symm
def cX(m:Nat):(tn m).cps.toList=dg m:=W.KIN.signs_num m
def qb{m:Nat}(h:0<m):(tn (-(m:Nat))).cps.toList=45::dg m:=by obtain⟨k,rfl⟩:∃k,m=k+1:=⟨m-1,by omega⟩;unfold tn;rw[signs_ofString];show (("-" ++ Nat.repr (k+1)).toList).map Char.toNat=_;rw[String.toList_append,Nat.toList_repr];rfl
def fo{m c:Nat}(h:c∈dg m):48<=c/\c<=57:=by obtain⟨ch,hch,rfl⟩:=C2.mp h;exact digit_range (Nat.isDigit_of_mem_toDigits (by decide) (by decide) hch)
def kz(m:Nat):dg m≠[]:=λe=>Nat.toDigits_ne_nil (List.map_eq_nil_iff.mp e)
def lJ{m k:Nat}(hk:0<k):(dg m).length<=k ↔ m<10^k:=by unfold dg;rw[u_];exact Nat.length_toDigits_le_iff (by decide) hk
def dw(i:Int):(0<=i/\(tn i).cps.toList=dg i.natAbs)\/(i<0/\(tn i).cps.toList=45::dg i.natAbs):=by
 by_cases h:0<=i
 .obtain⟨m,rfl⟩:=DM h;exact .inl ⟨h,cX m⟩
 .obtain⟨m,rfl⟩:∃m:Nat,i=-(m:Nat):=⟨i.natAbs,by omega⟩;have hm:0<m:=by omega
  exact .inr ⟨by omega,by rw[Int.natAbs_neg,Cy];exact qb hm⟩
def ef{i:Int}{c:Nat}(h:c∈(tn i).cps.toList):c=45\/(48<=c/\c<=57):=by
 rcases dw i with ⟨_,e⟩ |⟨_,e⟩
 .rw[e] at h;exact .inr (fo h)
 .rw[e] at h;rcases Cu.mp h with h |h
  .exact .inl h
  .exact .inr (fo h)
def cL{i:Int}(h:i.natAbs<10^70):(tn i).length<=71:=by
 have h1:(dg i.natAbs).length<=70:=(lJ (by decide)).mpr h;rw[bx];rcases dw i with ⟨_,e⟩ |⟨_,e⟩
 .rw[e];omega
 .rw[e,CF];omega
def wO{i:Int}(h:i.natAbs<10^70):PySem.intText? (tn i)=some i:=by
 have hl:=cL h;have hv:=W.KIN.val_back i.natAbs;have hd:AllDigits (dg i.natAbs):=λc hc=>fo hc;rcases dw i with ⟨h0,e⟩ |⟨h0,e⟩
 .have q:=intText_digits (x:=tn i) (by rw[e];exact hd) (by rw[e];exact kz _) (by omega);rw[e] at q;rw[q];refine CM some ?_;show ((digitsVal (dg i.natAbs):Nat):Int)=i;rw[show digitsVal (dg i.natAbs)=i.natAbs from hv];omega
 .rw[intText_neg e hd (kz _) (by omega)];refine CM some ?_;rw[show digitsVal (dg i.natAbs)=i.natAbs from hv];omega
def rz{m:Nat}(h:0<m):((Str.ofString "-" : Str)++tn (m:Nat))=tn (-(m:Nat)):=by refine eD ?_;rw[cz,cX,qb h];rfl
def tR(i:Int):Txt.startswith (tn i) (Str.ofString "-")=decide (i<0):=by
 unfold Txt.startswith;rw[subAt_eq,List.drop_zero,bx (tn i)];rw[show (Str.ofString "-" : Str).length=1 from rfl,show (Str.ofString "-" : Str).cps.toList=[45] from rfl];rcases dw i with ⟨h0,e⟩ |⟨h0,e⟩
 .rw[e,Cp (show ¬ i<0 by omega)];have hn:=kz i.natAbs;have hr:∀c∈dg i.natAbs,48<=c/\c<=57:=λc hc=>fo hc;revert hn hr;generalize dg i.natAbs=l;intro hn hr;cases l with
  |nil=>exact absurd rfl hn
  |
   cons c l=>
   have:=hr c (r_ ..)
   have:([c]==[45])=false:=by rw[Cq];intro z;injection z with z;omega
   show (_&&([c]==[45]))=false;rw[this,Bool.and_false]
 .rw[e,Co h0];show (decide (0+1<=(45::dg i.natAbs).length)&&([45]==[45]))=true;rw[Co (by rw[CF];omega)];rfl
def wm(i:Int):(if decide (i<0)=true then Txt.slice (tn i) (some 1) none else tn i)=tn (i.natAbs:Nat):=by
 refine eD ?_;rcases dw i with ⟨h0,e⟩ |⟨h0,e⟩
 .rw[if_neg (by rw[Cp (by omega)];exact o_),e,cX]
 .have hl:(tn i).length=(dg i.natAbs).length+1:=by rw[bx,e,CF]
  rw[if_pos (Co h0),slice_from_eq (b:=(tn i).length) (by decide) (by omega) rfl,e,cX];show ((dg i.natAbs).take _)=_;rw[C1];omega
def wY(m:Nat){c:Nat}(h:c∈(tn (m:Nat)).cps.toList):(occurrences (Str.ofString "0123456789") ⟨#[c]⟩ 0 (Str.ofString "0123456789").length 1).isEmpty=false:=by
 rw[cX] at h
 have:=fo h
 obtain rfl |rfl |rfl |rfl |rfl |rfl |rfl |rfl |rfl |rfl:c=48\/c=49\/c=50\/c=51\/c=52\/c=53\/c=54\/c=55\/c=56\/c=57:=by omega
 all_goals decide +kernel
def xr(i:Int):(tn i).cps.all (· < 128)=true:=by
 rw[<- DZ,Cv];intro c hc
 have:=ef hc
 exact Co (by omega)
def gZ(x:Str)(c i:Nat):At x ⟨#[c]⟩ x.length i ↔ x.cps.toList[i]?=some c:=by
 unfold At;rw[subAt_eq,bx];show i+1<=x.cps.toList.length/\((x.cps.toList.drop i).take 1==[c])=true ↔ _;rw[CG];constructor
 .rintro⟨h,e⟩;rw[CS (by omega)] at e;rw[A_ (by omega)];exact CM some (DY e).1
 .intro e;obtain⟨h,e⟩:=l_.mp e;refine⟨h,?_⟩;rw[CS h,e];rfl
def wC{x:Str}{c:Nat}(h:c∉x.cps.toList):Txt.partition x ⟨#[c]⟩=(x,Str.empty,Str.empty):=by
 unfold Txt.partition;rcases occ_head x ⟨#[c]⟩ 1 (v_ _) with ⟨e,_⟩ |⟨i,r,e,a,_⟩
 .rw[e]
 .exact absurd (CT ((gZ x c i).mp a)) h
def vt{a b:Str}{c:Nat}(h:c∉a.cps.toList):Txt.partition (a++⟨#[c]⟩++b) ⟨#[c]⟩=(a,⟨#[c]⟩,b):=by
 have hx:(a++⟨#[c]⟩++b).cps.toList=a.cps.toList++c::b.cps.toList:=by rw[cz,cz,Dj];rfl
 unfold Txt.partition;have ha:(a++⟨#[c]⟩++b).cps.toList[a.cps.toList.length]?=some c:=by rw[hx,C7 (v_ _),Nat.sub_self];rfl
 rcases occ_head (a++⟨#[c]⟩++b) ⟨#[c]⟩ 1 (v_ _) with ⟨e,n⟩ |⟨i,r,e,q,n⟩
 .exact absurd ((gZ _ c _).mpr ha) (n _)
 .rw[gZ,hx] at q;have hi:i=a.cps.toList.length:=by
   rcases Nat.lt_trichotomy i a.cps.toList.length with z |z |z
   .rw[CC z] at q;exact absurd (CT q) h
   .exact z
   .exact absurd ((gZ _ c _).mpr ha) (n _ z)
  subst hi;rw[e];have hl:(a++⟨#[c]⟩++b).length=a.cps.toList.length+1+b.cps.toList.length:=by rw[bx,hx,Cz,CF];omega
  show (strSub (a++⟨#[c]⟩++b) 0 a.cps.toList.length,(⟨#[c]⟩:Str),strSub (a++⟨#[c]⟩++b) (a.cps.toList.length+1) (a++⟨#[c]⟩++b).length)=_;refine congr (CM Prod.mk (eD ?_)) (CM (Prod.mk _) (eD ?_))
  .rw[strSub_toList,hx,List.drop_zero,Nat.sub_zero,List.take_left'];rfl
  .rw[strSub_toList,hl,hx,List.drop_append,List.drop_of_length_le (Nat.le_succ _),show a.cps.toList.length+1-a.cps.toList.length=1 by omega];show b.cps.toList.take _=_;exact C1 (by omega)
theorem nu{c:Nat}:∀{a b r s:List Nat},c∉a->c∉b->a++c::r=b++c::s->a=b/\r=s
 | [],[],_,_,_,_,e=>⟨rfl,(DY e).2⟩
 | [],y::b,_,_,_,hb,e=>absurd (show c∈y::b by rw[(DY e).1];exact r_ ..) hb
 |x::a,[],_,_,ha,_,e=>absurd (show c∈x::a by rw[<- (DY e).1];exact r_ ..) ha
 |
  x::a,y::b,_,_,ha,hb,e=>by
  obtain⟨h1,h2⟩:=DY e;obtain⟨h3,h4⟩:=nu (λz=>ha (q_ _ z)) (λz=>hb (q_ _ z)) h2;exact⟨by rw[h1,h3],h4⟩
def bP(y a b:Str)(l:List Str):(Str.join y (a::b::l)).cps.toList=a.cps.toList++(y.cps.toList++(Str.join y (b::l)).cps.toList):=by show (a++y++Str.join y (b::l)).cps.toList=_;rw[cz,cz,Dj]
theorem mf{c:Nat}:∀{as bs:List Str},as≠[]->bs≠[]->(∀a∈as,c∉a.cps.toList)->(∀b∈bs,c∉b.cps.toList)->(Str.join ⟨#[c]⟩ as).cps.toList=(Str.join ⟨#[c]⟩ bs).cps.toList->as=bs
 | [],_,h,_,_,_,_=>absurd rfl h
 |_,[],_,h,_,_,_=>absurd rfl h
 | [a],[b],_,_,_,_,e=>by rw[show a=b from eD e]
 |
  [a],b::b'::bs,_,_,ha,_,e=>by
  rw[bP] at e;refine absurd ?_ (ha a (r_ ..));rw[show a.cps.toList=_ from e];exact y_ _ (r_ ..)
 |
  a::a'::as,[b],_,_,_,hb,e=>by
  rw[bP] at e;refine absurd ?_ (hb b (r_ ..));rw[show b.cps.toList=_ from e.symm];exact y_ _ (r_ ..)
 |
  a::a'::as,b::b'::bs,_,_,ha,hb,e=>by
  rw[bP,bP] at e;obtain⟨h1,h2⟩:=nu (ha a (r_ ..)) (hb b (r_ ..)) e;rw[eD h1,mf (by simp) (by simp) (λx hx=>ha x (q_ _ hx)) (λx hx=>hb x (q_ _ hx)) h2]
def oE{c:Nat}{ws:List Str}(hne:ws≠[])(h:∀w∈ws,c∉w.cps.toList):Txt.split (Txt.join ⟨#[c]⟩ ws) ⟨#[c]⟩=ws:=by
 have e:Txt.join ⟨#[c]⟩ ws=Str.join ⟨#[c]⟩ ws:=glued_eq_join _ _;rw[e];refine mf (c:=c) ?_ hne (split_free _ c) h ?_
 .intro z
  have:=split_pos (Str.join ⟨#[c]⟩ ws) ⟨#[c]⟩
  rw[z] at this;exact absurd this (by decide)
 .rw[join_split]
def jE{y:Str}{ws:List Str}{m:Nat}(h:∀w∈ws,w.length<=m)(hm:ws.length*(m+y.length)<=16777216):JoinOk y ws=true:=by
 unfold JoinOk;rw[joinTotal];have s:(ws.map (·.length)).sum<=ws.length*m:=by
  clear hm;induction ws with
  |nil=>exact CP _
  |cons w ws ih=>have h1:=h w (r_ ..);have h2:=ih λx hx=>h x (q_ _ hx);rw[Cr,List.sum_cons,CF,Nat.succ_mul];omega
 rw[Nat.mul_add] at hm;unfold tooLong;rw[Cp (show ¬ (_>sizeLine) from λz=>by rw[show sizeLine=16777216 from rfl] at z;omega)];rfl
end L3
namespace KK
open PySem PySem.Spec PyProof.Rows L2 L3
def top(i:Nat):Stmt:=PySem.Challenge.pw_weightrooms_k84_fractions_and_boxes_writ.main.body.getD i (.Pass ⟨0,0,0,0⟩)
noncomputable def az:eW:=[((.o "NoFraction"),(.o "NoBox"),false),((.o "NoText"),(.o "NoBox"),false),((.o "NoFraction"),(.o "NoCut"),false),((.o "NoText"),(.o "NoCut"),false),((.o "NoFraction"),(.o "NoFraction"),true),((.o "NoText"),(.o "NoFraction"),false),((.o "NoFraction"),(.o "NoKind"),false),((.o "NoText"),(.o "NoKind"),false),((.o "NoFraction"),(.o "NoName"),false),((.o "NoText"),(.o "NoName"),false),((.o "NoFraction"),(.o "NoRow"),false),((.o "NoText"),(.o "NoRow"),false),((.o "NoFraction"),(.o "NoRule"),false),((.o "NoText"),(.o "NoRule"),false),((.o "NoFraction"),(.o "NoText"),false),((.o "NoText"),(.o "NoText"),true),((.o "NoFraction"),(.o "NoThing"),false),((.o "NoText"),(.o "NoThing"),false),((.o "NoFraction"),(.o "NoTree"),false),((.o "NoText"),(.o "NoTree"),false),((.o "NoFraction"),(.o "NoWay"),false),((.o "NoText"),(.o "NoWay"),false),((.o "NoFraction"),(.o "NoWeights"),false),((.o "NoText"),(.o "NoWeights"),false),((.o "NoFraction"),(.o "Taken"),false),((.o "NoText"),(.o "Taken"),false),((.o "NoFraction"),(.o "TooMany"),false),((.o "NoText"),(.o "TooMany"),false),((.o "NoFraction"),(.o "Unknown"),false),((.o "NoText"),(.o "Unknown"),false),((.o "NoFraction"),(.b "ValueError"),true),((.o "NoText"),(.b "ValueError"),true),((.b "NoneType"),(.b "bool"),false),((.b "bool"),(.b "bool"),true),((.b "int"),(.b "bool"),false),((.b "str"),(.b "bool"),false),((.b "tuple"),(.b "bool"),false),((.b "list"),(.b "bool"),false),((.b "dict"),(.b "bool"),false),((.b "NoneType"),(.b "int"),false),((.b "bool"),(.b "int"),true),((.b "int"),(.b "int"),true),((.b "str"),(.b "int"),false),((.b "tuple"),(.b "int"),false),((.b "list"),(.b "int"),false),((.b "dict"),(.b "int"),false),((.b "NoneType"),(.b "tuple"),false),((.b "bool"),(.b "tuple"),false),((.b "int"),(.b "tuple"),false),((.b "str"),(.b "tuple"),false),((.b "tuple"),(.b "tuple"),true),((.b "list"),(.b "tuple"),false),((.b "dict"),(.b "tuple"),false)]
noncomputable def c5:List Str:=["NoFraction", "NoText"]
noncomputable def jM:Val:=(.str "0123456789")
noncomputable def eB:Val:=(.int 30)
abbrev tb:Tb:=⟨["RoomError", "NoFraction", "NoBox", "NoWay", "NoWeights", "TooMany", "NoTree", "NoRule", "NoKind", "NoName", "Taken", "Unknown", "NoThing", "NoCut", "NoText", "NoRow"],["NoFraction", "NoText"],[("RoomError",c5)],az,[("FIGURES",jM),("MOST_FIGURES",eB)]⟩
abbrev TT(K:W.Frag)(mg:Eh):Prop:=Ty tb top [18,19,20,21,23,27,28,29,30,31,32,34,35,36,37,38,39,40,41,42,43,44] K mg
section
variable{P:Program}{w:World}{K:W.Frag}{mg:Eh}{base:Heap}
def de:PEx:=lX jM
def oi(e:E3):de.G e=.ok (.val (.str "0123456789")) e:=rfl
def dZ:PEx:=lX eB
def gS(e:E3):dZ.G e=.ok (.val (.int 30)) e:=rfl
def dI(s:String):Lean.TSyntax `term:=⟨Lean.mkIdent (s.replace "%" "").toName⟩
def dA(f:String)(a:Lean.TSyntax `term):Lean.TSyntax `term:=Lean.Syntax.mkApp (dI f) #[a]
def dF:List (Lean.TSyntax `tactic)->Lean.MacroM (Lean.TSyntax `tactic)
 | []=>`(tactic|fail)
 |a::l=>do `(tactic|first | $a:tactic | $(<- dF l):tactic)
def dL(f:String->Lean.MacroM (Lean.TSyntax `tactic)):List String->Lean.MacroM (List (Lean.TSyntax `tactic))
 | []=>pure []
 |s::l=>do return (<- f s)::(<- dL f l)
set_option hygiene false in
def dQ(ap:String->Lean.TSyntax `term)(s:String):Lean.MacroM (Lean.TSyntax `tactic):=match (s.splitOn ";").map ap with
 | [d,c,a,b]=>`(tactic|((case d=>with_reducible exact $d);(case c=>exact $c);(case a=>exact $a);(case b=>exact $b)))
 |d::c::_=>`(tactic|((case d=>with_reducible exact $d);(case c=>exact $c)))
 |_=>`(tactic|fail)
set_option hygiene false in
def dR(ap:String->Lean.TSyntax `term)(g:String):Lean.MacroM (Lean.TSyntax `tactic):=match g.splitOn ":" with
 | [r]=>`(tactic|refine $(ap r))
 |r::l=>do `(tactic|(refine' $(ap r);$(<- dF (<- dL (dQ ap) l)):tactic))
 | []=>`(tactic|fail)
set_option hygiene false in
local macro_rules | `('d')=>do
 let h <- `(?_)
 let u <- `(_)
 let R:=dI "rfl"
 let qA <- `(?a)
 let qB <- `(?b)
 let qC <- `(?c)
 let qD <- `(?d)
 let qp <- `((λ_ _=>rfl))
 let ap:=λ(s:String)=>let w:=s.splitOn " ";Lean.Syntax.mkApp (dI (w.getD 0 "")) (((w.getD 1 "").toList.map λc=>([('1',dI "hr.u100"),('8',dI "hr.u180"),('A',qA),('B',qB),('C',qC),('D',qD),('K',dI "T.k"),('_',u),('b',dA "%boT" R),('e',dA "T.e" R),('f',dA "%boF" R),('g',dA "T.g" R),('k',dA "T.n" R),('m',dA "T.m" R),('n',dI "nd"),('o',dI "%own1"),('p',qp),('r',R),('t',dI "T"),('u',dA "%Ca" (dI "hr")),('v',dA "%mq" u),('x',dA "T.x" R),('z',dI "%rz1")].lookup c).getD h).toArray)
 let rd:=λ(s:String)=>dL (dR ap) (s.splitOn "|")
 let e0 <- `(tactic|refine zcF (by $(<- dF (<- rd "%ih|lT t|mj t|jX t|jc t|mB t|mL t|lO t|iC t|gb t|iu t|fF t|ly t|gc t|cM t_|kS t|kQ t|ic t|n8 t|mw t|g8 t")):tactic) hr ?_)
 `(by repeat' $(<- dF ((<- rd "%mq _|g7|qt|cV ??|aP ??|eA ?|zsS _n?|ky ???|fE ?|yI ?|lA ?|yF|Bp|vX|yR ?")++[e0]++(<- rd "%AL CD??:A0;ixK r|zY CD??:ug;uk:uR;uD:Bm;A7:oz;sI r8:AV;neDK r8|eY CDrkf?:y8;BL r:zt;sx:wQ;qf r:Af K;AB r|AR CD??:zr;vn:xU;rZ:Ab;xX r:xI;xG:yY;zP:zi;xP:vQ;vU:wX;wU|fH CDrkb?:uW;pe:xM;qw|pO CD??:xx;Ae:uR;uD:oz;sI r8:ug;uk|wV rABCD??:pC;xp r1;PySem.F.slot_list_count;PySem.F.type_list_count:ua;zv r1;PySem.F.slot_list_index;PySem.F.type_list_index|um ABCD??:nc;ng r;PySem.F.slot_str_join;PySem.F.type_str_join:A3;AG;PySem.F.slot_str_startswith;PySem.F.type_str_startswith:wz;vc;PySem.F.slot_str_partition;PySem.F.type_str_partition:tY;tE;PySem.F.slot_str_split;PySem.F.type_str_split|xC rABCDv?:qF;o8;PySem.F.slot_list_append;PySem.F.type_list_append|B8 CD?:xq;xH|we ?v?CD:pw;rD u:wW;rK|ZG.weak ?|zt_w ?|yz ??|vh u??p|BI rg|zo re|BC ???|yX ?|zG ?|yB r??|kZ r???|AM rkb|zgN _n|yK rr?|yW rr?|tK ??|va|pR rk?|yx r?|u9 ?|m6|nH ?|vM ??|vK ?|o4 or???|Ay|y7 n?|sC rzrmx?|rS o??|lg ?|xm ??|vk ?|oO ??|qG ?"))):tactic)
def gU:PSt:=
 (aE (oA ["cells", "at", "left"] (aa (pFn lV (aa (pSl (af 0) oN (oS (ah 63))) ag)) (aa (ah 0) (aa (ah 0) ag)))))
def cH:PFn:=fnP [false] 1 gU
def mM:cH.ms=[false]:=rfl
def lT(T:TT K mg):Callee P w K mg base "_law_feed" 1 ["_law_script"] (sp3 K mg cH):=okP (T.d.get 34 rfl) (aS (N:=["_law_script"]) (by decide)) (λ_ _ _ _ _ _=>ar1 λ_=>rfl) λnd _ _ _ _ _ _ _ hr=>(eA (fE (uX (gv (fH (yM (K:=K) rfl) wM rfl (T.n rfl) (by first |exact boF rfl |exact boT rfl) (cV (kZ rfl (mq 0) m6 (nH g7)) qt)) (gv g7 (gv g7 wc))))))
def gP:PSt:=
 (ak (xIf (qOf (pOp bGt (pOp c4 (af 0) (ao "left")) (ah 0))) (ak (aF false 2 (pOp bF (pOp c4 (af 0) (ao "left")) (af 1)))
  (ak (iM 0 seD (ao "left") (pOp d4 (pOp c4 (af 0) (ao "left")) (af 1)))
  (aE (af 2)))) xNx)
  (ak (aF false 3 (pOp c4 (af 0) (ao "at")))
  (ak (iM 0 seD (ao "at") (pOp bN (af 3) (ah 1)))
  (ak (aF false 4 (af 3))
  (ak (xIf (qOf (pOp bGt (pFn cW (aa (pOp c4 (af 0) (ao "cells")) ag)) (ah 0))) (aF false 4 (pOp bIx (pOp c4 (af 0) (ao "cells")) (pOp bF (af 3) (pFn cW (aa (pOp c4 (af 0) (ao "cells")) ag))))) xNx)
  (ak (xIf (qAn (qOf (pOp bGe (af 4) (pOp cS (ah 10) (ah 18)))) (qOf (pOp bLt (af 3) (pFn cW (aa (pOp c4 (af 0) (ao "cells")) ag))))) (ak (iM 0 seD (ao "left") (pOp d4 (af 4) (af 1)))
  (aE (pOp bF (af 4) (af 1)))) xNx)
  (ak (aF false 5 (pOp bF (pOp aW (pOp bN (pOp bN (pOp bN (pOp bF (af 4) (ah 1000003)) (pOp aW (pOp aW (ah 61) (af 3)) (af 3))) (pOp aW (ah 7) (af 3))) (ah 1)) (ah 48271)) (ah 999983)))
  (aE (pOp bF (pOp d4 (pOp bF (pOp aW (pOp bF (pOp bN (pOp aW (af 5) (ah 69623)) (pOp aW (ah 7919) (af 3))) (ah 1999993)) (ah 16811)) (ah 524287)) (ah 5)) (af 1))))))))))
def aK:PFn:=fnP [true,false] 6 gP
def mE:aK.ms=[true,false]:=rfl
def mj(T:TT K mg):Callee P w K mg base "_law_draw" 1 ["_law_feed_here", "_law_many"] (sp3 K mg aK):=okP (T.d.get 35 rfl) (aS (N:=["_law_feed_here", "_law_many", "_law_found", "_law_at", "_law_cell", "_law_number_here"]) (by decide)) (λ_ _ _ _ _ _=>ar2 λ_ _=>rfl) λnd _ _ _ _ _ _ _ hr=>'d'
def fy:PSt:=
 (aF false 2 (pOp bN (pOp aW (af 2) (ah 100000)) (ai aK (aa (af 0) (aa (ah 100000) ag)))))
def gg:PSt:=
 (ak (aF false 2 (ah 0))
  (ak (oD (ku (aa (af 1) ag)) (gtN 3) (fy))
  (aE (af 2))))
def cj:PFn:=fnP [true,false] 4 gg
def kJ:cj.ms=[true,false]:=rfl
def jX(T:TT K mg):Callee P w K mg base "_law_great" 2 ["_law_feed_here", "_law_pieces"] (sp3 K mg cj):=okP (T.d.get 36 rfl) (aS (N:=["_law_feed_here", "_law_pieces", "_law_number_here", "_law_k"]) (by decide)) (λ_ _ _ _ _ _=>ar2 λ_ _=>rfl) λnd _ _ _ _ _ _ _ hr=>'d'
def cF:PSt:=
 (ak (xIf (qOf (pOp bEq (ai aK (aa (af 0) (aa (ah 2) ag))) (ah 0))) (aE (pOp bN (ah 1) (ai aK (aa (af 0) (aa (ah 60) ag))))) xNx)
  (ak (aF false 1 (pOp bIx (cc (aa (pOp bN (ah 1) (ai aK (aa (af 0) (aa (ah 30) ag)))) (aa (ah 30) ag))) (ai aK (aa (af 0) (aa (ah 2) ag)))))
  (ak (aF false 2 (pFn ip (aa (pOp bT (ao "1") (pOp j8 (ao "0") (pOp oQ (af 1) (ah 1)))) ag)))
  (aE (pOp bIx (cc (aa (af 2) (aa (pOp oQ (pOp aW (ah 10) (af 2)) (ah 1)) (aa (pOp bN (af 2) (pOp bF (ai cj (aa (af 0) (aa (ah 6) ag))) (pOp aW (ah 9) (af 2)))) ag)))) (ai aK (aa (af 0) (aa (ah 3) ag))))))))
def aO:PFn:=fnP [true] 3 cF
def jY:aO.ms=[true]:=rfl
def jc(T:TT K mg):Callee P w K mg base "_law_number" 3 ["_law_feed_here"] (sp3 K mg aO):=okP (T.d.get 39 rfl) (aS (N:=["_law_feed_here", "_law_many", "_law_least"]) (by decide)) (λ_ _ _ _ _ _=>ar1 λ_=>rfl) λnd _ _ _ _ _ _ _ hr=>'d'
def dj:PSt:=
 (jn 2 3 (aa (af 3) (aa (pOp bF (af 2) (af 3)) ag)))
def jG:PSt:=
 (ak (jn 2 3 (aa (pFn eV (aa (af 0) ag)) (aa (af 1) ag)))
  (ak (xWh (qOf (pOp bGt (af 3) (ah 0))) (dj))
  (aE (iQ (aa (pOp d4 (af 0) (af 2)) (aa (pOp d4 (af 1) (af 2)) ag))))))
def aQ:PFn:=fnP [false,false] 4 jG
def oJ:aQ.ms=[false,false]:=rfl
def mB(T:TT K mg):Callee P w K mg base "_law_low" 1 ["_law_top", "_law_bottom"] (sp3 K mg aQ):=okP (T.d.get 37 rfl) (aS (N:=["_law_top", "_law_bottom", "_law_one_here", "_law_other"]) (by decide)) (λ_ _ _ _ _ _=>ar2 λ_ _=>rfl) λnd _ _ _ _ _ _ _ hr=>'d'
def jL:PSt:=
 (ak (aF false 1 (pOp bIx (cc (aa (ah 1) (aa (ai aO (aa (af 0) ag)) ag))) (ai aK (aa (af 0) (aa (ah 2) ag)))))
  (ak (aF false 2 (pOp aW (ai aO (aa (af 0) ag)) (pOp bIx (cc (aa (ah 1) (aa (pUn lp (ah 1)) (aa (ah 0) (aa (ah 1) ag))))) (ai aK (aa (af 0) (aa (ah 4) ag))))))
  (aE (ai aQ (aa (af 2) (aa (af 1) ag))))))
def bU:PFn:=fnP [true] 3 jL
def oG:bU.ms=[true]:=rfl
def mL(T:TT K mg):Callee P w K mg base "_law_one" 4 ["_law_feed_here"] (sp3 K mg bU):=okP (T.d.get 40 rfl) (aS (N:=["_law_feed_here", "_law_bottom", "_law_top"]) (by decide)) (λ_ _ _ _ _ _=>ar1 λ_=>rfl) λnd _ _ _ _ _ _ _ hr=>'d'
def ig:PSt:=
 (ak (xIf (qOf (pOp bEq (pOp bIx (af 0) (ah 1)) (ah 1))) (aE (pFn fY (aa (pOp bIx (af 0) (ah 0)) ag))) xNx)
  (aE (pOp bT (pOp bT (pFn fY (aa (pOp bIx (af 0) (ah 0)) ag)) (ao "/")) (pFn fY (aa (pOp bIx (af 0) (ah 1)) ag)))))
def aR:PFn:=fnP [false] 1 ig
def mz:aR.ms=[false]:=rfl
def lO(T:TT K mg):Callee P w K mg base "_law_text" 1 ["_law_one_here"] (sp3 K mg aR):=okP (T.d.get 41 rfl) (aS (N:=["_law_one_here"]) (by decide)) (λ_ _ _ _ _ _=>ar1 λ_=>rfl) λnd _ _ _ _ _ _ _ hr=>'d'
def fj:PSt:=
 (ak xNo
  xNo)
def fK:PSt:=
 (ak (aF true 1 (cc ag))
  (ak (xWh (qOf (pOp bGe (af 0) (pOp cS (ah 10) (ah 64)))) (fj))
  (ak (hV (so 1 gz (aa (pFn fY (aa (af 0) ag)) ag)))
  (aE (pMs cG (ao "") (aa (pOp n5 (af 1) (pUn lp (ah 1))) ag))))))
def bM:PFn:=fnP [false] 3 fK
def jU:bM.ms=[false]:=rfl
def iC(T:TT K mg):Callee P w K mg base "figures_of" 1 ["number"] (sp3 K mg bM):=okP (T.d.get 27 rfl) (aS (N:=["number", "pieces", "piece"]) (by decide)) (λ_ _ _ _ _ _=>ar1 λ_=>rfl) λnd _ _ _ _ _ _ _ hr=>'d'
def dW:PSt:=
 (ak (hX (af 0) (gtX (gtT 2 (eL (gtN 1) (eL (gtN 2) lR)))))
  (ak (aF false 3 (ai bM (aa (pFn eV (aa (af 1) ag)) ag)))
  (ak (xIf (qOf (pOp bLt (af 1) (ah 0))) (aF false 3 (pOp bT (ao "-") (af 3))) xNx)
  (ak (xIf (qOf (pOp bEq (af 2) (ah 1))) (aE (af 3)) xNx)
  (aE (pOp bT (pOp bT (af 3) (ao "/")) (ai bM (aa (af 2) ag))))))))
def aG:PFn:=fnP [false] 4 dW
def gk:aG.ms=[false]:=rfl
def gb(T:TT K mg):Callee P w K mg base "show_fraction" 2 ["one"] (sp3 K mg aG):=okP (T.d.get 28 rfl) (aS (N:=["one", "top", "bottom", "text"]) (by decide)) (λ_ _ _ _ _ _=>ar1 λ_=>rfl) λnd _ _ _ _ _ _ _ hr=>'d'
def bO:PSt:=
 (ak (aF false 1 (pIf (qOf (pMs nW (af 0) (aa (ao "-") ag))) (pSl (af 0) (oS (ah 1)) oN) (af 0)))
  (ak (xIf (qO (qOf (pOp bEq (pFn cW (aa (af 1) ag)) (ah 0))) (qO (qOf (pOp bGt (pFn cW (aa (af 1) ag)) dZ)) (qNo (qOf (pFn iy (aa (pLC (n1 (af 1)) [none] (by decide) (gtN 0) qY (pOp lE (af 0) de)) ag)))))) (dS "NoText" (aa (ao "this is no whole number") ag)) xNx)
  (aE (pFn ip (aa (af 0) ag)))))
def aU:PFn:=fnP [false] 2 bO
def je:aU.ms=[false]:=rfl
def iu(T:TT K mg):Callee P w K mg base "read_number" 1 ["text"] (sp3 K mg aU):=okP (T.d.get 30 rfl) (aS (N:=["text", "figures"]) (by decide)) (λ_ _ _ _ _ _=>ar1 λ_=>rfl) λnd _ _ _ _ _ _ _ hr=>(aP 'd' (aP (ky (ZW.dt (oO 'd' (oO 'd' (qG (lg (lA (eY (qZ (K:=K) rfl rfl) la rfl (T.n rfl) (by first |exact boF rfl |exact boT rfl) (cV (ot ["text", "figures"] (aj (top 30)).names ["sign"] [none] 'd' (λnd _ _ _ _ _=>'d') (λ_ _ _ _ _ _=>dm) (λnd _ _ _ _ _=>'d')) 'd')))))))) 'd' 'd') 'd'))
def bI:PSt:=
 (jn 0 1 (aa (af 1) (aa (pOp bF (af 0) (af 1)) ag)))
def dH:PSt:=
 (ak (jn 0 1 (aa (pFn eV (aa (af 0) ag)) (aa (pFn eV (aa (af 1) ag)) ag)))
  (ak (xWh (qOf (pOp bNe (af 1) (ah 0))) (bI))
  (aE (af 0))))
def aY:PFn:=fnP [false,false] 2 dH
def fZ:aY.ms=[false,false]:=rfl
def fF(T:TT K mg):Callee P w K mg base "common_divisor" 1 ["one", "other"] (sp3 K mg aY):=okP (T.d.get 19 rfl) (aS (N:=["one", "other"]) (by decide)) (λ_ _ _ _ _ _=>ar2 λ_ _=>rfl) λnd _ _ _ _ _ _ _ hr=>'d'
def gR:PSt:=
 (ak (xIf (qOf (pOp bEq (af 1) (ah 0))) (dS "NoFraction" (aa (ao "a fraction has no bottom of 0") ag)) xNx)
  (ak (aF false 2 (ai aY (aa (af 0) (aa (af 1) ag))))
  (ak (xIf (qOf (pOp bLt (af 1) (ah 0))) (aF false 2 (pUn lp (af 2))) xNx)
  (aE (iQ (aa (pOp d4 (af 0) (af 2)) (aa (pOp d4 (af 1) (af 2)) ag)))))))
def cK:PFn:=fnP [false,false] 3 gR
def mx:cK.ms=[false,false]:=rfl
def ly(T:TT K mg):Callee P w K mg base "fraction" 2 ["top", "bottom"] (sp3 K mg cK):=okP (T.d.get 21 rfl) (aS (N:=["top", "bottom", "divisor"]) (by decide)) (λ_ _ _ _ _ _=>ar2 λ_ _=>rfl) λnd _ _ _ _ _ _ _ hr=>'d'
def cC:PSt:=
 (ak (hX (pMs kG (af 0) (aa (ao "/") ag)) (gtX (gtU 3 (eL (gtN 1) (eL (gtN 2) (eL (gtN 3) lR))))))
  (ak (aF false 4 (ai aU (aa (af 1) ag)))
  (ak (aF false 5 (pIf (qOf (pOp bEq (af 2) (ao "/"))) (ai aU (aa (af 3) ag)) (ah 1)))
  (ak (xIf (qOf (pOp bEq (af 5) (ah 0))) (dS "NoText" (aa (ao "a fraction has no bottom of 0") ag)) xNx)
  (ak (aF false 6 (ai cK (aa (af 4) (aa (af 5) ag))))
  (ak (xIf (qOf (pOp bNe (ai aG (aa (af 6) ag)) (af 0))) (dS "NoText" (aa (ao "this is no fraction") ag)) xNx)
  (aE (af 6))))))))
def aq:PFn:=fnP [false] 7 cC
def gx:aq.ms=[false]:=rfl
def gc(T:TT K mg):Callee P w K mg base "read_fraction" 3 ["text"] (sp3 K mg aq):=okP (T.d.get 31 rfl) (aS (N:=["text", "top", "slash", "bottom", "above", "below", "one"]) (by decide)) (λ_ _ _ _ _ _=>ar1 λ_=>rfl) λnd _ _ _ _ _ _ _ hr=>'d'
def aZ(s:PFx [false]):PSt:=
 (ak (xIf (qOf (pFn (au az) (aa (af 0) (aa (pTy "tuple") ag)))) (aE (pFn iy (aa (pLC (eT (af 0)) [none] (by decide) (gtN 0) qY (ai s.fn (aa (af 0) ag))) ag))) xNx)
  (aE (iP (pFn (au az) (aa (af 0) (aa (pTy "int") ag))) (oF (pFn (au az) (aa (af 0) (aa (pTy "bool") ag)))))))
def aw:Nat->PFx [false]
 |0=>PFx.none [false]
 |n+1=>PFx.of [false] 1 (aZ (aw n))
theorem cM(T:TT K mg):∀n,Callee P w K mg base "_law_whole_ones" (2+n) ["_law_found"] (sp3 K mg (aw n).fn)
 |0=>ok0 (T.d.get 43 rfl) (aS (N:=["_law_found"]) (by decide)) (λ_ _ _ _ _ _=>ar1 λ_=>rfl)
 |
  n+1=>by
  have ih:=cM T n;show Callee _ _ _ _ _ _ _ _ (sp3 _ _ (PFx.of [false] 1 (aZ (aw n))).fn);exact okX (k:=2+n) (T.d.get 43 rfl) (aS (N:=["_law_found"]) (by decide)) (λ_ _ _ _ _ _=>ar1 λ_=>rfl) λnd _ _ _ _ _ _ _ hr=>(aP (ky 'd' (eA (fE (eY (qZ (K:=K) rfl rfl) la rfl (T.n rfl) (by first |exact boF rfl |exact boT rfl) (cV (ot ["_law_found"] (aj (top 43)).names ["_law_one_here"] [none] 'd' (λnd _ _ _ _ _=>'d') (λ_ _ _ _ _ _=>dm) (λnd _ _ _ _ _=>'d')) 'd')))) 'd') 'd')
def h9:PSt:=
 (aE (pMs cG (ao " ") (aa (pLC (eT (af 0)) [none] (by decide) (gtN 0) qY (ai aG (aa (af 0) ag))) ag)))
def cJ:PFn:=fnP [false] 1 h9
def mF:cJ.ms=[false]:=rfl
def kS(T:TT K mg):Callee P w K mg base "show_box" 3 ["box"] (sp3 K mg cJ):=okP (T.d.get 29 rfl) (aS (N:=["box"]) (by decide)) (λ_ _ _ _ _ _=>ar1 λ_=>rfl) λnd _ _ _ _ _ _ _ hr=>(eA (fE (um PySem.F.slot_str_join PySem.F.type_str_join (ng (K:=K) rfl) nc 'd' (cV (ot ["box"] (aj (top 29)).names ["part"] [none] 'd' (λnd _ _ _ _ _=>'d') (λ_ _ _ _ _ _=>dm) (λnd _ _ _ _ _=>'d')) 'd'))))
def hE:PSt:=
 (aE (iP (pFn (au az) (aa (af 0) (aa (pTy "int") ag))) (oF (pFn (au az) (aa (af 0) (aa (pTy "bool") ag))))))
def b9:PFn:=fnP [false] 1 hE
def mO:b9.ms=[false]:=rfl
def kQ(T:TT K mg):Callee P w K mg base "is_whole" 1 ["thing"] (sp3 K mg b9):=okP (T.d.get 18 rfl) (aS (N:=["thing"]) (by decide)) (λ_ _ _ _ _ _=>ar1 λ_=>rfl) λnd _ _ _ _ _ _ _ hr=>'d'
def fh:PSt:=
 (ak (xIf (qO (qNo (qOf (pFn (au az) (aa (af 0) (aa (pTy "tuple") ag))))) (qOf (pOp bNe (pFn cW (aa (af 0) ag)) (ah 2)))) (aE (pBl false)) xNx)
  (ak (hX (af 0) (gtX (gtT 2 (eL (gtN 1) (eL (gtN 2) lR)))))
  (ak (xIf (qO (qNo (qOf (ai b9 (aa (af 1) ag)))) (qNo (qOf (ai b9 (aa (af 2) ag))))) (aE (pBl false)) xNx)
  (aE (iP (pOp bGe (af 2) (ah 1)) (pOp bEq (ai aY (aa (af 1) (aa (af 2) ag))) (ah 1)))))))
def bD:PFn:=fnP [false] 3 fh
def iO:bD.ms=[false]:=rfl
def ic(T:TT K mg):Callee P w K mg base "is_fraction" 2 ["thing"] (sp3 K mg bD):=okP (T.d.get 20 rfl) (aS (N:=["thing", "top", "bottom"]) (by decide)) (λ_ _ _ _ _ _=>ar1 λ_=>rfl) λnd _ _ _ _ _ _ _ hr=>'d'
def lH:PSt:=
 (ak (xIf (qO (qNo (qOf (pFn (au az) (aa (af 0) (aa (pTy "tuple") ag))))) (qOf (pOp bNe (pFn cW (aa (af 0) ag)) (ah 4)))) (aE (pBl false)) xNx)
  (ak (xIf (qNo (qOf (pFn iy (aa (pLC (eT (af 0)) [none] (by decide) (gtN 0) qY (ai bD (aa (af 0) ag))) ag)))) (aE (pBl false)) xNx)
  (aE (iP (pOp bGt (pOp bIx (pOp bIx (af 0) (ah 2)) (ah 0)) (ah 0)) (pOp bGt (pOp bIx (pOp bIx (af 0) (ah 3)) (ah 0)) (ah 0))))))
def dP:PFn:=fnP [false] 1 lH
def pM:dP.ms=[false]:=rfl
def n8(T:TT K mg):Callee P w K mg base "is_box" 3 ["thing"] (sp3 K mg dP):=okP (T.d.get 23 rfl) (aS (N:=["thing"]) (by decide)) (λ_ _ _ _ _ _=>ar1 λ_=>rfl) λnd _ _ _ _ _ _ _ hr=>(aP 'd' (aP (ky (lg (lA (eY (qZ (K:=K) rfl rfl) la rfl (T.n rfl) (by first |exact boF rfl |exact boT rfl) (cV (ot ["thing"] (aj (top 23)).names ["part"] [none] 'd' (λnd _ _ _ _ _=>'d') (λ_ _ _ _ _ _=>dm) (λnd _ _ _ _ _=>'d')) 'd')))) 'd' 'd') 'd'))
def eU:PSt:=
 (ak (aF false 1 (pFn jd (aa (nL (eT (pMs iS (af 0) (aa (ao " ") ag))) [none] (by decide) (gtN 0) (ai aq (aa (af 0) ag))) ag)))
  (ak (xIf (qNo (qOf (ai dP (aa (af 1) ag)))) (dS "NoText" (aa (ao "this is no box") ag)) xNx)
  (aE (af 1))))
def bf:PFn:=fnP [false] 2 eU
def mJ:bf.ms=[false]:=rfl
def mw(T:TT K mg):Callee P w K mg base "read_box" 4 ["text"] (sp3 K mg bf):=okP (T.d.get 32 rfl) (aS (N:=["text", "box"]) (by decide)) (λ_ _ _ _ _ _=>ar1 λ_=>rfl) λnd _ _ _ _ _ _ _ hr=>(aP (zsS 1 nd (fH (wo (K:=K) rfl) sR rfl (T.n rfl) (by first |exact boF rfl |exact boT rfl) (cV (Bi ["text", "box"] (aj (top 32)).names ["word"] [none] 'd' (λnd _ _ _ _ _=>'d') (λnd _ _ _ _ _ hx=>'d')) 'd'))) 'd')
def gX:PSt:=
 (ak (aF false 1 (cc (aa (pFn (au az) (aa (af 0) (aa (bW "NoBox") ag))) (aa (pFn (au az) (aa (af 0) (aa (bW "NoWeights") ag))) (aa (pFn (au az) (aa (af 0) (aa (bW "TooMany") ag))) ag)))))
  (ak (aF false 1 (pOp bN (af 1) (cc (aa (pFn (au az) (aa (af 0) (aa (bW "NoKind") ag))) (aa (pFn (au az) (aa (af 0) (aa (bW "NoRule") ag))) (aa (pFn (au az) (aa (af 0) (aa (bW "NoThing") ag))) ag))))))
  (ak (aF false 1 (pOp bN (af 1) (cc (aa (pFn (au az) (aa (af 0) (aa (bW "NoCut") ag))) (aa (pFn (au az) (aa (af 0) (aa (bW "NoText") ag))) (aa (pFn (au az) (aa (af 0) (aa (bW "NoRow") ag))) ag))))))
  (ak (aF false 1 (pOp bN (af 1) (cc (aa (pFn (au az) (aa (af 0) (aa (bW "NoName") ag))) (aa (pFn (au az) (aa (af 0) (aa (bW "Taken") ag))) (aa (pFn (au az) (aa (af 0) (aa (bW "Unknown") ag))) ag))))))
  (ak (aF false 1 (pOp bN (af 1) (cc (aa (pFn (au az) (aa (af 0) (aa (bW "NoFraction") ag))) (aa (pFn (au az) (aa (af 0) (aa (bW "NoWay") ag))) (aa (pFn (au az) (aa (af 0) (aa (bW "NoTree") ag))) ag))))))
  (ak (aF false 2 (cc (aa (ao "box") (aa (ao "weights") (aa (ao "many") (aa (ao "kind") (aa (ao "rule") (aa (ao "thing") (aa (ao "cut") (aa (ao "text") (aa (ao "row") (aa (ao "name") (aa (ao "taken") (aa (ao "unknown") ag))))))))))))))
  (ak (aF false 2 (pOp bN (af 2) (cc (aa (ao "fraction") (aa (ao "way") (aa (ao "tree") ag))))))
  (ak (xIf (qO (qOf (pOp bNe (j7 jr (af 1) (aa (pBl true) ag)) (ah 1))) (qNo (qOf (pFn (au az) (aa (af 0) (aa (pTy "ValueError") ag)))))) (aE (ao "odd")) xNx)
  (aE (pOp bIx (af 2) (j7 jh (af 1) (aa (pBl true) ag))))))))))))
def cE:PFn:=fnP [false] 3 gX
def mD:cE.ms=[false]:=rfl
def mh(T:TT K mg):CalleeU P w K mg base "_law_word" 1 ["_law_error"] (sp3 K mg cE):=okPU (T.d.get 38 rfl) (aS (N:=["_law_error", "_law_some", "_law_words"]) (by decide)) (λ_ _ _ _ _ _=>ar1 λ_=>rfl) λnd _ _ _ _ _ _ _ hr=>'d'
def c7:PSt:=
 (ak (rH c5 2 (xIf (qOf (pOp bEq (af 0) (ah 0))) (hV (ai aq (aa (af 1) ag))) (hV (ai bf (aa (af 1) ag)))) (aE (pOp bEq (ai cE (aa (af 2) ag)) (ao "text"))))
  (aE (pBl false)))
def aT:PFn:=fnP [false,false] 3 c7
def iR:aT.ms=[false,false]:=rfl
def g8(T:TT K mg):Callee P w K mg base "_law_refused" 5 ["_law_call", "_law_text_here"] (sp3 K mg aT):=okP (T.d.get 42 rfl) (aS (N:=["_law_call", "_law_text_here", "e"]) (by decide)) (λ_ _ _ _ _ _=>ar2 λ_ _=>rfl) λnd _ _ _ _ _ _ _ hr=>(aP (ze (i:=2) nX nd rfl rfl rfl (T.m rfl) (T.h (.head _)).1 (T.h (.head _)).2 (λ_ _ _ hx=>'d') (λ_=>(eA (fE (pO (sI (K:=K) rfl hr.u180) oz (pH (mh T) (hr.toU _ (by omega)) rfl uF 'd') 'd' (l6 _)))))) 'd')
def ie:PSt:=
 (ak (aF false 3 (ai bU (aa (af 1) ag)))
  (ak (aF false 4 (ai aR (aa (af 3) ag)))
  (ak (xIf (qO (qOf (pOp bNe (ai aG (aa (af 3) ag)) (af 4))) (qO (qOf (pOp bNe (ai aq (aa (af 4) ag)) (af 3))) (qNo (qOf (ai (aw 4).fn (aa (ai aq (aa (af 4) ag)) ag)))))) (aE (pBl false)) xNx)
  (ak (aF false 5 (iQ (aa (ai bU (aa (af 1) ag)) (aa (af 3) (aa (ai aQ (aa (ai aO (aa (af 1) ag)) (aa (ai aO (aa (af 1) ag)) ag))) (aa (iQ (aa (ai aO (aa (af 1) ag)) (aa (ah 1) ag))) ag))))))
  (ak (aF true 6 (pLC (eT (af 5)) [none] (by decide) (gtN 0) qY (ai aR (aa (af 0) ag))))
  (ak (xIf (qO (qOf (pOp bNe (ai cJ (aa (af 5) ag)) (pMs cG (ao " ") (aa (af 6) ag)))) (qOf (pOp bNe (ai bf (aa (pMs cG (ao " ") (aa (af 6) ag)) ag)) (af 5)))) (aE (pBl false)) xNx)
  (ak (xIf (qNo (qOf (ai (aw 4).fn (aa (ai bf (aa (pMs cG (ao " ") (aa (af 6) ag)) ag)) ag)))) (aE (pBl false)) xNx)
  (ak (aF false 7 (ai aQ (aa (pOp bN (pOp aW (ai aO (aa (af 1) ag)) (pOp cS (ah 10) (ah 30))) (ah 1)) (aa (pOp bIx (cc (aa (ah 1) (aa (ah 2) (aa (pOp cS (ah 10) (ah 31)) ag)))) (ai aK (aa (af 1) (aa (ah 3) ag)))) ag))))
  (ak (xIf (qO (qOf (pOp bNe (ai aG (aa (af 7) ag)) (ai aR (aa (af 7) ag)))) (qNo (qOf (ai aT (aa (ah 0) (aa (ai aR (aa (af 7) ag)) ag)))))) (aE (pBl false)) xNx)
  (ak (iM 6 seL (ai aK (aa (af 1) (aa (ah 4) ag))) (ai aR (aa (af 7) ag)))
  (xIf (qNo (qOf (ai aT (aa (ah 1) (aa (pMs cG (ao " ") (aa (af 6) ag)) ag))))) (aE (pBl false)) xNx)))))))))))
def n6:PSt:=
 (ak (aF true 1 (ai cH (aa (af 0) ag)))
  (ak (oD (ku (aa (pOp bN (ah 3) (pFn lb (aa (ah 8) (aa (pFn cW (aa (af 0) ag)) ag)))) ag)) (gtN 2) (ie))
  (aE (pBl true))))
def ka:PFn:=fnP [false] 8 n6
def wG(T:TT K mg):Callee P w K mg base "law" 7 ["_law_script"] (sp3 K mg ka):=okP (T.d.get 44 rfl) (aS (N:=["_law_script", "_law_feed_here", "_law_bout", "_law_one_here", "_law_text_here", "_law_box", "_law_words", "_law_great_here"]) (by decide)) (λ_ _ _ _ _ _=>ar1 λ_=>rfl) λnd _ _ _ _ _ _ _ hr=>(aP 'd' (aP (o4 own1 rfl 'd' 'd' (aP 'd' (aP 'd' (aP 'd' (aP 'd' (aP (zSlc nd ["_law_script", "_law_feed_here", "_law_bout", "_law_one_here", "_law_text_here", "_law_box", "_law_words", "_law_great_here"] (aj (top 44)).names ["_law_side"] [none] 'd' (λnd _ _ _ _ _=>'d') (λ_ _ _ _ _ _=>dm) (λnd _ _ _ _ _=>'d')) 'd')))))) 'd'))
end
noncomputable def fdD (cs:List Int) (a l:Int):Val:=.dct [(.inr "cells",.lst (cs.map .int)),(.inr "at",.int a),(.inr "left",.int l)]
def Fd(n:Nat)(v:Val):Prop:=∃cs a l,v=fdD cs a l/\0<=a/\a<=n
def Fd.mono{n m:Nat}{v:Val}(h:Fd n v)(q:n<=m):Fd m v:=by obtain⟨cs,a,l,e,h0,h1⟩:=h;exact⟨cs,a,l,e,h0,by omega⟩
def dU(cs:List Int)(a l:Int):c4.G (fdD cs a l) (.str "cells")=.val (.lst (cs.map .int)):=rfl
def hW(cs:List Int)(a l:Int):c4.G (fdD cs a l) (.str "at")=.val (.int a):=rfl
def eK(cs:List Int)(a l:Int):c4.G (fdD cs a l) (.str "left")=.val (.int l):=rfl
def er(cs:List Int)(a l x:Int):seD.G (fdD cs a l) (.str "at") (.int x)=some (fdD cs x l):=rfl
def dO(cs:List Int)(a l x:Int):seD.G (fdD cs a l) (.str "left") (.int x)=some (fdD cs a x):=rfl
def j4:cS.G (.int 10) (.int 18)=.val (.int (10^18)):=ko ⟨by decide,by decide,by decide⟩
def dM{a m:Int}(h:0<m):0<=a.fmod m/\a.fmod m<m:=⟨Int.fmod_nonneg_of_pos a h,Int.fmod_lt_of_pos a h⟩
set_option hygiene false in
local macro_rules | `(tactic|simp![$args,*])=>do
 let l <- ("% ke zT BD yq Al BZ zb ur A4 rY nY yE xv yj zh yO yg yJ xO wZ sQ zH yV vy zR Br Bl v_bl A2 v_ty Ci v_un v_op A6 zJ v_fn Bo BY B3 Cj v_if c_of c_an c_o c_no c_y x_nx B9 vD vN xB uM x_if A1 AF BW uZ tI sM g_n g_sn g_sc g_t g_x xb BN A5 vI Cg Am An Az AW zO zK AN B1 tF zd Cn ye yC zu yr Ah BX wt v_lc xE z9 yT o_n o_s v_sl AI fx_G B5 Cd k_lt k_gt k_ge BP k_ix yP x9 k_eq k_ne Au BO uo Bn Bf yG vm lF List.getElem?_cons_zero List.getElem?_cons_succ List.set_cons_zero List.set_cons_succ List.length_cons List.length_nil Option.bind_some Option.map_some Option.isSome_some if_true if_false Bool.not_true Bool.not_false Bool.and_true Bool.true_and Bool.false_and Bool.or_true Bool.true_or Bool.or_false Nat.reduceLeDiff Nat.reduceLT Nat.reduceAdd Nat.reduceSub Nat.zero_add Nat.sub_self List.cons_append List.nil_append List.append_nil List.replicate decide_false Bool.false_eq_true List.all_cons List.all_nil List.isEmpty_nil List.map_cons List.map_nil Int.reduceBEq Int.reduceLT Int.reduceAdd Int.reduceSub Int.reduceMul Int.cast_ofNat_Int zQ vL yk zq wg rh x8 pB vR zB ve pj wd Ac qW xR wj xS tS xD xV vE Cb Aq Ap AS pI pD pJ sd qN ati0 ati1 ati2 ati3 ati7 bz Int.reduceNeg zl g_u qr mM mE kJ jY oJ oG mz jU gk je fZ mx gx mF mO iO pM mJ mD iR oi gS".splitOn " ").tail.mapM λs=>`(Lean.Parser.Tactic.simpLemma| $(Lean.mkIdent s.toName):term)
 `(tactic|simp only[$(l.toArray),*,$args,*])
def uY{ns:List Int}(hl:ns.length<=63):∃v,cH.G [.kl (ns.map .int)]=.ok (.new v) []/\Fd 0 v:=by
 refine⟨fdD ns 0 0,?_,ns,0,0,rfl,by omega,by omega⟩;unfold cH;rw[bB];unfold gU;have e:aSl (.kl (ns.map Val.int)) none (some 63)=.new (.lst (ns.map Val.int)):=by
  have:=AZ (ns.map Val.int) none (some ((63:Nat):Int))
  rw[zc,C1 (by rw[u_];exact hl)] at this;exact this
 have c:Val.items (.lst (ns.map Val.int))=some (ns.map Val.int):=rfl;simp![qr,e,c];rfl
def ba{n:Nat}{v:Val}{m:Int}(f:Fd n v)(hn:n<=1000000000)(h0:0<m)(hm:Sm 8000 m):∃r v',aK.G [v,.int m]=.ok (.val (.int r)) [v']/\Fd (n+1) v'/\0<=r/\r<m:=by
 obtain⟨cs,a,l,rfl,a0,a1⟩:=f;have m0:m≠0:=by omega
 have d1:=λi=>dh (i:=i) m0;have d2:=λi=>fS (i:=i) (CDivB.of m0 hm);unfold aK;rw[bB];unfold gP;have x1:aW.G (.int 61) (.int a)=.val (.int (61*a)):=cm (CMulA.left (by decide) (by decide));have x2:aW.G (.int (61*a)) (.int a)=.val (.int (61*a*a)):=cm (CMulA.right (by omega) (by omega));have x3:aW.G (.int 7) (.int a)=.val (.int (7*a)):=cm (CMulA.left (by decide) (by decide));have x4:∀x:Int,aW.G (.int x) (.int 48271)=.val (.int (x*48271)):=λx=>cm (CMulA.right (by decide) (by decide));have x5:∀x:Int,aW.G (.int x) (.int 69623)=.val (.int (x*69623)):=λx=>cm (CMulA.right (by decide) (by decide));have x6:aW.G (.int 7919) (.int a)=.val (.int (7919*a)):=cm (CMulA.left (by decide) (by decide));have x7:∀x:Int,aW.G (.int x) (.int 16811)=.val (.int (x*16811)):=λx=>cm (CMulA.right (by decide) (by decide));have y1:∀x:Int,bF.G (.int x) (.int 1000003)=.val (.int (x.fmod 1000003)):=λx=>dh (by decide);have y2:∀x:Int,bF.G (.int x) (.int 999983)=.val (.int (x.fmod 999983)):=λx=>dh (by decide);have y3:∀x:Int,bF.G (.int x) (.int 1999993)=.val (.int (x.fmod 1999993)):=λx=>dh (by decide);have y4:∀x:Int,bF.G (.int x) (.int 524287)=.val (.int (x.fmod 524287)):=λx=>dh (by decide);have y5:∀x:Int,d4.G (.int x) (.int 5)=.val (.int (x.fdiv 5)):=λx=>fS (CDivB.of (by decide) (sm8 (by decide)));by_cases hc:0<l
 .have hc':decide (0<l)=true:=Co hc;refine⟨l.fmod m,fdD cs a (l.fdiv m),?_,⟨cs,a,_,rfl,a0,by omega⟩,dM h0⟩;simp![hc',d1,d2,dU,hW,eK,er,dO]
 .have hc':decide (0<l)=false:=Cp hc;have c_:∀x:Int,∃r v',(R3F.ok (Rt.val (.int (x.fmod m))) [fdD cs (a+1) l]:R3F)=.ok (.val (.int r)) [v']/\Fd (n+1) v'/\0<=r/\r<m:=λx=>⟨_,_,rfl,⟨cs,_,_,rfl,by omega,by omega⟩,dM h0⟩;have z18:((10:Int)^18)=1000000000000000000:=by decide
  by_cases hl:0<cs.length
  .have r:=dM (a:=a) (m:=(cs.length:Nat)) (by omega);have hi:(a.fmod (cs.length:Nat)).toNat<cs.length:=by omega
   have at1:atI (cs.map Val.int) (a.fmod (cs.length:Nat))=some (.int cs[(a.fmod (cs.length:Nat)).toNat]):=fP r.1 (by rw[Cs,A_ hi];rfl);have l1:decide ((0:Int)<((cs.length:Nat):Int))=true:=Co (by omega);have e1:bF.G (.int a) (.int (cs.length:Nat))=.val (.int (a.fmod (cs.length:Nat))):=dh (by omega);by_cases hb:(10^18:Int)<=cs[(a.fmod (cs.length:Nat)).toNat]
   .have hb':=Co hb;by_cases ha:a<(cs.length:Nat)
    .have ha':=Co ha;refine⟨(cs[(a.fmod (cs.length:Nat)).toNat]).fmod m,fdD cs (a+1) ((cs[(a.fmod (cs.length:Nat)).toNat]).fdiv m),?_,⟨cs,_,_,rfl,by omega,by omega⟩,dM h0⟩;simp![hc',d1,d2,dU,hW,eK,er,dO,u_,l1,e1,at1,j4,hb',ha']
    .have ha':=Cp ha;simp![hc',d1,d2,dU,hW,eK,er,dO,u_,l1,e1,at1,j4,hb',ha',x1,x2,x3,x4,x5,x6,x7,y1,y2,y3,y4,y5];exact c_ _
   .have hb':=Cp hb;simp![hc',d1,d2,dU,hW,eK,er,dO,u_,l1,e1,at1,j4,hb',x1,x2,x3,x4,x5,x6,x7,y1,y2,y3,y4,y5];exact c_ _
  .have l1:decide ((0:Int)<((cs.length:Nat):Int))=false:=Cp (by omega);have hb':decide ((10^18:Int)<=a)=false:=Cp (by rw[z18];omega);simp![hc',d1,d2,dU,hW,eK,er,dO,u_,l1,j4,hb',x1,x2,x3,x4,x5,x6,x7,y1,y2,y3,y4,y5];exact c_ _
def BV:fA [.int 6]=some [.int 0,.int 1,.int 2,.int 3,.int 4,.int 5]:=wL (i:=6) (by decide) (by decide)
def zg{n:Nat}{v:Val}(f:Fd n v)(hn:n<=900000000):∃r v',cj.G [v,.int 6]=.ok (.val (.int r)) [v']/\Fd (n+6) v'/\0<=r:=by have s:Sm 8000 100000:=sm8 (by decide);obtain⟨r1,v1,e1,f1,a1,_⟩:=ba (m:=100000) f (by omega) (by decide) s;obtain⟨r2,v2,e2,f2,a2,_⟩:=ba (m:=100000) f1 (by omega) (by decide) s;obtain⟨r3,v3,e3,f3,a3,_⟩:=ba (m:=100000) f2 (by omega) (by decide) s;obtain⟨r4,v4,e4,f4,a4,_⟩:=ba (m:=100000) f3 (by omega) (by decide) s;obtain⟨r5,v5,e5,f5,a5,_⟩:=ba (m:=100000) f4 (by omega) (by decide) s;obtain⟨r6,v6,e6,f6,a6,_⟩:=ba (m:=100000) f5 (by omega) (by decide) s;have c6:∀x:Int,aW.G (.int x) (.int 100000)=.val (.int (x*100000)):=λx=>cm (CMulA.right (by decide) (by decide));refine⟨((((((0*100000+r1)*100000+r2)*100000+r3)*100000+r4)*100000+r5)*100000+r6),v6,?_,f6.mono (by omega),by omega⟩;unfold cj;rw[bB];unfold gg fy;simp![BV,lB,c6,e1,e2,e3,e4,e5,e6]
def iJ(a:Int):(if a<0 then -a else a)=((a.natAbs:Nat):Int):=by split <;> omega
theorem kM:∀(n one a_:Nat),a_<=n->(xWh (qOf (pOp bNe (af 1) (ah 0))) bI).G [.sh (.int (one:Nat)),.sh (.int (a_:Nat))]=.nx [.sh (.int (Nat.gcd one a_:Nat)),.sh (.int 0)]
 |
  n,one,0,_=>by
  rw[l8];simp![ke];rw[Nat.gcd_zero_right];try rfl
 |0,one,a_+1,hl=>absurd hl (by omega)
 |
  n+1,one,a_+1,hl=>by
  rw[l8];have e:((((a_+1:Nat):Int)==0))=false:=by rw[Cq];omega
  have e1:bF.G (.int (one:Nat)) (.int ((a_+1:Nat):Int))=.val (.int (((one:Nat):Int).fmod ((a_+1:Nat):Int))):=dh (by omega);have e2:((one:Nat):Int).fmod ((a_+1:Nat):Int)=((one % (a_+1):Nat):Int):=by rw[Int.fmod_eq_emod_of_nonneg _ (by omega)];rfl
  have ih:=kM n (a_+1) (one % (a_+1)) (by have:=Nat.mod_lt one (show a_+1>0 by omega);omega);rw[Fr.euc] at ih;rw[e2] at e1;have bb:bI.G [.sh (.int (one:Nat)),.sh (.int ((a_+1:Nat):Int))]=.nx [.sh (.int ((a_+1:Nat):Int)),.sh (.int ((one % (a_+1):Nat):Int))]:=by unfold bI;simp![e1]
  simp![e,bb,ih]
def bH(a b:Int):aY.G [.int a,.int b]=.ok (.val (.int (Int.gcd a b:Nat))) []:=by
 unfold aY;rw[bB];unfold dH
 have:=kM b.natAbs a.natAbs b.natAbs (v_ _)
 simp![iJ,this];rfl
def mC{a b:Int}(hb:b≠0)(hs:Sm 8000 b):cK.G [.int a,.int b]=.ok (.val (fV ((a:Rat)/(b:Rat)))) []:=by
 unfold cK;rw[bB];unfold gR;have e:(b==0)=false:=by rw[Cq];exact hb
 have c:∀x,CDivB x (Fr.dv a b):=λx=>CDivB.of (Fr.dv_ne hb) (hs.of_le (by rw[Fr.dv_abs];exact Nat.le_of_dvd (by omega) (Nat.gcd_dvd_right a.natAbs b.natAbs)));have k1:=fS (c a);have k2:=fS (c b);have hh:=km (a:=a) hb;have c_:Val.tup [.int (a.fdiv (Fr.dv a b)),.int (b.fdiv (Fr.dv a b))]=fV ((a:Rat)/(b:Rat)):=by unfold fV;rw[<- hh.1,<- hh.2];rfl
 by_cases hn:b<0
 .have hd:Fr.dv a b=-((Int.gcd a b:Nat):Int):=by unfold Fr.dv;rw[if_pos hn]
  rw[hd] at k1 k2 c_;simp![e,bH,Co hn,k1,k2,c_]
 .have hd:Fr.dv a b=((Int.gcd a b:Nat):Int):=by unfold Fr.dv;rw[if_neg hn]
  rw[hd] at k1 k2 c_;simp![e,bH,Cp hn,k1,k2,c_]
theorem kL(x y:Val):∀(n one a_:Nat),a_<=n->(xWh (qOf (pOp bGt (af 3) (ah 0))) dj).G [.sh x,.sh y,.sh (.int (one:Nat)),.sh (.int (a_:Nat))]=.nx [.sh x,.sh y,.sh (.int (Nat.gcd one a_:Nat)),.sh (.int 0)]
 |
  n,one,0,_=>by
  rw[l8];simp![Nat.gcd_zero_right,Int.natCast_zero,Int.lt_irrefl]
 |0,one,a_+1,hl=>absurd hl (by omega)
 |
  n+1,one,a_+1,hl=>by
  rw[l8];have e:decide ((0:Int)<((a_+1:Nat):Int))=true:=Co (by omega);have e1:bF.G (.int (one:Nat)) (.int ((a_+1:Nat):Int))=.val (.int (((one:Nat):Int).fmod ((a_+1:Nat):Int))):=dh (by omega);have e2:((one:Nat):Int).fmod ((a_+1:Nat):Int)=((one % (a_+1):Nat):Int):=by rw[Int.fmod_eq_emod_of_nonneg _ (by omega)];rfl
  have ih:=kL x y n (a_+1) (one % (a_+1)) (by have:=Nat.mod_lt one (show a_+1>0 by omega);omega);rw[Fr.euc] at ih;rw[e2] at e1;have bb:dj.G [.sh x,.sh y,.sh (.int (one:Nat)),.sh (.int ((a_+1:Nat):Int))]=.nx [.sh x,.sh y,.sh (.int ((a_+1:Nat):Int)),.sh (.int ((one % (a_+1):Nat):Int))]:=by unfold dj;simp![e1]
  simp![e,bb,ih]
def lW{a b:Int}(hb:0<b)(hs:Sm 8000 b):aQ.G [.int a,.int b]=.ok (.val (fV ((a:Rat)/(b:Rat)))) []:=by
 unfold aQ;rw[bB];unfold jG;have hb0:b≠0:=by omega
 have lo:=kL (.int a) (.int b) b.natAbs a.natAbs b.natAbs (v_ _);rw[show Nat.gcd a.natAbs b.natAbs=Int.gcd a b from rfl,show ((b.natAbs:Nat):Int)=b by omega] at lo;have c:∀x,CDivB x (Fr.dv a b):=λx=>CDivB.of (Fr.dv_ne hb0) (hs.of_le (by rw[Fr.dv_abs];exact Nat.le_of_dvd (by omega) (Nat.gcd_dvd_right a.natAbs b.natAbs)));have k1:=fS (c a);have k2:=fS (c b);have hh:=km (a:=a) hb0;have c_:Val.tup [.int (a.fdiv (Fr.dv a b)),.int (b.fdiv (Fr.dv a b))]=fV ((a:Rat)/(b:Rat)):=by unfold fV;rw[<- hh.1,<- hh.2];rfl
 have hd:Fr.dv a b=((Int.gcd a b:Nat):Int):=by unfold Fr.dv;rw[if_neg (by omega)]
 rw[hd] at k1 k2 c_;simp![iJ,lo,k1,k2,c_]
def fN{v:Val}(hk:knV v=true):(au az).G [v,.ty "tuple"]=.val (.bl (cI v)):=by cases v <;> first |rfl |cases hk
def gf{v:Val}(hk:knV v=true):b9.G [v]=.ok (.val (.bl (gJ v))) []:=by unfold b9;rw[bB];unfold hE;cases v <;> first |rfl |cases hk
def l9(v:Val):cI v=false\/∃xs,v=.tup xs:=by cases v <;> first |exact .inr ⟨_,rfl⟩ |exact .inl rfl
def lL(v:Val):gJ v=false\/∃i,v=.int i:=by cases v <;> first |exact .inr ⟨_,rfl⟩ |exact .inl rfl
def BE{v:Val}(h:cI v=false):aH v=false:=by cases v <;> first |rfl |cases h
def BR{v:Val}(h:cI v=false):d3 v=false:=by cases v <;> first |rfl |cases h
def xW{a b:Val}(h:gJ a=false):aH (.tup [a,b])=false:=by cases a <;> first |rfl |cases h
def yc{i:Int}{b:Val}(h:gJ b=false):aH (.tup [.int i,b])=false:=by cases b <;> first |rfl |cases h
def Bk{xs:List Val}(hl:xs.length≠2):aH (.tup xs)=false:=by
 unfold aH;split
 .rename_i e;injection e with e;subst e;exact absurd rfl hl
 .rfl
def BH{xs:List Val}(hl:xs.length≠4):d3 (.tup xs)=false:=by
 unfold d3;split
 .rename_i e;injection e with e;subst e;exact absurd rfl hl
 .rfl
def uA{k:Nat}{v:Val}(ha:eN k v=true)(h:cI v=false):knV v=true:=by
 cases v with
 |tup xs=>cases h
 |_=>cases k <;> exact ha
def jf{v:Val}(ha:eN 1 v=true):bD.G [v]=.ok (.val (.bl (aH v))) []:=by
 unfold bD;rw[bB];unfold fh;rcases l9 v with ht |⟨xs,rfl⟩
 .have it:=fN (uA ha ht);rw[ht] at it;simp![it,BE ht]
 have it:=fN (v:=.tup xs) rfl;by_cases hl:xs.length=2
 .match xs,hl,ha with
  |
   [a,b],_,ha=>
   have ha':(knV a&&(knV b&&true))=true:=by simpa [eN] using ha
   simp only[p_] at ha';have w1:=gf ha'.1;have w2:=gf ha'.2.1;rcases lL a with h1 |⟨i,rfl⟩
   .rw[h1] at w1;simp![it,cI,w1,xW h1]
   rcases lL b with h2 |⟨j,rfl⟩
   .rw[h2] at w2;simp![it,cI,w1,gJ,w2,yc h2]
   have f:aH (.tup [.int i,.int j])=(decide (1<=j)&&decide (Int.gcd i j=1)):=rfl;have g:((((Int.gcd i j:Nat):Int)==1):Bool)=decide (Int.gcd i j=1):=by rw[Bool.eq_iff_iff,CG,DR];omega
   by_cases hj:1<=j
   .simp![it,cI,w1,w2,gJ,bH,Co hj,f,g]
   .simp![it,cI,w1,w2,gJ,bH,Cp hj,f,g]
 .have e:(((xs.length:Nat):Int)==2)=false:=by rw[Cq];omega
  simp![it,cI,e,Bk hl]
def qJ{v:Val}(ha:eN 2 v=true):dP.G [v]=.ok (.val (.bl (d3 v))) []:=by
 unfold dP;rw[bB];unfold lH;rcases l9 v with ht |⟨xs,rfl⟩
 .have it:=fN (uA ha ht);rw[ht] at it;simp![it,BR ht]
 have it:=fN (v:=.tup xs) rfl;by_cases hl:xs.length=4
 .match
   xs,hl,ha with
  |
   [a,b,c,d],_,ha=>
   have e1:d3 (.tup [a,b,c,d])=(aH a&&(aH b&&(aH c&&(aH d&&(eM c&&eM d))))):=rfl;have bl4:∀x y z w:Bool,d7 [.bl x,.bl y,.bl z,.bl w]=some [x,y,z,w]:=λ_ _ _ _=>rfl;obtain⟨e',⟨s',rfl,_⟩,lc⟩:=mV (g:=(gtN 0).G) (F:=(ai bD (aa (af 0) ag)).G) (f:=λv=>.bl (aH v)) (λe=>∃s,e=[s]/\s.pl=true) [a,b,c,d] [] [.no] ⟨.no,rfl,rfl⟩ (by
    rintro v hv e ⟨s,rfl,hs⟩;have hv':eN 1 v=true:=Cv.mp (by simpa [eN] using ha) v hv;refine⟨[.sh v],.val (.bl (aH v)),[.sh v],?_,?_,rfl,⟨_,rfl,rfl⟩⟩
    .simp![hs]
    .simp![jf hv']) (by simp)
   have cy:cY=qY.G:=rfl;rw[cy,CU] at lc;simp only[Cr,D4] at lc;cases hA:(aH a&&(aH b&&(aH c&&aH d))) with
   |
    true=>
    simp only[p_] at hA;obtain⟨p,rfl⟩:=pW hA.2.2.1;obtain⟨q,rfl⟩:=pW hA.2.2.2;rw[hA.1,hA.2.1,hA.2.2.1,hA.2.2.2] at e1 lc;have e2:d3 (.tup [a,b,fV p,fV q])=(decide (0<p.num)&&decide (0<q.num)):=by rw[e1];rfl
    rw[e2];have i1:(fV p).items=some [.int p.num,.int p.den]:=rfl;have i2:(fV q).items=some [.int q.num,.int q.den]:=rfl;by_cases hp:0<p.num
    .simp![it,cI,lc,bz,bl4,id,i1,i2,Co hp]
    .simp![it,cI,lc,bz,bl4,id,i1,Cp hp]
   |
    false=>
    have e2:d3 (.tup [a,b,c,d])=false:=by rw[e1];revert hA;generalize aH a=a',aH b=b',aH c=c',aH d=d',(eM c&&eM d)=z;revert a' b' c' d' z;decide
    rw[e2];simp![it,cI,lc,bz,bl4,id,hA]
 .have e:(((xs.length:Nat):Int)==4)=false:=by rw[Cq];omega
  simp![it,cI,e,BH hl]
def p30:(10:Int)^30=1000000000000000000000000000000:=by decide
def oR:∀k,k<30->PySem.intText? (Str.ofString "1" ++ Txt.mul (Str.ofString "0") ((k:Nat):Int))=some (((10^k:Nat):Nat):Int)/\(Str.ofString "1" ++ Txt.mul (Str.ofString "0") ((k:Nat):Int)).length<=640/\(Str.ofString "1").length+(Txt.mul (Str.ofString "0") ((k:Nat):Int)).length<=16777216:=by decide
def numQ(n:Nat)(x:SR3):Prop:=∃(r:Int) (v':Val),ji [true] x=.ok (.val (.int r)) [v']/\Fd (n+20) v'/\1<=r/\r<10^30
def cB{n:Nat}{v:Val}(f:Fd n v)(hn:n<=850000000):∃(r:Int) (v':Val),aO.G [v]=.ok (.val (.int r)) [v']/\Fd (n+20) v'/\1<=r/\r<10^30:=by
 obtain⟨a,v1,e1,f1,a0,a1⟩:=ba (m:=2) f (by omega) (by decide) (sm8 (by decide));show ∃(r:Int) (v':Val),(fnP [true] 3 cF).G [v]=_/\_;rw[kx rfl];show numQ n (cF.G _);unfold cF;rw[show sls [true] [v]++List.replicate (3-[v].length) .no=[.mu v,.no,.no] from rfl];obtain rfl |rfl:a=0\/a=1:=by omega
 .obtain⟨b,v2,e2,f2,b0,b1⟩:=ba (m:=60) f1 (by omega) (by decide) (sm8 (by decide));refine⟨1+b,v2,?_,f2.mono (by omega),by omega,by rw[p30];omega⟩;simp![e1,e2,fU]
 refine bh (λe=>e=[.mu v1,.no,.no]) ⟨_,by simp![e1],rfl⟩ ?_;rintro _ rfl;obtain⟨b,v2,e2,f2,b0,b1⟩:=ba (m:=30) f1 (by omega) (by decide) (sm8 (by decide));obtain⟨c,v3,e3,f3,c0,c1⟩:=ba (m:=2) f2 (by omega) (by decide) (sm8 (by decide));refine bh (λe=>∃k:Nat,k<30/\e=[.mu v3,.sh (.int (1+(k:Nat))),.no]) ?_ ?_
 .obtain⟨b,rfl⟩:=DM b0;obtain rfl |rfl:c=0\/c=1:=by omega
  .exact⟨_,by simp![e2,e3],b,by omega,rfl⟩
  .exact⟨_,by simp![e2,e3],29,by omega,rfl⟩
 rintro _ ⟨k,hk,rfl⟩;obtain⟨o1,o2,o3⟩:=oR k hk;have ms:j8.G (.str (Str.ofString "0")) (.int ((k:Nat):Int))=.val (.str (Txt.mul (Str.ofString "0") ((k:Nat):Int))):=xQ ⟨by decide,by omega,by omega⟩;have as:bT.G (.str (Str.ofString "1")) (.str (Txt.mul (Str.ofString "0") ((k:Nat):Int)))=.val (.str (Str.ofString "1" ++ Txt.mul (Str.ofString "0") ((k:Nat):Int))):=eh o3;have it:=oX o2 o1;have sb:1+((k:Nat):Int)-1=((k:Nat):Int):=by omega
 have h1:1<=((10^k:Nat):Int):=by have:=Nat.pow_pos (n:=k) (show 0<10 by decide);omega
 have h2:10*((10^k:Nat):Int)<=10^30:=by
  have:10^(k+1)<=10^30:=CK (by decide) (by omega);rw[Nat.pow_succ] at this;rw[p30];have e:(10:Nat)^30=1000000000000000000000000000000:=by decide
  omega
 clear o1 o2 o3;refine bh (λe=>e=[.mu v3,.sh (.int (1+(k:Nat))),.sh (.int ((10^k:Nat):Int))]) ⟨_,by simp![sb,ms,as,it],rfl⟩ ?_;rintro _ rfl;generalize ((10^k:Nat):Int)=L at *;obtain⟨g,v4,e4,f4,g0⟩:=zg f3 (by omega);obtain⟨d,v5,e5,f5,d0,d1⟩:=ba (m:=3) f4 (by omega) (by decide) (sm8 (by decide));have m1:aW.G (.int 10) (.int L)=.val (.int (10*L)):=cm (CMulA.left (by decide) (by decide));have m2:aW.G (.int 9) (.int L)=.val (.int (9*L)):=cm (CMulA.left (by decide) (by decide));have m3:bF.G (.int g) (.int (9*L))=.val (.int (g.fmod (9*L))):=dh (by omega);have r:=dM (a:=g) (m:=9*L) (by omega);obtain rfl |rfl |rfl:d=0\/d=1\/d=2:=by omega
 .exact⟨L,v5,by simp![e4,e5,m1,m2,m3,fU],f5.mono (by omega),h1,by omega⟩
 .exact⟨10*L-1,v5,by simp![e4,e5,m1,m2,m3,fU],f5.mono (by omega),by omega,by omega⟩
 .exact⟨L+g.fmod (9*L),v5,by simp![e4,e5,m1,m2,m3,fU],f5.mono (by omega),by omega,by omega⟩
def ny{T d x:Int}(h:T*d=x)(hd:d≠0):T.natAbs<=x.natAbs:=by
 have q:T.natAbs*d.natAbs=x.natAbs:=by rw[<- DK,h]
 have:1<=d.natAbs:=by omega
 have:=Nat.mul_le_mul (v_ T.natAbs) this
 omega
def xK{a b:Int}(hb:b≠0):((a:Rat)/(b:Rat)).num.natAbs<=a.natAbs/\((a:Rat)/(b:Rat)).den<=b.natAbs:=by obtain⟨e1,e2⟩:=km (a:=a) hb;have h2:=ny (Fr.B_mul (a:=a) hb) (Fr.dv_ne hb);rw[e2] at h2;exact⟨by rw[<- e1];exact ny (Fr.T_mul hb) (Fr.dv_ne hb),h2⟩
def ik{b:Int}(h0:0<b)(h:b<10^30):Sm 8000 b:=uE (by rw[p30] at h;omega)
def Few(q:Rat):Prop:=q.num.natAbs<10^30/\q.den<10^30
def pE{a b:Int}(hb:0<b)(h1:a.natAbs<10^30)(h2:b<10^30):Few ((a:Rat)/(b:Rat)):=by
 obtain⟨q1,q2⟩:=xK (a:=a) (b:=b) (by omega);have e:(10:Nat)^30=1000000000000000000000000000000:=by decide
 rw[p30] at h2;exact⟨by omega,by omega⟩
def qQ{n:Nat}{v:Val}(f:Fd n v)(hn:n<=800000000):∃(q:Rat) (v':Val),bU.G [v]=.ok (.val (fV q)) [v']/\Fd (n+50) v'/\Few q:=by
 obtain⟨a,v1,e1,f1,a0,a1⟩:=cB f (by omega);obtain⟨b,v2,e2,f2,b0,b1⟩:=ba (m:=2) f1 (by omega) (by decide) (sm8 (by decide));obtain⟨c,v3,e3,f3,c0,c1⟩:=cB f2 (by omega);obtain⟨d,v4,e4,f4,d0,d1⟩:=ba (m:=4) f3 (by omega) (by decide) (sm8 (by decide));have c_:∀x y:Int,x.natAbs<10^30->0<y->y<10^30->∃(q:Rat) (v':Val),(aQ.G [.int x,.int y]=.ok (.val (fV q)) [])/\Few q:=λx y h1 h2 h3=>⟨_,v4,lW h2 (ik h2 h3),pE h2 h1 h3⟩;have m1:∀z:Int,z.natAbs<=1->aW.G (.int c) (.int z)=.val (.int (c*z)):=λz h=>cm (CMulA.right (by omega) (by omega));have ms:=m1 1 (by decide);have mn:=m1 (-1) (by decide);have mo:=m1 0 (by decide);have ca:c.natAbs<10^30:=by
  rw[p30] at c1;have e:(10:Nat)^30=1000000000000000000000000000000:=by decide
  omega
 have key:∀y:Int,y=1\/y=a->∀z:Int,z=1\/z=-1\/z=0->∃(q:Rat) (v':Val),(aQ.G [.int (c*z),.int y]=.ok (.val (fV q)) [])/\Few q:=λy hy z hz=>c_ _ _ (by
  rcases hz with rfl |rfl |rfl
  .rw[Int.mul_one];exact ca
  .rw[Int.mul_neg,Int.mul_one,Int.natAbs_neg];exact ca
  .rw[Int.mul_zero];decide) (by rcases hy with rfl |rfl <;> omega) (by
  rcases hy with rfl |rfl
  .decide
  .exact a1)
 clear c_ m1;have F4:=f4.mono (m:=n+50) (by omega);have body:∀(y z:Int),(b=0/\y=1\/b=1/\y=a)->(d=0/\z=1\/d=1/\z=-1\/d=2/\z=0\/d=3/\z=1)->∃(q:Rat) (v':Val),bU.G [v]=.ok (.val (fV q)) [v']/\Fd (n+50) v'/\Few q:=by intro y z hy hz;obtain⟨q,_,lo,fw⟩:=key y (by omega) z (by omega);refine⟨q,v4,?_,F4,fw⟩;unfold bU;rw[bB];unfold jL;have fl:=kr q;generalize fV q=Q at *;rcases hy with ⟨rfl,rfl⟩ |⟨rfl,rfl⟩ <;> rcases hz with ⟨rfl,rfl⟩ |⟨rfl,rfl⟩ |⟨rfl,rfl⟩ |⟨rfl,rfl⟩ <;> simp![e1,e2,e3,e4,ms,mn,mo,lo,fl]
 obtain rfl |rfl:b=0\/b=1:=by omega
 .obtain rfl |rfl |rfl |rfl:d=0\/d=1\/d=2\/d=3:=by omega
  .exact body 1 1 (by omega) (by omega)
  .exact body 1 (-1) (by omega) (by omega)
  .exact body 1 0 (by omega) (by omega)
  .exact body 1 1 (by omega) (by omega)
 .obtain rfl |rfl |rfl |rfl:d=0\/d=1\/d=2\/d=3:=by omega
  .exact body a 1 (by omega) (by omega)
  .exact body a (-1) (by omega) (by omega)
  .exact body a 0 (by omega) (by omega)
  .exact body a 1 (by omega) (by omega)
noncomputable def txQ (q:Rat):Str:=if q.den=1 then tn q.num else tn q.num++Str.ofString "/" ++ tn (q.den:Nat)
def sok{x:Str}(h:∀c∈x.cps.toList,c<128):PyData.strOk x=true:=by unfold PyData.strOk;rw[<- DZ,Cv];exact λc hc=>Co (by have:=h c hc;omega)
def qS:(Str.ofString "/" : Str).cps.toList=[47]:=rfl
def mX{q:Rat}{c:Nat}(h:c∈(txQ q).cps.toList):c=45\/(47<=c/\c<=57):=by
 unfold txQ at h;split at h
 .have:=ef h;omega
 .rw[cz,cz,qS,Dj] at h;rcases Dv.mp h with h |h
  .have:=ef h;omega
  .rcases Dv.mp h with h |h
   .rw[DC] at h;omega
   .have:=ef h;omega
def iw(q:Rat):PyData.strOk (txQ q)=true:=sok λc hc=>by have:=mX hc;omega
def BJ(q:Rat):32∉(txQ q).cps.toList:=λh=>by have:=mX h;omega
def BA(p q:Rat):bw (.str (txQ p)) (.str (txQ q))=some (txQ p==txQ q):=L3.eq_str (iw p) (iw q)
def Mid(q:Rat):Prop:=q.num.natAbs<10^64/\q.den<10^64
def Few.mid{q:Rat}(h:Few q):Mid q:=⟨t_ h.1 (CK (by decide) (by decide)),t_ h.2 (CK (by decide) (by decide))⟩
def p64{m:Nat}(h:m<10^64):m<10^70:=t_ h (CK (by decide) (by decide))
def n4{m:Nat}(h:m<10^64):m<2^1900:=by
 have e1:(10:Nat)^64<=16^64:=Nat.pow_le_pow_left (by decide) 64;have e2:(16:Nat)^64=2^256:=by rw[show (16:Nat)=2^4 from rfl,<- Nat.pow_mul]
 have e3:(2:Nat)^256<=2^1900:=CK (by decide) (by decide);omega
def nN{q:Rat}(h:Mid q):(tn q.num).length<=71:=cL (p64 h.1)
def nR{q:Rat}(h:Mid q):(tn (q.den:Nat)).length<=71:=cL (i:=(q.den:Nat)) (p64 (by rw[Cy];exact h.2))
def fR(a b:Str):(a++b).length=a.length+b.length:=by rw[bx,cz,Cz,<- bx,<- bx]
def lY{q:Rat}(h:Mid q):(txQ q).length<=143:=by
 have h1:=nN h;have h2:=nR h;unfold txQ;split
 .omega
 .rw[fR,fR,show (Str.ofString "/" : Str).length=1 from rfl];omega
def rF(x:Str):Txt.join (Str.ofString "") [x]=x:=(D1 _ _:Txt.join (Str.ofString "") [x]=Str.join (Str.ofString "") [x]).trans rfl
def vo{x:Str}(h:x.length<=1000):JoinOk (Str.ofString "") [x]=true:=jE (m:=1000) (λw hw=>by rw[DC.mp hw];exact h) (by show 1*(1000+0)<=_;decide)
def pw64:cS.G (.int 10) (.int 64)=.val (.int (10^64)):=ko ⟨by decide,by decide,by decide⟩
def gO{m:Nat}(h:m<10^64):bM.G [.int (m:Nat)]=.ok (.val (.str (tn (m:Nat)))) []:=by
 have ks:=oI (i:=(m:Nat)) (by rw[Cy];exact n4 h);have hl:=cL (i:=(m:Nat)) (by rw[Cy];exact p64 h);have ge:decide (((m:Nat):Int) >= 10^64)=false:=Cp λz=>by
  have e:((10^64:Nat):Int)=(10:Int)^64:=by norm_cast
  omega
 have kj:=ia (a:=Str.ofString "") (zs:=[tn (m:Nat)]) (vo (by omega));rw[rF] at kj;have kj:cG.G [.str (Str.ofString ""),.lst [.str (tn (m:Nat))]]=.val (.str (tn (m:Nat))):=kj;have rv:n5.G (.lst [.str (tn (m:Nat))]) (.int (-1))=.new (.lst [.str (tn (m:Nat))]):=Ao _;rw[show Str.ofString (toString ((m:Nat):Int))=tn (m:Nat) from rfl] at ks;generalize tn (m:Nat)=tx at *;have wl:(xWh (qOf (pOp bGe (af 0) (pOp cS (ah 10) (ah 64)))) fj).G [.sh (.int (m:Nat)),.ow (.lst []),.no]=.nx [.sh (.int (m:Nat)),.ow (.lst []),.no]:=by rw[l8];simp![pw64,ge]
 unfold bM;rw[bB];unfold fK;simp![wl,ks,lF,cT,aX,rv,kj]
def d5{q:Rat}(h:Mid q):aR.G [fV q]=.ok (.val (.str (txQ q))) []:=by
 have h1:=nN h;have h2:=nR h;have k1:=oI (i:=q.num) (n4 h.1);have k2:=oI (i:=(q.den:Nat)) (by rw[Cy];exact n4 h.2);rw[show Str.ofString (toString q.num)=tn q.num from rfl] at k1;rw[show Str.ofString (toString ((q.den:Nat):Int))=tn (q.den:Nat) from rfl] at k2;have a1:bT.G (.str (tn q.num)) (.str (Str.ofString "/"))=.val (.str (tn q.num++Str.ofString "/")):=eh (by rw[show (Str.ofString "/" : Str).length=1 from rfl];omega);have a2:bT.G (.str (tn q.num++Str.ofString "/")) (.str (tn (q.den:Nat)))=.val (.str (tn q.num++Str.ofString "/" ++ tn (q.den:Nat))):=eh (by rw[fR,show (Str.ofString "/" : Str).length=1 from rfl];omega);unfold aR;rw[bB];unfold ig txQ;rw[show fV q=.tup [.int q.num,.int q.den] from rfl];by_cases hd:q.den=1
 .rw[if_pos hd,hd];simp![k1]
 .have d0:(((q.den:Nat):Int)==1)=false:=by rw[Cq];omega
  rw[if_neg hd];simp![k1,k2,a1,a2,d0]
def fQ{q:Rat}(h:Mid q):aG.G [fV q]=.ok (.val (.str (txQ q))) []:=by
 have h1:=nN h;have h2:=nR h;have k1:=gO h.1;have k2:=gO h.2;have a0:∀x:Str,x.length<=1000->bT.G (.str (Str.ofString "-")) (.str x)=.val (.str (Str.ofString "-" ++ x)):=λx hx=>eh (by rw[show (Str.ofString "-" : Str).length=1 from rfl];omega);have a1:bT.G (.str (tn q.num)) (.str (Str.ofString "/"))=.val (.str (tn q.num++Str.ofString "/")):=eh (by rw[show (Str.ofString "/" : Str).length=1 from rfl];omega);have a2:bT.G (.str (tn q.num++Str.ofString "/")) (.str (tn (q.den:Nat)))=.val (.str (tn q.num++Str.ofString "/" ++ tn (q.den:Nat))):=eh (by rw[fR,show (Str.ofString "/" : Str).length=1 from rfl];omega);have ab:eV.G [.int q.num]=.val (.int (q.num.natAbs:Nat)):=by rw[uo,iJ]
 unfold aG;rw[bB];unfold dW txQ;rw[show fV q=.tup [.int q.num,.int (q.den:Nat)] from rfl] at *;by_cases h0:q.num<0
 .have m:=rz (m:=q.num.natAbs) (by omega);rw[show -((q.num.natAbs:Nat):Int)=q.num by omega] at m;have a3:=a0 (tn (q.num.natAbs:Nat)) (by have:=cL (i:=(q.num.natAbs:Nat)) (by rw[Cy];exact p64 h.1);omega);rw[m] at a3;generalize tn (q.num.natAbs:Nat)=t1 at *;by_cases hd:q.den=1
  .rw[if_pos hd,hd];simp![ab,k1,Co h0,a3]
  .have d0:(((q.den:Nat):Int)==1)=false:=by rw[Cq];omega
   rw[if_neg hd];simp![ab,k1,Co h0,a3,k2,a1,a2,d0]
 .rw[show ((q.num.natAbs:Nat):Int)=q.num by omega] at k1 ab;by_cases hd:q.den=1
  .rw[if_pos hd,hd];simp![ab,k1,Cp h0]
  .have d0:(((q.den:Nat):Int)==1)=false:=by rw[Cq];omega
   rw[if_neg hd];simp![ab,k1,Cp h0,k2,a1,a2,d0]
def vB{m:Nat}:∃s:Sl,lcV (gtN 0).G qY.G (pOp lE (af 0) de).G (fb (tn (m:Nat))) [] [.no]=.ok ((tn (m:Nat)).cps.toList.map λ_=>Val.bl true) [s]\/16777216<(tn (m:Nat)).cps.toList.length:=by
 by_cases hl:(tn (m:Nat)).cps.toList.length<=16777216
 .obtain⟨e',⟨s,rfl,_⟩,lc⟩:=cP (g:=(gtN 0).G) (F:=(pOp lE (af 0) de).G) (λc:Nat=>Val.str ⟨#[c]⟩) (λ_=>Val.bl true) (λe=>∃s:Sl,e=[s]/\s.pl=true) (tn (m:Nat)).cps.toList [] [.no] ⟨.no,rfl,rfl⟩ (by
   rintro c hc _ ⟨s,rfl,hs⟩;have fi:=wY m hc;have ki:=B6 (⟨#[c]⟩:Str) (Str.ofString "0123456789");rw[fi] at ki;refine⟨[.sh (.str ⟨#[c]⟩)],.val (.bl true),[.sh (.str ⟨#[c]⟩)],?_,?_,rfl,_,rfl,rfl⟩
   .generalize (⟨#[c]⟩:Str)=x at *;simp![hs]
   .generalize (⟨#[c]⟩:Str)=x at *;simp![ki]) (by rw[C4];omega)
  rw[CU] at lc;exact⟨s,.inl lc⟩
 .exact⟨.no,.inr (by omega)⟩
def lD{α:Type}(l:List α):d7 (l.map λ_=>Val.bl true)=some (l.map λ_=>true):=by
 induction l with
 |nil=>rfl
 |cons a l ih=>show d7 (Val.bl true::l.map λ_=>Val.bl true)=_;rw[d7,ih];rfl
def lU{α:Type}(l:List α):(l.map λ_=>true).all id=true:=by
 induction l with
 |nil=>rfl
 |cons a l ih=>rw[Cr,List.all_cons,ih];rfl
def lG{i:Int}(h:i.natAbs<10^70):∀e:E3,e=[.sh (.str (tn i)),.no]->(aF false 1 (pIf (qOf (pMs nW (af 0) (aa (ao "-") ag))) (pSl (af 0) (oS (ah 1)) oN) (af 0))).G e=.nx [.sh (.str (tn i)),.sh (.str (tn (i.natAbs:Nat)))]:=by
 rintro _ rfl;have hl:=cL h;have ks:=k_sw (tn i) (Str.ofString "-");rw[tR] at ks;have tf:=wm i;by_cases h0:i<0
 .rw[Co h0] at ks tf;rw[if_pos rfl] at tf;have sl:aSl (.str (tn i)) (some 1) none=.val (.str (tn (i.natAbs:Nat))):=by show (if (tn i).length<=16777216 then _ else _)=_;rw[if_pos (by omega),tf]
  generalize tn i=x at *;generalize tn (i.natAbs:Nat)=y at *;simp![cT,aX,ks,sl]
 .rw[Cp h0] at ks tf;rw[if_neg o_] at tf;rw[<- tf];generalize tn i=x at *;simp![cT,aX,ks]
def rdQ(r:R3F)(x:SR3):Prop:=ji [false] x=r
def eC{i:Int}(h:i.natAbs<10^30):aU.G [.str (tn i)]=.ok (.val (.int i)) []:=by
 have h70:i.natAbs<10^70:=t_ h (CK (by decide) (by decide));have l1:=cL h70;have l2:=cL (i:=(i.natAbs:Nat)) (by rw[Cy];exact h70);have lf:(tn (i.natAbs:Nat)).length<=30:=by rw[bx,cX];exact (lJ (by decide)).mpr h
 have l0:(tn (i.natAbs:Nat)).length≠0:=by rw[bx,cX];exact λz=>kz _ (List.length_eq_zero_iff.mp z)
 have ki:=oX (x:=tn i) (n:=i) (by omega) (wO h70);have fn:=lG h70;unfold aU;rw[kx rfl];show rdQ _ (bO.G [.sh (.str (tn i)),.no]);unfold bO;refine bh (λe=>e=[.sh (.str (tn i)),.sh (.str (tn (i.natAbs:Nat)))]) ⟨_,fn _ rfl,rfl⟩ ?_;rintro _ rfl;obtain⟨s,lc |z⟩:=vB (m:=i.natAbs)
 .have ti:txI (some (.str (tn (i.natAbs:Nat))))=some (fb (tn (i.natAbs:Nat))):=yS (xr _);have bt:=lD (tn (i.natAbs:Nat)).cps.toList;have at':=lU (tn (i.natAbs:Nat)).cps.toList;have lm:((tn (i.natAbs:Nat)).cps.toList.map λ_=>Val.bl true).length<=16777216:=by rw[u_,<- bx];omega
  have d0:((((tn (i.natAbs:Nat)).length:Nat):Int)==0)=false:=by rw[Cq];omega
  have d1:decide ((((tn (i.natAbs:Nat)).length:Nat):Int)>30)=false:=Cp (by omega);have l3:(tn (i.natAbs:Nat)).length<=16777216:=by omega
  unfold rdQ;clear fn l0 lf l1 l2;generalize (tn (i.natAbs:Nat)).cps.toList.map (λ_=>Val.bl true)=bs at *;generalize (tn (i.natAbs:Nat)).cps.toList.map (λ_=>true)=bt' at *;generalize fb (tn (i.natAbs:Nat))=sg at *;generalize tn (i.natAbs:Nat)=y at *;generalize tn i=x at *;have it:∀x:Str,(Val.str x).items=none:=λ_=>rfl;simp![it,l3,d0,d1,BQ,ti,lc,lm,bt,at',ki,fU]
 .rw[<- bx] at z;omega
def gT{i:Int}(h:10^30<=i.natAbs)(h70:i.natAbs<10^70):aU.G [.str (tn i)]=.exc "NoText" []:=by
 have l2:=cL (i:=(i.natAbs:Nat)) (by rw[Cy];exact h70);have lf:¬ (tn (i.natAbs:Nat)).length<=30:=by rw[bx,cX];exact λz=>Nat.not_le.mpr ((lJ (by decide)).mp z) h
 have fn:=lG h70;have d0:((((tn (i.natAbs:Nat)).length:Nat):Int)==0)=false:=by rw[Cq];omega
 have d1:decide ((((tn (i.natAbs:Nat)).length:Nat):Int)>30)=true:=Co (by omega);have l3:(tn (i.natAbs:Nat)).length<=16777216:=by omega
 unfold aU;rw[kx rfl];show rdQ _ (bO.G [.sh (.str (tn i)),.no]);unfold bO;refine bh (λe=>e=[.sh (.str (tn i)),.sh (.str (tn (i.natAbs:Nat)))]) ⟨_,fn _ rfl,rfl⟩ ?_;rintro _ rfl;unfold rdQ;clear fn lf l2;generalize tn (i.natAbs:Nat)=y at *;generalize tn i=x at *;have it:∀x:Str,(Val.str x).items=none:=λ_=>rfl;simp![it,l3,d0,d1,xF]
def uv:(⟨#[47]⟩:Str)=Str.ofString "/":=rfl
def mZ(q:Rat):Txt.partition (txQ q) (Str.ofString "/")=if q.den=1 then (tn q.num,Str.ofString "",Str.ofString "") else (tn q.num,Str.ofString "/",tn (q.den:Nat)):=by
 have hf:47∉(tn q.num).cps.toList:=λh=>by have:=ef h;omega
 unfold txQ;by_cases hd:q.den=1
 .rw[if_pos hd,if_pos hd,<- uv,wC hf];rfl
 .rw[if_neg hd,if_neg hd,<- uv,vt hf]
def zA:bw (.str (Str.ofString "/")) (.str (Str.ofString "/"))=some true:=by rw[L3.eq_str (by decide) (by decide)];exact CM some (by decide)
def xt:bw (.str (Str.ofString "")) (.str (Str.ofString "/"))=some false:=by rw[L3.eq_str (by decide) (by decide)];exact CM some (by decide)
def zN{q:Rat}(h:Few q):Sm 8000 (q.den:Nat):=ik (by have:=q.den_pos;omega) (by
 have:=h.2
 have e:((10^30:Nat):Int)=(10:Int)^30:=by norm_cast
 omega)
def cu{q:Rat}(h:Few q):aq.G [.str (txQ q)]=.ok (.val (fV q)) []:=by
 have dp:=q.den_pos;have tl:=lY h.mid;have pt:=p9 (a:=txQ q) (b:=Str.ofString "/") rfl (by omega);rw[mZ] at pt;have r1:=eC h.1;have r2:=eC (i:=(q.den:Nat)) (by rw[Cy];exact h.2);have fe:=mC (a:=q.num) (b:=(q.den:Nat)) (by omega) (zN h);rw[show ((q.num:Rat)/(((q.den:Nat):Int):Rat))=q from by rw[<- Rat.divInt_eq_div];exact Rat.num_divInt_den q] at fe;have se:=fQ h.mid;have ee:=BA q q;rw[show (txQ q==txQ q)=true from by simp] at ee;have dn:(((q.den:Nat):Int)==0)=false:=by rw[Cq];omega
 unfold aq;rw[bB];unfold cC;by_cases hd:q.den=1
 .rw[if_pos hd] at pt;dsimp only at pt;rw[hd,show ((1:Nat):Int)=1 from rfl] at fe;generalize txQ q=x at *;generalize tn q.num=y at *;generalize fV q=fv at *;simp![cT,aX,pt,r1,xt,fe,se,ee]
 .rw[if_neg hd] at pt;dsimp only at pt;generalize txQ q=x at *;generalize tn q.num=y at *;generalize tn (q.den:Nat)=z at *;generalize fV q=fv at *;simp![cT,aX,pt,r1,zA,r2,dn,fe,se,ee]
structure Big(q:Rat):Prop where
 mid:Mid q
 big:10^30<=q.num.natAbs
def cb{q:Rat}(h:Big q):aq.G [.str (txQ q)]=.exc "NoText" []:=by
 have tl:=lY h.mid;have pt:=p9 (a:=txQ q) (b:=Str.ofString "/") rfl (by omega);rw[mZ] at pt;have r1:=gT h.big (p64 h.mid.1);unfold aq;rw[bB];unfold cC;by_cases hd:q.den=1
 .rw[if_pos hd] at pt;dsimp only at pt;generalize txQ q=x at *;generalize tn q.num=y at *;simp![cT,aX,pt,r1]
 .rw[if_neg hd] at pt;dsimp only at pt;generalize txQ q=x at *;generalize tn q.num=y at *;generalize tn (q.den:Nat)=z at *;simp![cT,aX,pt,r1]
noncomputable def fwB (b:Bx):List Rat:=[b.l,b.t,b.w,b.h]
def oh(b:Bx):bV b=.tup ((fwB b).map fV):=rfl
noncomputable def spS:Str:=Str.ofString " "
def sq{zs:List Str}(hl:zs.length=4)(h:∀z∈zs,z.length<=143):JoinOk spS zs=true:=jE (m:=143) h (by rw[hl];show 4*(143+1)<=_;decide)
def gM{zs:List Str}(hl:zs.length=4)(h:∀z∈zs,32∉z.cps.toList):Txt.split (Txt.join spS zs) spS=zs:=oE (c:=32) (λz=>by rw[z] at hl;cases hl) h
def kP{zs:List Str}(hl:zs.length=4)(h:∀z∈zs,z.length<=143):(Txt.join spS zs).length<=1000:=by
 match zs,hl with
 |[a,b,c,d],_=>have e:Txt.join spS [a,b,c,d]=Str.join spS [a,b,c,d]:=D1 _ _;have h1:=h a (by simp);have h2:=h b (by simp);have h3:=h c (by simp);have h4:=h d (by simp);rw[e,bx,bP,bP,bP];simp only[Cz,<- bx];show a.length+(1+(b.length+(1+(c.length+(1+d.length)))))<=1000;omega
def tN{zs:List Str}(hl:zs.length=4)(h:∀z∈zs,PyData.strOk z=true):PyData.strOk (Txt.join spS zs)=true:=by
 match zs,hl with
 |
  [a,b,c,d],_=>
  have e:Txt.join spS [a,b,c,d]=Str.join spS [a,b,c,d]:=D1 _ _;have g:∀z∈[a,b,c,d],∀x∈z.cps.toList,decide (x<0x110000)=true:=λz hz x hx=>by
   have:=h z hz
   unfold PyData.strOk at this;rw[<- DZ,Cv] at this;exact this x hx
  unfold PyData.strOk;rw[e,<- DZ,Cv,bP,bP,bP];intro x hx;simp only[Dv] at hx;have s:∀y∈spS.cps.toList,decide (y<0x110000)=true:=λy hy=>by have:y=32:=DC.mp hy;subst this;rfl
  rcases hx with hx |hx |hx |hx |hx |hx |hx
  .exact g a (by simp) x hx
  .exact s x hx
  .exact g b (by simp) x hx
  .exact s x hx
  .exact g c (by simp) x hx
  .exact s x hx
  .exact g d (by simp) x hx
noncomputable def wdB (b:Bx):List Str:=(fwB b).map txQ
structure FewB(b:Bx):Prop where
 few:∀q∈fwB b,Few q
 ok:b.Ok
def eu(b:Bx):(wdB b).length=4:=rfl
def iz{qs:List Rat}(h:∀q∈qs,Mid q):∀z∈qs.map txQ,z.length<=143:=λz hz=>by obtain⟨q,hq,rfl⟩:=C2.mp hz;exact lY (h q hq)
def kB(qs:List Rat):∀z∈qs.map txQ,32∉z.cps.toList:=λz hz=>by obtain⟨q,hq,rfl⟩:=C2.mp hz;exact BJ q
def Aj(qs:List Rat):∀z∈qs.map txQ,PyData.strOk z=true:=λz hz=>by obtain⟨q,hq,rfl⟩:=C2.mp hz;exact iw q
def vG{qs:List Rat}(h:∀q∈qs,Mid q)(hl:qs.length<=1000):∃s:Sl,lcV (gtN 0).G qY.G (ai aG (aa (af 0) ag)).G (qs.map fV) [] [.no]=.ok ((qs.map txQ).map .str) [s]:=by
 obtain⟨e',⟨s,rfl,_⟩,lc⟩:=cP (g:=(gtN 0).G) (F:=(ai aG (aa (af 0) ag)).G) fV (λq=>Val.str (txQ q)) (λe=>∃s:Sl,e=[s]/\s.pl=true) qs [] [.no] ⟨.no,rfl,rfl⟩ (by
  rintro q hq _ ⟨s,rfl,hs⟩;have te:=fQ (h q hq);refine⟨[.sh (fV q)],.val (.str (txQ q)),[.sh (fV q)],?_,?_,rfl,_,rfl,rfl⟩
  .generalize fV q=v at *;simp![hs]
  .generalize fV q=v at *;simp![te]) (by rw[C4];omega)
 rw[CU] at lc;exact⟨s,by rw[List.map_map];exact lc⟩
def wJ{qs:List Rat}(h:∀q∈qs,Mid q)(hl:qs.length<=1000):∃s:Sl,lcV (gtN 0).G qY.G (ai aR (aa (af 0) ag)).G (qs.map fV) [] [.no]=.ok ((qs.map txQ).map .str) [s]:=by
 obtain⟨e',⟨s,rfl,_⟩,lc⟩:=cP (g:=(gtN 0).G) (F:=(ai aR (aa (af 0) ag)).G) fV (λq=>Val.str (txQ q)) (λe=>∃s:Sl,e=[s]/\s.pl=true) qs [] [.no] ⟨.no,rfl,rfl⟩ (by
  rintro q hq _ ⟨s,rfl,hs⟩;have te:=d5 (h q hq);refine⟨[.sh (fV q)],.val (.str (txQ q)),[.sh (fV q)],?_,?_,rfl,_,rfl,rfl⟩
  .generalize fV q=v at *;simp![hs]
  .generalize fV q=v at *;simp![te]) (by rw[C4];omega)
 rw[CU] at lc;exact⟨s,by rw[List.map_map];exact lc⟩
def my{b:Bx}(h:FewB b):cJ.G [bV b]=.ok (.val (.str (Txt.join spS (wdB b)))) []:=by
 obtain⟨s,lc⟩:=vG (qs:=fwB b) (λq hq=>(h.few q hq).mid) (by show 4<=1000;decide);have jo:=sq (eu b) (iz λq hq=>(h.few q hq).mid);have kj:=ia (a:=spS) (zs:=wdB b) jo;rw[show (fwB b).map txQ=wdB b from rfl] at lc;have l4:((wdB b).map Val.str).length<=16777216:=by show 4<=_;decide
 rw[oh];unfold cJ;rw[bB];unfold h9;rw[show ao " "=ao spS from rfl];generalize (wdB b).map Val.str=wv at *;generalize (fwB b).map fV=fv at *;generalize Txt.join spS (wdB b)=x at *;simp![cT,aX,lc,l4,kj]
def vJ{qs:List Rat}(h:∀q∈qs,Few q)(hl:qs.length<=1000):∃s:Sl,lcV (gtN 0).G qY.G (ai aq (aa (af 0) ag)).G ((qs.map txQ).map .str) [] [.no]=.ok (qs.map fV) [s]:=by
 obtain⟨e',⟨s,rfl,_⟩,lc⟩:=cP (g:=(gtN 0).G) (F:=(ai aq (aa (af 0) ag)).G) (λq=>Val.str (txQ q)) fV (λe=>∃s:Sl,e=[s]/\s.pl=true) qs [] [.no] ⟨.no,rfl,rfl⟩ (by
  rintro q hq _ ⟨s,rfl,hs⟩;have te:=cu (h q hq);refine⟨[.sh (.str (txQ q))],.val (fV q),[.sh (.str (txQ q))],?_,?_,rfl,_,rfl,rfl⟩
  .generalize txQ q=v at *;simp![hs]
  .generalize txQ q=v at *;generalize fV q=w at *;simp![te]) (by rw[C4];omega)
 rw[CU] at lc;exact⟨s,by rw[List.map_map];exact lc⟩
def mI{b:Bx}(h:FewB b):bf.G [.str (Txt.join spS (wdB b))]=.ok (.val (bV b)) []:=by
 obtain⟨s,lc⟩:=vJ (qs:=fwB b) h.few (by show 4<=1000;decide);have jl:=kP (eu b) (iz λq hq=>(h.few q hq).mid);have ks:=mP (a:=Txt.join spS (wdB b)) (b:=spS) rfl (by omega) (by rw[gM (eu b) (kB _)];show 4<=_;decide);rw[gM (eu b) (kB _)] at ks;rw[show (fwB b).map txQ=wdB b from rfl] at lc;have l4:((fwB b).map fV).length<=16777216:=by show 4<=_;decide
 have ibx:=qJ (xw b);rw[rJ h.ok] at ibx;rw[oh] at *;unfold bf;rw[bB];unfold eU;rw[show ao " "=ao spS from rfl];generalize (wdB b).map Val.str=wv at *;generalize (fwB b).map fV=fv at *;generalize Txt.join spS (wdB b)=x at *;simp![uK,cT,aX,ks,lc,l4,ibx]
theorem kI:∀(zs acc:List Val) (s:Sl),s.pl=true->acc.length+zs.length<=1000->(∀z∈zs,(∃q,z=.str (txQ q)/\Few q)\/∃q,z=.str (txQ q)/\Big q)->(∃q,Val.str (txQ q)∈zs/\Big q)->∃s':Sl,lcV (gtN 0).G qY.G (ai aq (aa (af 0) ag)).G zs acc [s]=.exc "NoText" [s']
 | [],_,_,_,_,_,h=>by obtain⟨_,h,_⟩:=h;exact nomatch h
 |
  z::zs,acc,s,hs,hl,ha,hb=>by
  rw[CF] at hl;unfold lcV;rw[if_pos (by omega)];have g1:∀x:Str,(gtN 0).G (.str x) [s]=some [.sh (.str x)]:=λx=>by simp![hs]
  rcases ha z (r_ ..) with ⟨q,rfl,hq⟩ |⟨q,rfl,hq⟩
  .have te:=cu hq;have hb':∃p,Val.str (txQ p)∈zs/\Big p:=by
    obtain⟨p,hp,bp⟩:=hb;rcases Cu.mp hp with e |e
    .exfalso;injection e with e;have r1:=cb bp;rw[e,te] at r1;cases r1
    .exact⟨p,e,bp⟩
   obtain⟨s',ih⟩:=kI zs (acc++[fV q]) (.sh (.str (txQ q))) rfl (by rw[Cz];show acc.length+1+zs.length<=1000;omega) (λy hy=>ha y (q_ _ hy)) hb';refine⟨s',?_⟩;rw[g1];generalize txQ q=x at *;generalize fV q=w at *;have fe:(ai aq (aa (af 0) ag)).G [.sh (.str x)]=.ok (.val w) [.sh (.str x)]:=by simp![te]
   have qy:qY.G [.sh (.str x)]=.ok true [.sh (.str x)]:=rfl;simp![qy,te,ih]
  .have te:=cb hq;refine⟨.sh (.str (txQ q)),?_⟩;rw[g1];generalize txQ q=x at *;have fe:(ai aq (aa (af 0) ag)).G [.sh (.str x)]=.exc "NoText" [.sh (.str x)]:=by simp![te]
   have qy:qY.G [.sh (.str x)]=.ok true [.sh (.str x)]:=rfl;simp![qy,te]
def lI{qs:List Rat}(hl:qs.length=4)(h:∀q∈qs,Few q\/Big q)(hb:∃q∈qs,Big q):bf.G [.str (Txt.join spS (qs.map txQ))]=.exc "NoText" []:=by
 have hm:∀q∈qs,Mid q:=λq hq=>(h q hq).elim Few.mid Big.mid;have l4:(qs.map txQ).length=4:=by rw[u_,hl]
 have jl:=kP l4 (iz hm);have ks:=mP (a:=Txt.join spS (qs.map txQ)) (b:=spS) rfl (by omega) (by rw[gM l4 (kB _),l4];decide);rw[gM l4 (kB _)] at ks;obtain⟨s',lc⟩:=kI ((qs.map txQ).map .str) [] .no rfl (by rw[u_,l4];decide) (λz hz=>by
  obtain⟨x,hx,rfl⟩:=C2.mp hz;obtain⟨q,hq,rfl⟩:=C2.mp hx;rcases h q hq with f |g
  .exact .inl ⟨q,rfl,f⟩
  .exact .inr ⟨q,rfl,g⟩) (by
  obtain⟨q,hq,bq⟩:=hb;exact⟨q,C2.mpr ⟨_,C2.mpr ⟨q,hq,rfl⟩,rfl⟩,bq⟩)
 unfold bf;rw[bB];unfold eU;rw[show ao " "=ao spS from rfl];generalize (qs.map txQ).map Val.str=wv at *;generalize Txt.join spS (qs.map txQ)=x at *;simp![uK,cT,aX,ks,lc]
def jF(n:Nat)(i:Int):(aw (n+1)).G [.int i]=.ok (.val (.bl true)) []:=by have i1:(au az).G [.int i,.ty "tuple"]=.val (.bl false):=rfl;have i2:(au az).G [.int i,.ty "int"]=.val (.bl true):=rfl;have i3:(au az).G [.int i,.ty "bool"]=.val (.bl false):=rfl;show (PFx.of [false] 1 (aZ (aw n))).G [_]=_;rw[uU];unfold aZ;simp![i1,i2,i3]
def jB{n:Nat}{vs:List Val}(hl:vs.length<=1000)(h:∀v∈vs,(aw n).G [v]=.ok (.val (.bl true)) []):(aw (n+1)).G [.tup vs]=.ok (.val (.bl true)) []:=by
 have i1:(au az).G [.tup vs,.ty "tuple"]=.val (.bl true):=rfl;obtain⟨e',⟨s,rfl,_⟩,lc⟩:=cP (g:=(gtN 0).G) (F:=(ai (aw n).fn (aa (af 0) ag)).G) (id:Val->Val) (λ_=>Val.bl true) (λe=>∃s:Sl,e=[s]/\s.pl=true) vs [] [.no] ⟨.no,rfl,rfl⟩ (by
  rintro v hv _ ⟨s,rfl,hs⟩;have te:=h v hv;refine⟨[.sh v],.val (.bl true),[.sh v],?_,?_,rfl,_,rfl,rfl⟩
  .show (gtN 0).G v _=_;simp![hs]
  .simp![te]) (by rw[C4];omega)
 rw[CU,List.map_id] at lc;have bt:=lD vs;have at':=lU vs;have lm:(vs.map λ_=>Val.bl true).length<=16777216:=by rw[u_];omega
 show (PFx.of [false] 1 (aZ (aw n))).G [_]=_;rw[uU];unfold aZ;generalize vs.map (λ_=>Val.bl true)=bs at *;generalize vs.map (λ_=>true)=bt' at *;simp![i1,lc,lm,bt,at']
def kR(n:Nat)(q:Rat):(aw (n+2)).G [fV q]=.ok (.val (.bl true)) []:=jB (vs:=[.int q.num,.int q.den]) (by show 2<=1000;decide) λv hv=>by
 rcases Cu.mp hv with rfl |hv
 .exact jF n _
 .rw[DC.mp hv];exact jF n _
def tM(n:Nat)(b:Bx):(aw (n+3)).G [bV b]=.ok (.val (.bl true)) []:=jB (vs:=(fwB b).map fV) (by show 4<=1000;decide) λv hv=>by obtain⟨q,_,rfl⟩:=C2.mp hv;exact kR n q
def jJ:cE.G [.exc "NoText"]=.ok (.val (.str "text")) []:=by have i0:(au az).G [.exc "NoText",.glb "NoBox"]=.val (.bl false):=rfl;have i1:(au az).G [.exc "NoText",.glb "NoWeights"]=.val (.bl false):=rfl;have i2:(au az).G [.exc "NoText",.glb "TooMany"]=.val (.bl false):=rfl;have i3:(au az).G [.exc "NoText",.glb "NoKind"]=.val (.bl false):=rfl;have i4:(au az).G [.exc "NoText",.glb "NoRule"]=.val (.bl false):=rfl;have i5:(au az).G [.exc "NoText",.glb "NoThing"]=.val (.bl false):=rfl;have i6:(au az).G [.exc "NoText",.glb "NoCut"]=.val (.bl false):=rfl;have i7:(au az).G [.exc "NoText",.glb "NoText"]=.val (.bl true):=rfl;have i8:(au az).G [.exc "NoText",.glb "NoRow"]=.val (.bl false):=rfl;have i9:(au az).G [.exc "NoText",.glb "NoName"]=.val (.bl false):=rfl;have i10:(au az).G [.exc "NoText",.glb "Taken"]=.val (.bl false):=rfl;have i11:(au az).G [.exc "NoText",.glb "Unknown"]=.val (.bl false):=rfl;have i12:(au az).G [.exc "NoText",.glb "NoFraction"]=.val (.bl false):=rfl;have i13:(au az).G [.exc "NoText",.glb "NoWay"]=.val (.bl false):=rfl;have i14:(au az).G [.exc "NoText",.glb "NoTree"]=.val (.bl false):=rfl;have iv:(au az).G [.exc "NoText",.ty "ValueError"]=.val (.bl true):=rfl;have ct:jr.G (.lst [.bl false,.bl false,.bl false,.bl false,.bl false,.bl false,.bl false,.bl true,.bl false,.bl false,.bl false,.bl false,.bl false,.bl false,.bl false]) [.bl true]=.val (.int 1):=rfl;have ix:jh.G (.lst [.bl false,.bl false,.bl false,.bl false,.bl false,.bl false,.bl false,.bl true,.bl false,.bl false,.bl false,.bl false,.bl false,.bl false,.bl false]) [.bl true]=.val (.int 7):=rfl;unfold cE;rw[bB];unfold gX;simp![i0,i1,i2,i3,i4,i5,i6,i7,i8,i9,i10,i11,i12,i13,i14,iv,ct,ix]
def pK:bw (.str (Str.ofString "text")) (.str (Str.ofString "text"))=some true:=by rw[L3.eq_str (by decide) (by decide)];exact CM some (by decide)
def kO:(Str.ofString "NoText")∈c5:=by decide
def sO{x:Str}(h:aq.G [.str x]=.exc "NoText" []):aT.G [.int 0,.str x]=.ok (.val (.bl true)) []:=by have mc:=kO;unfold aT;rw[bB];unfold c7;simp![jw,h,mc,jJ,pK]
def sE{x:Str}(h:bf.G [.str x]=.exc "NoText" []):aT.G [.int 1,.str x]=.ok (.val (.bl true)) []:=by have mc:=kO;unfold aT;rw[bB];unfold c7;simp![jw,h,mc,jJ,pK]
def nq{a m:Nat}(h:m ∣ a):Nat.Coprime (a+1) m:=by refine Nat.eq_one_of_dvd_one ((Nat.dvd_add_right (Nat.dvd_trans (Nat.gcd_dvd_right (a+1) m) h)).mp (Nat.gcd_dvd_left (a+1) m))
def lz{r:Int}{bt:Nat}(h1:1<=r)(h2:r<10^30)(hb:bt=1\/bt=2\/bt=10^31):Big (((r*10^30+1:Int):Rat)/(((bt:Nat):Int):Rat)):=by
 obtain⟨k,rfl⟩:=DM (show 0<=r by omega);have e30:(10:Nat)^30=1000000000000000000000000000000:=by decide
 have e31:(10:Nat)^31=10000000000000000000000000000000:=by decide
 have e64:(10:Nat)^64=10000000000000000000000000000000000000000000000000000000000000000:=by decide
 rw[p30] at h2 ⊢;have en:(((k:Nat):Int)*1000000000000000000000000000000+1)=((k*1000000000000000000000000000000+1:Nat):Int):=by omega
 rw[en];have d10:(10:Nat) ∣ k*1000000000000000000000000000000:=⟨k*100000000000000000000000000000,by omega⟩;have d2:(2:Nat) ∣ k*1000000000000000000000000000000:=⟨k*500000000000000000000000000000,by omega⟩;have cp:Nat.Coprime (k*1000000000000000000000000000000+1) bt:=by
  rcases hb with rfl |rfl |rfl
  .exact Nat.coprime_one_right _
  .exact nq d2
  .exact Nat.Coprime.pow_right 31 (nq d10)
 have nz:bt≠0:=by rcases hb with rfl |rfl |rfl <;> decide
 have q:=Rat.num_divInt_den ⟨((k*1000000000000000000000000000000+1:Nat):Int),bt,nz,by rw[Cy];exact cp⟩;rw[Rat.divInt_eq_div] at q;rw[show ((((k*1000000000000000000000000000000+1:Nat):Int):Rat)/(((bt:Nat):Int):Rat))=_ from q];refine⟨⟨?_,?_⟩,?_⟩
 .show Int.natAbs ((k*1000000000000000000000000000000+1:Nat):Int)<10^64;rw[Cy,e64];omega
 .show bt<10^64;rw[e64];rcases hb with rfl |rfl |rfl
  .decide
  .decide
  .rw[e31];decide
 .show 10^30<=Int.natAbs ((k*1000000000000000000000000000000+1:Nat):Int);rw[Cy,e30];omega
def Aw{bt:Nat}(hb:bt=1\/bt=2\/bt=10^31):Sm 8000 ((bt:Nat):Int):=by
 have:bt<=2^104:=by rcases hb with rfl |rfl |rfl <;> decide
 unfold Sm;rw[Cy];exact DD this (Nat.pow_lt_pow_right (by decide) (by decide))
def wa{c:Int}(h1:1<=c)(h:c<10^30):Few (c:Rat):=by
 rw[p30] at h;have e:(10:Nat)^30=1000000000000000000000000000000:=by decide
 refine⟨?_,?_⟩
 .show c.natAbs<10^30;omega
 .show 1<10^30;decide
def rO:cS.G (.int 10) (.int 30)=.val (.int (10^30)):=ko ⟨by decide,by decide,by decide⟩
def sA:cS.G (.int 10) (.int 31)=.val (.int (10^31)):=ko ⟨by decide,by decide,by decide⟩
def su{n:Nat}{v:Val}{x0 x2 x3 x4 x5 x6 x7:Sl}(h7:x7.pl=true)(f:Fd n v)(hn:n<=700000000):∃(g:Rat) (v':Val),Big g/\Fd (n+50) v'/\(aF false 7 (ai aQ (aa (pOp bN (pOp aW (ai aO (aa (af 1) ag)) (pOp cS (ah 10) (ah 30))) (ah 1)) (aa (pOp bIx (cc (aa (ah 1) (aa (ah 2) (aa (pOp cS (ah 10) (ah 31)) ag)))) (ai aK (aa (af 1) (aa (ah 3) ag)))) ag)))).G [x0,.ow v,x2,x3,x4,x5,x6,x7]=.nx [x0,.ow v',x2,x3,x4,x5,x6,.sh (fV g)]:=by
 obtain⟨r,v1,e1,f1,r1,r2⟩:=cB f (by omega);obtain⟨d,v2,e2,f2,d0,d1⟩:=ba (m:=3) f1 (by omega) (by decide) (sm8 (by decide));have m1:aW.G (.int r) (.int (10^30))=.val (.int (r*10^30)):=cm (CMulA.of (ik (by omega) r2) (uE (m:=10^30) (by rw[p30];decide)) (by decide) (by decide));have key:∀bt:Nat,bt=1\/bt=2\/bt=10^31->aQ.G [.int (r*10^30+1),.int ((bt:Nat):Int)]=.ok (.val (fV (((r*10^30+1:Int):Rat)/(((bt:Nat):Int):Rat)))) []:=λbt hb=>lW (by rcases hb with rfl |rfl |rfl <;> omega) (Aw hb);have F2:=f2.mono (m:=n+50) (by omega);obtain rfl |rfl |rfl:d=0\/d=1\/d=2:=by omega
 .have k:=key 1 (.inl rfl);have k:aQ.G [.int (r*10^30+1),.int 1]=_:=k;refine⟨_,v2,lz (bt:=1) r1 r2 (.inl rfl),F2,?_⟩;generalize fV (((r*10^30+1:Int):Rat)/(((1:Nat):Int):Rat))=w at *;generalize (r*10^30:Int)=R at *;simp![e1,e2,rO,sA,m1,k,h7]
 .have k:=key 2 (.inr (.inl rfl));have k:aQ.G [.int (r*10^30+1),.int 2]=_:=k;refine⟨_,v2,lz (bt:=2) r1 r2 (.inr (.inl rfl)),F2,?_⟩;generalize fV (((r*10^30+1:Int):Rat)/(((2:Nat):Int):Rat))=w at *;generalize (r*10^30:Int)=R at *;simp![e1,e2,rO,sA,m1,k,h7]
 .have k:=key (10^31) (.inr (.inr rfl));rw[show (((10^31:Nat):Nat):Int)=10^31 by norm_cast] at k;have bg:=lz (bt:=10^31) r1 r2 (.inr (.inr rfl));rw[show (((10^31:Nat):Nat):Int)=10^31 by norm_cast] at bg;refine⟨_,v2,bg,F2,?_⟩;generalize fV (((r*10^30+1:Int):Rat)/(((10^31:Int):Int):Rat))=w at *;generalize (r*10^30:Int)=R at *;simp![e1,e2,rO,sA,m1,k,h7]
def Be(q:Rat):bw (fV q) (fV q)=some true:=by rw[ux (kd _ 59) (kd _ 59),jv 60 _ (kd _ 59)]
def A9(b:Bx):bw (bV b) (bV b)=some true:=by rw[ux (oq b 58) (oq b 58),jv 60 _ (oq b 58)]
def nS{x:Str}(h:PyData.strOk x=true):bw (.str x) (.str x)=some true:=by rw[L3.eq_str h h];simp
def rQ{wv:List Val}{k:Int}{t:Val}(hl:wv.length=4)(h0:0<=k)(h1:k<4):seL.G (.lst wv) (.int k) t=some (.lst (wv.set k.toNat t)):=by rw[Cm,yb h0 (by rw[hl];omega)]
def AD(n:Nat)(s0:Sl)(r:SR3):Prop:=∃(v:Val) (t2 t3 t4 t5 t6 t7:Sl),Fd (n+400) v/\t2.pl=true/\t3.pl=true/\t4.pl=true/\t5.pl=true/\t6.pl=true/\t7.pl=true/\r=.nx [s0,.ow v,t2,t3,t4,t5,t6,t7]
def wD{n:Nat}{v:Val}{x0 x3 x4 x5 x6 x7:Sl}{i:Val}(f:Fd n v)(hn:n<=500000000)(h3:x3.pl=true)(h4:x4.pl=true)(h5:x5.pl=true)(h6:x6.pl=true)(h7:x7.pl=true):AD n x0 (ie.G [x0,.ow v,.sh i,x3,x4,x5,x6,x7]):=by
 obtain⟨q1,v1,e1,f1,w1⟩:=qQ f (by omega);unfold ie;refine bh (λe=>e=[x0,.ow v1,.sh i,.sh (fV q1),x4,x5,x6,x7]) ⟨_,by generalize fV q1=k1 at *;simp![e1,h3],rfl⟩ ?_;rintro _ rfl;have lt1:=d5 w1.mid;refine bh (λe=>e=[x0,.ow v1,.sh i,.sh (fV q1),.sh (.str (txQ q1)),x5,x6,x7]) ⟨_,by generalize fV q1=k1 at *;generalize txQ q1=t1 at *;simp![lt1,h4],rfl⟩ ?_;rintro _ rfl;have st1:=fQ w1.mid;have rd1:=cu w1;have et1:=nS (iw q1);have ef1:=Be q1;have wh1:=kR 2 q1;have fl1:=kr q1;refine bh (λe=>e=[x0,.ow v1,.sh i,.sh (fV q1),.sh (.str (txQ q1)),x5,x6,x7]) ⟨_,by generalize fV q1=k1 at *;generalize txQ q1=t1 at *;simp![st1,rd1,et1,ef1,wh1,fl1],rfl⟩ ?_;rintro _ rfl;obtain⟨q2,v2,e2,f2,w2⟩:=qQ f1 (by omega);obtain⟨a,v3,e3,f3,a1,a2⟩:=cB f2 (by omega);obtain⟨c,v4,e4,f4,c1,c2⟩:=cB f3 (by omega);obtain⟨d,v5,e5,f5,d1,d2⟩:=cB f4 (by omega);have lo:=lW (a:=a) (b:=c) (by omega) (ik (by omega) c2);have FB:FewB ⟨q2,q1,(a:Rat)/(c:Rat),(d:Rat)⟩:=⟨λq hq=>by
  simp only[fwB,Cu,List.not_mem_nil,or_false] at hq;rcases hq with rfl |rfl |rfl |rfl
  .exact w2
  .exact w1
  .exact pE (by omega) (by
    rw[p30] at a2;have e:(10:Nat)^30=1000000000000000000000000000000:=by decide
    omega) c2
  .exact wa d1 d2,⟨rV (by omega) (by omega),jb (by omega)⟩⟩
 have ebb:bV ⟨q2,q1,(a:Rat)/(c:Rat),(d:Rat)⟩=.tup [fV q2,fV q1,fV ((a:Rat)/(c:Rat)),.tup [.int d,.int 1]]:=rfl;have fl2:=kr q2;have fl3:=kr ((a:Rat)/(c:Rat));refine bh (λe=>e=[x0,.ow v5,.sh i,.sh (fV q1),.sh (.str (txQ q1)),.sh (bV ⟨q2,q1,(a:Rat)/(c:Rat),(d:Rat)⟩),x6,x7]) ⟨_,by rw[ebb];generalize fV q1=k1 at *;generalize fV q2=k2 at *;generalize fV ((a:Rat)/(c:Rat))=k3 at *;generalize txQ q1=t1 at *;simp![e2,e3,e4,e5,lo,h5,fl1,fl2,fl3],rfl⟩ ?_;rintro _ rfl;generalize (⟨q2,q1,(a:Rat)/(c:Rat),(d:Rat)⟩:Bx)=b at *;clear ebb;obtain⟨s,lc⟩:=wJ (qs:=fwB b) (λq hq=>(FB.few q hq).mid) (by show 4<=1000;decide);rw[show (fwB b).map txQ=wdB b from rfl] at lc;have l4:((wdB b).map Val.str).length=4:=rfl;have l5:((wdB b).map Val.str).length<=16777216:=by rw[l4];decide
 refine bh (λe=>e=[x0,.ow v5,.sh i,.sh (fV q1),.sh (.str (txQ q1)),.sh (bV b),.ow (.lst ((wdB b).map .str)),x7]) ⟨_,by rw[oh];generalize fV q1=k1 at *;generalize txQ q1=t1 at *;generalize (wdB b).map Val.str=wv at *;generalize (fwB b).map fV=fv at *;simp![lc,l5,h6],rfl⟩ ?_;rintro _ rfl;have jo:=sq (eu b) (iz λq hq=>(FB.few q hq).mid);have kj:=ia (a:=spS) (zs:=wdB b) jo;have sb:=my FB;have rb:=mI FB;have ej:=nS (tN (eu b) (Aj _));have eb:=A9 b;have wb:=tM 1 b;refine bh (λe=>e=[x0,.ow v5,.sh i,.sh (fV q1),.sh (.str (txQ q1)),.sh (bV b),.ow (.lst ((wdB b).map .str)),x7]) ⟨_,by rw[show ao " "=ao spS from rfl];generalize fV q1=k1 at *;generalize txQ q1=t1 at *;generalize (wdB b).map Val.str=wv at *;generalize Txt.join spS (wdB b)=jt at *;generalize bV b=bv at *;simp![cT,aX,sb,kj,ej,rb,eb],rfl⟩ ?_;rintro _ rfl;refine bh (λe=>e=[x0,.ow v5,.sh i,.sh (fV q1),.sh (.str (txQ q1)),.sh (bV b),.ow (.lst ((wdB b).map .str)),x7]) ⟨_,by rw[show ao " "=ao spS from rfl];generalize fV q1=k1 at *;generalize txQ q1=t1 at *;generalize (wdB b).map Val.str=wv at *;generalize Txt.join spS (wdB b)=jt at *;generalize bV b=bv at *;simp![cT,aX,kj,rb,wb],rfl⟩ ?_;rintro _ rfl;obtain⟨g,v6,bg,f6,eg⟩:=su (x0:=x0) (x2:=.sh i) (x3:=.sh (fV q1)) (x4:=.sh (.str (txQ q1))) (x5:=.sh (bV b)) (x6:=.ow (.lst ((wdB b).map .str))) h7 f5 (by omega);refine bh (λe=>e=[x0,.ow v6,.sh i,.sh (fV q1),.sh (.str (txQ q1)),.sh (bV b),.ow (.lst ((wdB b).map .str)),.sh (fV g)]) ⟨_,eg,rfl⟩ ?_;rintro _ rfl;have ltg:=d5 bg.mid;have stg:=fQ bg.mid;have etg:=nS (iw g);have rf0:=sO (cb bg);refine bh (λe=>e=[x0,.ow v6,.sh i,.sh (fV q1),.sh (.str (txQ q1)),.sh (bV b),.ow (.lst ((wdB b).map .str)),.sh (fV g)]) ⟨_,by generalize fV q1=k1 at *;generalize txQ q1=t1 at *;generalize fV g=kg at *;generalize txQ g=tg at *;generalize (wdB b).map Val.str=wv at *;generalize bV b=bv at *;simp![stg,ltg,etg,rf0],rfl⟩ ?_;rintro _ rfl;obtain⟨j,v7,e7,f7,j0,j1⟩:=ba (m:=4) f6 (by omega) (by decide) (sm8 (by decide));have sf:=rQ (t:=.str (txQ g)) l4 j0 j1;have es:((wdB b).map Val.str).set j.toNat (.str (txQ g))=(((fwB b).set j.toNat g).map txQ).map .str:=by rw[List.map_set,List.map_set];rfl
 rw[es] at sf;refine bh (λe=>e=[x0,.ow v7,.sh i,.sh (fV q1),.sh (.str (txQ q1)),.sh (bV b),.ow (.lst ((((fwB b).set j.toNat g).map txQ).map .str)),.sh (fV g)]) ⟨_,by generalize fV q1=k1 at *;generalize txQ q1=t1 at *;generalize fV g=kg at *;generalize (((fwB b).set j.toNat g).map txQ).map Val.str=wn at *;generalize txQ g=tg at *;generalize (wdB b).map Val.str=wv at *;generalize bV b=bv at *;simp![e7,ltg,sf],rfl⟩ ?_;rintro _ rfl;have ln:((fwB b).set j.toNat g).length=4:=by rw[CD];rfl
 have hq:∀q∈(fwB b).set j.toNat g,Few q\/Big q:=λq hq=>by
  rcases Dw hq with z |z
  .exact .inl (FB.few q z)
  .exact .inr (by rw[z];exact bg)
 have hb:∃q∈(fwB b).set j.toNat g,Big q:=⟨g,List.mem_iff_getElem?.mpr ⟨j.toNat,by rw[Dh (by show j.toNat<4;omega)]⟩,bg⟩;have rf1:=sE (lI ln hq hb);have kn:=ia (a:=spS) (zs:=((fwB b).set j.toNat g).map txQ) (sq (by rw[u_];exact ln) (iz λq hq'=>(hq q hq').elim Few.mid Big.mid));refine⟨v7,.sh i,.sh (fV q1),.sh (.str (txQ q1)),.sh (bV b),.ow (.lst ((((fwB b).set j.toNat g).map txQ).map .str)),.sh (fV g),f7.mono (by omega),rfl,rfl,rfl,rfl,rfl,rfl,?_⟩;rw[show ao " "=ao spS from rfl];generalize fV q1=k1 at *;generalize txQ q1=t1 at *;generalize fV g=kg at *;generalize Txt.join spS (((fwB b).set j.toNat g).map txQ)=jt at *;generalize (((fwB b).set j.toNat g).map txQ).map Val.str=wn at *;generalize bV b=bv at *;simp![cT,aX,kn,rf1]
def lawQ(r:SR3):Prop:=ji [false] r=.ok (.val (.bl true)) []
def yd(ns:List Int)(hl:ns.length<=63):ka.G [.kl (ns.map .int)]=.ok (.val (.bl true)) []:=by
 unfold ka;rw[kx rfl];show lawQ (n6.G [.sh (.kl (ns.map .int)),.no,.no,.no,.no,.no,.no,.no]);unfold n6;obtain⟨v,e1,f⟩:=uY hl;refine bh (λe=>e=[.sh (.kl (ns.map .int)),.ow v,.no,.no,.no,.no,.no,.no]) ⟨_,by simp![e1],rfl⟩ ?_;rintro _ rfl;have ll:((ns.map Val.int).length:Nat)=ns.length:=u_ ..;have it:(Val.kl (ns.map .int)).items=some (ns.map .int):=rfl;obtain⟨m,hm,em⟩:∃m:Nat,m<=11/\(3+(if ((ns.length:Nat):Int)<8 then ((ns.length:Nat):Int) else 8))=(m:Nat):=by
  by_cases h:((ns.length:Nat):Int)<8
  .exact⟨3+ns.length,by omega,by rw[if_pos h];omega⟩
  .exact⟨11,by omega,by rw[if_neg h];rfl⟩
 obtain⟨e4,⟨v4,t2,t3,t4,t5,t6,t7,f4,p2,p3,p4,p5,p6,p7,rfl⟩,lo⟩:=rq (g:=(gtN 2).G) (B:=ie.G) (λi e=>∃(v:Val) (t2 t3 t4 t5 t6 t7:Sl),Fd (400*i) v/\t2.pl=true/\t3.pl=true/\t4.pl=true/\t5.pl=true/\t6.pl=true/\t7.pl=true/\e=[.sh (.kl (ns.map .int)),.ow v,t2,t3,t4,t5,t6,t7]) m (e:=[.sh (.kl (ns.map .int)),.ow v,.no,.no,.no,.no,.no,.no]) ⟨v,.no,.no,.no,.no,.no,.no,f,rfl,rfl,rfl,rfl,rfl,rfl,rfl⟩ (by rintro i hi _ ⟨v,t2,t3,t4,t5,t6,t7,f,p2,p3,p4,p5,p6,p7,rfl⟩;obtain⟨v',u2,u3,u4,u5,u6,u7,f',q2,q3,q4,q5,q6,q7,e⟩:=wD (x0:=.sh (.kl (ns.map .int))) (i:=.int (i:Nat)) f (by omega) p3 p4 p5 p6 p7;refine⟨_,_,?_,.inl e,v',u2,u3,u4,u5,u6,u7,f'.mono (by omega),q2,q3,q4,q5,q6,q7,rfl⟩;generalize ns.map Val.int=nv at *;simp![p2]);have rg:fA [.int (m:Nat)]=some (rgV m):=m5 (k:=m) (by omega);rw[<- em] at rg;refine bh (λe=>e=[.sh (.kl (ns.map .int)),.ow v4,t2,t3,t4,t5,t6,t7]) ⟨_,by generalize hN:ns.map Val.int=nv at *;simp![it,ll,rg,lo],rfl⟩ ?_;rintro _ rfl;unfold lawQ;simp![fU]
end KK
namespace PySem.W.Fast
def q__:=trivial
def tw10034670448170090188:=q__
def tw10083856157141371336:=q__
def tw10100292674613402603:=q__
def tw10174462650253044428:=q__
def tw10188863005171812229:=q__
def tw10200051439653722502:=q__
def tw10228209559132447215:=q__
def tw10249162326378460491:=q__
def tw1025147380415175001:=q__
def tw10270154464800227529:=q__
def tw10318442375147669821:=q__
def tw103592596344548117:=q__
def tw10386082824523102845:=q__
def tw10493067617789459582:=q__
def tw10494553806900318363:=q__
def tw10515634832778657405:=q__
def tw10563985084589526628:=q__
def tw10583753389866590605:=q__
def tw10589377240447221679:=q__
def tw10593945881524294351:=q__
def tw10685114831861188918:=q__
def tw1068600192157698933:=q__
def tw10726546155733973416:=q__
def tw10754853967180821019:=q__
def tw10887151811686907926:=q__
def tw10918684104516177787:=q__
def tw10919899830559332108:=q__
def tw10986155910677452193:=q__
def tw1106463923599037241:=q__
def tw11092661649975736493:=q__
def tw11111126169696726595:=q__
def tw11182629865026808962:=q__
def tw11222215811426178936:=q__
def tw11231368900556352574:=q__
def tw11250020206193527494:=q__
def tw11350641172162792066:=q__
def tw11353678125239501223:=q__
def tw11363101898730429577:=q__
def tw11372925168145276595:=q__
def tw11397458587519183670:=q__
def tw11407627295464715687:=q__
def tw11448293233007819398:=q__
def tw11495448252195460551:=q__
def tw11526013927515358609:=q__
def tw11556671826258934244:=q__
def tw11602160771026848091:=q__
def tw11649075315015512816:=q__
def tw11710398413708094932:=q__
def tw11717243147720757681:=q__
def tw11720923780549977083:=q__
def tw1173212446749539402:=q__
def tw11754984086021694950:=q__
def tw11804756477765900049:=q__
def tw11823646016073151473:=q__
def tw11828798834723668813:=q__
def tw11853451208036875504:=q__
def tw11898842988356807705:=q__
def tw11919178136224002376:=q__
def tw11924372081353693088:=q__
def tw11933832516743497879:=q__
def tw11941107303592953880:=q__
def tw12041966467633396985:=q__
def tw12067373967204858678:=q__
def tw12069043906454156731:=q__
def tw12078223606557644492:=q__
def tw12109633360156933895:=q__
def tw12109699914488035651:=q__
def tw12138568179923220857:=q__
def tw12147210868839474342:=q__
def tw12185401567259646136:=q__
def tw1222024014859557986:=q__
def tw1224171670117296024:=q__
def tw12539258956815527747:=q__
def tw12700465478231511918:=q__
def tw1271836188207706084:=q__
def tw12727739617215250085:=q__
def tw12729476167072365785:=q__
def tw12734493689759116909:=q__
def tw12797083690492119581:=q__
def tw12806925755386220848:=q__
def tw12823321959973952796:=q__
def tw1298370179306487555:=q__
def tw13013489873138819540:=q__
def tw13168941167909050303:=q__
def tw13239224790783941074:=q__
def tw13247332705626753217:=q__
def tw13260316754634222676:=q__
def tw13270846733697154350:=q__
def tw13335520517376899770:=q__
def tw13351918246301872318:=q__
def tw13377391415178572683:=q__
def tw13389549819449173610:=q__
def tw1339228317968753019:=q__
def tw13422203461991166769:=q__
def tw13515738245454901345:=q__
def tw13610090511194174445:=q__
def tw13613691115804209992:=q__
def tw13645894032319564802:=q__
def tw13704128760292392379:=q__
def tw13747584577751590824:=q__
def tw13811079382166248449:=q__
def tw13869575907090650119:=q__
def tw13871852522706350557:=q__
def tw13892419395686760970:=q__
def tw13942552421508311778:=q__
def tw14010746843701173627:=q__
def tw14014208020052392862:=q__
def tw14044343625466769083:=q__
def tw1406518432839233672:=q__
def tw14093870817828927646:=q__
def tw14151382831982630466:=q__
def tw14154927792749278501:=q__
def tw14173429865226696236:=q__
def tw14183453046600254166:=q__
def tw14210453751078512653:=q__
def tw14238477828265854862:=q__
def tw14456827799325181896:=q__
def tw14476830396540796915:=q__
def tw14548462906345503546:=q__
def tw14565566071175853654:=q__
def tw14602025900318713402:=q__
def tw14657414505125349034:=q__
def tw14731931113198947079:=q__
def tw1475102550858160064:=q__
def tw14820339917289722028:=q__
def tw14825522604496166729:=q__
def tw14877510481151232548:=q__
def tw14971160247162295900:=q__
def tw15106442744082347616:=q__
def tw15181406694617473821:=q__
def tw15194864367761650159:=q__
def tw15212259085872693603:=q__
def tw1524135259374505955:=q__
def tw15328819453653311023:=q__
def tw15362387312316071749:=q__
def tw15474924950031499440:=q__
def tw15489237165200639694:=q__
def tw15514128215991303195:=q__
def tw15524070323774569128:=q__
def tw15557538499335316119:=q__
def tw15666972159427639035:=q__
def tw1584232957756017189:=q__
def tw15868166063199999494:=q__
def tw1587538284443343604:=q__
def tw15939969428174022467:=q__
def tw15977391173101555381:=q__
def tw15982573977935965570:=q__
def tw16033467991293088850:=q__
def tw16132948794182612441:=q__
def tw16159318269214900777:=q__
def tw16380808535802893548:=q__
def tw16398177753857006290:=q__
def tw16425140138879037677:=q__
def tw16456278068685972446:=q__
def tw16463630999115097875:=q__
def tw16471071360786899940:=q__
def tw1650973178801837921:=q__
def tw16535302220161319202:=q__
def tw16547422287214376533:=q__
def tw16585218139880063894:=q__
def tw16640372075268046215:=q__
def tw16643070868311673233:=q__
def tw16737763566806626843:=q__
def tw1683269120793229223:=q__
def tw16853399279601378099:=q__
def tw16904975081969339241:=q__
def tw16972088559805888993:=q__
def tw16980665625816826599:=q__
def tw17031362223880652392:=q__
def tw17073030327409149993:=q__
def tw17155000735594218230:=q__
def tw17178906888019909771:=q__
def tw17209509777285382295:=q__
def tw17257037799081865004:=q__
def tw17300847348088591213:=q__
def tw17307047131048475712:=q__
def tw17405773005967960031:=q__
def tw17411255217262752520:=q__
def tw17492467014077731932:=q__
def tw17507455621298856537:=q__
def tw17576314683457600146:=q__
def tw1758092968472823902:=q__
def tw17636832627712061976:=q__
def tw17667114381211768245:=q__
def tw17679856499042578304:=q__
def tw17773846729171033199:=q__
def tw17813409939406060955:=q__
def tw18040568008647315969:=q__
def tw18058056868461234536:=q__
def tw18088348233428046645:=q__
def tw18098829307062682524:=q__
def tw18146020461568920205:=q__
def tw18183963736090879683:=q__
def tw18191465081616479027:=q__
def tw18202175685039308909:=q__
def tw18289106712782935149:=q__
def tw18293677749565976428:=q__
def tw18304990802853812490:=q__
def tw18306415106786298938:=q__
def tw1837660859428318701:=q__
def tw186237753746115590:=q__
def tw1869432434639947718:=q__
def tw1893415166692355898:=q__
def tw1963489519367388787:=q__
def tw2001723798089735354:=q__
def tw2034206814119116632:=q__
def tw2040798477193350382:=q__
def tw2059919082204310060:=q__
def tw2091529933078369837:=q__
def tw214897566968463987:=q__
def tw2183518741818704504:=q__
def tw2390191057728375842:=q__
def tw2456775171217875527:=q__
def tw2472789896003043218:=q__
def tw2645578854046121669:=q__
def tw2660807928260826519:=q__
def tw2714447841784368958:=q__
def tw2905861678292933095:=q__
def tw2942689978295666724:=q__
def tw2989495745595021821:=q__
def tw3014946204480975081:=q__
def tw3077121384518364357:=q__
def tw3100877129399104654:=q__
def tw3108070374203123779:=q__
def tw3134278508169255662:=q__
def tw3230652506858492501:=q__
def tw3242743956977542193:=q__
def tw3358465887108344223:=q__
def tw3408378236388843958:=q__
def tw3434717493151185965:=q__
def tw3444528509827223483:=q__
def tw3526903632277470779:=q__
def tw3747947315843564978:=q__
def tw3795143869188215033:=q__
def tw3818406729612487760:=q__
def tw3831211085341163036:=q__
def tw3891573649189396866:=q__
def tw3960362090045634639:=q__
def tw3996861773517147527:=q__
def tw4108730637156473500:=q__
def tw4113486386388947617:=q__
def tw4125941248215335474:=q__
def tw4136809395611147739:=q__
def tw4180116700256677766:=q__
def tw4195296341928548395:=q__
def tw4216553047745434737:=q__
def tw4221020645099582967:=q__
def tw430140528538164244:=q__
def tw4323710573940580457:=q__
def tw4367541179872598347:=q__
def tw4436793700617579232:=q__
def tw4456737014404453446:=q__
def tw4478835271201452651:=q__
def tw4528434250789386621:=q__
def tw4560343676766405269:=q__
def tw4567155136956146806:=q__
def tw4581901524933109860:=q__
def tw4636474695263848717:=q__
def tw4646012346243062867:=q__
def tw4665730275787065248:=q__
def tw4708988749063324890:=q__
def tw4765211007665018050:=q__
def tw4831141169917317064:=q__
def tw4930443507983690171:=q__
def tw4938609849377585910:=q__
def tw4944541014775355309:=q__
def tw4980324928921033187:=q__
def tw4999293766238516403:=q__
def tw5104616287217353965:=q__
def tw5112402914404851284:=q__
def tw5171364309585669121:=q__
def tw5227606642353576739:=q__
def tw5261900260431608087:=q__
def tw5318888821506178205:=q__
def tw5354709221405733791:=q__
def tw5360349622639614591:=q__
def tw5373103250122132525:=q__
def tw5380911467983875980:=q__
def tw5407405457812631080:=q__
def tw5472366137730492244:=q__
def tw5507405082872242585:=q__
def tw5555246190442279924:=q__
def tw5557487335246935451:=q__
def tw5578572395137413685:=q__
def tw5579221850895159715:=q__
def tw5622259306841617037:=q__
def tw5653632069540985446:=q__
def tw5666296885359196062:=q__
def tw5750049080679500909:=q__
def tw5756441143763329831:=q__
def tw5806187880618313635:=q__
def tw5810343322509972869:=q__
def tw5818258529519185012:=q__
def tw5828657092380217063:=q__
def tw5843183548036926539:=q__
def tw5953927299057415133:=q__
def tw5982561537889731472:=q__
def tw6029741036530273994:=q__
def tw6051952285184237140:=q__
def tw6133319827167538896:=q__
def tw6213899400809176125:=q__
def tw6243098892558448588:=q__
def tw6345795836850505673:=q__
def tw646531658406123002:=q__
def tw647053759814370906:=q__
def tw6519309386868788441:=q__
def tw6562946112647602605:=q__
def tw6616213394032386307:=q__
def tw6630418221575195210:=q__
def tw6656550879470283227:=q__
def tw6698028111834382747:=q__
def tw678908927584063631:=q__
def tw6878556588168708971:=q__
def tw6889946590524261354:=q__
def tw6901664248606589478:=q__
def tw70211400211586981:=q__
def tw7070310223926906671:=q__
def tw7075085820664766629:=q__
def tw7084271309875349689:=q__
def tw7097878436121124291:=q__
def tw7157853383821533778:=q__
def tw7158436506987534716:=q__
def tw7195458477386888156:=q__
def tw7209130619504572803:=q__
def tw7247606719623309623:=q__
def tw7249498283462784306:=q__
def tw7250502145477787786:=q__
def tw7264557522441776598:=q__
def tw726468901205436262:=q__
def tw7291868889390614460:=q__
def tw7357493820581492995:=q__
def tw7568358508682621129:=q__
def tw7571217421008775236:=q__
def tw7594043580636396962:=q__
def tw7624116445222320874:=q__
def tw7659939408489451491:=q__
def tw7847509785900331232:=q__
def tw7864772850431535556:=q__
def tw7945648838345350706:=q__
def tw800773595640329554:=q__
def tw802415740009847827:=q__
def tw8039508618011061573:=q__
def tw8087129303516232666:=q__
def tw8089030089991072512:=q__
def tw8092704447208280622:=q__
def tw8131900218030420216:=q__
def tw8254134993503920467:=q__
def tw8255784790886325748:=q__
def tw8260131814878654010:=q__
def tw8284574600610036550:=q__
def tw829253085538574891:=q__
def tw8351620627633207047:=q__
def tw8363333521294749922:=q__
def tw8376617805701548267:=q__
def tw8518500873518057947:=q__
def tw8688294727777253018:=q__
def tw8694081048992878782:=q__
def tw8694570874898614173:=q__
def tw8710602866904081513:=q__
def tw873583953584849125:=q__
def tw8743764977737010885:=q__
def tw8759486033476624809:=q__
def tw8827803539568499271:=q__
def tw9001141025762436243:=q__
def tw9036208542773373677:=q__
def tw9136116543290272146:=q__
def tw9138666792230556315:=q__
def tw9223327380559709884:=q__
def tw9261202184519955230:=q__
def tw9268423552902108345:=q__
def tw9367521056801384702:=q__
def tw9423010536343184743:=q__
def tw9435951237236881927:=q__
def tw9516982712769613007:=q__
def tw9540115664246608685:=q__
def tw9596605796748413834:=q__
def tw9600740557807293990:=q__
def tw9613037226041116498:=q__
def tw9706906889753200430:=q__
def tw978748704998643975:=q__
def tw9830834432253593115:=q__
def tw9831352783809749791:=q__
def tw9987726249539673070:=q__
end PySem.W.Fast
open PySem PySem.W PyProof.Rows L2 L3 KK
set_option maxRecDepth 100000 in
set_option maxHeartbeats 0 in
theorem PySem.Challenge.cw_weightrooms_k84_fractions_and_boxes_writ_holds : PySem.Challenge.rw_weightrooms_k84_fractions_and_boxes_writ.Holds := by
 w_on;o_law;k_head;(case hw=>w_witness2)
 k_fill
 refine L2.walk_lawD (l:=PySem.Challenge.rw_weightrooms_k84_fractions_and_boxes_writ) (x:="_law_script") (k:=7) rfl rfl ⟨rfl,by decide,by decide⟩ (λw h Y=>W.kIn_of Y) ?F ?D
 case F=>
  intro w mg h KX G base kb nb;refine law3 ka (wG ⟨BS KX G (by kernel_rfl),?_⟩) (za KX G (by kernel_rfl)) rfl yd;repeat first
   |exact trivial
   |refine⟨by refine' qT KX G ?a ?l ?c ?k;(case a=>k_is);(case l=>k_is);(case c=>k_is);(case k=>k_is),?_⟩
 case D=>
  intro w mg h KX G;refine⟨top 44,?_,(λ_ _ _ _ _ _=>ar1 λ_=>rfl)⟩;refine' qT KX G ?a ?l ?c ?k;case a|l|c|k=>k_is
